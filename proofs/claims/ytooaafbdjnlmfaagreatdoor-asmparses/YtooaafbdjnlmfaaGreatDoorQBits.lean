/- What the document's answer of layer 1 makes of a word bit by bit: the call Bits lays a word's bits in a new row, the call Word reads a row of bits; Get and Sext bit by bit. -/
import Derived.Test.YtooaafbdjnlmfaaGreatDoorRows
import Derived.WalkKit
import Derived.WalkSpells
import Derived.WalkLawsBesides
import Derived.OpenShut
import Derived.Deep.QuietTactic
import Derived.BigQuiet
import Derived.Outline
import Derived.Laws.Shifts
import Derived.Laws.BitsAllLaws
import Derived.Laws.Bits64b
namespace Go.Proofs.YtooaafbdjnlmfaaGreatDoor
open Go.RowKit
theorem Tryz.info3 : (Tryz.prog.info? 3).map (fun i => (i.zero, i.size, i.bytes)) = some (some (.int .i64 0), 1, 8) := by kernel_rfl
/-- the first k numbers of a function, as cells -/
def rowOf (f : Nat → Nat) (k : Nat) : List Value := (List.range k).map fun i => Value.int .i64 ((f i : Nat) : Int)
theorem rowOf_succ (f : Nat → Nat) (k : Nat) : rowOf f (k + 1) = rowOf f k ++ [Value.int .i64 ((f k : Nat) : Int)] := by
  simp [rowOf, List.range_succ]
theorem rowOf_get (f : Nat → Nat) (k i : Nat) (h : i < k) : (rowOf f k)[i]? = some (Value.int .i64 ((f i : Nat) : Int)) := by
  simp [rowOf, h]
/-- bit i of a word, as a number -/
def bitAt (x i : Nat) : Nat := x / 2 ^ i % 2
theorem bitAt_le (x i : Nat) : bitAt x i ≤ 1 := by unfold bitAt; omega
theorem grow_step {B : Nat} {w wr w1 : World} {o : Obj} {e : TypeId} {size n : Nat} {v : Value} {xs : List Value} (hb : Below B w wr) (hB : B ≤ wr.heap.size) (hown : wr.ownsRow B e size v n xs) (hg : (wr.alloc o).grownBy w1 v.ownBlock) : Below B w w1 :=
  Below.grown (hb.alloc hB o) hg (by simp; omega) (fun j hj => (hown.lt j hj).1)
set_option maxRecDepth 100000 in
set_option maxHeartbeats 400000 in
theorem bits_any (x : Nat) (hx : x < 18446744073709551616) (w : World) :
    Calls Tryz.prog 116 #[.int .u64 (x : Int)] w fun e w' => ∃ v, e = .returned v ∧ w'.ownsRow w.heap.size 3 1 v 64 (rowOf (bitAt x) 64) ∧ Below w.heap.size w w' := by
  obtain ⟨i0, hi, hz0, hz1, hz2⟩ := info_parts Tryz.info3
  go_enter Tryz.func116, Tryz.ntmps116
  go_wp2
  go_loopw [0, 3, 4] (fun x0 v i wr => ∃ k : Nat, k ≤ 64 ∧ i = .int .i64 k ∧ x0 = .int .u64 ((x / 2 ^ k : Nat) : Int) ∧ wr.ownsRow w.heap.size 3 1 v k (rowOf (bitAt x) k) ∧ Below w.heap.size w wr)
    (fun _ _ i _ => 64 - (intOf i).toNat)
  case atStart => exact ⟨0, by omega, rfl, by simp, World.ownsRow_nil _ _ _ _, Below.refl _ _⟩
  case round =>
    obtain ⟨k, hk, rfl, rfl, hown, hb⟩ := hrel
    have hy : x / 2 ^ k < 18446744073709551616 := Nat.lt_of_le_of_lt (Nat.div_le_self _ _) hx
    have hs : x / 2 ^ (k + 1) = x / 2 ^ k / 2 := by rw [Nat.pow_succ, Nat.div_div_eq_div_mul]
    have hbt : bitAt x k = x / 2 ^ k % 2 := rfl
    have hr := rowOf_succ (bitAt x) k
    rw [hbt] at hr
    have HS : Hid (x / 2 ^ (k + 1) = x / 2 ^ k / 2) := hs
    have HR : Hid _ := hr
    clear hs hbt hr
    generalize hY : x / 2 ^ k = y at *
    have HY : Hid (x / 2 ^ k = y) := hY
    clear hY
    by_cases hlt : k < 64
    · go_wp2_with (first | (at_builtin; refine wpList_append_own _ rfl _ _ 64 rfl w.heap.size 3 i0 (.int .i64 0) 1 8 Tryz.underlying64 hi hz0 hz1 hz2 rfl (by decide) _ _ _ rfl (hown.alloc _) ⟨wr.heap.size, 0, none⟩ 1 1 _ rfl rfl (cell_one_new _ _ _) ?c2 ?c3 ?c4 ?c5 ?_))
      case c2 => intro u hu; simp at hu; subst hu; rfl
      case c3 => unfold maxLen; omega
      case c4 => omega
      case c5 => have := hb.size; simp; omega
      · intro v' w1 hown' hgrow _
        have hb1 := grow_step hb hb.size hown hgrow
        have hown2 : w1.ownsRow w.heap.size 3 1 v' (k + 1) (rowOf (bitAt x) (k + 1)) := by rw [HR.out]; exact hown'
        clear hown' hgrow hown hb
        go_wp2
        go_roundw
        case rel => exact ⟨k + 1, by omega, by go_num, by rw [HS.out]; go_num, hown2, hb1⟩
        case measure => simp [intOf]; omega
    · obtain rfl : k = 64 := by omega
      go_wp2
      go_ret
      exact ⟨_, rfl, hown, hb⟩
/-- the number whose bits are m numbers of a function, from the one at i on -/
def hiOf (f : Nat → Nat) : Nat → Nat → Nat
  | 0, _ => 0
  | m + 1, i => hiOf f m (i + 1) * 2 + f i
theorem hiOf_lt (f : Nat → Nat) : ∀ (m i : Nat), (∀ j, j < m → f (i + j) ≤ 1) → hiOf f m i < 2 ^ m
  | 0, _, _ => by simp [hiOf]
  | m + 1, i, h => by
    have h1 := hiOf_lt f m (i + 1) (fun j hj => by have := h (j + 1) (by omega); rwa [show i + 1 + j = i + (j + 1) from by omega])
    have h0 := h 0 (by omega)
    simp only [hiOf, Nat.pow_succ] at *
    simp at h0
    omega
theorem hiOf_testBit (f : Nat → Nat) : ∀ (m i j : Nat), (∀ j, j < m → f (i + j) ≤ 1) → (hiOf f m i).testBit j = (decide (j < m) && decide (f (i + j) = 1))
  | 0, _, _, _ => by simp [hiOf]
  | m + 1, i, 0, h => by
    have h0 := h 0 (by omega)
    simp only [hiOf, Nat.testBit_zero]
    simp at h0 ⊢
    omega
  | m + 1, i, j + 1, h => by
    have h0 := h 0 (by omega)
    simp only [hiOf, Nat.testBit_succ]
    simp at h0
    rw [show (hiOf f m (i + 1) * 2 + f i) / 2 = hiOf f m (i + 1) from by omega,
      hiOf_testBit f m (i + 1) j (fun j hj => by have := h (j + 1) (by omega); rwa [show i + 1 + j = i + (j + 1) from by omega])]
    simp [show i + 1 + j = i + (j + 1) from by omega]
set_option maxRecDepth 100000 in
set_option maxHeartbeats 400000 in
theorem word_any (f : Nat → Nat) (n base : Nat) (v : Value) (hn : n ≤ 64) (hf : ∀ i, i < n → f i ≤ 1) (w : World) (hown : w.ownsRow base 3 1 v n (rowOf f n)) :
    Calls Tryz.prog 117 #[v] w fun e w' => e = .returned (.int .u64 (hiOf f n 0 : Nat)) ∧ w' = w := by
  rcases hown.2 with ⟨rfl, rfl⟩ | ⟨g, cap, cur, rfl, hg, hbl, hnc, hcm, _, _⟩
  · go_enter Tryz.func117, Tryz.ntmps117
    go_wp2
    go_loop [3, 4] (fun x i => x = .int .u64 0 ∧ i = .int .i64 (-1)) (fun _ _ => 0)
    case atStart => exact ⟨rfl, rfl⟩
    case round =>
      obtain ⟨rfl, rfl⟩ := hrel
      go_wp2
      go_ret
      exact ⟨by simp [hiOf], rfl⟩
  · have hcell : ∀ j, j < n → w.cell? ⟨g, j, none⟩ = some (.int .i64 (f j : Nat)) := fun j hj => by rw [hown.cellAt j (by omega)]; exact rowOf_get f n j hj
    clear hown hbl
    go_enter Tryz.func117, Tryz.ntmps117
    go_wp2
    go_loop [3, 4] (fun x i => ∃ k : Nat, k ≤ n ∧ i = .int .i64 ((k : Int) - 1) ∧ x = .int .u64 (hiOf f (n - k) k : Nat)) (fun _ i => (intOf i + 1).toNat)
    case atStart => exact ⟨n, Nat.le_refl _, rfl, by simp [hiOf]⟩
    case round =>
      obtain ⟨k, hk, rfl, rfl⟩ := hrel
      by_cases hlt : 0 < k
      · obtain ⟨j, rfl⟩ : ∃ j, k = j + 1 := ⟨k - 1, by omega⟩
        have e : ((j + 1 : Nat) : Int) - 1 = (j : Int) := by omega
        rw [e]
        have hl := hiOf_lt f (n - (j + 1)) (j + 1) (fun i hi => hf _ (by omega))
        have hl2 : 2 ^ (n - (j + 1)) ≤ 2 ^ 63 := Nat.pow_le_pow_right (by omega) (by omega)
        have HE : Hid (hiOf f (n - j) j = hiOf f (n - (j + 1)) (j + 1) * 2 + f j) := by
          show hiOf f (n - j) j = _
          rw [show n - j = n - (j + 1) + 1 from by omega]; rfl
        have hfj := hf j (by omega)
        have hc := hcell j (by omega)
        clear hcell hf e
        generalize hH : hiOf f (n - (j + 1)) (j + 1) = h at *
        have hlt2 : h < 9223372036854775808 := by simp at hl2; omega
        clear hl hl2 hH
        generalize hF : f j = b at *
        have HF : Hid (f j = b) := hF
        clear hF
        have hjn : (j : Int) < n := by omega
        go_wp2
        go_round
        case rel => exact ⟨j, by omega, by go_num, by rw [HE.out]; go_num⟩
        case measure => simp [intOf]
      · obtain rfl : k = 0 := by omega
        go_wp2
        go_ret
        exact ⟨rfl, rfl⟩
theorem ret_eq {a b : Nat} (h : a = b) : Ending.returned (.int .u64 (a : Int)) = .returned (.int .u64 (b : Int)) := by rw [h]
set_option maxRecDepth 100000 in
set_option maxHeartbeats 400000 in
theorem rget_any (x a : Nat) (n : Int) (m : Nat) (hx : x < 18446744073709551616) (ha : a ≤ 63) (hm : m = (min (min n 64) (64 - a)).toNat) (w : World) :
    Calls Tryz.prog 92 #[.int .u64 (x : Int), .int .i64 (a : Int), .int .i64 n] w fun e w' => e = .returned (.int .u64 (hiOf (fun i => bitAt x (a + i)) m 0 : Nat)) ∧ Below w.heap.size w w' := by
  obtain ⟨i0, hi, hz0, hz1, hz2⟩ := info_parts Tryz.info3
  have hm1 : m ≤ 64 := by omega
  obtain ⟨mm, hmin⟩ : ∃ mm, (if 64 < n then (64 : Int) else n) = mm := ⟨_, rfl⟩
  have hmm : m = (min mm (64 - a)).toNat := by rw [hm, ← hmin]; split <;> omega
  have HM : Hid (m = (min mm (64 - a)).toNat) := hmm
  clear hm hmm
  go_enter Tryz.func92, Tryz.ntmps92
  go_wp2_with (first | (go_at_call 116; refine (bits_any x hx _).mono ?_; rintro e w1 ⟨v1, rfl, hv1, hb1⟩))
  have hv2 := hv1.2
  rcases hv2 with ⟨_, h64⟩ | ⟨g, cap, cur, rfl, hg, hbl, hnc, hcm, _, _⟩
  · omega
  have hcell : ∀ j, j < 64 → w1.cell? ⟨g, j, none⟩ = some (.int .i64 (bitAt x j : Nat)) := fun j hj => by rw [hv1.cellAt j (by omega)]; exact rowOf_get _ 64 j hj
  have hgs : g < w1.heap.size := by have := hv1.lt g rfl; omega
  have HC : Hid (∀ j, j < 64 → w1.cell? ⟨g, j, none⟩ = some (.int .i64 (bitAt x j : Nat))) := hcell
  clear hbl hv1 hcell
  go_loopw [8, 9] (fun v i wr => ∃ k : Nat, k ≤ m ∧ i = .int .i64 k ∧ wr.ownsRow w1.heap.size 3 1 v k (rowOf (fun i => bitAt x (a + i)) k) ∧ Below w1.heap.size w1 wr)
    (fun _ i _ => 64 - (intOf i).toNat)
  case atStart => exact ⟨0, by omega, rfl, World.ownsRow_nil _ _ _ _, Below.refl _ _⟩
  case round =>
    obtain ⟨k, hk, rfl, hown, hb⟩ := hrel
    have HR : Hid _ := rowOf_succ (fun i => bitAt x (a + i)) k
    by_cases hlt : k < m
    · have hlt1 : (k : Int) < mm := by have := HM.out; omega
      have hlt2 : (a : Int) + k < 64 := by have := HM.out; omega
      have hc : wr.cell? ⟨g, a + k, none⟩ = some (.int .i64 (bitAt x (a + k) : Nat)) := by rw [hb.cell (p := ⟨g, a + k, none⟩) hgs]; exact HC.out _ (by omega)
      have et : ((a : Int) + k).toNat = a + k := by omega
      have hcap : (a : Int) + k < 64 := hlt2
      go_wp2_with (first | (at_builtin; refine wpList_append_own _ rfl _ _ 64 rfl w1.heap.size 3 i0 (.int .i64 0) 1 8 Tryz.underlying64 hi hz0 hz1 hz2 rfl (by decide) _ _ _ rfl (hown.alloc _) ⟨wr.heap.size, 0, none⟩ 1 1 _ rfl rfl (cell_one_new _ _ _) ?c2 ?c3 ?c4 ?c5 ?_))
      case c2 => intro u hu; simp at hu; subst hu; rfl
      case c3 => unfold maxLen; omega
      case c4 => omega
      case c5 => have := hb.size; simp; omega
      · intro v' w2 hown' hgrow _
        have hb2 := grow_step hb hb.size hown hgrow
        have hown2 : w2.ownsRow w1.heap.size 3 1 v' (k + 1) (rowOf (fun i => bitAt x (a + i)) (k + 1)) := by rw [HR.out]; exact hown'
        clear hown' hgrow hown hb hc
        go_wp2
        go_roundw
        case rel => exact ⟨k + 1, by omega, by go_num, hown2, hb2⟩
        case measure => simp [intOf]; omega
    · obtain rfl : k = m := by omega
      have hfin : Below w.heap.size w wr := hb1.trans (hb.mono hb1.size)
      by_cases hlt1 : (k : Int) < mm
      · have hlt2 : ¬ (a : Int) + k < 64 := by have := HM.out; omega
        go_wp2_with (first | (go_at_call 117; refine (word_any (fun i => bitAt x (a + i)) _ _ _ hm1 (fun _ _ => bitAt_le _ _) _ hown).mono ?_; rintro e w' ⟨rfl, rfl⟩))
        go_ret
        exact ⟨rfl, hfin⟩
      · go_wp2_with (first | (go_at_call 117; refine (word_any (fun i => bitAt x (a + i)) _ _ _ hm1 (fun _ _ => bitAt_le _ _) _ hown).mono ?_; rintro e w' ⟨rfl, rfl⟩))
        go_ret
        exact ⟨rfl, hfin⟩
/-- one store into a row of the call's own -/
theorem rowOf_set (f : Nat → Nat) (n j b : Nat) : (rowOf f n).set j (Value.int .i64 (b : Int)) = rowOf (fun i => if i = j then b else f i) n := by
  apply List.ext_getElem?
  intro i
  simp only [rowOf, List.getElem?_set, List.getElem?_map, List.length_map, List.length_range]
  by_cases h : i < n
  · by_cases e : j = i
    · subst e; simp [h]
    · simp [h, e]; rw [if_neg (fun h' => e h'.symm)]
  · by_cases e : j = i
    · subst e; simp [h]
    · simp [h, e]
/-- the bits of a word with its sign from the bit n - 1 on, till bit k -/
def sextF (x n k : Nat) (j : Nat) : Nat := if n ≤ j ∧ j < k then bitAt x (n - 1) else bitAt x j
theorem sextF_le (x n k j : Nat) : sextF x n k j ≤ 1 := by unfold sextF; split <;> exact bitAt_le _ _
theorem sextF_start (x n : Nat) : sextF x n n = bitAt x := by funext j; simp [sextF]; omega
theorem sextF_succ (x n k : Nat) (h : n ≤ k) : sextF x n (k + 1) = fun i => if i = k then bitAt x (n - 1) else sextF x n k i := by
  funext i
  simp only [sextF]
  by_cases e : i = k
  · subst e; simp [h]
  · simp only [e, if_false]
    by_cases h2 : n ≤ i ∧ i < k
    · rw [if_pos h2, if_pos (by omega)]
    · rw [if_neg h2, if_neg (by omega)]
set_option maxRecDepth 100000 in
set_option maxHeartbeats 400000 in
theorem rsext_any (x n : Nat) (hx : x < 18446744073709551616) (h1 : 1 ≤ n) (h2 : n ≤ 63) (w : World) :
    Calls Tryz.prog 115 #[.int .u64 (x : Int), .int .i64 (n : Int)] w fun e w' => e = .returned (.int .u64 (hiOf (sextF x n 64) 64 0 : Nat)) ∧ Below w.heap.size w w' := by
  go_enter Tryz.func115, Tryz.ntmps115
  go_wp2_with (first | (go_at_call 116; refine (bits_any x hx _).mono ?_; rintro e w1 ⟨v1, rfl, hv1, hb1⟩))
  have hv2 := hv1.2
  rcases hv2 with ⟨_, h64⟩ | ⟨g, cap, cur, rfl, hg, hbl, hnc, hcm, _, _⟩
  · omega
  clear hbl
  go_loopw [6] (fun i wr => ∃ k : Nat, n ≤ k ∧ k ≤ 64 ∧ i = .int .i64 k ∧ wr.ownsRow w.heap.size 3 1 (.slice (some ⟨g, 0, none⟩) 64 cap) 64 (rowOf (sextF x n k) 64) ∧ Below w.heap.size w wr)
    (fun i _ => 64 - (intOf i).toNat)
  case atStart => exact ⟨n, Nat.le_refl _, by omega, rfl, by rw [sextF_start]; exact hv1, hb1⟩
  case round =>
    obtain ⟨k, hnk, hk, rfl, hown, hb⟩ := hrel
    by_cases hlt : k < 64
    · have hc : wr.cell? ⟨g, n - 1, none⟩ = some (.int .i64 (bitAt x (n - 1) : Nat)) := by
        rw [hown.cellAt (n - 1) (by omega), rowOf_get _ _ _ (by omega)]
        have : sextF x n k (n - 1) = bitAt x (n - 1) := by unfold sextF; rw [if_neg (by omega)]
        rw [this]
      have hc2 : wr.cell? ⟨g, k, none⟩ = some (.int .i64 (sextF x n k k : Nat)) := by rw [hown.cellAt k (by omega), rowOf_get _ _ _ (by omega)]
      have hfz := hown.frozenAt k
      have hown2 := hown.stored k (.int .i64 (bitAt x (n - 1) : Nat))
      rw [rowOf_set, ← sextF_succ x n k hnk] at hown2
      have hb2 := hb.setCell (p := ⟨g, k, none⟩) hg (.int .i64 (bitAt x (n - 1) : Nat))
      have et : ((n : Int) - 1).toNat = n - 1 := by omega
      have hA : Hid (_ ∧ _) := ⟨hown2, hb2⟩
      clear hown2 hb2 hown hb hv1 hb1
      go_wp2
      go_roundw
      case rel => exact ⟨k + 1, by omega, by omega, by go_num, hA.out.1.1, hA.out.2⟩
      case measure => simp [intOf]; omega
    · obtain rfl : k = 64 := by omega
      go_wp2_with (first | (go_at_call 117; refine (word_any _ _ _ _ (Nat.le_refl _) (fun _ _ => sextF_le _ _ _ _) _ hown).mono ?_; rintro e w' ⟨rfl, rfl⟩))
      go_ret
      exact ⟨rfl, hb⟩
theorem below_grownBy {w w' : World} (h : Below w.heap.size w w') (row : Option Nat) : w.grownBy w' row := ⟨h.os, h.tape, h.output, h.size, fun k hk _ => h.block k hk⟩
end Go.Proofs.YtooaafbdjnlmfaaGreatDoor

namespace Go.Proofs.YtooaafbdjnlmfaaGreatDoor
open Go.RowKit
theorem bitAt_one (x i : Nat) : decide (bitAt x i = 1) = x.testBit i := by rw [Nat.testBit_eq_decide_div_mod_eq]; rfl
theorem hiOf_eq (f : Nat → Nat) (m y : Nat) (hf : ∀ j, j < m → f j ≤ 1) (h : ∀ j, y.testBit j = (decide (j < m) && decide (f j = 1))) : hiOf f m 0 = y := by
  apply Nat.eq_of_testBit_eq
  intro j
  rw [h, hiOf_testBit f m 0 j (fun j hj => by simpa using hf j hj)]
  simp
theorem high_bit (x j : Nat) (hx : x < 18446744073709551616) (h : 64 ≤ j) : x.testBit j = false := by
  apply Nat.testBit_lt_two_pow
  have : 2 ^ 64 ≤ 2 ^ j := Nat.pow_le_pow_right (by omega) h
  omega
theorem get_eq (x a m M : Nat) (hx : x < 18446744073709551616) (ha : a ≤ 63) (hm : m = min M (64 - a)) : hiOf (fun i => bitAt x (a + i)) m 0 = x / 2 ^ a % 2 ^ M := by
  apply hiOf_eq _ _ _ (fun _ _ => bitAt_le _ _)
  intro j
  rw [bitAt_one, Nat.testBit_mod_two_pow, ← Nat.shiftRight_eq_div_pow, Nat.testBit_shiftRight]
  by_cases h : j < 64 - a
  · rw [show decide (j < M) = decide (j < m) from by rw [decide_eq_decide]; omega]
  · rw [high_bit x (a + j) hx (by omega)]; simp
/-- what Sext of the code comes to, for a number of bits from 1 to 63 -/
def sextN (x n : Nat) : Nat := if x.testBit (n - 1) then 2 ^ n * (2 ^ (64 - n) - 1) + x % 2 ^ n else x % 2 ^ n
theorem sext_eq (x n : Nat) (h1 : 1 ≤ n) (h2 : n ≤ 63) : hiOf (sextF x n 64) 64 0 = sextN x n := by
  apply hiOf_eq _ _ _ (fun _ _ => sextF_le _ _ _ _)
  intro j
  unfold sextN sextF
  have hr : x % 2 ^ n < 2 ^ n := Nat.mod_lt _ (Nat.two_pow_pos n)
  by_cases hb : x.testBit (n - 1) = true
  · rw [if_pos hb, Nat.testBit_two_pow_mul_add _ hr]
    by_cases hj : j < n
    · rw [if_pos hj, if_neg (by omega), bitAt_one, Nat.testBit_mod_two_pow]
      simp [hj]; omega
    · rw [if_neg hj, Nat.testBit_two_pow_sub_one]
      by_cases h64 : j < 64
      · rw [if_pos (by omega), bitAt_one, hb]; simp [h64]; omega
      · simp [h64]; omega
  · rw [if_neg hb, Nat.testBit_mod_two_pow]
    by_cases hj : j < n
    · rw [if_neg (by omega), bitAt_one]; simp [hj]; omega
    · by_cases h64 : j < 64
      · rw [if_pos (by omega), bitAt_one]; simp [hj, hb]
      · simp [hj, h64]
theorem wrap_u64 (x : Int) : IntKind.u64.wrap x = x % 18446744073709551616 := by simp [IntKind.wrap, IntKind.signed, IntKind.bits]
theorem shl_one (n : Int) (M : Nat) (h : 1 ≤ n) (hM : M = (min n 64).toNat) : Op.shift BinOp.shl IntKind.u64 1 IntKind.i64 n = pure (.int .u64 ((2 ^ M % 18446744073709551616 : Nat) : Int)) := by
  rw [shift_shl_any _ _ _ _ (by omega), show min n.toNat IntKind.u64.bits = M from by rw [hM]; show min n.toNat 64 = _; omega, wrap_u64]
  simp
theorem mask_last (M : Nat) (h1 : 1 ≤ M) (h : M ≤ 64) : IntKind.u64.wrap (((2 ^ M % 18446744073709551616 : Nat) : Int) - 1) = ((2 ^ M - 1 : Nat) : Int) := by
  rw [wrap_u64]
  by_cases e : M = 64
  · subst e; decide
  · have h2 : 2 ^ M ≤ 2 ^ 63 := Nat.pow_le_pow_right (by omega) (by omega)
    have h3 : 2 ^ 1 ≤ 2 ^ M := Nat.pow_le_pow_right (by omega) h1
    generalize 2 ^ M = p at *
    omega
set_option maxRecDepth 100000 in
set_option maxHeartbeats 400000 in
theorem mask_any (n : Int) (M : Nat) (hM : M = (min n 64).toNat) (w : World) :
    Calls Tryz.prog 120 #[.int .i64 n] w fun e w' => e = .returned (.int .u64 ((2 ^ M - 1 : Nat) : Int)) ∧ w' = w := by
  by_cases h : n < 1
  · obtain rfl : M = 0 := by omega
    go_enter Tryz.func120, Tryz.ntmps120
    go_wp2
    go_ret
    exact ⟨rfl, rfl⟩
  · have hs := shl_one n M (by omega) hM
    have HL : Hid _ := mask_last M (by omega) (by omega)
    clear hM
    generalize hP : ((2 ^ M % 18446744073709551616 : Nat) : Int) = p at *
    clear hP
    go_enter Tryz.func120, Tryz.ntmps120
    go_wp2
    go_ret
    exact ⟨by rw [← HL.out]; rfl, rfl⟩
set_option maxRecDepth 100000 in
theorem place_in (a : Int) (h0 : 0 ≤ a) (h1 : a ≤ 63) (w : World) : Calls Tryz.prog 119 #[.int .i64 a] w fun e w' => e = .returned (.bool true) ∧ w' = w := by
  go_enter Tryz.func119, Tryz.ntmps119
  go_wp2
  go_ret
  exact ⟨by simp; omega, rfl⟩
theorem int_shr (x a : Nat) : (x : Int) / 2 ^ a = ((x / 2 ^ a : Nat) : Int) := by simp
theorem and_mask (x a M : Nat) (hx : x < 18446744073709551616) (hM : M ≤ 64) : bits .and .u64 ((x : Int) / 2 ^ a) ((2 ^ M - 1 : Nat) : Int) = ((x / 2 ^ a % 2 ^ M : Nat) : Int) := by
  have h1 : x / 2 ^ a < 18446744073709551616 := Nat.lt_of_le_of_lt (Nat.div_le_self _ _) hx
  have h2 : 2 ^ M ≤ 2 ^ 64 := Nat.pow_le_pow_right (by omega) hM
  have h3 : 0 < 2 ^ M := Nat.two_pow_pos M
  rw [int_shr, bits_and_u64_nat _ _ h1 (by omega), Nat.and_two_pow_sub_one_eq_mod]
set_option maxRecDepth 100000 in
set_option maxHeartbeats 400000 in
theorem get_any (x a : Nat) (n : Int) (M : Nat) (hx : x < 18446744073709551616) (ha : a ≤ 63) (hM : M = (min n 64).toNat) (w : World) :
    Calls Tryz.prog 96 #[.int .u64 (x : Int), .int .i64 (a : Int), .int .i64 n] w fun e w' => e = .returned (.int .u64 ((x / 2 ^ a % 2 ^ M : Nat) : Int)) ∧ ∃ k, w' = w.drewN k := by
  have ha2 := and_mask x a M hx (by omega)
  have HM : Hid (M = (min n 64).toNat) := hM
  clear hM
  generalize hQ : ((x / 2 ^ a % 2 ^ M : Nat) : Int) = q at *
  have hmk : ∀ w, Calls Tryz.prog 120 #[.int .i64 n] w fun e w' => e = .returned (.int .u64 ((2 ^ M - 1 : Nat) : Int)) ∧ w' = w := fun w => mask_any n M HM.out w
  generalize hP : ((2 ^ M - 1 : Nat) : Int) = p at *
  clear hQ hP
  go_enter Tryz.func96, Tryz.ntmps96
  go_wp2_with (go_at_call 119; refine (place_in _ (by omega) (by omega) _).mono ?_; rintro e w' ⟨rfl, rfl⟩)
  go_quiet ((go_at_call 120; exact Calls.quiet_of_same (hmk _)))
  go_wp2
  go_ret
  exact ⟨rfl, _, rfl⟩
theorem wrap64_val (y : Nat) (h : y < 18446744073709551616) : wrap64 (y : Int) = if y < 9223372036854775808 then (y : Int) else (y : Int) - 18446744073709551616 := by
  unfold wrap64; split <;> omega
theorem sext_num (x n : Nat) (h1 : 1 ≤ n) (h2 : n ≤ 63) : IntKind.u64.wrap (wrap64 (IntKind.u64.wrap ((x : Int) * 2 ^ (64 - n))) / 2 ^ (64 - n)) = ((sextN x n : Nat) : Int) := by
  have e1 : IntKind.u64.wrap ((x : Int) * 2 ^ (64 - n)) = (((x % 2 ^ n) * 2 ^ (64 - n) : Nat) : Int) := by
    rw [wrap_u64, ← Nat.mul_mod_mul_right, ← Nat.pow_add, show n + (64 - n) = 64 from by omega]
    simp
  rw [e1]
  have hpq : 2 ^ n * 2 ^ (64 - n) = 18446744073709551616 := by rw [← Nat.pow_add, show n + (64 - n) = 64 from by omega]
  have hp2 : 2 ^ n = 2 * 2 ^ (n - 1) := by rw [← Nat.pow_succ', show (n - 1).succ = n from by omega]
  have hr : x % 2 ^ n < 2 ^ n := Nat.mod_lt _ (Nat.two_pow_pos n)
  have hq : 0 < 2 ^ (64 - n) := Nat.two_pow_pos _
  have ht : x.testBit (n - 1) = decide (2 ^ (n - 1) ≤ x % 2 ^ n) := by
    have : (x % 2 ^ n).testBit (n - 1) = x.testBit (n - 1) := by rw [Nat.testBit_mod_two_pow]; simp; omega
    rw [← this, Nat.testBit_eq_decide_div_mod_eq, decide_eq_decide]
    have hpos : 0 < 2 ^ (n - 1) := Nat.two_pow_pos _
    constructor
    · intro h
      refine Nat.le_of_not_lt fun hl => ?_
      rw [Nat.div_eq_of_lt hl] at h
      simp at h
    · intro h
      have : x % 2 ^ n / 2 ^ (n - 1) = 1 := by
        apply Nat.div_eq_of_lt_le
        · omega
        · rw [hp2] at hr ⊢; omega
      rw [this]
  have ep : ((2 : Int) ^ (64 - n)) = ((2 ^ (64 - n) : Nat) : Int) := by simp
  rw [ep]
  have hm : x % 2 ^ n * 2 ^ (64 - n) < 18446744073709551616 := by rw [← hpq]; exact Nat.mul_lt_mul_of_pos_right hr hq
  rw [wrap64_val _ hm]
  unfold sextN
  have hh : 2 ^ (n - 1) * 2 ^ (64 - n) = 9223372036854775808 := by
    rw [hp2] at hpq; rw [Nat.mul_assoc] at hpq; omega
  have hmul : 2 ^ n * (2 ^ (64 - n) - 1) = 18446744073709551616 - 2 ^ n := by rw [Nat.mul_sub, hpq]; simp
  rw [ht, hmul]
  generalize 2 ^ (64 - n) = q at *
  generalize x % 2 ^ n = r at *
  generalize 2 ^ (n - 1) = h at *
  generalize 2 ^ n = p at *
  by_cases hc : h ≤ r
  · have hle : h * q ≤ r * q := Nat.mul_le_mul_right q hc
    rw [if_neg (by omega), if_pos (by simpa using hc)]
    have : ((r * q : Nat) : Int) - 18446744073709551616 = ((r : Int) - p) * q := by
      rw [Int.sub_mul]; have := congrArg (fun z : Nat => (z : Int)) hpq; simp at this; omega
    rw [this, Int.mul_ediv_cancel _ (by omega), wrap_u64]
    have : p ≤ 18446744073709551616 := by rw [← hpq]; exact Nat.le_mul_of_pos_right p hq
    omega
  · have hlt : r * q < h * q := Nat.mul_lt_mul_of_pos_right (by omega) hq
    rw [if_pos (by omega), if_neg (by simpa using hc)]
    have : ((r * q : Nat) : Int) = (r : Int) * q := by simp
    rw [this, Int.mul_ediv_cancel _ (by omega), wrap_u64]
    have : r ≤ r * q := Nat.le_mul_of_pos_right r hq
    omega
/-- the low bits of a word with their sign -/
def sextA (x : Nat) (n : Int) : Nat := if n < 1 then 0 else if 63 < n then x else sextN x n.toNat
theorem sextA_lo (x : Nat) (n : Int) (h : n < 1) : sextA x n = 0 := by unfold sextA; rw [if_pos h]
theorem sextA_hi (x : Nat) (n : Int) (h : 63 < n) : sextA x n = x := by unfold sextA; rw [if_neg (by omega), if_pos h]
theorem sextA_in (x n : Nat) (h1 : 1 ≤ n) (h2 : n ≤ 63) : sextA x n = sextN x n := by unfold sextA; rw [if_neg (by omega), if_neg (by omega), Int.toNat_natCast]
set_option maxRecDepth 100000 in
theorem sext_any (x : Nat) (n : Int) (_hx : x < 18446744073709551616) (w : World) :
    Calls Tryz.prog 118 #[.int .u64 (x : Int), .int .i64 n] w fun e w' => e = .returned (.int .u64 (sextA x n : Nat)) ∧ w' = w := by
  by_cases h1 : n < 1
  · rw [sextA_lo x n h1]
    go_enter Tryz.func118, Tryz.ntmps118
    go_wp2
    go_ret
    exact ⟨rfl, rfl⟩
  by_cases h2 : 63 < n
  · rw [sextA_hi x n h2]
    go_enter Tryz.func118, Tryz.ntmps118
    go_wp2
    go_ret
    exact ⟨rfl, rfl⟩
  obtain ⟨m, rfl⟩ : ∃ m : Nat, n = m := ⟨n.toNat, by omega⟩
  have hk : (64 - (m : Int)).toNat = 64 - m := by omega
  have HN : Hid _ := sext_num x m (by omega) (by omega)
  rw [sextA_in x m (by omega) (by omega)]
  generalize hS : ((sextN x m : Nat) : Int) = s at *
  clear hS
  go_enter Tryz.func118, Tryz.ntmps118
  go_wp2
  go_ret
  refine ⟨?_, rfl⟩
  rw [← HN.out]
  rfl
set_option maxRecDepth 100000 in
theorem sext32_any (x : Nat) (hx : x < 18446744073709551616) (w : World) :
    Calls Tryz.prog 94 #[.int .u64 (x : Int)] w fun e w' => e = .returned (.int .u64 (sextA x 32 : Nat)) ∧ w' = w := by
  go_enter Tryz.func94, Tryz.ntmps94
  go_wp2_with (go_at_call 118; refine (sext_any _ _ hx _).mono ?_; rintro e w' ⟨rfl, rfl⟩)
  go_ret
  exact ⟨rfl, rfl⟩
set_option maxRecDepth 100000 in
theorem rsext_all (x : Nat) (n : Int) (hx : x < 18446744073709551616) (W w : World) (hb : Below W.heap.size W w) :
    Calls Tryz.prog 115 #[.int .u64 (x : Int), .int .i64 n] w fun e w' => e = .returned (.int .u64 (sextA x n : Nat)) ∧ Below W.heap.size W w' := by
  by_cases h1 : n < 1
  · rw [sextA_lo x n h1]
    go_enter Tryz.func115, Tryz.ntmps115
    go_wp2
    go_ret
    exact ⟨rfl, hb⟩
  by_cases h2 : 63 < n
  · rw [sextA_hi x n h2]
    go_enter Tryz.func115, Tryz.ntmps115
    go_wp2
    go_ret
    exact ⟨rfl, hb⟩
  obtain ⟨m, rfl⟩ : ∃ m : Nat, n = m := ⟨n.toNat, by omega⟩
  rw [sextA_in x m (by omega) (by omega), ← sext_eq x m (by omega) (by omega)]
  exact (rsext_any x m hx (by omega) (by omega) w).mono fun e w' ⟨he, hw⟩ => ⟨he, hb.trans (hw.mono hb.size)⟩
end Go.Proofs.YtooaafbdjnlmfaaGreatDoor

namespace Go.Proofs.YtooaafbdjnlmfaaGreatDoor
open Go.RowKit
set_option linter.unusedVariables false
set_option linter.unusedSimpArgs false
def wordsT : List Nat := [0, 55, 23, 111, 103, 99, 4195, 16483, 20579, 24675, 28771, 3, 4099, 8195, 12291, 16387, 20483, 24579, 35, 4131, 8227, 12323, 19, 8211, 12307, 16403, 24595, 28691, 4115, 20499, 1073762323, 51, 1073741875, 4147, 8243, 12339, 16435, 20531, 1073762355, 24627, 28723, 27, 4123, 20507, 1073762331, 59, 1073741883, 4155, 20539, 1073762363, 15, 4111, 115, 1048691, 4211, 8307, 12403, 20595, 24691, 28787, 33554483, 33558579, 33562675, 33566771, 33570867, 33574963, 33579059, 33583155, 33554491, 33570875, 33574971, 33579067, 33583163, 268443695, 402661423, 134225967, 8239, 536879151, 1610620975, 1073750063, 2147491887, 2684362799, 3221233711, 3758104623, 268447791, 402665519, 134230063, 12335, 536883247, 1610625071, 1073754159, 2147495983, 2684366895, 3221237807, 3758108719, 807403635, 270532723, 273678451, 301990003]
def formsT : List Nat := [0, 1, 1, 2, 3, 5, 5, 5, 5, 5, 5, 4, 4, 4, 4, 4, 4, 4, 6, 6, 6, 6, 3, 3, 3, 3, 3, 3, 7, 7, 7, 9, 9, 9, 9, 9, 9, 9, 9, 9, 9, 3, 8, 8, 8, 9, 9, 9, 9, 9, 10, 10, 11, 11, 12, 12, 12, 13, 13, 13, 9, 9, 9, 9, 9, 9, 9, 9, 9, 9, 9, 9, 9, 14, 15, 15, 15, 15, 15, 15, 15, 15, 15, 15, 14, 15, 15, 15, 15, 15, 15, 15, 15, 15, 15, 11, 11, 11, 16]
def fixedT : List Nat := [0, 127, 127, 28799, 28799, 28799, 28799, 4227887231, 4261441663, 4261441663, 28799, 4294967295, 28799, 28799, 4193284223, 4160778367, 4261445631]
def partsT : List Nat := [0, 1, 1, 3, 3, 6, 6, 3, 3, 7, 3, 0, 11, 9, 19, 23, 6]
/-- the forms and their parts lie where their variables are -/
def Tabs (w : World) : Prop := True ∧ (∀ i, i < 99 → w.cell? ⟨0, i, none⟩ = some (.int .u8 ((formsT.getD i 0 : Nat) : Int))) ∧ True ∧ (∀ i, i < 17 → w.cell? ⟨4, i, none⟩ = some (.int .u8 ((partsT.getD i 0 : Nat) : Int))) ∧ 5 ≤ w.heap.size
theorem Tabs.below {w w' : World} (h : Tabs w) (hb : Below w.heap.size w w') : Tabs w' :=
  ⟨trivial,
   fun i hi => by rw [hb.cell (p := ⟨0, i, none⟩) (show 0 < w.heap.size from by have := h.2.2.2.2; omega)]; exact h.2.1 i hi,
   trivial,
   fun i hi => by rw [hb.cell (p := ⟨4, i, none⟩) (show 4 < w.heap.size from by have := h.2.2.2.2; omega)]; exact h.2.2.2.1 i hi,
   Nat.le_trans h.2.2.2.2 hb.size⟩
/-- the words besides -/
def TabsE (w : World) : Prop := (∀ i, i < 99 → w.cell? ⟨2, i, none⟩ = some (.int .u32 ((wordsT.getD i 0 : Nat) : Int))) ∧ Tabs w
theorem TabsE.below {w w' : World} (h : TabsE w) (hb : Below w.heap.size w w') : TabsE w' :=
  ⟨fun i hi => by rw [hb.cell (p := ⟨2, i, none⟩) (show 2 < w.heap.size from by have := h.2.2.2.2.2; omega)]; exact h.1 i hi, h.2.below hb⟩
/-- the fixed bits besides -/
def TabsD (w : World) : Prop := (∀ i, i < 17 → w.cell? ⟨1, i, none⟩ = some (.int .u32 ((fixedT.getD i 0 : Nat) : Int))) ∧ TabsE w
theorem TabsD.below {w w' : World} (h : TabsD w) (hb : Below w.heap.size w w') : TabsD w' :=
  ⟨fun i hi => by rw [hb.cell (p := ⟨1, i, none⟩) (show 1 < w.heap.size from by have := h.2.2.2.2.2.2; omega)]; exact h.1 i hi, h.2.below hb⟩
/-- an operation's form; 0 of none -/
def formI (op : Int) : Nat := if 1 ≤ op ∧ op ≤ 98 then formsT.getD op.toNat 0 else 0
set_option maxRecDepth 100000 in
theorem form_any (op : Int) (w : World) (ht : Tabs w) : Calls Tryz.prog 55 #[.int .i64 op] w fun e w' => e = .returned (.int .u8 (formI op : Nat)) ∧ w' = w := by
  by_cases h1 : op < 1
  · rw [show formI op = 0 from by unfold formI; rw [if_neg (by omega)]]
    go_enter Tryz.func55, Tryz.ntmps55
    go_wp2
    go_ret
    exact ⟨rfl, rfl⟩
  by_cases h2 : 98 < op
  · rw [show formI op = 0 from by unfold formI; rw [if_neg (by omega)]]
    go_enter Tryz.func55, Tryz.ntmps55
    go_wp2
    go_ret
    exact ⟨rfl, rfl⟩
  obtain ⟨k, rfl⟩ : ∃ k : Nat, op = k := ⟨op.toNat, by omega⟩
  rw [show formI k = formsT.getD k 0 from by unfold formI; rw [if_pos (by omega), Int.toNat_natCast]]
  have hc := ht.2.1 k (by omega)
  clear ht
  generalize formsT.getD k 0 = f at *
  go_enter Tryz.func55, Tryz.ntmps55
  go_wp2
  go_ret
  exact ⟨rfl, rfl⟩
set_option maxRecDepth 100000 in
theorem among_yes (n m : Int) (h0 : 0 ≤ n) (h1 : n ≤ m) (w : World) : Calls Tryz.prog 97 #[.int .i64 n, .int .i64 m] w fun e w' => e = .returned (.bool true) ∧ w' = w := by
  go_enter Tryz.func97, Tryz.ntmps97
  go_wp2
  go_ret
  exact ⟨by first | (simp; done) | (simp; omega), rfl⟩
set_option maxRecDepth 100000 in
theorem among_no (n m : Int) (h : ¬ (0 ≤ n ∧ n ≤ m)) (w : World) : Calls Tryz.prog 97 #[.int .i64 n, .int .i64 m] w fun e w' => e = .returned (.bool false) ∧ w' = w := by
  by_cases h0 : 0 ≤ n
  · have h1 : m < n := by omega
    clear h
    go_enter Tryz.func97, Tryz.ntmps97
    go_wp2
    go_ret
    exact ⟨by first | (simp; done) | (simp; omega), rfl⟩
  · clear h
    go_enter Tryz.func97, Tryz.ntmps97
    go_wp2
    go_ret
    exact ⟨rfl, rfl⟩
/-- the greatest value of a part -/
def mostN (f p : Nat) (last : Int) : Int := if partsT.getD f 0 &&& p = 0 then 0 else last
theorem parts_lt : ∀ f, f < 17 → partsT.getD f 0 < 256 := by decide
set_option maxRecDepth 100000 in
theorem most_any (f p : Nat) (last : Int) (hf : f < 17) (hp : p < 256) (w : World) (ht : Tabs w) : Calls Tryz.prog 93 #[.int .u8 (f : Nat), .int .u8 (p : Nat), .int .i64 last] w fun e w' => e = .returned (.int .i64 (mostN f p last)) ∧ w' = w := by
  have hc := ht.2.2.2.1 f hf
  have hb := u8_and_nat (partsT.getD f 0) p (parts_lt f hf) hp
  unfold mostN
  generalize partsT.getD f 0 = q at *
  clear ht
  by_cases hz : q &&& p = 0
  · rw [if_pos hz]
    rw [hz] at hb
    clear hz
    go_enter Tryz.func93, Tryz.ntmps93
    go_wp2
    go_ret
    exact ⟨rfl, rfl⟩
  · rw [if_neg hz]
    have hz2 : (((q &&& p : Nat) : Int) == 0) = false := by simpa using hz
    clear hz
    generalize ((q &&& p : Nat) : Int) = z at *
    go_enter Tryz.func93, Tryz.ntmps93
    go_wp2
    go_ret
    exact ⟨rfl, rfl⟩
/-- the least and the greatest number of a form and what divides it -/
def spanN : Nat → Int × Int × Int
  | 1 => (-2147483648, 2147479552, 4096)
  | 2 => (-1048576, 1048574, 2)
  | 3 => (-2048, 2047, 1)
  | 4 => (-2048, 2047, 1)
  | 6 => (-2048, 2047, 1)
  | 5 => (-4096, 4094, 2)
  | 7 => (0, 63, 1)
  | 8 => (0, 31, 1)
  | 13 => (0, 31, 1)
  | 10 => (0, 4095, 1)
  | _ => (0, 0, 1)
set_option maxRecDepth 100000 in
theorem span_any (f : Nat) (hf : f < 17) (w : World) : Calls Tryz.prog 98 #[.int .u8 (f : Nat)] w fun e w' => e = .returned (.tuple #[.int .i64 (spanN f).1, .int .i64 (spanN f).2.1, .int .i64 (spanN f).2.2]) ∧ w' = w := by
  have h : f = 0 ∨ f = 1 ∨ f = 2 ∨ f = 3 ∨ f = 4 ∨ f = 5 ∨ f = 6 ∨ f = 7 ∨ f = 8 ∨ f = 9 ∨ f = 10 ∨ f = 11 ∨ f = 12 ∨ f = 13 ∨ f = 14 ∨ f = 15 ∨ f = 16 := by omega
  rcases h with rfl | rfl | rfl | rfl | rfl | rfl | rfl | rfl | rfl | rfl | rfl | rfl | rfl | rfl | rfl | rfl | rfl <;>
  (go_enter Tryz.func98, Tryz.ntmps98
   go_wp2
   go_ret3
   exact ⟨rfl, rfl⟩)
/-- is it a number such as the form has? -/
def immB (f : Nat) (imm : Int) : Bool := decide ((spanN f).1 ≤ imm ∧ imm ≤ (spanN f).2.1 ∧ imm % (spanN f).2.2 = 0)
theorem step_of (f : Nat) : (spanN f).2.2 = 1 ∨ (spanN f).2.2 = 2 ∨ (spanN f).2.2 = 4096 := by
  unfold spanN
  split <;> simp
theorem tmod_zero (n k : Int) : n.tmod k = 0 ↔ n % k = 0 := ⟨fun h => Int.emod_eq_zero_of_dvd (Int.dvd_of_tmod_eq_zero h), fun h => Int.tmod_eq_zero_of_dvd (Int.dvd_of_emod_eq_zero h)⟩
theorem tmod_beq (n k : Int) : (n.tmod k == 0) = decide (n % k = 0) := by rw [Bool.eq_iff_iff]; simp [tmod_zero]
set_option maxRecDepth 100000 in
theorem immfits_any (f : Nat) (imm : Int) (hf : f < 17) (w : World) : Calls Tryz.prog 57 #[.int .u8 (f : Nat), .int .i64 imm] w fun e w' => e = .returned (.bool (immB f imm)) ∧ w' = w := by
  have hs : ∀ w, Calls Tryz.prog 98 #[.int .u8 (f : Nat)] w fun e w' => e = .returned (.tuple #[.int .i64 (spanN f).1, .int .i64 (spanN f).2.1, .int .i64 (spanN f).2.2]) ∧ w' = w := fun w => span_any f hf w
  have h3 := step_of f
  unfold immB
  generalize (spanN f).1 = lo at *
  generalize (spanN f).2.1 = hi at *
  generalize (spanN f).2.2 = st at *
  clear hf
  by_cases h1 : lo ≤ imm
  · by_cases h2 : imm ≤ hi
    · rcases h3 with rfl | rfl | rfl <;>
      (go_enter Tryz.func57, Tryz.ntmps57
       go_wp2_with (first | (go_at_call 98; refine (hs _).mono ?_; rintro e w' ⟨rfl, rfl⟩))
       go_ret
       exact ⟨by simp [h1, h2, tmod_beq], rfl⟩)
    · rw [decide_eq_false (by omega)]
      go_enter Tryz.func57, Tryz.ntmps57
      go_wp2_with (first | (go_at_call 98; refine (hs _).mono ?_; rintro e w' ⟨rfl, rfl⟩))
      go_ret
      exact ⟨by simp, rfl⟩
  · rw [decide_eq_false (by omega)]
    go_enter Tryz.func57, Tryz.ntmps57
    go_wp2_with (first | (go_at_call 98; refine (hs _).mono ?_; rintro e w' ⟨rfl, rfl⟩))
    go_ret
    exact ⟨by simp, rfl⟩
end Go.Proofs.YtooaafbdjnlmfaaGreatDoor
