/- The calls Mask, Get, Put, Bit, Bits and Any of layer 1, and the document's Get and Put. -/
import Derived.Test.YtaiagfdlglidfaaBits
import Derived.Laws.Shifts
import Derived.Laws.BitsAllLaws
import Derived.Laws.Bits64b
namespace Go.Proofs.Ytaiagfdlglidfaa.E
open Go.RowKit
set_option linter.unusedVariables false
set_option maxRecDepth 100000
theorem ret_eq {a b : Nat} (h : a = b) : Ending.returned (.int .u64 (a : Int)) = .returned (.int .u64 (b : Int)) := by rw [h]
set_option maxHeartbeats 400000 in
theorem rget_out (x : Nat) (a n : Int) (h : a < 0 ∨ 63 < a) (w : World) :
    Calls Try.prog 37 #[.int .u64 (x : Int), .int .i64 a, .int .i64 n] w fun e w' => e = .returned (.int .u64 0) ∧ w' = w := by
  rcases h with h | h
  · go_enter Try.func37, Try.ntmps37
    go_wp2_with fail
    go_ret
    exact ⟨rfl, rfl⟩
  · go_enter Try.func37, Try.ntmps37
    go_wp2_with fail
    go_ret
    exact ⟨rfl, rfl⟩
set_option maxHeartbeats 400000 in
theorem rget_any (x a : Nat) (n : Int) (m : Nat) (hx : x < 18446744073709551616) (ha : a ≤ 63) (hm : m = (min (min n 64) (64 - a)).toNat) (w : World) :
    Calls Try.prog 37 #[.int .u64 (x : Int), .int .i64 (a : Int), .int .i64 n] w fun e w' => e = .returned (.int .u64 (hiOf (fun i => bitAt x (a + i)) m 0 : Nat)) ∧ Below w.heap.size w w' := by
  obtain ⟨i0, hi, hz0, hz1, hz2⟩ := info_parts Try.info3
  have hm1 : m ≤ 64 := by omega
  obtain ⟨mm, hmin⟩ : ∃ mm, (if 64 < n then (64 : Int) else n) = mm := ⟨_, rfl⟩
  have hmm : m = (min mm (64 - a)).toNat := by rw [hm, ← hmin]; split <;> omega
  have HM : Hid (m = (min mm (64 - a)).toNat) := hmm
  clear hm hmm
  go_enter Try.func37, Try.ntmps37
  go_wp2_with (first | (go_at_call 39; refine (bits_any x hx _).mono ?_; rintro e w1 ⟨v1, rfl, hv1, hb1⟩))
  have hv2 := hv1.2
  rcases hv2 with ⟨_, h64⟩ | ⟨g, cap, cur, rfl, hg, hbl, hnc, hcm, _, _⟩
  · omega
  have hcell : ∀ j, j < 64 → w1.cell? ⟨g, j, none⟩ = some (.int .i64 (bitAt x j : Nat)) := fun j hj => by rw [hv1.cellAt j (by omega)]; exact rowOf_get _ 64 j hj
  have hgs : g < w1.heap.size := by have := hv1.lt g rfl; omega
  have HC : Hid (∀ j, j < 64 → w1.cell? ⟨g, j, none⟩ = some (.int .i64 (bitAt x j : Nat))) := hcell
  clear hbl hv1 hcell
  go_loopw [8, 9] (fun v i wr => ∃ k : Nat, k ≤ m ∧ i = .int .i64 k ∧ wr.ownsRow w1.heap.size 3 1 v k (rowOf (fun i => bitAt x (a + i)) k) ∧ Below w1.heap.size w1 wr)
    (fun _ i _ => 64 - (intOf i).toNat)
  case atStart => exact ⟨0, by omega, rfl, World.ownsRow_nil _ _ _ _, Below.refl _ _⟩
  case round =>
    obtain ⟨k, hk, rfl, hown, hb⟩ := hrel
    have HR : Hid _ := rowOf_succ (fun i => bitAt x (a + i)) k
    by_cases hlt : k < m
    · have hlt1 : (k : Int) < mm := by have := HM.out; omega
      have hlt2 : (a : Int) + k < 64 := by have := HM.out; omega
      have hc : wr.cell? ⟨g, a + k, none⟩ = some (.int .i64 (bitAt x (a + k) : Nat)) := by rw [hb.cell (p := ⟨g, a + k, none⟩) hgs]; exact HC.out _ (by omega)
      have et : ((a : Int) + k).toNat = a + k := by omega
      have hcap : (a : Int) + k < 64 := hlt2
      go_wp2_with (first | (at_builtin; refine wpList_append_own _ rfl _ _ 67 rfl w1.heap.size 3 i0 (.int .i64 0) 1 8 Try.underlying67 hi hz0 hz1 hz2 rfl (by decide) _ _ _ rfl (hown.alloc _) ⟨wr.heap.size, 0, none⟩ 1 1 _ rfl rfl (cell_one_new _ _ _) ?c2 ?c3 ?c4 ?c5 ?_))
      case c2 => intro u hu; simp at hu; subst hu; rfl
      case c3 => unfold maxLen; omega
      case c4 => omega
      case c5 => have := hb.size; simp; omega
      · intro v' w2 hown' hgrow _
        have hb2 := grow_step hb hb.size hown hgrow
        have hown2 : w2.ownsRow w1.heap.size 3 1 v' (k + 1) (rowOf (fun i => bitAt x (a + i)) (k + 1)) := by rw [HR.out]; exact hown'
        clear hown' hgrow hown hb hc
        go_wp2
        go_roundw
        case rel => exact ⟨k + 1, by omega, by go_num, hown2, hb2⟩
        case measure => simp [intOf]; omega
    · obtain rfl : k = m := by omega
      have hfin : Below w.heap.size w wr := hb1.trans (hb.mono hb1.size)
      by_cases hlt1 : (k : Int) < mm
      · have hlt2 : ¬ (a : Int) + k < 64 := by have := HM.out; omega
        go_wp2_with (first | (go_at_call 40; refine (word_any (fun i => bitAt x (a + i)) _ _ _ hm1 (fun _ _ => bitAt_le _ _) _ hown).mono ?_; rintro e w' ⟨rfl, rfl⟩))
        go_ret
        exact ⟨rfl, hfin⟩
      · go_wp2_with (first | (go_at_call 40; refine (word_any (fun i => bitAt x (a + i)) _ _ _ hm1 (fun _ _ => bitAt_le _ _) _ hown).mono ?_; rintro e w' ⟨rfl, rfl⟩))
        go_ret
        exact ⟨rfl, hfin⟩
/-- one store into a row of the call's own -/
theorem rowOf_set (f : Nat → Nat) (n j b : Nat) : (rowOf f n).set j (Value.int .i64 (b : Int)) = rowOf (fun i => if i = j then b else f i) n := by
  apply List.ext_getElem?
  intro i
  simp only [rowOf, List.getElem?_set, List.getElem?_map, List.length_map, List.length_range]
  by_cases h : i < n
  · by_cases e : j = i
    · subst e; simp [h]
    · simp [h, e]; rw [if_neg (fun h' => e h'.symm)]
  · by_cases e : j = i
    · subst e; simp [h]
    · simp [h, e]
/-- the bits of a word behind a piece of another one that was put into it -/
def putF (x v a m : Nat) (j : Nat) : Nat := if a ≤ j ∧ j < a + m then bitAt v (j - a) else bitAt x j
theorem putF_le (x v a m j : Nat) : putF x v a m j ≤ 1 := by unfold putF; split <;> exact bitAt_le _ _
theorem putF_zero (x v a : Nat) : putF x v a 0 = bitAt x := by funext j; simp [putF]; omega
theorem putF_succ (x v a m : Nat) : putF x v a (m + 1) = fun i => if i = a + m then bitAt v m else putF x v a m i := by
  funext i
  simp only [putF]
  by_cases h : i = a + m
  · subst h; simp
  · simp only [h, if_false]
    by_cases h2 : a ≤ i ∧ i < a + m
    · rw [if_pos h2, if_pos (by omega)]
    · rw [if_neg h2, if_neg (by omega)]
theorem below_grownBy {w w' : World} (h : Below w.heap.size w w') (row : Option Nat) : w.grownBy w' row := ⟨h.os, h.tape, h.output, h.size, fun k hk _ => h.block k hk⟩
theorem rput_out (x v : Nat) (a n : Int) (h : a < 0 ∨ 63 < a) (w : World) :
    Calls Try.prog 32 #[.int .u64 (x : Int), .int .i64 a, .int .i64 n, .int .u64 (v : Int)] w fun e w' => e = .returned (.int .u64 (x : Int)) ∧ w' = w := by
  rcases h with h | h
  · go_enter Try.func32, Try.ntmps32
    go_wp2_with fail
    go_ret
    exact ⟨rfl, rfl⟩
  · go_enter Try.func32, Try.ntmps32
    go_wp2_with fail
    go_ret
    exact ⟨rfl, rfl⟩
set_option maxHeartbeats 400000 in
theorem rput_any (x a : Nat) (n : Int) (v m : Nat) (hx : x < 18446744073709551616) (hv : v < 18446744073709551616) (ha : a ≤ 63) (hm : m = (min (min n 64) (64 - a)).toNat) (w : World) :
    Calls Try.prog 32 #[.int .u64 (x : Int), .int .i64 (a : Int), .int .i64 n, .int .u64 (v : Int)] w fun e w' => e = .returned (.int .u64 (hiOf (putF x v a m) 64 0 : Nat)) ∧ Below w.heap.size w w' := by
  have hm1 : m ≤ 64 := by omega
  obtain ⟨mm, hmin⟩ : ∃ mm, (if 64 < n then (64 : Int) else n) = mm := ⟨_, rfl⟩
  have hmm : m = (min mm (64 - a)).toNat := by rw [hm, ← hmin]; split <;> omega
  have HM : Hid (m = (min mm (64 - a)).toNat) := hmm
  clear hm hmm
  go_enter Try.func32, Try.ntmps32
  go_wp2_with (go_at_call 39; refine (bits_any _ (by assumption) _).mono ?_; first | (have _h := FirstDone; rintro e w2 ⟨v2, rfl, hv2, hb2⟩) | (rintro e w1 ⟨v1, rfl, hv1, hb1⟩; have FirstDone : True := trivial))
  have hv1' := hv1.2
  rcases hv1' with ⟨_, h64⟩ | ⟨g, cap, cur, rfl, hg, hbl, hnc, hcm, _, _⟩
  · omega
  have hv2' := hv2.2
  rcases hv2' with ⟨_, h64⟩ | ⟨g2, cap2, cur2, rfl, hg2, hbl2, hnc2, hcm2, _, _⟩
  · omega
  have hgs : g < w1.heap.size := by have := hv1.lt g rfl; omega
  have hv1 := hv1.kept (below_grownBy hb2 none) (.inr (by simp [Value.ownBlock]))
  have hb := hb1.trans (hb2.mono hb1.size)
  clear hbl hbl2 hb1 hb2 FirstDone
  go_loopw [11] (fun i wr => ∃ k : Nat, k ≤ m ∧ i = .int .i64 k ∧ wr.ownsRow w.heap.size 3 1 (.slice (some ⟨g, 0, none⟩) 64 cap) 64 (rowOf (putF x v a k) 64) ∧ wr.ownsRow w1.heap.size 3 1 (.slice (some ⟨g2, 0, none⟩) 64 cap2) 64 (rowOf (bitAt v) 64) ∧ Below w.heap.size w wr)
    (fun i _ => 64 - (intOf i).toNat)
  case atStart => exact ⟨0, by omega, rfl, by rw [putF_zero]; exact hv1, hv2, hb⟩
  case round =>
    clear hv1 hv2 hb
    obtain ⟨k, hk, rfl, hown, hownm, hb⟩ := hrel
    by_cases hlt : k < m
    · have hlt1 : (k : Int) < mm := by have := HM.out; omega
      have hlt2 : (a : Int) + k < 64 := by have := HM.out; omega
      have hc : wr.cell? ⟨g2, k, none⟩ = some (.int .i64 (bitAt v k : Nat)) := by rw [hownm.cellAt k (by omega), rowOf_get _ _ _ (by omega)]
      have hc2 : wr.cell? ⟨g, a + k, none⟩ = some (.int .i64 (putF x v a k (a + k) : Nat)) := by rw [hown.cellAt (a + k) (by omega), rowOf_get _ _ _ (by omega)]
      have hfz := hown.frozenAt (a + k)
      have hown2 := hown.stored (a + k) (.int .i64 (bitAt v k : Nat))
      rw [rowOf_set, ← putF_succ x v a k] at hown2
      have hb2 := hb.setCell (p := ⟨g, a + k, none⟩) hg (.int .i64 (bitAt v k : Nat))
      have hm2 := hownm.kept hown2.2 (.inr (by simp [Value.ownBlock]; omega))
      have et : ((a : Int) + k).toNat = a + k := by omega
      have hA : Hid (_ ∧ _ ∧ _) := ⟨hown2.1, hm2, hb2⟩
      clear hown2 hb2 hown hb hm2 hownm
      go_wp2
      go_roundw
      case rel => exact ⟨k + 1, by omega, by go_num, hA.out.1, hA.out.2.1, hA.out.2.2⟩
      case measure => simp [intOf]; omega
    · obtain rfl : k = m := by omega
      by_cases hlt1 : (k : Int) < mm
      · have hlt2 : ¬ (a : Int) + k < 64 := by have := HM.out; omega
        go_wp2_with (first | (go_at_call 40; refine (word_any _ _ _ _ (Nat.le_refl _) (fun _ _ => putF_le _ _ _ _ _) _ hown).mono ?_; rintro e w' ⟨rfl, rfl⟩))
        go_ret
        exact ⟨rfl, hb⟩
      · go_wp2_with (first | (go_at_call 40; refine (word_any _ _ _ _ (Nat.le_refl _) (fun _ _ => putF_le _ _ _ _ _) _ hown).mono ?_; rintro e w' ⟨rfl, rfl⟩))
        go_ret
        exact ⟨rfl, hb⟩
theorem bitAt_one (x i : Nat) : decide (bitAt x i = 1) = x.testBit i := by rw [Nat.testBit_eq_decide_div_mod_eq]; rfl
theorem hiOf_eq (f : Nat → Nat) (m y : Nat) (hf : ∀ j, j < m → f j ≤ 1) (h : ∀ j, y.testBit j = (decide (j < m) && decide (f j = 1))) : hiOf f m 0 = y := by
  apply Nat.eq_of_testBit_eq
  intro j
  rw [h, hiOf_testBit f m 0 j (fun j hj => by simpa using hf j hj)]
  simp
theorem mask_eq (m : Nat) : hiOf (fun _ => 1) m 0 = 2 ^ m - 1 :=
  hiOf_eq _ _ _ (fun _ _ => Nat.le_refl _) (fun j => by rw [Nat.testBit_two_pow_sub_one]; simp)
theorem high_bit (x j : Nat) (hx : x < 18446744073709551616) (h : 64 ≤ j) : x.testBit j = false := by
  apply Nat.testBit_lt_two_pow
  have : 2 ^ 64 ≤ 2 ^ j := Nat.pow_le_pow_right (by omega) h
  omega
theorem get_eq (x a m M : Nat) (hx : x < 18446744073709551616) (ha : a ≤ 63) (hm : m = min M (64 - a)) : hiOf (fun i => bitAt x (a + i)) m 0 = x / 2 ^ a % 2 ^ M := by
  apply hiOf_eq _ _ _ (fun _ _ => bitAt_le _ _)
  intro j
  rw [bitAt_one, Nat.testBit_mod_two_pow, ← Nat.shiftRight_eq_div_pow, Nat.testBit_shiftRight]
  by_cases h : j < 64 - a
  · rw [show decide (j < M) = decide (j < m) from by rw [decide_eq_decide]; omega]
  · rw [high_bit x (a + j) hx (by omega)]; simp
/-- what Put of the code comes to -/
def putN (x a M v : Nat) : Nat := x &&& (18446744073709551615 - (2 ^ M - 1) * 2 ^ a % 18446744073709551616) ||| (v * 2 ^ a % 18446744073709551616) &&& ((2 ^ M - 1) * 2 ^ a % 18446744073709551616)
theorem put_eq (x a m M v : Nat) (ha : a ≤ 63) (hm : m = min M (64 - a)) : hiOf (putF x v a m) 64 0 = putN x a M v := by
  apply hiOf_eq _ _ _ (fun _ _ => putF_le _ _ _ _ _)
  intro j
  have e64 : (18446744073709551616 : Nat) = 2 ^ 64 := by decide
  have hole : ∀ i, ((2 ^ M - 1) * 2 ^ a % 18446744073709551616).testBit i = (decide (i < 64) && (decide (a ≤ i) && decide (i - a < M))) := by
    intro i
    rw [e64, Nat.testBit_mod_two_pow, ← Nat.shiftLeft_eq, Nat.testBit_shiftLeft, Nat.testBit_two_pow_sub_one]
  have hl : (2 ^ M - 1) * 2 ^ a % 18446744073709551616 < 2 ^ 64 := by rw [← e64]; exact Nat.mod_lt _ (by decide)
  have hc : (18446744073709551615 - (2 ^ M - 1) * 2 ^ a % 18446744073709551616).testBit j = (decide (j < 64) && !((2 ^ M - 1) * 2 ^ a % 18446744073709551616).testBit j) := by
    rw [← Nat.testBit_two_pow_sub_succ hl]
    congr 1
    omega
  have hv : (v * 2 ^ a % 18446744073709551616).testBit j = (decide (j < 64) && (decide (a ≤ j) && v.testBit (j - a))) := by
    rw [e64, Nat.testBit_mod_two_pow, ← Nat.shiftLeft_eq, Nat.testBit_shiftLeft]
  unfold putN
  rw [Nat.testBit_or, Nat.testBit_and, Nat.testBit_and, hc, hv, hole]
  by_cases h64 : j < 64
  · unfold putF
    by_cases h1 : a ≤ j
    · by_cases h2 : j - a < M
      · rw [if_pos ⟨h1, by omega⟩, bitAt_one]; simp [h64, h1, h2]
      · rw [if_neg (by omega), bitAt_one]; simp [h64, h1, h2]
    · rw [if_neg (by omega), bitAt_one]; simp [h64, h1]
  · simp [h64]
theorem putN_lt (x a M v : Nat) (hx : x < 18446744073709551616) : putN x a M v < 18446744073709551616 := by
  have h1 : x &&& (18446744073709551615 - (2 ^ M - 1) * 2 ^ a % 18446744073709551616) < 2 ^ 64 := Nat.lt_of_le_of_lt Nat.and_le_left hx
  have h2 : (v * 2 ^ a % 18446744073709551616) &&& ((2 ^ M - 1) * 2 ^ a % 18446744073709551616) < 2 ^ 64 := Nat.lt_of_le_of_lt Nat.and_le_left (Nat.mod_lt _ (by decide))
  exact Nat.or_lt_two_pow h1 h2
theorem wrap_u64 (x : Int) : IntKind.u64.wrap x = x % 18446744073709551616 := by simp [IntKind.wrap, IntKind.signed, IntKind.bits]
theorem shl_one (n : Int) (M : Nat) (h : 1 ≤ n) (hM : M = (min n 64).toNat) : Op.shift BinOp.shl IntKind.u64 1 IntKind.i64 n = pure (.int .u64 ((2 ^ M % 18446744073709551616 : Nat) : Int)) := by
  rw [shift_shl_any _ _ _ _ (by omega), show min n.toNat IntKind.u64.bits = M from by rw [hM]; show min n.toNat 64 = _; omega, wrap_u64]
  simp
theorem mask_last (M : Nat) (h1 : 1 ≤ M) (h : M ≤ 64) : IntKind.u64.wrap (((2 ^ M % 18446744073709551616 : Nat) : Int) - 1) = ((2 ^ M - 1 : Nat) : Int) := by
  rw [wrap_u64]
  by_cases e : M = 64
  · subst e; decide
  · have h2 : 2 ^ M ≤ 2 ^ 63 := Nat.pow_le_pow_right (by omega) (by omega)
    have h3 : 2 ^ 1 ≤ 2 ^ M := Nat.pow_le_pow_right (by omega) h1
    generalize 2 ^ M = p at *
    omega
set_option maxHeartbeats 400000 in
theorem mask_any (n : Int) (M : Nat) (hM : M = (min n 64).toNat) (w : World) :
    Calls Try.prog 18 #[.int .i64 n] w fun e w' => e = .returned (.int .u64 ((2 ^ M - 1 : Nat) : Int)) ∧ w' = w := by
  by_cases h : n < 1
  · obtain rfl : M = 0 := by omega
    go_enter Try.func18, Try.ntmps18
    go_wp2
    go_ret
    exact ⟨rfl, rfl⟩
  · have hs := shl_one n M (by omega) hM
    have HL : Hid _ := mask_last M (by omega) (by omega)
    clear hM
    generalize hP : ((2 ^ M % 18446744073709551616 : Nat) : Int) = p at *
    clear hP
    go_enter Try.func18, Try.ntmps18
    go_wp2
    go_ret
    exact ⟨by rw [← HL.out]; rfl, rfl⟩
theorem place_in (a : Int) (h0 : 0 ≤ a) (h1 : a ≤ 63) (w : World) : Calls Try.prog 35 #[.int .i64 a] w fun e w' => e = .returned (.bool true) ∧ w' = w := by
  go_enter Try.func35, Try.ntmps35
  go_wp2
  go_ret
  exact ⟨by simp; omega, rfl⟩
theorem place_out (a : Int) (h : a < 0 ∨ 63 < a) (w : World) : Calls Try.prog 35 #[.int .i64 a] w fun e w' => e = .returned (.bool false) ∧ w' = w := by
  rcases h with h | h
  · go_enter Try.func35, Try.ntmps35
    go_wp2
    go_ret
    exact ⟨rfl, rfl⟩
  · go_enter Try.func35, Try.ntmps35
    go_wp2
    go_ret
    exact ⟨by simp; omega, rfl⟩
theorem get_out (x : Nat) (a n : Int) (h : a < 0 ∨ 63 < a) (w : World) :
    Calls Try.prog 28 #[.int .u64 (x : Int), .int .i64 a, .int .i64 n] w fun e w' => e = .returned (.int .u64 0) ∧ w' = w := by
  have hp : ∀ w, Calls Try.prog 35 #[.int .i64 a] w fun e w' => e = .returned (.bool false) ∧ w' = w := fun w => place_out a h w
  clear h
  go_enter Try.func28, Try.ntmps28
  go_wp2_with (go_at_call 35; refine (hp _).mono ?_; rintro e w' ⟨rfl, rfl⟩)
  go_ret
  exact ⟨rfl, rfl⟩
theorem int_shr (x a : Nat) : (x : Int) / 2 ^ a = ((x / 2 ^ a : Nat) : Int) := by simp
theorem and_mask (x a M : Nat) (hx : x < 18446744073709551616) (hM : M ≤ 64) : bits .and .u64 ((x : Int) / 2 ^ a) ((2 ^ M - 1 : Nat) : Int) = ((x / 2 ^ a % 2 ^ M : Nat) : Int) := by
  have h1 : x / 2 ^ a < 18446744073709551616 := Nat.lt_of_le_of_lt (Nat.div_le_self _ _) hx
  have h2 : 2 ^ M ≤ 2 ^ 64 := Nat.pow_le_pow_right (by omega) hM
  have h3 : 0 < 2 ^ M := Nat.two_pow_pos M
  rw [int_shr, bits_and_u64_nat _ _ h1 (by omega), Nat.and_two_pow_sub_one_eq_mod]
set_option maxHeartbeats 400000 in
theorem get_any (x a : Nat) (n : Int) (M : Nat) (hx : x < 18446744073709551616) (ha : a ≤ 63) (hM : M = (min n 64).toNat) (w : World) :
    Calls Try.prog 28 #[.int .u64 (x : Int), .int .i64 (a : Int), .int .i64 n] w fun e w' => e = .returned (.int .u64 ((x / 2 ^ a % 2 ^ M : Nat) : Int)) ∧ ∃ k, w' = w.drewN k := by
  have ha2 := and_mask x a M hx (by omega)
  have HM : Hid (M = (min n 64).toNat) := hM
  clear hM
  generalize hQ : ((x / 2 ^ a % 2 ^ M : Nat) : Int) = q at *
  have hmk : ∀ w, Calls Try.prog 18 #[.int .i64 n] w fun e w' => e = .returned (.int .u64 ((2 ^ M - 1 : Nat) : Int)) ∧ w' = w := fun w => mask_any n M HM.out w
  generalize hP : ((2 ^ M - 1 : Nat) : Int) = p at *
  clear hQ hP
  go_enter Try.func28, Try.ntmps28
  go_wp2_with (go_at_call 35; refine (place_in _ (by omega) (by omega) _).mono ?_; rintro e w' ⟨rfl, rfl⟩)
  go_quiet ((go_at_call 18; exact Calls.quiet_of_same (hmk _)))
  go_wp2
  go_ret
  exact ⟨rfl, _, rfl⟩
/-- n bits of a word from a place on -/
def getN (x : Nat) (a n : Int) : Nat := if 0 ≤ a ∧ a ≤ 63 then x / 2 ^ a.toNat % 2 ^ (min n 64).toNat else 0
theorem getN_in (x a : Nat) (n : Int) (ha : a ≤ 63) : getN x a n = x / 2 ^ a % 2 ^ (min n 64).toNat := by
  unfold getN; rw [if_pos (by omega), Int.toNat_natCast]
theorem getN_out (x : Nat) (a n : Int) (h : a < 0 ∨ 63 < a) : getN x a n = 0 := by unfold getN; rw [if_neg (by omega)]
theorem place_nat (a : Int) (h : ¬ (a < 0 ∨ 63 < a)) : ∃ b : Nat, b ≤ 63 ∧ a = b := ⟨a.toNat, by omega, by omega⟩
theorem get_all (x : Nat) (a n : Int) (hx : x < 18446744073709551616) (W w : World) (hb : Below W.heap.size W w) :
    Calls Try.prog 28 #[.int .u64 (x : Int), .int .i64 a, .int .i64 n] w fun e w' => e = .returned (.int .u64 (getN x a n : Nat)) ∧ Below W.heap.size W w' := by
  by_cases h : a < 0 ∨ 63 < a
  · rw [getN_out x a n h]
    exact (get_out x a n h w).mono fun e w' ⟨he, hw⟩ => ⟨he, by rw [hw]; exact hb⟩
  · obtain ⟨b, hb63, rfl⟩ := place_nat a h
    rw [getN_in x b n hb63]
    exact (get_any x b n _ hx hb63 rfl w).mono fun e w' ⟨he, k, hw⟩ => ⟨he, by rw [hw]; exact below_drewN hb k⟩
theorem rget_all (x : Nat) (a n : Int) (hx : x < 18446744073709551616) (W w : World) (hb : Below W.heap.size W w) :
    Calls Try.prog 37 #[.int .u64 (x : Int), .int .i64 a, .int .i64 n] w fun e w' => e = .returned (.int .u64 (getN x a n : Nat)) ∧ Below W.heap.size W w' := by
  by_cases h : a < 0 ∨ 63 < a
  · rw [getN_out x a n h]
    exact (rget_out x a n h w).mono fun e w' ⟨he, hw⟩ => ⟨he, by rw [hw]; exact hb⟩
  · obtain ⟨b, hb63, rfl⟩ := place_nat a h
    rw [getN_in x b n hb63, ← get_eq x b (min (min n 64).toNat (64 - b)) _ hx hb63 rfl]
    exact (rget_any x b n _ hx hb63 (by omega) w).mono fun e w' ⟨he, hw⟩ => ⟨he, hb.trans (hw.mono hb.size)⟩
theorem bit_all (x : Nat) (a : Int) (hx : x < 18446744073709551616) (W w : World) (hb : Below W.heap.size W w) :
    Calls Try.prog 23 #[.int .u64 (x : Int), .int .i64 a] w fun e w' => e = .returned (.bool ((getN x a 1 : Int) == 1)) ∧ Below W.heap.size W w' := by
  go_enter Try.func23, Try.ntmps23
  go_wp2_with (go_at_call 28; refine (get_all _ _ _ hx W _ (by assumption)).mono ?_; rintro e w' ⟨rfl, hb'⟩)
  go_ret
  exact ⟨rfl, by assumption⟩
theorem shl_nat (y a : Nat) : IntKind.u64.wrap ((y : Int) * 2 ^ a) = ((y * 2 ^ a % 18446744073709551616 : Nat) : Int) := by rw [wrap_u64]; simp
theorem put_num (x a M v : Nat) (hx : x < 18446744073709551616) :
    bits .or .u64 (bits .andNot .u64 (x : Int) (IntKind.u64.wrap (((2 ^ M - 1 : Nat) : Int) * 2 ^ a))) (bits .and .u64 (IntKind.u64.wrap ((v : Int) * 2 ^ a)) (IntKind.u64.wrap (((2 ^ M - 1 : Nat) : Int) * 2 ^ a))) = ((putN x a M v : Nat) : Int) := by
  rw [shl_nat, shl_nat, u64_andNot_nat _ _ hx (Nat.mod_lt _ (by decide)), bits_and_u64_nat _ _ (Nat.mod_lt _ (by decide)) (Nat.mod_lt _ (by decide)), bits_or_u64_nat _ _ (Nat.lt_of_le_of_lt Nat.and_le_left hx) (Nat.lt_of_le_of_lt Nat.and_le_left (Nat.mod_lt _ (by decide)))]
  rfl
/-- a word with n bits of another one from a place on -/
def putA (x : Nat) (a n : Int) (v : Nat) : Nat := if 0 ≤ a ∧ a ≤ 63 then putN x a.toNat (min n 64).toNat v else x
theorem putA_in (x a : Nat) (n : Int) (v : Nat) (ha : a ≤ 63) : putA x a n v = putN x a (min n 64).toNat v := by unfold putA; rw [if_pos (by omega), Int.toNat_natCast]
theorem putA_out (x : Nat) (a n : Int) (v : Nat) (h : a < 0 ∨ 63 < a) : putA x a n v = x := by unfold putA; rw [if_neg (by omega)]
theorem putA_lt (x : Nat) (a n : Int) (v : Nat) (hx : x < 18446744073709551616) : putA x a n v < 18446744073709551616 := by
  unfold putA; split
  · exact putN_lt _ _ _ _ hx
  · exact hx
set_option maxHeartbeats 400000 in
theorem put_any (x : Nat) (a n : Int) (v : Nat) (hx : x < 18446744073709551616) (w : World) :
    Calls Try.prog 25 #[.int .u64 (x : Int), .int .i64 a, .int .i64 n, .int .u64 (v : Int)] w fun e w' => e = .returned (.int .u64 (putA x a n v : Nat)) ∧ w' = w := by
  by_cases h : a < 0 ∨ 63 < a
  · have hp : ∀ w, Calls Try.prog 35 #[.int .i64 a] w fun e w' => e = .returned (.bool false) ∧ w' = w := fun w => place_out a h w
    rw [putA_out x a n v h]
    clear h
    go_enter Try.func25, Try.ntmps25
    go_wp2_with (go_at_call 35; refine (hp _).mono ?_; rintro e w' ⟨rfl, rfl⟩)
    go_ret
    exact ⟨rfl, rfl⟩
  · obtain ⟨b, hb63, rfl⟩ := place_nat a h
    rw [putA_in x b n v hb63]
    have HN : Hid _ := put_num x b (min n 64).toNat v hx
    have hmk : ∀ w, Calls Try.prog 18 #[.int .i64 n] w fun e w' => e = .returned (.int .u64 ((2 ^ (min n 64).toNat - 1 : Nat) : Int)) ∧ w' = w := fun w => mask_any n _ rfl w
    generalize ((putN x b (min n 64).toNat v : Nat) : Int) = s at *
    generalize ((2 ^ (min n 64).toNat - 1 : Nat) : Int) = p at *
    clear h
    go_enter Try.func25, Try.ntmps25
    go_wp2_with (first | (go_at_call 35; refine (place_in _ (by omega) (by omega) _).mono ?_; rintro e w' ⟨rfl, rfl⟩) | (go_at_call 18; refine (hmk _).mono ?_; rintro e w' ⟨rfl, rfl⟩))
    go_ret
    refine ⟨?_, rfl⟩
    rw [← HN.out]
    rfl
theorem rput_all (x : Nat) (a n : Int) (v : Nat) (hx : x < 18446744073709551616) (hv : v < 18446744073709551616) (W w : World) (hb : Below W.heap.size W w) :
    Calls Try.prog 32 #[.int .u64 (x : Int), .int .i64 a, .int .i64 n, .int .u64 (v : Int)] w fun e w' => e = .returned (.int .u64 (putA x a n v : Nat)) ∧ Below W.heap.size W w' := by
  by_cases h : a < 0 ∨ 63 < a
  · rw [putA_out x a n v h]
    exact (rput_out x v a n h w).mono fun e w' ⟨he, hw⟩ => ⟨he, by rw [hw]; exact hb⟩
  · obtain ⟨b, hb63, rfl⟩ := place_nat a h
    rw [putA_in x b n v hb63, ← put_eq x b (min (min n 64).toNat (64 - b)) _ v hb63 rfl]
    exact (rput_any x b n v _ hx hv hb63 (by omega) w).mono fun e w' ⟨he, hw⟩ => ⟨he, hb.trans (hw.mono hb.size)⟩
/-- what was put is told -/
theorem get_put (x a M v : Nat) (hM : M + a ≤ 64) : putN x a M v / 2 ^ a % 2 ^ M = v % 2 ^ M := by
  apply Nat.eq_of_testBit_eq
  intro j
  rw [Nat.testBit_mod_two_pow, Nat.testBit_mod_two_pow, ← Nat.shiftRight_eq_div_pow, Nat.testBit_shiftRight]
  by_cases hj : j < M
  · rw [← put_eq x a M M v (by omega) (by omega), hiOf_testBit _ _ _ _ (fun _ _ => putF_le _ _ _ _ _)]
    have : putF x v a M (0 + (a + j)) = bitAt v j := by unfold putF; rw [if_pos (by omega)]; congr 1; omega
    have h64 : a + j < 64 := by omega
    rw [this, bitAt_one]
    simp [h64]
  · simp [hj]
theorem getN_put (x : Nat) (a n : Int) (v : Nat) (h0 : 0 ≤ a) (h1 : a ≤ 63) (h3 : n ≤ 64 - a) : getN (putA x a n v) a n = getN v 0 n := by
  obtain ⟨b, rfl⟩ : ∃ b : Nat, a = b := ⟨a.toNat, by omega⟩
  rw [getN_in _ b n (by omega), putA_in x b n v (by omega), get_put x b _ v (by omega)]
  have := getN_in v 0 n (by omega)
  simp at this
  rw [this]
/-- what is known of a slice of n values that is read -/
def ReadsV (w : World) (v : Value) (n : Nat) (f : Nat → Value) : Prop :=
  (n = 0 ∧ ∃ a cap, v = .slice a 0 cap) ∨ ∃ b off cap, v = .slice (some ⟨b, off, none⟩) n cap ∧ ∀ i, i < n → w.cell? ⟨b, off + i, none⟩ = some (f i)
theorem readsV_below {w w' : World} {v : Value} {n : Nat} {f : Nat → Value} (h : ReadsV w v n f) (hb : Below w.heap.size w w') : ReadsV w' v n f := by
  rcases h with h | ⟨b, off, cap, hv, hc⟩
  · exact .inl h
  · exact .inr ⟨b, off, cap, hv, fun i hi => by rw [hb.cell (p := ⟨b, off + i, none⟩) (block_lt_of_cell (hc i hi))]; exact hc i hi⟩
/-- the marks that the first k of some numbers set -/
def setF (z : Nat → Int) : Nat → Nat → Nat
  | 0, _ => 0
  | k + 1, j => if z k = j then 1 else setF z k j
theorem setF_le (z : Nat → Int) : ∀ k j, setF z k j ≤ 1
  | 0, _ => by simp [setF]
  | k + 1, j => by rw [setF]; split; omega; exact setF_le z k j
theorem hiOf_congr (f g : Nat → Nat) : ∀ (m i : Nat), (∀ j, j < m → f (i + j) = g (i + j)) → hiOf f m i = hiOf g m i
  | 0, _, _ => rfl
  | m + 1, i, h => by
    rw [hiOf, hiOf, hiOf_congr f g m (i + 1) (fun j hj => by have := h (j + 1) (by omega); rwa [show i + 1 + j = i + (j + 1) from by omega])]
    have := h 0 (by omega)
    simp at this
    rw [this]
theorem rowOf_congr (f g : Nat → Nat) (n : Nat) (h : ∀ i, i < n → f i = g i) : rowOf f n = rowOf g n := by
  unfold rowOf
  apply List.map_congr_left
  intro i hi
  rw [h i (by simpa using hi)]
theorem bitAt_hiOf (f : Nat → Nat) (j : Nat) (hj : j < 64) (hf : ∀ j, j < 64 → f j ≤ 1) : bitAt (hiOf f 64 0) j = f j := by
  have h := hiOf_testBit f 64 0 j (fun j hj => by simpa using hf j hj)
  rw [← bitAt_one] at h
  simp only [hj, decide_true, Bool.true_and, Nat.zero_add, decide_eq_decide] at h
  have h1 := hf j hj
  have h2 := bitAt_le (hiOf f 64 0) j
  omega
theorem hiOf_small (f : Nat → Nat) (hf : ∀ j, j < 64 → f j ≤ 1) : hiOf f 64 0 < 18446744073709551616 := by
  have := hiOf_lt f 64 0 (fun j hj => by simpa using hf j hj)
  omega
theorem put_step (z : Nat → Int) (k : Nat) : putA (hiOf (setF z k) 64 0) (z k) 1 1 = hiOf (setF z (k + 1)) 64 0 := by
  by_cases h : z k < 0 ∨ 63 < z k
  · rw [putA_out _ _ _ _ h]
    apply hiOf_congr
    intro j hj
    rw [setF, if_neg (by omega)]
  · obtain ⟨a, ha, e⟩ := place_nat (z k) h
    rw [e, putA_in _ a _ _ ha, show (min (1 : Int) 64).toNat = 1 from by decide, ← put_eq _ a 1 1 1 ha (by omega)]
    apply hiOf_congr
    intro j hj
    rw [setF, e]
    unfold putF
    by_cases hj2 : 0 + j = a
    · rw [if_pos (by omega), if_pos (by omega), show 0 + j - a = 0 from by omega]; decide
    · rw [if_neg (by omega), if_neg (by omega), Nat.zero_add, bitAt_hiOf _ _ hj (fun j _ => setF_le z k j)]
set_option maxHeartbeats 400000 in
theorem wbits_any (z : Nat → Int) (n : Nat) (v : Value) (hn : n ≤ 100) (w : World) (hr : ReadsV w v n (fun i => .int .i64 (z i))) :
    Calls Try.prog 36 #[v] w fun e w' => e = .returned (.int .u64 (hiOf (setF z n) 64 0 : Nat)) ∧ w' = w := by
  have h00 : hiOf (setF z 0) 64 0 = 0 := by
    rw [hiOf_eq (setF z 0) 64 0 (fun _ _ => by simp [setF]) (fun j => by simp [setF])]
  rcases hr with ⟨rfl, a, cap, rfl⟩ | ⟨b, off, cap, rfl, hcell⟩
  · rw [h00]
    go_enter Try.func36, Try.ntmps36
    go_wp2
    go_loop [3, 5, 8] (fun x _ i => x = .int .u64 0 ∧ i = .int .i64 0) (fun _ _ _ => 0)
    case atStart => exact ⟨rfl, rfl⟩
    case round =>
      obtain ⟨rfl, rfl⟩ := hrel
      go_wp2
      go_ret
      exact ⟨rfl, rfl⟩
  · go_enter Try.func36, Try.ntmps36
    go_wp2
    go_loop [3, 5, 8] (fun x _ i => ∃ k : Nat, k ≤ n ∧ i = .int .i64 k ∧ x = .int .u64 (hiOf (setF z k) 64 0 : Nat)) (fun _ _ i => n - (intOf i).toNat)
    case atStart => exact ⟨0, by omega, rfl, by rw [h00]; rfl⟩
    case round =>
      obtain ⟨k, hk, rfl, rfl⟩ := hrel
      by_cases hlt : k < n
      · have hc := hcell k hlt
        have hput := fun w => put_any (hiOf (setF z k) 64 0) (z k) 1 1 (hiOf_small _ (fun j _ => setF_le z k j)) w
        rw [put_step] at hput
        have hkn : (k : Int) < n := by omega
        clear hcell h00
        generalize hiOf (setF z k) 64 0 = x at *
        have HX : Hid (((hiOf (setF z (k + 1)) 64 0 : Nat) : Int) = ((hiOf (setF z (k + 1)) 64 0 : Nat) : Int)) := rfl
        go_wp2_with (go_at_call 25; refine (hput _).mono ?_; rintro e w' ⟨rfl, rfl⟩)
        go_round
        case rel => exact ⟨k + 1, by omega, by go_num, rfl⟩
        case measure => simp [intOf]; omega
      · obtain rfl : k = n := by omega
        go_wp2
        go_ret
        exact ⟨rfl, rfl⟩
end Go.Proofs.Ytaiagfdlglidfaa.E
