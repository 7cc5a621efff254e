/- What the document's answer of layer 1 makes of a word bit by bit: the call Bits lays a word's bits in a new row, the call Word reads a row of bits. -/
import Derived.Test.YtpedollliahldaaDoorRows
import Derived.WalkKit
import Derived.WalkSpells
import Derived.WalkLawsBesides
import Derived.OpenShut
import Derived.Deep.QuietTactic
import Derived.BigQuiet
import Derived.Outline
namespace Go.Proofs.YtpedollliahldaaDoor
open Go.RowKit
set_option linter.unusedVariables false
set_option maxRecDepth 100000
theorem Tryd.info3 : (Tryd.prog.info? 3).map (fun i => (i.zero, i.size, i.bytes)) = some (some (.int .i64 0), 1, 8) := by kernel_rfl
/-- the first k numbers of a function, as cells -/
def rowOf (f : Nat → Nat) (k : Nat) : List Value := (List.range k).map fun i => Value.int .i64 ((f i : Nat) : Int)
theorem rowOf_succ (f : Nat → Nat) (k : Nat) : rowOf f (k + 1) = rowOf f k ++ [Value.int .i64 ((f k : Nat) : Int)] := by
  simp [rowOf, List.range_succ]
theorem rowOf_get (f : Nat → Nat) (k i : Nat) (h : i < k) : (rowOf f k)[i]? = some (Value.int .i64 ((f i : Nat) : Int)) := by
  simp [rowOf, h]
/-- bit i of a word, as a number -/
def bitAt (x i : Nat) : Nat := x / 2 ^ i % 2
theorem bitAt_le (x i : Nat) : bitAt x i ≤ 1 := by unfold bitAt; omega
theorem grow_step {B : Nat} {w wr w1 : World} {o : Obj} {e : TypeId} {size n : Nat} {v : Value} {xs : List Value} (hb : Below B w wr) (hB : B ≤ wr.heap.size) (hown : wr.ownsRow B e size v n xs) (hg : (wr.alloc o).grownBy w1 v.ownBlock) : Below B w w1 :=
  Below.grown (hb.alloc hB o) hg (by simp; omega) (fun j hj => (hown.lt j hj).1)
set_option maxHeartbeats 400000 in
theorem bits_any (x : Nat) (hx : x < 18446744073709551616) (w : World) :
    Calls Tryd.prog 46 #[.int .u64 (x : Int)] w fun e w' => ∃ v, e = .returned v ∧ w'.ownsRow w.heap.size 3 1 v 64 (rowOf (bitAt x) 64) ∧ Below w.heap.size w w' := by
  obtain ⟨i0, hi, hz0, hz1, hz2⟩ := info_parts Tryd.info3
  go_enter Tryd.func46, Tryd.ntmps46
  go_wp2
  go_loopw [0, 3, 4] (fun x0 v i wr => ∃ k : Nat, k ≤ 64 ∧ i = .int .i64 k ∧ x0 = .int .u64 ((x / 2 ^ k : Nat) : Int) ∧ wr.ownsRow w.heap.size 3 1 v k (rowOf (bitAt x) k) ∧ Below w.heap.size w wr)
    (fun _ _ i _ => 64 - (intOf i).toNat)
  case atStart => exact ⟨0, by omega, rfl, by simp, World.ownsRow_nil _ _ _ _, Below.refl _ _⟩
  case round =>
    obtain ⟨k, hk, rfl, rfl, hown, hb⟩ := hrel
    have hy : x / 2 ^ k < 18446744073709551616 := Nat.lt_of_le_of_lt (Nat.div_le_self _ _) hx
    have hs : x / 2 ^ (k + 1) = x / 2 ^ k / 2 := by rw [Nat.pow_succ, Nat.div_div_eq_div_mul]
    have hbt : bitAt x k = x / 2 ^ k % 2 := rfl
    have hr := rowOf_succ (bitAt x) k
    rw [hbt] at hr
    have HS : Hid (x / 2 ^ (k + 1) = x / 2 ^ k / 2) := hs
    have HR : Hid _ := hr
    clear hs hbt hr
    generalize hY : x / 2 ^ k = y at *
    have HY : Hid (x / 2 ^ k = y) := hY
    clear hY
    by_cases hlt : k < 64
    · go_wp2_with (first | (at_builtin; refine wpList_append_own _ rfl _ _ 80 rfl w.heap.size 3 i0 (.int .i64 0) 1 8 Tryd.underlying80 hi hz0 hz1 hz2 rfl (by decide) _ _ _ rfl (hown.alloc _) ⟨wr.heap.size, 0, none⟩ 1 1 _ rfl rfl (cell_one_new _ _ _) ?c2 ?c3 ?c4 ?c5 ?_))
      case c2 => intro u hu; simp at hu; subst hu; rfl
      case c3 => unfold maxLen; omega
      case c4 => omega
      case c5 => have := hb.size; simp; omega
      · intro v' w1 hown' hgrow _
        have hb1 := grow_step hb hb.size hown hgrow
        have hown2 : w1.ownsRow w.heap.size 3 1 v' (k + 1) (rowOf (bitAt x) (k + 1)) := by rw [HR.out]; exact hown'
        clear hown' hgrow hown hb
        go_wp2
        go_roundw
        case rel => exact ⟨k + 1, by omega, by go_num, by rw [HS.out]; go_num, hown2, hb1⟩
        case measure => simp [intOf]; omega
    · obtain rfl : k = 64 := by omega
      go_wp2
      go_ret
      exact ⟨_, rfl, hown, hb⟩
/-- the number whose bits are m numbers of a function, from the one at i on -/
def hiOf (f : Nat → Nat) : Nat → Nat → Nat
  | 0, _ => 0
  | m + 1, i => hiOf f m (i + 1) * 2 + f i
theorem hiOf_lt (f : Nat → Nat) : ∀ (m i : Nat), (∀ j, j < m → f (i + j) ≤ 1) → hiOf f m i < 2 ^ m
  | 0, _, _ => by simp [hiOf]
  | m + 1, i, h => by
    have h1 := hiOf_lt f m (i + 1) (fun j hj => by have := h (j + 1) (by omega); rwa [show i + 1 + j = i + (j + 1) from by omega])
    have h0 := h 0 (by omega)
    simp only [hiOf, Nat.pow_succ] at *
    simp at h0
    omega
theorem hiOf_testBit (f : Nat → Nat) : ∀ (m i j : Nat), (∀ j, j < m → f (i + j) ≤ 1) → (hiOf f m i).testBit j = (decide (j < m) && decide (f (i + j) = 1))
  | 0, _, _, _ => by simp [hiOf]
  | m + 1, i, 0, h => by
    have h0 := h 0 (by omega)
    simp only [hiOf, Nat.testBit_zero]
    simp at h0 ⊢
    omega
  | m + 1, i, j + 1, h => by
    have h0 := h 0 (by omega)
    simp only [hiOf, Nat.testBit_succ]
    simp at h0
    rw [show (hiOf f m (i + 1) * 2 + f i) / 2 = hiOf f m (i + 1) from by omega,
      hiOf_testBit f m (i + 1) j (fun j hj => by have := h (j + 1) (by omega); rwa [show i + 1 + j = i + (j + 1) from by omega])]
    simp [show i + 1 + j = i + (j + 1) from by omega]
set_option maxHeartbeats 400000 in
theorem word_any (f : Nat → Nat) (n base : Nat) (v : Value) (hn : n ≤ 64) (hf : ∀ i, i < n → f i ≤ 1) (w : World) (hown : w.ownsRow base 3 1 v n (rowOf f n)) :
    Calls Tryd.prog 41 #[v] w fun e w' => e = .returned (.int .u64 (hiOf f n 0 : Nat)) ∧ w' = w := by
  rcases hown.2 with ⟨rfl, rfl⟩ | ⟨g, cap, cur, rfl, hg, hbl, hnc, hcm, _, _⟩
  · go_enter Tryd.func41, Tryd.ntmps41
    go_wp2
    go_loop [3, 4] (fun x i => x = .int .u64 0 ∧ i = .int .i64 (-1)) (fun _ _ => 0)
    case atStart => exact ⟨rfl, rfl⟩
    case round =>
      obtain ⟨rfl, rfl⟩ := hrel
      go_wp2
      go_ret
      exact ⟨by simp [hiOf], rfl⟩
  · have hcell : ∀ j, j < n → w.cell? ⟨g, j, none⟩ = some (.int .i64 (f j : Nat)) := fun j hj => by rw [hown.cellAt j (by omega)]; exact rowOf_get f n j hj
    clear hown hbl
    go_enter Tryd.func41, Tryd.ntmps41
    go_wp2
    go_loop [3, 4] (fun x i => ∃ k : Nat, k ≤ n ∧ i = .int .i64 ((k : Int) - 1) ∧ x = .int .u64 (hiOf f (n - k) k : Nat)) (fun _ i => (intOf i + 1).toNat)
    case atStart => exact ⟨n, Nat.le_refl _, rfl, by simp [hiOf]⟩
    case round =>
      obtain ⟨k, hk, rfl, rfl⟩ := hrel
      by_cases hlt : 0 < k
      · obtain ⟨j, rfl⟩ : ∃ j, k = j + 1 := ⟨k - 1, by omega⟩
        have e : ((j + 1 : Nat) : Int) - 1 = (j : Int) := by omega
        rw [e]
        have hl := hiOf_lt f (n - (j + 1)) (j + 1) (fun i hi => hf _ (by omega))
        have hl2 : 2 ^ (n - (j + 1)) ≤ 2 ^ 63 := Nat.pow_le_pow_right (by omega) (by omega)
        have HE : Hid (hiOf f (n - j) j = hiOf f (n - (j + 1)) (j + 1) * 2 + f j) := by
          show hiOf f (n - j) j = _
          rw [show n - j = n - (j + 1) + 1 from by omega]; rfl
        have hfj := hf j (by omega)
        have hc := hcell j (by omega)
        clear hcell hf e
        generalize hH : hiOf f (n - (j + 1)) (j + 1) = h at *
        have hlt2 : h < 9223372036854775808 := by simp at hl2; omega
        clear hl hl2 hH
        generalize hF : f j = b at *
        have HF : Hid (f j = b) := hF
        clear hF
        have hjn : (j : Int) < n := by omega
        go_wp2
        go_round
        case rel => exact ⟨j, by omega, by go_num, by rw [HE.out]; go_num⟩
        case measure => simp [intOf]
      · obtain rfl : k = 0 := by omega
        go_wp2
        go_ret
        exact ⟨rfl, rfl⟩
end Go.Proofs.YtpedollliahldaaDoor
