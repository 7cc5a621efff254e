/- What CsrBits needs: Set, Keep, Previous of layer 8. -/
import Derived.Test.YtdljceeoofhfnaaDoorRd
import Derived.Test.YtdljceeoofhfnaaDoorDWr
namespace Go.Proofs.YtdljceeoofhfnaaDoor
open Go.RowKit Go.Maps
set_option linter.unusedVariables false
set_option linter.unusedSimpArgs false
set_option maxRecDepth 100000
theorem upd_upd (K : Nat → Nat) (p a b : Nat) : upd (upd K p a) p b = upd K p b := by
  funext j; unfold upd; split <;> rfl
theorem put_put (s j v u : Nat) (hj : j ≤ 63) : putA (putA s j 1 v) j 1 u = putA s j 1 u := by
  rw [putA_in _ j _ _ hj, putA_in _ j _ _ hj, putA_in _ j _ _ hj, show (min (1 : Int) 64).toNat = 1 from by decide]
  apply Nat.eq_of_testBit_eq
  intro i
  rw [← put_eq (putN s j 1 v) j 1 1 u hj (by omega), ← put_eq s j 1 1 u hj (by omega), hiOf_testBit _ _ _ _ (fun _ _ => putF_le _ _ _ _ _), hiOf_testBit _ _ _ _ (fun _ _ => putF_le _ _ _ _ _)]
  by_cases hi : i < 64
  · have e : putF (putN s j 1 v) u j 1 (0 + i) = putF s u j 1 (0 + i) := by
      by_cases h : i = j
      · subst h; unfold putF; rw [if_pos (by omega), if_pos (by omega)]
      · unfold putF
        rw [if_neg (by omega), if_neg (by omega), ← put_eq s j 1 1 v hj (by omega), Nat.zero_add, bitAt_hiOf _ _ hi (fun _ _ => putF_le _ _ _ _ _)]
        unfold putF
        rw [if_neg (by omega)]
    rw [e]
  · simp [hi]
theorem get_set (s j v : Nat) (hj : j ≤ 63) (hv : v ≤ 1) : getN (putA s j 1 v) j 1 = v := by
  rw [getN_put s j 1 v (by omega) (by omega) (by omega)]
  have := getN_in v 0 1 (by omega)
  rw [show (min (1 : Int) 64).toNat = 1 from by decide] at this
  simp at this
  rw [this]
  omega
theorem get_keep (s v : Nat) (hv : v ≤ 3) : getN (putA s 11 2 v) 11 2 = v := by
  rw [getN_put s 11 2 v (by omega) (by omega) (by omega)]
  have := getN_in v 0 2 (by omega)
  rw [show (min (2 : Int) 64).toNat = 2 from by decide] at this
  simp at this
  rw [this]
  omega
theorem set_on (m : Int) (K : Nat → Nat) (j : Int) (b : Nat) (hK : Ok K) (w : World) (hB : Box 29 w b (fileC m K)) : Calls Tryd.prog 39 #[.pointer (some ⟨b, 0, none⟩), .int .i64 j, .bool true] w fun e w' => e = .returned (.tuple #[]) ∧ Box 29 w' b (fileC m (upd K 0 (putA (K 0) j 1 1))) ∧ Upon b w w' := by
  have HB : Hid (Box 29 w b (fileC m K)) := hB
  have c0 : w.cell? ⟨b, 1, none⟩ = some (.int .u64 (K 0 : Nat)) := hB.cell 1 _ rfl
  have f0 := hB.frozen 1
  have hp : ∀ V, Calls Tryd.prog 42 #[.int .u64 (K 0 : Nat), .int .i64 j, .int .i64 1, .int .u64 1] V fun e w' => e = .returned (.int .u64 (putA (K 0) j 1 1 : Nat)) ∧ w' = V := fun V => put_any (K 0) j 1 1 (hK _) V
  generalize putA (K 0) j 1 1 = y at *
  clear hB hK
  go_enter Tryd.func39, Tryd.ntmps39
  go_wp2_with fail
  refine (hp _).mono ?_
  rintro e w1 ⟨rfl, hw1⟩
  rw [hw1]
  clear hw1
  go_wp2_with fail
  go_end0
  exact ⟨rfl, (by rw [← (set_fileC m K y).1]; exact HB.out.set 1 _), (Upon.refl _ _).set 1 _⟩
theorem set_off (m : Int) (K : Nat → Nat) (j : Int) (b : Nat) (hK : Ok K) (w : World) (hB : Box 29 w b (fileC m K)) : Calls Tryd.prog 39 #[.pointer (some ⟨b, 0, none⟩), .int .i64 j, .bool false] w fun e w' => e = .returned (.tuple #[]) ∧ Box 29 w' b (fileC m (upd K 0 (putA (K 0) j 1 0))) ∧ Upon b w w' := by
  have HB : Hid (Box 29 w b (fileC m K)) := hB
  have c0 : w.cell? ⟨b, 1, none⟩ = some (.int .u64 (K 0 : Nat)) := hB.cell 1 _ rfl
  have f0 := hB.frozen 1
  have hp : ∀ V, Calls Tryd.prog 42 #[.int .u64 (K 0 : Nat), .int .i64 j, .int .i64 1, .int .u64 0] V fun e w' => e = .returned (.int .u64 (putA (K 0) j 1 0 : Nat)) ∧ w' = V := fun V => put_any (K 0) j 1 0 (hK _) V
  generalize putA (K 0) j 1 0 = y at *
  clear hB hK
  go_enter Tryd.func39, Tryd.ntmps39
  go_wp2_with fail
  refine (hp _).mono ?_
  rintro e w1 ⟨rfl, hw1⟩
  rw [hw1]
  clear hw1
  go_wp2_with fail
  go_end0
  exact ⟨rfl, (by rw [← (set_fileC m K y).1]; exact HB.out.set 1 _), (Upon.refl _ _).set 1 _⟩
theorem keep_any (m : Int) (K : Nat → Nat) (v b : Nat) (hv : v ≤ 3) (hK : Ok K) (w : World) (hB : Box 29 w b (fileC m K)) : Calls Tryd.prog 41 #[.pointer (some ⟨b, 0, none⟩), .int .i64 (v : Int)] w fun e w' => e = .returned (.tuple #[]) ∧ Box 29 w' b (fileC m (upd K 0 (putA (K 0) 11 2 v))) ∧ Upon b w w' := by
  have HB : Hid (Box 29 w b (fileC m K)) := hB
  have c0 : w.cell? ⟨b, 1, none⟩ = some (.int .u64 (K 0 : Nat)) := hB.cell 1 _ rfl
  have f0 := hB.frozen 1
  have hp : ∀ V, Calls Tryd.prog 42 #[.int .u64 (K 0 : Nat), .int .i64 11, .int .i64 2, .int .u64 (v : Int)] V fun e w' => e = .returned (.int .u64 (putA (K 0) 11 2 v : Nat)) ∧ w' = V := fun V => put_any (K 0) 11 2 v (hK _) V
  have hm : ∀ V, Calls Tryd.prog 53 #[.int .i64 2] V fun e w' => e = .returned (.int .u64 3) ∧ w' = V := fun V => mask_any 2 2 (by decide) V
  have hw : IntKind.u64.wrap (v : Int) = v := by rw [wrap_u64]; omega
  have h1 : (0 : Int) ≤ v := by omega
  have h2 : (v : Int) ≤ 3 := by omega
  generalize putA (K 0) 11 2 v = y at *
  clear hB hK
  go_enter Tryd.func41, Tryd.ntmps41
  go_wp2_with fail
  refine (hm _).mono ?_
  rintro e w1 ⟨rfl, hw1⟩
  rw [hw1]
  clear hw1
  go_wp2_with fail
  refine (hp _).mono ?_
  rintro e w1 ⟨rfl, hw1⟩
  rw [hw1]
  clear hw1
  go_wp2_with fail
  go_end0
  exact ⟨rfl, (by rw [← (set_fileC m K y).1]; exact HB.out.set 1 _), (Upon.refl _ _).set 1 _⟩
end Go.Proofs.YtdljceeoofhfnaaDoor
