/- The page's example of layer 9 (awake). -/
import Derived.Test.YtdljceeoofhfnaaDoorTe
import Derived.Test.YtdljceeoofhfnaaDoorWr
import Derived.Test.YtdljceeoofhfnaaDoorAw
namespace Go.Proofs.YtdljceeoofhfnaaDoor
open Go.RowKit Go.Maps
set_option linter.unusedVariables false
set_option linter.unusedSimpArgs false
set_option maxRecDepth 100000
theorem vec_257 : vecN 0 257 = 257 := by decide +kernel
theorem place_284 : placeN 257 7 true = 284 := by decide +kernel
theorem del_3 (K : Nat → Nat) (c : Nat) (i : Bool) : delB ((3 : Nat) : Int) K c i = false := by unfold delB; rw [decide_eq_false (by omega), Bool.false_and]
theorem told_10 (K : Nat → Nat) (m : Nat) : markM (tellM K 7 0 true 4096) m 10 = 9223372036854775815 := rfl
theorem told_9 (K : Nat → Nat) (m : Nat) : markM (tellM K 7 0 true 4096) m 9 = 4096 := rfl
set_option maxHeartbeats 2000000 in
theorem awake_any (w : World) : Calls Tryd.prog 5 #[] w fun e w' => e = .returned (.bool true) ∧ Below w.heap.size w w' := by
  go_enter Tryd.func5, Tryd.ntmps5
  go_wp2_with fail
  refine (begin_any _).mono ?_
  rintro e w1 ⟨rfl, hb1⟩
  have X1 : Hid (Below w.heap.size w w1) := hb1
  clear hb1
  rename_i KK hKK
  refine hKK _ _ ?_
  clear hKK
  refine wpList_alloc_file rfl rfl ?_
  intro W0 hW0
  have B0 : Box 29 W0 w1.heap.size zeroC := by rw [hW0]; exact Box.new _ _ _
  have L0 : Below w1.heap.size w1 W0 := by rw [hW0]; exact (Below.refl _ _).alloc (Nat.le_refl _) _
  clear hW0
  refine wpList_store_file rfl _ _ rfl w1.heap.size 3 (fun _ => 0) _ rfl rfl B0 zeroC_size ?_
  intro W1 B1 U1
  have hb2 : Below w1.heap.size w1 W1 := L0.trans (U1.below (Nat.le_refl _) L0.size)
  have X2 : Hid (Below w.heap.size w W1 ∧ Box 29 W1 w1.heap.size (fileC 3 fun _ => 0) ∧ w.heap.size ≤ w1.heap.size) := ⟨X1.out.trans (hb2.mono X1.out.size), B1, X1.out.size⟩
  clear B0 L0 B1 U1 hb2
  generalize w1.heap.size = b at *
  go_wp2_with fail
  refine (write_any 3 (fun _ => 0) 773 257 b ok_zero (by decide) _ X2.out.2.1).mono ?_
  rintro e w2 ⟨rfl, hB2, hU2⟩
  have X3 : Hid (Below w.heap.size w w2 ∧ Box 29 w2 b (fileC ((3 : Nat) : Int) (upd (fun _ => 0) 6 257)) ∧ w.heap.size ≤ b) := ⟨X2.out.1.trans (hU2.below X2.out.2.2 X2.out.1.size), by rw [show writeK (fun _ => 0) 773 257 = upd (fun _ => 0) 6 (vecN 0 257) from rfl, vec_257] at hB2; exact hB2, X2.out.2.2⟩
  clear hB2 hU2
  have HE : Hid (∀ V, Box 29 V b (fileC ((3 : Nat) : Int) (upd (fun _ => 0) 6 257)) → Calls Tryd.prog 13 #[.pointer (some ⟨b, 0, none⟩), .agg #[.int .i64 7, .int .u64 0, .bool true], .int .u64 4096] V fun e w' => e = .returned (.int .u64 284) ∧ Box 29 w' b (fileC 3 (markM (tellM (upd (fun _ => 0) 6 257) 7 0 true 4096) 3)) ∧ Upon b V w') := fun V hV => by
    have h := enter_no 3 (by omega) (upd (fun _ => 0) 6 257) 7 0 true 4096 b (ok_zero.upd _ _ (by decide)) (by omega) (by decide) (by decide) (del_3 _ _ _) V hV
    rw [show placeN (upd (fun _ => 0) 6 257 6) 7 true = 284 from place_284] at h
    exact h
  have t10 := told_10 (upd (fun _ => 0) 6 257) 3
  have t9 := told_9 (upd (fun _ => 0) 6 257) 3
  generalize markM (tellM (upd (fun _ => 0) 6 257) 7 0 true 4096) 3 = K at *
  go_wp2_with fail
  refine (HE.out _ X3.out.2.1).mono ?_
  rintro e w3 ⟨rfl, hB3, hU3⟩
  have X4 : Hid (Below w.heap.size w w3) := X3.out.1.trans (hU3.below X3.out.2.2 X3.out.1.size)
  have c10 : w3.cell? ⟨b, 11, none⟩ = some (.int .u64 (9223372036854775815 : Nat)) := by rw [← t10]; exact hB3.cell 11 _ rfl
  have c9 : w3.cell? ⟨b, 10, none⟩ = some (.int .u64 (4096 : Nat)) := by rw [← t9]; exact hB3.cell 10 _ rfl
  clear hB3 hU3 t10 t9 HE
  go_wp2_with fail
  go_ret
  exact ⟨rfl, X4.out⟩
end Go.Proofs.YtdljceeoofhfnaaDoor
