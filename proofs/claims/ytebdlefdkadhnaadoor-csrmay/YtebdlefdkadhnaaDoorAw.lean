/- Laws at operations on whole files; the page's examples of layer 8 (awake). -/
import Derived.Test.YtebdlefdkadhnaaDoorNm
import Derived.Test.YtebdlefdkadhnaaDoorRd
import Derived.Test.YtebdlefdkadhnaaDoorDWa
namespace Go.Proofs.YtebdlefdkadhnaaDoor
open Go.RowKit
set_option linter.unusedVariables false
set_option linter.unusedSimpArgs false
set_option maxRecDepth 100000
theorem vec_8 : vecN 0 8 = 8 := by decide +kernel
theorem vec_6 : vecN 8 6 = 8 := by decide +kernel
theorem ok_zero : Ok fun _ => 0 := fun _ => by show 0 < 18446744073709551616; omega
theorem known_misa : knownB 769 = true := by decide +kernel
set_option maxHeartbeats 2000000 in
theorem awake_any (w : World) (hR : Regs w) : Calls Tryd.prog 9 #[] w fun e w' => e = .returned (.bool true) ∧ Below w.heap.size w w' := by
  have HR : Hid (Regs w) := hR
  clear hR
  go_enter Tryd.func9, Tryd.ntmps9
  go_wp2_with fail
  refine (begin_any _).mono ?_
  rintro e w1 ⟨rfl, hb1⟩
  have X1 : Hid (Below w.heap.size w w1) := hb1
  clear hb1
  rename_i KK hKK
  refine hKK _ _ ?_
  clear hKK
  refine wpList_alloc_file rfl rfl ?_
  intro W0 hW0
  have B0 : Box 29 W0 w1.heap.size zeroC := by rw [hW0]; exact Box.new _ _ _
  have L0 : Below w1.heap.size w1 W0 := by rw [hW0]; exact (Below.refl _ _).alloc (Nat.le_refl _) _
  clear hW0
  refine wpList_store_file rfl _ _ rfl w1.heap.size 3 (fun _ => 0) _ rfl rfl B0 zeroC_size ?_
  intro W1 B1 U1
  have hb2 : Below w1.heap.size w1 W1 := L0.trans (U1.below (Nat.le_refl _) L0.size)
  have X2 : Hid (Below w.heap.size w W1 ∧ Box 29 W1 w1.heap.size (fileC 3 fun _ => 0) ∧ w.heap.size ≤ w1.heap.size) := ⟨X1.out.trans (hb2.mono X1.out.size), B1, X1.out.size⟩
  clear B0 L0 B1 U1 hb2
  generalize w1.heap.size = b at *
  go_wp2_with fail
  refine (write_any 3 (fun _ => 0) 773 8 b ok_zero (by decide) _ X2.out.2.1).mono ?_
  rintro e w2 ⟨rfl, hB2, hU2⟩
  have X3 : Hid (Below w.heap.size w w2 ∧ Box 29 w2 b (fileC 3 (upd (fun _ => 0) 6 8)) ∧ w.heap.size ≤ b) := ⟨X2.out.1.trans (hU2.below X2.out.2.2 X2.out.1.size), by rw [show writeK (fun _ => 0) 773 8 = upd (fun _ => 0) 6 (vecN 0 8) from rfl, vec_8] at hB2; exact hB2, X2.out.2.2⟩
  clear hB2 hU2
  go_wp2_with fail
  refine (write_any 3 (upd (fun _ => 0) 6 8) 773 6 b (ok_zero.upd _ _ (by decide)) (by decide) _ X3.out.2.1).mono ?_
  rintro e w3 ⟨rfl, hB3, hU3⟩
  have X4 : Hid (Below w.heap.size w w3 ∧ Box 29 w3 b (fileC 3 (upd (fun _ => 0) 6 8)) ∧ w.heap.size ≤ b) := ⟨X3.out.1.trans (hU3.below X3.out.2.2 X3.out.1.size), by rw [show writeK (upd (fun _ => 0) 6 8) 773 6 = upd (upd (fun _ => 0) 6 8) 6 (vecN 8 6) from rfl, vec_6, upd_self (upd (fun _ => 0) 6 8) 6 8 rfl] at hB3; exact hB3, X3.out.2.2⟩
  clear hB3 hU3
  go_wp2_with fail
  refine (write_any 3 (upd (fun _ => 0) 6 8) 833 7 b (ok_zero.upd _ _ (by decide)) (by decide) _ X4.out.2.1).mono ?_
  rintro e w4 ⟨rfl, hB4, hU4⟩
  have HK : Hid (Ok (writeK (upd (fun _ => 0) 6 8) 833 7)) := writeK_ok _ _ _ (ok_zero.upd _ _ (by decide)) (by decide)
  have r1 : readN (writeK (upd (fun _ => 0) 6 8) 833 7) 773 = 8 := rfl
  have r2 : readN (writeK (upd (fun _ => 0) 6 8) 833 7) 833 = 4 := by decide +kernel
  generalize writeK (upd (fun _ => 0) 6 8) 833 7 = K at *
  have X5 : Hid (Below w.heap.size w w4 ∧ Box 29 w4 b (fileC 3 K) ∧ w.heap.size ≤ b) := ⟨X4.out.1.trans (hU4.below X4.out.2.2 X4.out.1.size), hB4, X4.out.2.2⟩
  clear hB4 hU4
  have c0 : w4.cell? ⟨b, 0, none⟩ = some (.int .i64 3) := X5.out.2.1.cell 0 _ rfl
  have HA : Hid (∀ V, Box 29 V b (fileC 3 K) → Calls Tryd.prog 12 #[.pointer (some ⟨b, 0, none⟩), .int .i64 773] V fun e w' => e = .returned (.int .u64 8) ∧ Below V.heap.size V w') := fun V hV => by
    have h := read_any 3 K 773 b HK.out V hV
    rw [r1] at h
    exact h
  have HC : Hid (∀ V, Box 29 V b (fileC 3 K) → Calls Tryd.prog 12 #[.pointer (some ⟨b, 0, none⟩), .int .i64 833] V fun e w' => e = .returned (.int .u64 4) ∧ Below V.heap.size V w') := fun V hV => by
    have h := read_any 3 K 833 b HK.out V hV
    rw [r2] at h
    exact h
  clear r1 r2
  go_wp2_with fail
  refine (HA.out _ X5.out.2.1).mono ?_
  rintro e w5 ⟨rfl, hb5⟩
  have X6 : Hid (Below w.heap.size w w5 ∧ Box 29 w5 b (fileC 3 K)) := ⟨X5.out.1.trans (hb5.mono X5.out.1.size), X5.out.2.1.step hb5⟩
  clear hb5
  go_wp2_with fail
  refine (HC.out _ X6.out.2).mono ?_
  rintro e w6 ⟨rfl, hb6⟩
  have X7 : Hid (Below w.heap.size w w6) := X6.out.1.trans (hb6.mono X6.out.1.size)
  clear hb6
  go_wp2_with fail
  refine (known_any 769 _ (HR.out.below X7.out)).mono ?_
  rintro e w7 ⟨rfl, hb7⟩
  rw [known_misa]
  go_wp2_with fail
  go_ret
  exact ⟨rfl, X7.out.trans (hb7.mono X7.out.size)⟩
end Go.Proofs.YtebdlefdkadhnaaDoor
