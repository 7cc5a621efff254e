/- The law CsrNumbers. -/
import Derived.Test.YtebdlefdkadhnaaDoorAw
import Derived.Test.YtebdlefdkadhnaaDoorLa
namespace Go.Proofs.YtebdlefdkadhnaaDoor
open Go.RowKit Go.Maps
set_option linter.unusedVariables false
set_option linter.unusedSimpArgs false
set_option maxRecDepth 100000
def numC : Array Value := #[.int .i64 768, .int .i64 256, .int .i64 769, .int .i64 770, .int .i64 771, .int .i64 772, .int .i64 260, .int .i64 836, .int .i64 324, .int .i64 773, .int .i64 261, .int .i64 774, .int .i64 262, .int .i64 832, .int .i64 320, .int .i64 834, .int .i64 322, .int .i64 835, .int .i64 323, .int .i64 2816, .int .i64 2818, .int .i64 833, .int .i64 321, .int .i64 384, .int .i64 3072, .int .i64 3073, .int .i64 3074, .int .i64 3857, .int .i64 3858, .int .i64 3859, .int .i64 3860]
def bitC : Array Value := #[.int .i64 1, .int .i64 3, .int .i64 5, .int .i64 7, .int .i64 8, .int .i64 11, .int .i64 17, .int .i64 18, .int .i64 19, .int .i64 20, .int .i64 21, .int .i64 22]
theorem numC_get : ∀ i, i < 31 → numC[i]? = some (.int .i64 (dN i)) := by
  intro i hi
  have e : numC = ((List.range 31).map fun j => Value.int .i64 (dN j)).toArray := by kernel_rfl
  rw [e]; simp [hi]
def bN (i : Nat) : Int := [1, 3, 5, 7, 8, 11, 17, 18, 19, 20, 21, 22].getD i 0
theorem bitC_get : ∀ i, i < 12 → bitC[i]? = some (.int .i64 (bN i)) := by
  intro i hi
  have e : bitC = ((List.range 12).map fun j => Value.int .i64 (bN j)).toArray := by kernel_rfl
  rw [e]; simp [hi]
set_option maxHeartbeats 4000000 in
theorem numbers_core (n : Int) (hn : (Lit.int .i64 n).wf = true) (w : World) (hR : Regs w) : Calls Tryd.prog 7 #[.int .i64 n] w fun e w' => e = .returned (.bool true) ∧ Below w.heap.size w w' := by
  have HR : Hid (Regs w) := hR
  have HA : Hid (∀ V, Regs V → Calls Tryd.prog 9 #[] V fun e w' => e = .returned (.bool true) ∧ Below V.heap.size V w') := fun V hV => awake_any V hV
  have HW : Hid (∀ V, Calls Tryd.prog 23 #[] V fun e w' => e = .returned (.slice (some ⟨V.heap.size, 0, none⟩) 31 31) ∧ Below V.heap.size V w' ∧ RowsAt w' V.heap.size) := fun V => rows_at V
  clear hR hn
  go_enter Tryd.func7, Tryd.ntmps7
  go_wp2_with fail
  refine (HA.out _ HR.out).mono ?_
  rintro e w1 ⟨rfl, hb1⟩
  have X1 : Hid (Below w.heap.size w w1) := hb1
  clear hb1
  go_upto_region 4 with fail
  have X2 : Hid (Below w.heap.size w (w1.alloc (.cells #[.int .i64 768, .int .i64 256, .int .i64 769, .int .i64 770, .int .i64 771, .int .i64 772, .int .i64 260, .int .i64 836, .int .i64 324, .int .i64 773, .int .i64 261, .int .i64 774, .int .i64 262, .int .i64 832, .int .i64 320, .int .i64 834, .int .i64 322, .int .i64 835, .int .i64 323, .int .i64 2816, .int .i64 2818, .int .i64 833, .int .i64 321, .int .i64 384, .int .i64 3072, .int .i64 3073, .int .i64 3074, .int .i64 3857, .int .i64 3858, .int .i64 3859, .int .i64 3860] 3)) ∧ Box 3 (w1.alloc (.cells #[.int .i64 768, .int .i64 256, .int .i64 769, .int .i64 770, .int .i64 771, .int .i64 772, .int .i64 260, .int .i64 836, .int .i64 324, .int .i64 773, .int .i64 261, .int .i64 774, .int .i64 262, .int .i64 832, .int .i64 320, .int .i64 834, .int .i64 322, .int .i64 835, .int .i64 323, .int .i64 2816, .int .i64 2818, .int .i64 833, .int .i64 321, .int .i64 384, .int .i64 3072, .int .i64 3073, .int .i64 3074, .int .i64 3857, .int .i64 3858, .int .i64 3859, .int .i64 3860] 3)) w1.heap.size numC ∧ (w1.alloc (.cells #[.int .i64 768, .int .i64 256, .int .i64 769, .int .i64 770, .int .i64 771, .int .i64 772, .int .i64 260, .int .i64 836, .int .i64 324, .int .i64 773, .int .i64 261, .int .i64 774, .int .i64 262, .int .i64 832, .int .i64 320, .int .i64 834, .int .i64 322, .int .i64 835, .int .i64 323, .int .i64 2816, .int .i64 2818, .int .i64 833, .int .i64 321, .int .i64 384, .int .i64 3072, .int .i64 3073, .int .i64 3074, .int .i64 3857, .int .i64 3858, .int .i64 3859, .int .i64 3860] 3)).heap.size = w1.heap.size + 1) := ⟨X1.out.alloc X1.out.size _, Box.new _ _ _, by simp⟩
  generalize w1.alloc (.cells #[.int .i64 768, .int .i64 256, .int .i64 769, .int .i64 770, .int .i64 771, .int .i64 772, .int .i64 260, .int .i64 836, .int .i64 324, .int .i64 773, .int .i64 261, .int .i64 774, .int .i64 262, .int .i64 832, .int .i64 320, .int .i64 834, .int .i64 322, .int .i64 835, .int .i64 323, .int .i64 2816, .int .i64 2818, .int .i64 833, .int .i64 321, .int .i64 384, .int .i64 3072, .int .i64 3073, .int .i64 3074, .int .i64 3857, .int .i64 3858, .int .i64 3859, .int .i64 3860] 3) = W2 at *
  go_wp2_with fail
  refine (HW.out _).mono ?_
  rintro e w3 ⟨rfl, hb3, hr3⟩
  have X3 : Hid (Below w.heap.size w w3 ∧ Box 3 w3 w1.heap.size numC ∧ RowsAt w3 W2.heap.size) := ⟨X2.out.1.trans (hb3.mono X2.out.1.size), X2.out.2.1.step hb3, hr3⟩
  clear hb3 hr3 X2
  generalize W2.heap.size = rb at *
  generalize w1.heap.size = nb at *
  by_cases h1 : n < 0
  · go_wp2_with fail
    go_ret
    exact ⟨rfl, X3.out.1⟩
  by_cases h2 : 31 ≤ n
  · go_wp2_with fail
    go_ret
    exact ⟨rfl, X3.out.1⟩
  obtain ⟨k, rfl⟩ : ∃ k : Nat, n = k := ⟨n.toNat, by omega⟩
  have hk : k < 31 := by omega
  have hk1 : (k : Int) < 31 := by omega
  go_upto_region 11 with fail
  have X4 : Hid (Below w.heap.size w ((w3.alloc (.cells #[.int .i64 1, .int .i64 3, .int .i64 5, .int .i64 7, .int .i64 8, .int .i64 11, .int .i64 17, .int .i64 18, .int .i64 19, .int .i64 20, .int .i64 21, .int .i64 22] 3)).alloc (.cells #[.int .i64 1, .int .i64 3, .int .i64 5, .int .i64 7, .int .i64 8, .int .i64 11, .int .i64 17, .int .i64 18, .int .i64 19, .int .i64 20, .int .i64 21, .int .i64 22] 3)) ∧ Box 3 ((w3.alloc (.cells #[.int .i64 1, .int .i64 3, .int .i64 5, .int .i64 7, .int .i64 8, .int .i64 11, .int .i64 17, .int .i64 18, .int .i64 19, .int .i64 20, .int .i64 21, .int .i64 22] 3)).alloc (.cells #[.int .i64 1, .int .i64 3, .int .i64 5, .int .i64 7, .int .i64 8, .int .i64 11, .int .i64 17, .int .i64 18, .int .i64 19, .int .i64 20, .int .i64 21, .int .i64 22] 3)) nb numC ∧ RowsAt ((w3.alloc (.cells #[.int .i64 1, .int .i64 3, .int .i64 5, .int .i64 7, .int .i64 8, .int .i64 11, .int .i64 17, .int .i64 18, .int .i64 19, .int .i64 20, .int .i64 21, .int .i64 22] 3)).alloc (.cells #[.int .i64 1, .int .i64 3, .int .i64 5, .int .i64 7, .int .i64 8, .int .i64 11, .int .i64 17, .int .i64 18, .int .i64 19, .int .i64 20, .int .i64 21, .int .i64 22] 3)) rb ∧ Box 3 ((w3.alloc (.cells #[.int .i64 1, .int .i64 3, .int .i64 5, .int .i64 7, .int .i64 8, .int .i64 11, .int .i64 17, .int .i64 18, .int .i64 19, .int .i64 20, .int .i64 21, .int .i64 22] 3)).alloc (.cells #[.int .i64 1, .int .i64 3, .int .i64 5, .int .i64 7, .int .i64 8, .int .i64 11, .int .i64 17, .int .i64 18, .int .i64 19, .int .i64 20, .int .i64 21, .int .i64 22] 3)) w3.heap.size bitC ∧ Box 3 ((w3.alloc (.cells #[.int .i64 1, .int .i64 3, .int .i64 5, .int .i64 7, .int .i64 8, .int .i64 11, .int .i64 17, .int .i64 18, .int .i64 19, .int .i64 20, .int .i64 21, .int .i64 22] 3)).alloc (.cells #[.int .i64 1, .int .i64 3, .int .i64 5, .int .i64 7, .int .i64 8, .int .i64 11, .int .i64 17, .int .i64 18, .int .i64 19, .int .i64 20, .int .i64 21, .int .i64 22] 3)) (w3.heap.size + 1) bitC) := by
    have l1 : Below w3.heap.size w3 ((w3.alloc (.cells bitC 3)).alloc (.cells bitC 3)) := ((Below.refl _ _).alloc (Nat.le_refl _) _).alloc (by simp) _
    refine ⟨X3.out.1.trans (l1.mono X3.out.1.size), X3.out.2.1.step l1, X3.out.2.2.below l1, (Box.new 3 w3 bitC).alloc _, ?_⟩
    have h := Box.new 3 (w3.alloc (.cells bitC 3)) bitC
    simp only [World.size_alloc] at h
    exact h
  generalize (w3.alloc (.cells #[.int .i64 1, .int .i64 3, .int .i64 5, .int .i64 7, .int .i64 8, .int .i64 11, .int .i64 17, .int .i64 18, .int .i64 19, .int .i64 20, .int .i64 21, .int .i64 22] 3)).alloc (.cells #[.int .i64 1, .int .i64 3, .int .i64 5, .int .i64 7, .int .i64 8, .int .i64 11, .int .i64 17, .int .i64 18, .int .i64 19, .int .i64 20, .int .i64 21, .int .i64 22] 3) = W5 at *
  generalize w3.heap.size = cb at *
  have e1 : W5.cell? ⟨nb, k, none⟩ = some (.int .i64 (dN k)) := X4.out.2.1.cell k _ (numC_get k hk)
  have e2 := (X4.out.2.2.1 k hk).1
  by_cases h3 : k < 12
  · have h4 : ¬ 12 ≤ (k : Int) := by omega
    have h5 : (k : Int) < 12 := by omega
    have e3 : W5.cell? ⟨cb, k, none⟩ = some (.int .i64 (bN k)) := X4.out.2.2.2.1.cell k _ (bitC_get k h3)
    have e4 : W5.cell? ⟨cb + 1, k, none⟩ = some (.int .i64 (bN k)) := X4.out.2.2.2.2.cell k _ (bitC_get k h3)
    generalize dN k = d at *
    generalize bN k = f at *
    go_quiet (fail)
    go_wp2_with fail
    go_ret
    exact ⟨ret_bool (by first | rfl | simp), below_drewN X4.out.1 nq⟩
  · have h4 : 12 ≤ (k : Int) := by omega
    generalize dN k = d at *
    go_quiet (fail)
    go_wp2_with fail
    go_ret
    exact ⟨ret_bool (by first | rfl | simp), below_drewN X4.out.1 nq⟩
end Go.Proofs.YtebdlefdkadhnaaDoor
