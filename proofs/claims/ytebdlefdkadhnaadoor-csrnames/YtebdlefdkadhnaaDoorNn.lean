/- The law CsrNames. -/
import Derived.Test.YtebdlefdkadhnaaDoorAw
import Derived.Test.YtebdlefdkadhnaaDoorLa
namespace Go.Proofs.YtebdlefdkadhnaaDoor
open Go.RowKit Go.Maps
set_option linter.unusedVariables false
set_option linter.unusedSimpArgs false
set_option maxRecDepth 100000
set_option maxHeartbeats 4000000 in
theorem names_core (n : Int) (hn : (Lit.int .i64 n).wf = true) (w : World) (hR : Regs w) : Calls Tryd.prog 6 #[.int .i64 n] w fun e w' => e = .returned (.bool true) ∧ Below w.heap.size w w' := by
  have HR : Hid (Regs w) := hR
  have HA : Hid (∀ V, Regs V → Calls Tryd.prog 9 #[] V fun e w' => e = .returned (.bool true) ∧ Below V.heap.size V w') := fun V hV => awake_any V hV
  have HO : Hid (∀ V, Calls Tryd.prog 20 #[.int .i64 n] V fun e w' => e = .returned (.tuple #[.agg (rowC (ix n)), .bool (knownB n)]) ∧ Below V.heap.size V w') := fun V => of_any n V
  have HK : Hid (∀ V, Regs V → Calls Tryd.prog 21 #[.int .i64 n] V fun e w' => e = .returned (.bool (knownB n)) ∧ Below V.heap.size V w') := fun V hV => known_any n V hV
  have HN : Hid (∀ V, Regs V → Calls Tryd.prog 22 #[.int .i64 n] V fun e w' => e = .returned (.string (dName (ix n))) ∧ Below V.heap.size V w') := fun V hV => name_any n V hV
  unfold rowC at HO
  generalize dN (ix n) = z0 at *
  generalize dName (ix n) = s at *
  generalize dAt (ix n) = z2 at *
  generalize dMask (ix n) = z3 at *
  generalize knownB n = kb at *
  clear hR hn
  go_enter Tryd.func6, Tryd.ntmps6
  go_wp2_with fail
  refine (HA.out _ HR.out).mono ?_
  rintro e w1 ⟨rfl, hb1⟩
  have X1 : Hid (Below w.heap.size w w1) := hb1
  clear hb1
  go_wp2_with fail
  refine (HO.out _).mono ?_
  rintro e w2 ⟨rfl, hb2⟩
  have X2 : Hid (Below w.heap.size w w2) := X1.out.trans (hb2.mono X1.out.size)
  clear hb2
  go_upto_region 4 with fail
  have X3 : Hid (Below w.heap.size w (w2.alloc (.cells #[.int .i64 z0, .string s, .int .i64 z2, .int .u64 (z3 : Nat)] 46)) ∧ Box 46 (w2.alloc (.cells #[.int .i64 z0, .string s, .int .i64 z2, .int .u64 (z3 : Nat)] 46)) w2.heap.size #[.int .i64 z0, .string s, .int .i64 z2, .int .u64 (z3 : Nat)]) := ⟨X2.out.alloc X2.out.size _, Box.new _ _ _⟩
  generalize w2.alloc (.cells #[.int .i64 z0, .string s, .int .i64 z2, .int .u64 (z3 : Nat)] 46) = W3 at *
  generalize w2.heap.size = rb at *
  have X3d : Hid (Below w.heap.size w W3.drew ∧ Box 46 W3.drew rb #[.int .i64 z0, .string s, .int .i64 z2, .int .u64 (z3 : Nat)]) := ⟨X3.out.1.drew, X3.out.2.step (below_drew1 _)⟩
  have HRd : Hid (Regs W3.drew) := HR.out.below X3d.out.1
  have r1 : W3.cell? ⟨rb, 1, none⟩ = some (.string s) := X3.out.2.cell 1 _ rfl
  have eqs : (s.toList == s.toList) = true := by simp
  go_region_held3 (fun V => V.cell? ⟨rb, 1, none⟩ = some (.string s)) (go_keep) (first | (go_at_call 21; (with_reducible refine Calls.mono (HK.out _ HRd.out) ?_); rintro e w4 ⟨rfl, hb4⟩; have X4 : Hid (Below w.heap.size w w4 ∧ Box 46 w4 rb #[.int .i64 z0, .string s, .int .i64 z2, .int .u64 (z3 : Nat)]) := ⟨X3d.out.1.trans (hb4.mono X3d.out.1.size), X3d.out.2.step hb4⟩; have HR4 : Hid (Regs w4) := HR.out.below X4.out.1; have r4 : w4.cell? ⟨rb, 1, none⟩ = some (.string s) := X4.out.2.cell 1 _ rfl; clear hb4) | (go_at_call 22; (with_reducible refine Calls.mono (HN.out _ HR4.out) ?_); rintro e w5 ⟨rfl, hb5⟩; have X5 : Hid (Below w.heap.size w w5 ∧ Box 46 w5 rb #[.int .i64 z0, .string s, .int .i64 z2, .int .u64 (z3 : Nat)]) := ⟨X4.out.1.trans (hb5.mono X4.out.1.size), X4.out.2.step hb5⟩; have r5 : w5.cell? ⟨rb, 1, none⟩ = some (.string s) := X5.out.2.cell 1 _ rfl; clear hb5))
  all_goals go_wp2_with fail
  all_goals go_ret
  all_goals exact ⟨ret_bool (by first | rfl | simp), X5.out.1⟩
end Go.Proofs.YtebdlefdkadhnaaDoor
