/- The statements' call awake: the page's examples. -/
import Derived.Test.YtkalaojbmedhjaaDs
namespace Go.Proofs.Ytkalaojbmedhjaa
open Go.RowKit Go.Maps
set_option linter.unusedVariables false
set_option linter.unusedSimpArgs false
set_option maxRecDepth 100000
set_option maxHeartbeats 1000000 in
theorem awake_any (w : World) : Calls Try.prog 8 #[] w fun e w' => e = .returned (.bool true) ∧ Below w.heap.size w w' := by
  have CN : Hid (∀ V, Calls Try.prog 11 #[.int .u64 2, .bool false] V fun e w' => ∃ db bm, e = .returned (.tuple #[.pointer (some ⟨db, 0, none⟩), .int .i64 0]) ∧ DiskAt w' db bm (newK 2 false) ∧ V.heap.size ≤ db ∧ V.heap.size ≤ bm ∧ Below V.heap.size V w') := fun V => new_yes 2 false (by omega) (by omega) V
  have CR : Hid (∀ V db bm, DiskAt V db bm (newK 2 false) → Calls Try.prog 21 #[.pointer (some ⟨db, 0, none⟩), .int .u64 1, .int .u64 1024] V fun e w' => e = .returned (.tuple #[.slice none 0 0, .int .i64 131]) ∧ DiskAt w' db bm (askK (newK 2 false)) ∧ Two db bm V w') := fun V db bm h => read_bad h 1 1024 (by omega) (by omega) (by decide)
  have CF : Hid (∀ V db bm, DiskAt V db bm (askK (newK 2 false)) → Calls Try.prog 20 #[.pointer (some ⟨db, 0, none⟩), .int .u64 2] V fun e w' => e = .returned (.tuple #[]) ∧ DiskAt w' db bm (failK (askK (newK 2 false)) 2) ∧ Two db bm V w') := fun V db bm h => fail_any h 2 (by omega)
  have C1 : Hid (∀ V db bm, DiskAt V db bm (failK (askK (newK 2 false)) 2) → Calls Try.prog 25 #[.pointer (some ⟨db, 0, none⟩)] V fun e w' => e = .returned (.int .i64 0) ∧ DiskAt w' db bm (flushK (failK (askK (newK 2 false)) 2)) ∧ Two db bm V w') := fun V db bm h => flush_any h
  have C2 : Hid (∀ V db bm, DiskAt V db bm (flushK (failK (askK (newK 2 false)) 2)) → Calls Try.prog 25 #[.pointer (some ⟨db, 0, none⟩)] V fun e w' => e = .returned (.int .i64 133) ∧ DiskAt w' db bm (flushK (flushK (failK (askK (newK 2 false)) 2))) ∧ Two db bm V w') := fun V db bm h => flush_any h
  have C3 : Hid (∀ V db bm, DiskAt V db bm (flushK (flushK (failK (askK (newK 2 false)) 2))) → Calls Try.prog 25 #[.pointer (some ⟨db, 0, none⟩)] V fun e w' => e = .returned (.int .i64 0) ∧ DiskAt w' db bm (flushK (flushK (flushK (failK (askK (newK 2 false)) 2)))) ∧ Two db bm V w') := fun V db bm h => flush_any h
  generalize flushK (flushK (flushK (failK (askK (newK 2 false)) 2))) = K5 at *
  generalize flushK (flushK (failK (askK (newK 2 false)) 2)) = K4 at *
  generalize flushK (failK (askK (newK 2 false)) 2) = K3 at *
  generalize failK (askK (newK 2 false)) 2 = K2 at *
  generalize askK (newK 2 false) = K1 at *
  generalize newK 2 false = K0 at *
  go_enter Try.func8, Try.ntmps8
  go_wp2_with fail
  refine (CN.out _).mono ?_
  rintro e w1 ⟨db, bm, rfl, h1, g1, g2, b1⟩
  have X1 : Hid (DiskAt w1 db bm K0 ∧ Below w.heap.size w w1 ∧ w.heap.size ≤ db ∧ w.heap.size ≤ bm) := ⟨h1, b1, g1, g2⟩
  clear h1 g1 g2 b1
  go_wp2_with fail
  refine (CR.out _ db bm X1.out.1).mono ?_
  rintro e w2 ⟨rfl, h1, t1⟩
  have X2 : Hid (DiskAt w2 db bm K1 ∧ Below w.heap.size w w2 ∧ w.heap.size ≤ db ∧ w.heap.size ≤ bm) := ⟨h1, X1.out.2.1.trans (t1.below X1.out.2.2.1 X1.out.2.2.2 X1.out.2.1.size), X1.out.2.2⟩
  clear h1 t1 X1
  go_wp2_with fail
  refine (CF.out _ db bm X2.out.1).mono ?_
  rintro e w3 ⟨rfl, h1, t1⟩
  have X3 : Hid (DiskAt w3 db bm K2 ∧ Below w.heap.size w w3 ∧ w.heap.size ≤ db ∧ w.heap.size ≤ bm) := ⟨h1, X2.out.2.1.trans (t1.below X2.out.2.2.1 X2.out.2.2.2 X2.out.2.1.size), X2.out.2.2⟩
  clear h1 t1 X2
  go_wp2_with fail
  refine (C1.out _ db bm X3.out.1).mono ?_
  rintro e w4 ⟨rfl, h1, t1⟩
  have X4 : Hid (DiskAt w4 db bm K3 ∧ Below w.heap.size w w4 ∧ w.heap.size ≤ db ∧ w.heap.size ≤ bm) := ⟨h1, X3.out.2.1.trans (t1.below X3.out.2.2.1 X3.out.2.2.2 X3.out.2.1.size), X3.out.2.2⟩
  clear h1 t1 X3
  go_wp2_with fail
  refine (C2.out _ db bm X4.out.1).mono ?_
  rintro e w5 ⟨rfl, h1, t1⟩
  have X5 : Hid (DiskAt w5 db bm K4 ∧ Below w.heap.size w w5 ∧ w.heap.size ≤ db ∧ w.heap.size ≤ bm) := ⟨h1, X4.out.2.1.trans (t1.below X4.out.2.2.1 X4.out.2.2.2 X4.out.2.1.size), X4.out.2.2⟩
  clear h1 t1 X4
  go_wp2_with fail
  refine (C3.out _ db bm X5.out.1).mono ?_
  rintro e w6 ⟨rfl, h1, t1⟩
  have X6 : Hid (DiskAt w6 db bm K5 ∧ Below w.heap.size w w6 ∧ w.heap.size ≤ db ∧ w.heap.size ≤ bm) := ⟨h1, X5.out.2.1.trans (t1.below X5.out.2.2.1 X5.out.2.2.2 X5.out.2.1.size), X5.out.2.2⟩
  clear h1 t1 X5
  go_wp2
  go_ret
  exact ⟨rfl, X6.out.2.1⟩
end Go.Proofs.Ytkalaojbmedhjaa
