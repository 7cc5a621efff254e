/- The call readPart of layer 4. -/
import Derived.Test.YtooaafbdjnlmfaaDoorRead
import Derived.Deep.DeepMust
import Derived.Test.YtooaafbdjnlmfaaDoorDec
namespace Go.Proofs.YtooaafbdjnlmfaaDoor
open Go.RowKit
set_option linter.unusedVariables false
set_option linter.unusedSimpArgs false
/-- two boxes, one behind the other -/
def Two (w w' : World) (a b : Array Value) : Prop := w'.heap[w.heap.size]? = some (.cells a 23 (0, 0)) ∧ w'.heap[w.heap.size + 1]? = some (.cells b 23 (0, 0)) ∧ Below w.heap.size w w'
theorem Two.new (w : World) (a b : Array Value) : Two w ((w.alloc (.cells a 23)).alloc (.cells b 23)) a b := by
  have h := (Below.refl w.heap.size w).alloc (Nat.le_refl _) (.cells a 23)
  refine ⟨(heap_alloc_old _ _ (by simp)).trans (heap_alloc_new w _), ?_, h.alloc h.size _⟩
  have := heap_alloc_new (w.alloc (.cells a 23)) (.cells b 23)
  rw [show (w.alloc (.cells a 23)).heap.size = w.heap.size + 1 from by simp] at this
  exact this
theorem Two.step {w w1 w2 : World} {a b : Array Value} (h : Two w w1 a b) (hb : Below w1.heap.size w1 w2) : Two w w2 a b :=
  ⟨below_box8 h.1 hb, below_box8 h.2.1 hb, below_call h.2.2 hb⟩
set_option maxRecDepth 100000 in
set_option maxHeartbeats 1000000 in
theorem rpart_100 (s : ByteArray) (hs : s.size ≤ 1000) (op rd rs1 rs2 imm csr : Int) (aq rl : Bool) (w : World) (ht : TabsLie w) : Calls Tryd.prog 47 #[.int .u8 100, .string s, .agg (instrC op rd rs1 rs2 imm csr aq rl)] w fun e w' => e = .returned (.tuple #[.agg (instrC op (intN (regT s)) rs1 rs2 imm csr aq rl), .bool (regOk s)]) ∧ Below w.heap.size w w' := by
  have HC : Hid (∀ V, Below ((w.alloc (.cells (instrC op rd rs1 rs2 imm csr aq rl) 23)).alloc (.cells (#[.int .i64 0, .int .i64 0, .int .i64 0, .int .i64 0, .int .i64 0, .int .i64 0, .bool false, .bool false]) 23)).heap.size ((w.alloc (.cells (instrC op rd rs1 rs2 imm csr aq rl) 23)).alloc (.cells (#[.int .i64 0, .int .i64 0, .int .i64 0, .int .i64 0, .int .i64 0, .int .i64 0, .bool false, .bool false]) 23)) V → Calls Tryd.prog 62 #[.string s] V fun e w' => e = .returned (.tuple #[.int .i64 (intN (regT s)), .bool (regOk s)]) ∧ Below V.heap.size V w') := fun V hV => readreg_any s hs V (tabs_below ht ((Two.new w _ _).2.2.trans (hV.mono (Two.new w _ _).2.2.size)))
  have S : Hid (Two w ((w.alloc (.cells (instrC op rd rs1 rs2 imm csr aq rl) 23)).alloc (.cells (#[.int .i64 0, .int .i64 0, .int .i64 0, .int .i64 0, .int .i64 0, .int .i64 0, .bool false, .bool false]) 23)) (instrC op rd rs1 rs2 imm csr aq rl) (#[.int .i64 0, .int .i64 0, .int .i64 0, .int .i64 0, .int .i64 0, .int .i64 0, .bool false, .bool false])) := Two.new w (instrC op rd rs1 rs2 imm csr aq rl) (#[.int .i64 0, .int .i64 0, .int .i64 0, .int .i64 0, .int .i64 0, .int .i64 0, .bool false, .bool false])
  clear ht
  generalize intN (regT s) = v at *
  generalize regOk s = ok at *
  have hne : w.heap.size ≠ w.heap.size + 1 := by omega
  have hne' : w.heap.size + 1 ≠ w.heap.size := by omega
  go_enter Tryd.func47, Tryd.ntmps47
  go_wp2_with (go_at_call 62; go_must ((with_reducible refine Calls.mono (HC.out _ (Below.refl _ _)) ?_); rintro e w3 ⟨rfl, hb3⟩; have S3 : Hid (Two w w3 (instrC op rd rs1 rs2 imm csr aq rl) (#[.int .i64 0, .int .i64 0, .int .i64 0, .int .i64 0, .int .i64 0, .int .i64 0, .bool false, .bool false])) := S.out.step hb3; obtain ⟨q0, q1, q2, q3, q4, q5, q6, q7⟩ := box8_facts S3.out.1; obtain ⟨r0, r1, r2, r3, r4, r5, r6, r7⟩ := box8_facts S3.out.2.1; have y0 := box8_frozen S3.out.1 1; have z0 := box8_frozen S3.out.2.1 0; have z1 := box8_frozen S3.out.2.1 1; have z2 := box8_frozen S3.out.2.1 2; have z3 := box8_frozen S3.out.2.1 3; have z4 := box8_frozen S3.out.2.1 4; have z5 := box8_frozen S3.out.2.1 5; have z6 := box8_frozen S3.out.2.1 6; have z7 := box8_frozen S3.out.2.1 7; clear hb3))
  refine bodyPost_ret (v := .tuple #[.agg (instrC op v rs1 rs2 imm csr aq rl), .bool ok]) (by simp [results, Tryd.results47, go_sem, q0, q1, q2, q3, q4, q5, q6, q7, r0, r1, r2, r3, r4, r5, r6, r7, hne, hne']) rfl ⟨rfl, ?_⟩
  iterate 9 (refine Below.setCell ?_ (by first | exact Nat.le_refl _ | exact Nat.le_succ _) _)
  exact S3.out.2.2
set_option maxRecDepth 100000 in
set_option maxHeartbeats 1000000 in
theorem rpart_97 (s : ByteArray) (hs : s.size ≤ 1000) (op rd rs1 rs2 imm csr : Int) (aq rl : Bool) (w : World) (ht : TabsLie w) : Calls Tryd.prog 47 #[.int .u8 97, .string s, .agg (instrC op rd rs1 rs2 imm csr aq rl)] w fun e w' => e = .returned (.tuple #[.agg (instrC op rd (intN (regT s)) rs2 imm csr aq rl), .bool (regOk s)]) ∧ Below w.heap.size w w' := by
  have HC : Hid (∀ V, Below ((w.alloc (.cells (instrC op rd rs1 rs2 imm csr aq rl) 23)).alloc (.cells (#[.int .i64 0, .int .i64 0, .int .i64 0, .int .i64 0, .int .i64 0, .int .i64 0, .bool false, .bool false]) 23)).heap.size ((w.alloc (.cells (instrC op rd rs1 rs2 imm csr aq rl) 23)).alloc (.cells (#[.int .i64 0, .int .i64 0, .int .i64 0, .int .i64 0, .int .i64 0, .int .i64 0, .bool false, .bool false]) 23)) V → Calls Tryd.prog 62 #[.string s] V fun e w' => e = .returned (.tuple #[.int .i64 (intN (regT s)), .bool (regOk s)]) ∧ Below V.heap.size V w') := fun V hV => readreg_any s hs V (tabs_below ht ((Two.new w _ _).2.2.trans (hV.mono (Two.new w _ _).2.2.size)))
  have S : Hid (Two w ((w.alloc (.cells (instrC op rd rs1 rs2 imm csr aq rl) 23)).alloc (.cells (#[.int .i64 0, .int .i64 0, .int .i64 0, .int .i64 0, .int .i64 0, .int .i64 0, .bool false, .bool false]) 23)) (instrC op rd rs1 rs2 imm csr aq rl) (#[.int .i64 0, .int .i64 0, .int .i64 0, .int .i64 0, .int .i64 0, .int .i64 0, .bool false, .bool false])) := Two.new w (instrC op rd rs1 rs2 imm csr aq rl) (#[.int .i64 0, .int .i64 0, .int .i64 0, .int .i64 0, .int .i64 0, .int .i64 0, .bool false, .bool false])
  clear ht
  generalize intN (regT s) = v at *
  generalize regOk s = ok at *
  have hne : w.heap.size ≠ w.heap.size + 1 := by omega
  have hne' : w.heap.size + 1 ≠ w.heap.size := by omega
  go_enter Tryd.func47, Tryd.ntmps47
  go_wp2_with (go_at_call 62; go_must ((with_reducible refine Calls.mono (HC.out _ (Below.refl _ _)) ?_); rintro e w3 ⟨rfl, hb3⟩; have S3 : Hid (Two w w3 (instrC op rd rs1 rs2 imm csr aq rl) (#[.int .i64 0, .int .i64 0, .int .i64 0, .int .i64 0, .int .i64 0, .int .i64 0, .bool false, .bool false])) := S.out.step hb3; obtain ⟨q0, q1, q2, q3, q4, q5, q6, q7⟩ := box8_facts S3.out.1; obtain ⟨r0, r1, r2, r3, r4, r5, r6, r7⟩ := box8_facts S3.out.2.1; have y0 := box8_frozen S3.out.1 2; have z0 := box8_frozen S3.out.2.1 0; have z1 := box8_frozen S3.out.2.1 1; have z2 := box8_frozen S3.out.2.1 2; have z3 := box8_frozen S3.out.2.1 3; have z4 := box8_frozen S3.out.2.1 4; have z5 := box8_frozen S3.out.2.1 5; have z6 := box8_frozen S3.out.2.1 6; have z7 := box8_frozen S3.out.2.1 7; clear hb3))
  refine bodyPost_ret (v := .tuple #[.agg (instrC op rd v rs2 imm csr aq rl), .bool ok]) (by simp [results, Tryd.results47, go_sem, q0, q1, q2, q3, q4, q5, q6, q7, r0, r1, r2, r3, r4, r5, r6, r7, hne, hne']) rfl ⟨rfl, ?_⟩
  iterate 9 (refine Below.setCell ?_ (by first | exact Nat.le_refl _ | exact Nat.le_succ _) _)
  exact S3.out.2.2
set_option maxRecDepth 100000 in
set_option maxHeartbeats 1000000 in
theorem rpart_98 (s : ByteArray) (hs : s.size ≤ 1000) (op rd rs1 rs2 imm csr : Int) (aq rl : Bool) (w : World) (ht : TabsLie w) : Calls Tryd.prog 47 #[.int .u8 98, .string s, .agg (instrC op rd rs1 rs2 imm csr aq rl)] w fun e w' => e = .returned (.tuple #[.agg (instrC op rd rs1 (intN (regT s)) imm csr aq rl), .bool (regOk s)]) ∧ Below w.heap.size w w' := by
  have HC : Hid (∀ V, Below ((w.alloc (.cells (instrC op rd rs1 rs2 imm csr aq rl) 23)).alloc (.cells (#[.int .i64 0, .int .i64 0, .int .i64 0, .int .i64 0, .int .i64 0, .int .i64 0, .bool false, .bool false]) 23)).heap.size ((w.alloc (.cells (instrC op rd rs1 rs2 imm csr aq rl) 23)).alloc (.cells (#[.int .i64 0, .int .i64 0, .int .i64 0, .int .i64 0, .int .i64 0, .int .i64 0, .bool false, .bool false]) 23)) V → Calls Tryd.prog 62 #[.string s] V fun e w' => e = .returned (.tuple #[.int .i64 (intN (regT s)), .bool (regOk s)]) ∧ Below V.heap.size V w') := fun V hV => readreg_any s hs V (tabs_below ht ((Two.new w _ _).2.2.trans (hV.mono (Two.new w _ _).2.2.size)))
  have S : Hid (Two w ((w.alloc (.cells (instrC op rd rs1 rs2 imm csr aq rl) 23)).alloc (.cells (#[.int .i64 0, .int .i64 0, .int .i64 0, .int .i64 0, .int .i64 0, .int .i64 0, .bool false, .bool false]) 23)) (instrC op rd rs1 rs2 imm csr aq rl) (#[.int .i64 0, .int .i64 0, .int .i64 0, .int .i64 0, .int .i64 0, .int .i64 0, .bool false, .bool false])) := Two.new w (instrC op rd rs1 rs2 imm csr aq rl) (#[.int .i64 0, .int .i64 0, .int .i64 0, .int .i64 0, .int .i64 0, .int .i64 0, .bool false, .bool false])
  clear ht
  generalize intN (regT s) = v at *
  generalize regOk s = ok at *
  have hne : w.heap.size ≠ w.heap.size + 1 := by omega
  have hne' : w.heap.size + 1 ≠ w.heap.size := by omega
  go_enter Tryd.func47, Tryd.ntmps47
  go_wp2_with (go_at_call 62; go_must ((with_reducible refine Calls.mono (HC.out _ (Below.refl _ _)) ?_); rintro e w3 ⟨rfl, hb3⟩; have S3 : Hid (Two w w3 (instrC op rd rs1 rs2 imm csr aq rl) (#[.int .i64 0, .int .i64 0, .int .i64 0, .int .i64 0, .int .i64 0, .int .i64 0, .bool false, .bool false])) := S.out.step hb3; obtain ⟨q0, q1, q2, q3, q4, q5, q6, q7⟩ := box8_facts S3.out.1; obtain ⟨r0, r1, r2, r3, r4, r5, r6, r7⟩ := box8_facts S3.out.2.1; have y0 := box8_frozen S3.out.1 3; have z0 := box8_frozen S3.out.2.1 0; have z1 := box8_frozen S3.out.2.1 1; have z2 := box8_frozen S3.out.2.1 2; have z3 := box8_frozen S3.out.2.1 3; have z4 := box8_frozen S3.out.2.1 4; have z5 := box8_frozen S3.out.2.1 5; have z6 := box8_frozen S3.out.2.1 6; have z7 := box8_frozen S3.out.2.1 7; clear hb3))
  refine bodyPost_ret (v := .tuple #[.agg (instrC op rd rs1 v imm csr aq rl), .bool ok]) (by simp [results, Tryd.results47, go_sem, q0, q1, q2, q3, q4, q5, q6, q7, r0, r1, r2, r3, r4, r5, r6, r7, hne, hne']) rfl ⟨rfl, ?_⟩
  iterate 9 (refine Below.setCell ?_ (by first | exact Nat.le_refl _ | exact Nat.le_succ _) _)
  exact S3.out.2.2
set_option maxRecDepth 100000 in
set_option maxHeartbeats 1000000 in
theorem rpart_110 (s : ByteArray) (hs : s.size ≤ 1000) (op rd rs1 rs2 imm csr : Int) (aq rl : Bool) (w : World) (ht : TabsLie w) : Calls Tryd.prog 47 #[.int .u8 110, .string s, .agg (instrC op rd rs1 rs2 imm csr aq rl)] w fun e w' => e = .returned (.tuple #[.agg (instrC op rd rs1 rs2 (intN s) csr aq rl), .bool (intOk s)]) ∧ Below w.heap.size w w' := by
  have HC : Hid (∀ V, Below ((w.alloc (.cells (instrC op rd rs1 rs2 imm csr aq rl) 23)).alloc (.cells (#[.int .i64 0, .int .i64 0, .int .i64 0, .int .i64 0, .int .i64 0, .int .i64 0, .bool false, .bool false]) 23)).heap.size ((w.alloc (.cells (instrC op rd rs1 rs2 imm csr aq rl) 23)).alloc (.cells (#[.int .i64 0, .int .i64 0, .int .i64 0, .int .i64 0, .int .i64 0, .int .i64 0, .bool false, .bool false]) 23)) V → Calls Tryd.prog 63 #[.string s] V fun e w' => e = .returned (.tuple #[.int .i64 (intN s), .bool (intOk s)]) ∧ Below V.heap.size V w') := fun V hV => (pint_any s (by omega) V).mono (by rintro e w' ⟨rfl, rfl⟩; exact ⟨rfl, Below.refl _ _⟩)
  have S : Hid (Two w ((w.alloc (.cells (instrC op rd rs1 rs2 imm csr aq rl) 23)).alloc (.cells (#[.int .i64 0, .int .i64 0, .int .i64 0, .int .i64 0, .int .i64 0, .int .i64 0, .bool false, .bool false]) 23)) (instrC op rd rs1 rs2 imm csr aq rl) (#[.int .i64 0, .int .i64 0, .int .i64 0, .int .i64 0, .int .i64 0, .int .i64 0, .bool false, .bool false])) := Two.new w (instrC op rd rs1 rs2 imm csr aq rl) (#[.int .i64 0, .int .i64 0, .int .i64 0, .int .i64 0, .int .i64 0, .int .i64 0, .bool false, .bool false])
  clear ht
  generalize intN s = v at *
  generalize intOk s = ok at *
  have hne : w.heap.size ≠ w.heap.size + 1 := by omega
  have hne' : w.heap.size + 1 ≠ w.heap.size := by omega
  go_enter Tryd.func47, Tryd.ntmps47
  go_wp2_with (go_at_call 63; go_must ((with_reducible refine Calls.mono (HC.out _ (Below.refl _ _)) ?_); rintro e w3 ⟨rfl, hb3⟩; have S3 : Hid (Two w w3 (instrC op rd rs1 rs2 imm csr aq rl) (#[.int .i64 0, .int .i64 0, .int .i64 0, .int .i64 0, .int .i64 0, .int .i64 0, .bool false, .bool false])) := S.out.step hb3; obtain ⟨q0, q1, q2, q3, q4, q5, q6, q7⟩ := box8_facts S3.out.1; obtain ⟨r0, r1, r2, r3, r4, r5, r6, r7⟩ := box8_facts S3.out.2.1; have y0 := box8_frozen S3.out.1 4; have z0 := box8_frozen S3.out.2.1 0; have z1 := box8_frozen S3.out.2.1 1; have z2 := box8_frozen S3.out.2.1 2; have z3 := box8_frozen S3.out.2.1 3; have z4 := box8_frozen S3.out.2.1 4; have z5 := box8_frozen S3.out.2.1 5; have z6 := box8_frozen S3.out.2.1 6; have z7 := box8_frozen S3.out.2.1 7; clear hb3))
  refine bodyPost_ret (v := .tuple #[.agg (instrC op rd rs1 rs2 v csr aq rl), .bool ok]) (by simp [results, Tryd.results47, go_sem, q0, q1, q2, q3, q4, q5, q6, q7, r0, r1, r2, r3, r4, r5, r6, r7, hne, hne']) rfl ⟨rfl, ?_⟩
  iterate 9 (refine Below.setCell ?_ (by first | exact Nat.le_refl _ | exact Nat.le_succ _) _)
  exact S3.out.2.2
set_option maxRecDepth 100000 in
set_option maxHeartbeats 1000000 in
theorem rpart_117 (s : ByteArray) (hs : s.size ≤ 1000) (op rd rs1 rs2 imm csr : Int) (aq rl : Bool) (w : World) (ht : TabsLie w) : Calls Tryd.prog 47 #[.int .u8 117, .string s, .agg (instrC op rd rs1 rs2 imm csr aq rl)] w fun e w' => e = .returned (.tuple #[.agg (instrC op rd rs1 rs2 (upN s) csr aq rl), .bool (upOk s)]) ∧ Below w.heap.size w w' := by
  have HC : Hid (∀ V, Below ((w.alloc (.cells (instrC op rd rs1 rs2 imm csr aq rl) 23)).alloc (.cells (#[.int .i64 0, .int .i64 0, .int .i64 0, .int .i64 0, .int .i64 0, .int .i64 0, .bool false, .bool false]) 23)).heap.size ((w.alloc (.cells (instrC op rd rs1 rs2 imm csr aq rl) 23)).alloc (.cells (#[.int .i64 0, .int .i64 0, .int .i64 0, .int .i64 0, .int .i64 0, .int .i64 0, .bool false, .bool false]) 23)) V → Calls Tryd.prog 64 #[.string s] V fun e w' => e = .returned (.tuple #[.int .i64 (upN s), .bool (upOk s)]) ∧ Below V.heap.size V w') := fun V hV => readupper_any s hs V
  have S : Hid (Two w ((w.alloc (.cells (instrC op rd rs1 rs2 imm csr aq rl) 23)).alloc (.cells (#[.int .i64 0, .int .i64 0, .int .i64 0, .int .i64 0, .int .i64 0, .int .i64 0, .bool false, .bool false]) 23)) (instrC op rd rs1 rs2 imm csr aq rl) (#[.int .i64 0, .int .i64 0, .int .i64 0, .int .i64 0, .int .i64 0, .int .i64 0, .bool false, .bool false])) := Two.new w (instrC op rd rs1 rs2 imm csr aq rl) (#[.int .i64 0, .int .i64 0, .int .i64 0, .int .i64 0, .int .i64 0, .int .i64 0, .bool false, .bool false])
  clear ht
  generalize upN s = v at *
  generalize upOk s = ok at *
  have hne : w.heap.size ≠ w.heap.size + 1 := by omega
  have hne' : w.heap.size + 1 ≠ w.heap.size := by omega
  go_enter Tryd.func47, Tryd.ntmps47
  go_wp2_with (go_at_call 64; go_must ((with_reducible refine Calls.mono (HC.out _ (Below.refl _ _)) ?_); rintro e w3 ⟨rfl, hb3⟩; have S3 : Hid (Two w w3 (instrC op rd rs1 rs2 imm csr aq rl) (#[.int .i64 0, .int .i64 0, .int .i64 0, .int .i64 0, .int .i64 0, .int .i64 0, .bool false, .bool false])) := S.out.step hb3; obtain ⟨q0, q1, q2, q3, q4, q5, q6, q7⟩ := box8_facts S3.out.1; obtain ⟨r0, r1, r2, r3, r4, r5, r6, r7⟩ := box8_facts S3.out.2.1; have y0 := box8_frozen S3.out.1 4; have z0 := box8_frozen S3.out.2.1 0; have z1 := box8_frozen S3.out.2.1 1; have z2 := box8_frozen S3.out.2.1 2; have z3 := box8_frozen S3.out.2.1 3; have z4 := box8_frozen S3.out.2.1 4; have z5 := box8_frozen S3.out.2.1 5; have z6 := box8_frozen S3.out.2.1 6; have z7 := box8_frozen S3.out.2.1 7; clear hb3))
  refine bodyPost_ret (v := .tuple #[.agg (instrC op rd rs1 rs2 v csr aq rl), .bool ok]) (by simp [results, Tryd.results47, go_sem, q0, q1, q2, q3, q4, q5, q6, q7, r0, r1, r2, r3, r4, r5, r6, r7, hne, hne']) rfl ⟨rfl, ?_⟩
  iterate 9 (refine Below.setCell ?_ (by first | exact Nat.le_refl _ | exact Nat.le_succ _) _)
  exact S3.out.2.2
set_option maxRecDepth 100000 in
set_option maxHeartbeats 1000000 in
theorem rpart_99 (s : ByteArray) (hs : s.size ≤ 1000) (op rd rs1 rs2 imm csr : Int) (aq rl : Bool) (w : World) (ht : TabsLie w) : Calls Tryd.prog 47 #[.int .u8 99, .string s, .agg (instrC op rd rs1 rs2 imm csr aq rl)] w fun e w' => e = .returned (.tuple #[.agg (instrC op rd rs1 rs2 imm (intN s) aq rl), .bool (intOk s)]) ∧ Below w.heap.size w w' := by
  have HC : Hid (∀ V, Below ((w.alloc (.cells (instrC op rd rs1 rs2 imm csr aq rl) 23)).alloc (.cells (#[.int .i64 0, .int .i64 0, .int .i64 0, .int .i64 0, .int .i64 0, .int .i64 0, .bool false, .bool false]) 23)).heap.size ((w.alloc (.cells (instrC op rd rs1 rs2 imm csr aq rl) 23)).alloc (.cells (#[.int .i64 0, .int .i64 0, .int .i64 0, .int .i64 0, .int .i64 0, .int .i64 0, .bool false, .bool false]) 23)) V → Calls Tryd.prog 65 #[.string s] V fun e w' => e = .returned (.tuple #[.int .i64 (intN s), .bool (intOk s)]) ∧ Below V.heap.size V w') := fun V hV => readcsr_any s hs V
  have S : Hid (Two w ((w.alloc (.cells (instrC op rd rs1 rs2 imm csr aq rl) 23)).alloc (.cells (#[.int .i64 0, .int .i64 0, .int .i64 0, .int .i64 0, .int .i64 0, .int .i64 0, .bool false, .bool false]) 23)) (instrC op rd rs1 rs2 imm csr aq rl) (#[.int .i64 0, .int .i64 0, .int .i64 0, .int .i64 0, .int .i64 0, .int .i64 0, .bool false, .bool false])) := Two.new w (instrC op rd rs1 rs2 imm csr aq rl) (#[.int .i64 0, .int .i64 0, .int .i64 0, .int .i64 0, .int .i64 0, .int .i64 0, .bool false, .bool false])
  clear ht
  generalize intN s = v at *
  generalize intOk s = ok at *
  have hne : w.heap.size ≠ w.heap.size + 1 := by omega
  have hne' : w.heap.size + 1 ≠ w.heap.size := by omega
  go_enter Tryd.func47, Tryd.ntmps47
  go_wp2_with (go_at_call 65; go_must ((with_reducible refine Calls.mono (HC.out _ (Below.refl _ _)) ?_); rintro e w3 ⟨rfl, hb3⟩; have S3 : Hid (Two w w3 (instrC op rd rs1 rs2 imm csr aq rl) (#[.int .i64 0, .int .i64 0, .int .i64 0, .int .i64 0, .int .i64 0, .int .i64 0, .bool false, .bool false])) := S.out.step hb3; obtain ⟨q0, q1, q2, q3, q4, q5, q6, q7⟩ := box8_facts S3.out.1; obtain ⟨r0, r1, r2, r3, r4, r5, r6, r7⟩ := box8_facts S3.out.2.1; have y0 := box8_frozen S3.out.1 5; have z0 := box8_frozen S3.out.2.1 0; have z1 := box8_frozen S3.out.2.1 1; have z2 := box8_frozen S3.out.2.1 2; have z3 := box8_frozen S3.out.2.1 3; have z4 := box8_frozen S3.out.2.1 4; have z5 := box8_frozen S3.out.2.1 5; have z6 := box8_frozen S3.out.2.1 6; have z7 := box8_frozen S3.out.2.1 7; clear hb3))
  refine bodyPost_ret (v := .tuple #[.agg (instrC op rd rs1 rs2 imm v aq rl), .bool ok]) (by simp [results, Tryd.results47, go_sem, q0, q1, q2, q3, q4, q5, q6, q7, r0, r1, r2, r3, r4, r5, r6, r7, hne, hne']) rfl ⟨rfl, ?_⟩
  iterate 9 (refine Below.setCell ?_ (by first | exact Nat.le_refl _ | exact Nat.le_succ _) _)
  exact S3.out.2.2
set_option maxRecDepth 100000 in
set_option maxHeartbeats 1000000 in
theorem rpart_44 (s : ByteArray) (op rd rs1 rs2 imm csr : Int) (aq rl : Bool) (w : World) : Calls Tryd.prog 47 #[.int .u8 44, .string s, .agg (instrC op rd rs1 rs2 imm csr aq rl)] w fun e w' => e = .returned (.tuple #[.agg (instrC op rd rs1 rs2 imm csr aq rl), .bool (s.toList == [44])]) ∧ Below w.heap.size w w' := by
  have S : Hid (Two w ((w.alloc (.cells (instrC op rd rs1 rs2 imm csr aq rl) 23)).alloc (.cells (#[.int .i64 0, .int .i64 0, .int .i64 0, .int .i64 0, .int .i64 0, .int .i64 0, .bool false, .bool false]) 23)) (instrC op rd rs1 rs2 imm csr aq rl) (#[.int .i64 0, .int .i64 0, .int .i64 0, .int .i64 0, .int .i64 0, .int .i64 0, .bool false, .bool false])) := Two.new w (instrC op rd rs1 rs2 imm csr aq rl) (#[.int .i64 0, .int .i64 0, .int .i64 0, .int .i64 0, .int .i64 0, .int .i64 0, .bool false, .bool false])
  have hne : w.heap.size ≠ w.heap.size + 1 := by omega
  have hne' : w.heap.size + 1 ≠ w.heap.size := by omega
  go_enter Tryd.func47, Tryd.ntmps47
  have he : (Utf8.encode 44).toList = [44] := by kernel_rfl
  go_wp2_with fail
  refine bodyPost_ret (v := .tuple #[.agg (instrC op rd rs1 rs2 imm csr aq rl), .bool (s.toList == [44])]) (by simp [results, Tryd.results47, go_sem, hne, hne', he]) rfl ⟨rfl, ?_⟩
  exact (Two.new w _ _).2.2
set_option maxRecDepth 100000 in
set_option maxHeartbeats 1000000 in
theorem rpart_40 (s : ByteArray) (op rd rs1 rs2 imm csr : Int) (aq rl : Bool) (w : World) : Calls Tryd.prog 47 #[.int .u8 40, .string s, .agg (instrC op rd rs1 rs2 imm csr aq rl)] w fun e w' => e = .returned (.tuple #[.agg (instrC op rd rs1 rs2 imm csr aq rl), .bool (s.toList == [40])]) ∧ Below w.heap.size w w' := by
  have S : Hid (Two w ((w.alloc (.cells (instrC op rd rs1 rs2 imm csr aq rl) 23)).alloc (.cells (#[.int .i64 0, .int .i64 0, .int .i64 0, .int .i64 0, .int .i64 0, .int .i64 0, .bool false, .bool false]) 23)) (instrC op rd rs1 rs2 imm csr aq rl) (#[.int .i64 0, .int .i64 0, .int .i64 0, .int .i64 0, .int .i64 0, .int .i64 0, .bool false, .bool false])) := Two.new w (instrC op rd rs1 rs2 imm csr aq rl) (#[.int .i64 0, .int .i64 0, .int .i64 0, .int .i64 0, .int .i64 0, .int .i64 0, .bool false, .bool false])
  have hne : w.heap.size ≠ w.heap.size + 1 := by omega
  have hne' : w.heap.size + 1 ≠ w.heap.size := by omega
  go_enter Tryd.func47, Tryd.ntmps47
  have he : (Utf8.encode 40).toList = [40] := by kernel_rfl
  go_wp2_with fail
  refine bodyPost_ret (v := .tuple #[.agg (instrC op rd rs1 rs2 imm csr aq rl), .bool (s.toList == [40])]) (by simp [results, Tryd.results47, go_sem, hne, hne', he]) rfl ⟨rfl, ?_⟩
  exact (Two.new w _ _).2.2
set_option maxRecDepth 100000 in
set_option maxHeartbeats 1000000 in
theorem rpart_41 (s : ByteArray) (op rd rs1 rs2 imm csr : Int) (aq rl : Bool) (w : World) : Calls Tryd.prog 47 #[.int .u8 41, .string s, .agg (instrC op rd rs1 rs2 imm csr aq rl)] w fun e w' => e = .returned (.tuple #[.agg (instrC op rd rs1 rs2 imm csr aq rl), .bool (s.toList == [41])]) ∧ Below w.heap.size w w' := by
  have S : Hid (Two w ((w.alloc (.cells (instrC op rd rs1 rs2 imm csr aq rl) 23)).alloc (.cells (#[.int .i64 0, .int .i64 0, .int .i64 0, .int .i64 0, .int .i64 0, .int .i64 0, .bool false, .bool false]) 23)) (instrC op rd rs1 rs2 imm csr aq rl) (#[.int .i64 0, .int .i64 0, .int .i64 0, .int .i64 0, .int .i64 0, .int .i64 0, .bool false, .bool false])) := Two.new w (instrC op rd rs1 rs2 imm csr aq rl) (#[.int .i64 0, .int .i64 0, .int .i64 0, .int .i64 0, .int .i64 0, .int .i64 0, .bool false, .bool false])
  have hne : w.heap.size ≠ w.heap.size + 1 := by omega
  have hne' : w.heap.size + 1 ≠ w.heap.size := by omega
  go_enter Tryd.func47, Tryd.ntmps47
  have he : (Utf8.encode 41).toList = [41] := by kernel_rfl
  go_wp2_with fail
  refine bodyPost_ret (v := .tuple #[.agg (instrC op rd rs1 rs2 imm csr aq rl), .bool (s.toList == [41])]) (by simp [results, Tryd.results47, go_sem, hne, hne', he]) rfl ⟨rfl, ?_⟩
  exact (Two.new w _ _).2.2
/-- an instruction -/
structure Ins where
  op : Int
  rd : Int
  rs1 : Int
  rs2 : Int
  imm : Int
  csr : Int
  aq : Bool
  rl : Bool
  deriving DecidableEq
def Ins.c (x : Ins) : Array Value := instrC x.op x.rd x.rs1 x.rs2 x.imm x.csr x.aq x.rl
/-- what a piece tells -/
def readS (c : UInt8) (s : ByteArray) (x : Ins) : Ins × Bool :=
  if c = 100 then ({x with rd := intN (regT s)}, regOk s) else if c = 97 then ({x with rs1 := intN (regT s)}, regOk s) else if c = 98 then ({x with rs2 := intN (regT s)}, regOk s) else if c = 110 then ({x with imm := intN s}, intOk s) else if c = 117 then ({x with imm := upN s}, upOk s) else if c = 99 then ({x with csr := intN s}, intOk s) else (x, s.toList == [c])
theorem rpart_all (c : UInt8) (hc : c ∈ letters) (s : ByteArray) (hs : s.size ≤ 1000) (x : Ins) (w : World) (ht : TabsLie w) : Calls Tryd.prog 47 #[.int .u8 (c.toNat : Int), .string s, .agg x.c] w fun e w' => e = .returned (.tuple #[.agg (readS c s x).1.c, .bool (readS c s x).2]) ∧ Below w.heap.size w w' := by
  simp only [letters, List.mem_cons, List.not_mem_nil, or_false] at hc
  rcases hc with rfl | rfl | rfl | rfl | rfl | rfl | rfl | rfl | rfl
  · exact rpart_100 s hs x.op x.rd x.rs1 x.rs2 x.imm x.csr x.aq x.rl w ht
  · exact rpart_97 s hs x.op x.rd x.rs1 x.rs2 x.imm x.csr x.aq x.rl w ht
  · exact rpart_98 s hs x.op x.rd x.rs1 x.rs2 x.imm x.csr x.aq x.rl w ht
  · exact rpart_110 s hs x.op x.rd x.rs1 x.rs2 x.imm x.csr x.aq x.rl w ht
  · exact rpart_117 s hs x.op x.rd x.rs1 x.rs2 x.imm x.csr x.aq x.rl w ht
  · exact rpart_99 s hs x.op x.rd x.rs1 x.rs2 x.imm x.csr x.aq x.rl w ht
  · exact rpart_44 s x.op x.rd x.rs1 x.rs2 x.imm x.csr x.aq x.rl w
  · exact rpart_40 s x.op x.rd x.rs1 x.rs2 x.imm x.csr x.aq x.rl w
  · exact rpart_41 s x.op x.rd x.rs1 x.rs2 x.imm x.csr x.aq x.rl w
end Go.Proofs.YtooaafbdjnlmfaaDoor
