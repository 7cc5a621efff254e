/- The calls readReg, readUpper and readCSR of layer 4. -/
import Derived.Test.YtooaafbdjnlmfaaGreatDoorQPart
import Derived.Deep.DeepMust
import Derived.Test.YtooaafbdjnlmfaaGreatDoorQOut
import Derived.BigQuiet
namespace Go.Proofs.YtooaafbdjnlmfaaGreatDoor
open Go.RowKit
set_option linter.unusedVariables false
set_option linter.unusedSimpArgs false
theorem intN_bounds (s : ByteArray) : -9223372036854775808 ≤ intN s ∧ intN s ≤ 9223372036854775807 := by
  unfold intN
  split <;> split <;> omega
/-- a register's digits -/
def regT (s : ByteArray) : ByteArray := mk (Lib.trimPrefix s.data.toList [120])
theorem trim_len (l p : List UInt8) : (Lib.trimPrefix l p).length ≤ l.length := by
  unfold Lib.trimPrefix; split <;> simp
theorem regT_size (s : ByteArray) : (regT s).size ≤ s.size := by
  unfold regT; rw [mk_size]; exact trim_len _ _
def regOk (s : ByteArray) : Bool := intOk (regT s) && ((mk (regL (intN (regT s)))).toList == s.toList)
set_option maxRecDepth 100000 in
theorem readreg_any (s : ByteArray) (hs : s.size ≤ 1000) (w : World) (ht : TabsLie w) : Calls Tryz.prog 108 #[.string s] w fun e w' => e = .returned (.tuple #[.int .i64 (intN (regT s)), .bool (regOk s)]) ∧ Below w.heap.size w w' := by
  have HT : Hid (Calls Tryz.prog 133 #[.string s, .string ⟨#[120]⟩] w fun e w' => e = .returned (.string (regT s)) ∧ w' = w) := Tryz.strings_TrimPrefix s ⟨#[120]⟩ w
  have hsz := regT_size s
  have HI : Hid (Calls Tryz.prog 109 #[.string (regT s)] w fun e w' => e = .returned (.tuple #[.int .i64 (intN (regT s)), .bool (intOk (regT s))]) ∧ w' = w) := pint_any _ (by omega) w
  have hb := intN_bounds (regT s)
  have HR : Hid (Calls Tryz.prog 11 #[.int .i64 (intN (regT s))] w fun e w' => e = .returned (.string (mk (regL (intN (regT s))))) ∧ Below w.heap.size w w') := reg_any _ hb.1 hb.2 w ht
  have HO : Hid (regOk s = (intOk (regT s) && ((mk (regL (intN (regT s)))).toList == s.toList))) := (rfl : regOk s = _)
  clear ht hsz hb
  generalize regOk s = ok at *
  generalize mk (regL (intN (regT s))) = rs at *
  generalize intN (regT s) = n at *
  generalize hi : intOk (regT s) = io at *
  generalize regT s = t at *
  cases io
  · go_enter Tryz.func108, Tryz.ntmps108
    go_wp2_with (first | (go_at_call 133; (with_reducible refine Calls.mono HT.out ?_); rintro e w9 ⟨rfl, rfl⟩) | (go_at_call 109; (with_reducible refine Calls.mono HI.out ?_); rintro e w9 ⟨rfl, rfl⟩))
    go_ret2
    exact ⟨by rw [HO.out]; rfl, Below.refl _ _⟩
  · go_enter Tryz.func108, Tryz.ntmps108
    go_wp2_with (first | (go_at_call 133; (with_reducible refine Calls.mono HT.out ?_); rintro e w9 ⟨rfl, rfl⟩) | (go_at_call 109; (with_reducible refine Calls.mono HI.out ?_); rintro e w9 ⟨rfl, rfl⟩) | (go_at_call 11; (with_reducible refine Calls.mono HR.out ?_); rintro e w8 ⟨rfl, hb8⟩))
    go_ret2
    exact ⟨by rw [HO.out]; rfl, hb8⟩
def upN (s : ByteArray) : Int := wrap64 (intN s * 4096)
def upOk (s : ByteArray) : Bool := intOk s && (wrap64 ((upN s).tdiv 4096) == intN s)
set_option maxRecDepth 100000 in
theorem readupper_any (s : ByteArray) (hs : s.size ≤ 1000) (w : World) : Calls Tryz.prog 110 #[.string s] w fun e w' => e = .returned (.tuple #[.int .i64 (upN s), .bool (upOk s)]) ∧ Below w.heap.size w w' := by
  have HI : Hid (Calls Tryz.prog 109 #[.string s] w fun e w' => e = .returned (.tuple #[.int .i64 (intN s), .bool (intOk s)]) ∧ w' = w) := pint_any _ (by omega) w
  have HO : Hid (upOk s = (intOk s && (wrap64 ((upN s).tdiv 4096) == intN s))) := (rfl : upOk s = _)
  have HU : Hid (upN s = wrap64 (intN s * 4096)) := (rfl : upN s = _)
  generalize upOk s = ok at *
  generalize intN s = n at *
  generalize hi : intOk s = io at *
  cases io
  · go_enter Tryz.func110, Tryz.ntmps110
    go_wp2_with (first | (go_at_call 109; (with_reducible refine Calls.mono HI.out ?_); rintro e w9 ⟨rfl, rfl⟩))
    go_ret2
    exact ⟨by rw [HO.out, HU.out]; rfl, Below.refl _ _⟩
  · go_enter Tryz.func110, Tryz.ntmps110
    go_wp2_with (first | (go_at_call 109; (with_reducible refine Calls.mono HI.out ?_); rintro e w9 ⟨rfl, rfl⟩))
    go_ret2
    exact ⟨by rw [HO.out, HU.out]; rfl, Below.refl _ _⟩
set_option maxRecDepth 100000 in
theorem readcsr_any (s : ByteArray) (hs : s.size ≤ 1000) (w : World) : Calls Tryz.prog 111 #[.string s] w fun e w' => e = .returned (.tuple #[.int .i64 (intN s), .bool (intOk s)]) ∧ Below w.heap.size w w' := by
  have HI : Hid (Calls Tryz.prog 109 #[.string s] w fun e w' => e = .returned (.tuple #[.int .i64 (intN s), .bool (intOk s)]) ∧ w' = w) := pint_any _ (by omega) w
  generalize intN s = n at *
  generalize hi : intOk s = io at *
  cases io <;>
  (go_enter Tryz.func111, Tryz.ntmps111
   go_wp2_with (first | (go_at_call 109; (with_reducible refine Calls.mono HI.out ?_); rintro e w9 ⟨rfl, rfl⟩))
   go_ret2
   refine ⟨?_, Below.refl _ _⟩
   first | rfl | simp)
end Go.Proofs.YtooaafbdjnlmfaaGreatDoor

namespace Go.Proofs.YtooaafbdjnlmfaaGreatDoor
open Go.RowKit
set_option linter.unusedVariables false
set_option linter.unusedSimpArgs false
/-- two boxes, one behind the other -/
def Two (w w' : World) (a b : Array Value) : Prop := w'.heap[w.heap.size]? = some (.cells a 23 (0, 0)) ∧ w'.heap[w.heap.size + 1]? = some (.cells b 23 (0, 0)) ∧ Below w.heap.size w w'
theorem Two.new (w : World) (a b : Array Value) : Two w ((w.alloc (.cells a 23)).alloc (.cells b 23)) a b := by
  have h := (Below.refl w.heap.size w).alloc (Nat.le_refl _) (.cells a 23)
  refine ⟨(heap_alloc_old _ _ (by simp)).trans (heap_alloc_new w _), ?_, h.alloc h.size _⟩
  have := heap_alloc_new (w.alloc (.cells a 23)) (.cells b 23)
  rw [show (w.alloc (.cells a 23)).heap.size = w.heap.size + 1 from by simp] at this
  exact this
theorem Two.step {w w1 w2 : World} {a b : Array Value} (h : Two w w1 a b) (hb : Below w1.heap.size w1 w2) : Two w w2 a b :=
  ⟨below_box8 h.1 hb, below_box8 h.2.1 hb, below_call h.2.2 hb⟩
set_option maxRecDepth 100000 in
set_option maxHeartbeats 1000000 in
theorem rpart_100 (s : ByteArray) (hs : s.size ≤ 1000) (op rd rs1 rs2 imm csr : Int) (aq rl : Bool) (w : World) (ht : TabsLie w) : Calls Tryz.prog 85 #[.int .u8 100, .string s, .agg (instrC op rd rs1 rs2 imm csr aq rl)] w fun e w' => e = .returned (.tuple #[.agg (instrC op (intN (regT s)) rs1 rs2 imm csr aq rl), .bool (regOk s)]) ∧ Below w.heap.size w w' := by
  have HC : Hid (∀ V, Below ((w.alloc (.cells (instrC op rd rs1 rs2 imm csr aq rl) 23)).alloc (.cells (#[.int .i64 0, .int .i64 0, .int .i64 0, .int .i64 0, .int .i64 0, .int .i64 0, .bool false, .bool false]) 23)).heap.size ((w.alloc (.cells (instrC op rd rs1 rs2 imm csr aq rl) 23)).alloc (.cells (#[.int .i64 0, .int .i64 0, .int .i64 0, .int .i64 0, .int .i64 0, .int .i64 0, .bool false, .bool false]) 23)) V → Calls Tryz.prog 108 #[.string s] V fun e w' => e = .returned (.tuple #[.int .i64 (intN (regT s)), .bool (regOk s)]) ∧ Below V.heap.size V w') := fun V hV => readreg_any s hs V (tabs_below ht ((Two.new w _ _).2.2.trans (hV.mono (Two.new w _ _).2.2.size)))
  have S : Hid (Two w ((w.alloc (.cells (instrC op rd rs1 rs2 imm csr aq rl) 23)).alloc (.cells (#[.int .i64 0, .int .i64 0, .int .i64 0, .int .i64 0, .int .i64 0, .int .i64 0, .bool false, .bool false]) 23)) (instrC op rd rs1 rs2 imm csr aq rl) (#[.int .i64 0, .int .i64 0, .int .i64 0, .int .i64 0, .int .i64 0, .int .i64 0, .bool false, .bool false])) := Two.new w (instrC op rd rs1 rs2 imm csr aq rl) (#[.int .i64 0, .int .i64 0, .int .i64 0, .int .i64 0, .int .i64 0, .int .i64 0, .bool false, .bool false])
  clear ht
  generalize intN (regT s) = v at *
  generalize regOk s = ok at *
  have hne : w.heap.size ≠ w.heap.size + 1 := by omega
  have hne' : w.heap.size + 1 ≠ w.heap.size := by omega
  go_enter Tryz.func85, Tryz.ntmps85
  go_wp2_with (go_at_call 108; go_must ((with_reducible refine Calls.mono (HC.out _ (Below.refl _ _)) ?_); rintro e w3 ⟨rfl, hb3⟩; have S3 : Hid (Two w w3 (instrC op rd rs1 rs2 imm csr aq rl) (#[.int .i64 0, .int .i64 0, .int .i64 0, .int .i64 0, .int .i64 0, .int .i64 0, .bool false, .bool false])) := S.out.step hb3; obtain ⟨q0, q1, q2, q3, q4, q5, q6, q7⟩ := box8_facts S3.out.1; obtain ⟨r0, r1, r2, r3, r4, r5, r6, r7⟩ := box8_facts S3.out.2.1; have y0 := box8_frozen S3.out.1 1; have z0 := box8_frozen S3.out.2.1 0; have z1 := box8_frozen S3.out.2.1 1; have z2 := box8_frozen S3.out.2.1 2; have z3 := box8_frozen S3.out.2.1 3; have z4 := box8_frozen S3.out.2.1 4; have z5 := box8_frozen S3.out.2.1 5; have z6 := box8_frozen S3.out.2.1 6; have z7 := box8_frozen S3.out.2.1 7; clear hb3))
  refine bodyPost_ret (v := .tuple #[.agg (instrC op v rs1 rs2 imm csr aq rl), .bool ok]) (by simp [results, Tryz.results85, go_sem, q0, q1, q2, q3, q4, q5, q6, q7, r0, r1, r2, r3, r4, r5, r6, r7, hne, hne']) rfl ⟨rfl, ?_⟩
  iterate 9 (refine Below.setCell ?_ (by first | exact Nat.le_refl _ | exact Nat.le_succ _) _)
  exact S3.out.2.2
set_option maxRecDepth 100000 in
set_option maxHeartbeats 1000000 in
theorem rpart_97 (s : ByteArray) (hs : s.size ≤ 1000) (op rd rs1 rs2 imm csr : Int) (aq rl : Bool) (w : World) (ht : TabsLie w) : Calls Tryz.prog 85 #[.int .u8 97, .string s, .agg (instrC op rd rs1 rs2 imm csr aq rl)] w fun e w' => e = .returned (.tuple #[.agg (instrC op rd (intN (regT s)) rs2 imm csr aq rl), .bool (regOk s)]) ∧ Below w.heap.size w w' := by
  have HC : Hid (∀ V, Below ((w.alloc (.cells (instrC op rd rs1 rs2 imm csr aq rl) 23)).alloc (.cells (#[.int .i64 0, .int .i64 0, .int .i64 0, .int .i64 0, .int .i64 0, .int .i64 0, .bool false, .bool false]) 23)).heap.size ((w.alloc (.cells (instrC op rd rs1 rs2 imm csr aq rl) 23)).alloc (.cells (#[.int .i64 0, .int .i64 0, .int .i64 0, .int .i64 0, .int .i64 0, .int .i64 0, .bool false, .bool false]) 23)) V → Calls Tryz.prog 108 #[.string s] V fun e w' => e = .returned (.tuple #[.int .i64 (intN (regT s)), .bool (regOk s)]) ∧ Below V.heap.size V w') := fun V hV => readreg_any s hs V (tabs_below ht ((Two.new w _ _).2.2.trans (hV.mono (Two.new w _ _).2.2.size)))
  have S : Hid (Two w ((w.alloc (.cells (instrC op rd rs1 rs2 imm csr aq rl) 23)).alloc (.cells (#[.int .i64 0, .int .i64 0, .int .i64 0, .int .i64 0, .int .i64 0, .int .i64 0, .bool false, .bool false]) 23)) (instrC op rd rs1 rs2 imm csr aq rl) (#[.int .i64 0, .int .i64 0, .int .i64 0, .int .i64 0, .int .i64 0, .int .i64 0, .bool false, .bool false])) := Two.new w (instrC op rd rs1 rs2 imm csr aq rl) (#[.int .i64 0, .int .i64 0, .int .i64 0, .int .i64 0, .int .i64 0, .int .i64 0, .bool false, .bool false])
  clear ht
  generalize intN (regT s) = v at *
  generalize regOk s = ok at *
  have hne : w.heap.size ≠ w.heap.size + 1 := by omega
  have hne' : w.heap.size + 1 ≠ w.heap.size := by omega
  go_enter Tryz.func85, Tryz.ntmps85
  go_wp2_with (go_at_call 108; go_must ((with_reducible refine Calls.mono (HC.out _ (Below.refl _ _)) ?_); rintro e w3 ⟨rfl, hb3⟩; have S3 : Hid (Two w w3 (instrC op rd rs1 rs2 imm csr aq rl) (#[.int .i64 0, .int .i64 0, .int .i64 0, .int .i64 0, .int .i64 0, .int .i64 0, .bool false, .bool false])) := S.out.step hb3; obtain ⟨q0, q1, q2, q3, q4, q5, q6, q7⟩ := box8_facts S3.out.1; obtain ⟨r0, r1, r2, r3, r4, r5, r6, r7⟩ := box8_facts S3.out.2.1; have y0 := box8_frozen S3.out.1 2; have z0 := box8_frozen S3.out.2.1 0; have z1 := box8_frozen S3.out.2.1 1; have z2 := box8_frozen S3.out.2.1 2; have z3 := box8_frozen S3.out.2.1 3; have z4 := box8_frozen S3.out.2.1 4; have z5 := box8_frozen S3.out.2.1 5; have z6 := box8_frozen S3.out.2.1 6; have z7 := box8_frozen S3.out.2.1 7; clear hb3))
  refine bodyPost_ret (v := .tuple #[.agg (instrC op rd v rs2 imm csr aq rl), .bool ok]) (by simp [results, Tryz.results85, go_sem, q0, q1, q2, q3, q4, q5, q6, q7, r0, r1, r2, r3, r4, r5, r6, r7, hne, hne']) rfl ⟨rfl, ?_⟩
  iterate 9 (refine Below.setCell ?_ (by first | exact Nat.le_refl _ | exact Nat.le_succ _) _)
  exact S3.out.2.2
set_option maxRecDepth 100000 in
set_option maxHeartbeats 1000000 in
theorem rpart_98 (s : ByteArray) (hs : s.size ≤ 1000) (op rd rs1 rs2 imm csr : Int) (aq rl : Bool) (w : World) (ht : TabsLie w) : Calls Tryz.prog 85 #[.int .u8 98, .string s, .agg (instrC op rd rs1 rs2 imm csr aq rl)] w fun e w' => e = .returned (.tuple #[.agg (instrC op rd rs1 (intN (regT s)) imm csr aq rl), .bool (regOk s)]) ∧ Below w.heap.size w w' := by
  have HC : Hid (∀ V, Below ((w.alloc (.cells (instrC op rd rs1 rs2 imm csr aq rl) 23)).alloc (.cells (#[.int .i64 0, .int .i64 0, .int .i64 0, .int .i64 0, .int .i64 0, .int .i64 0, .bool false, .bool false]) 23)).heap.size ((w.alloc (.cells (instrC op rd rs1 rs2 imm csr aq rl) 23)).alloc (.cells (#[.int .i64 0, .int .i64 0, .int .i64 0, .int .i64 0, .int .i64 0, .int .i64 0, .bool false, .bool false]) 23)) V → Calls Tryz.prog 108 #[.string s] V fun e w' => e = .returned (.tuple #[.int .i64 (intN (regT s)), .bool (regOk s)]) ∧ Below V.heap.size V w') := fun V hV => readreg_any s hs V (tabs_below ht ((Two.new w _ _).2.2.trans (hV.mono (Two.new w _ _).2.2.size)))
  have S : Hid (Two w ((w.alloc (.cells (instrC op rd rs1 rs2 imm csr aq rl) 23)).alloc (.cells (#[.int .i64 0, .int .i64 0, .int .i64 0, .int .i64 0, .int .i64 0, .int .i64 0, .bool false, .bool false]) 23)) (instrC op rd rs1 rs2 imm csr aq rl) (#[.int .i64 0, .int .i64 0, .int .i64 0, .int .i64 0, .int .i64 0, .int .i64 0, .bool false, .bool false])) := Two.new w (instrC op rd rs1 rs2 imm csr aq rl) (#[.int .i64 0, .int .i64 0, .int .i64 0, .int .i64 0, .int .i64 0, .int .i64 0, .bool false, .bool false])
  clear ht
  generalize intN (regT s) = v at *
  generalize regOk s = ok at *
  have hne : w.heap.size ≠ w.heap.size + 1 := by omega
  have hne' : w.heap.size + 1 ≠ w.heap.size := by omega
  go_enter Tryz.func85, Tryz.ntmps85
  go_wp2_with (go_at_call 108; go_must ((with_reducible refine Calls.mono (HC.out _ (Below.refl _ _)) ?_); rintro e w3 ⟨rfl, hb3⟩; have S3 : Hid (Two w w3 (instrC op rd rs1 rs2 imm csr aq rl) (#[.int .i64 0, .int .i64 0, .int .i64 0, .int .i64 0, .int .i64 0, .int .i64 0, .bool false, .bool false])) := S.out.step hb3; obtain ⟨q0, q1, q2, q3, q4, q5, q6, q7⟩ := box8_facts S3.out.1; obtain ⟨r0, r1, r2, r3, r4, r5, r6, r7⟩ := box8_facts S3.out.2.1; have y0 := box8_frozen S3.out.1 3; have z0 := box8_frozen S3.out.2.1 0; have z1 := box8_frozen S3.out.2.1 1; have z2 := box8_frozen S3.out.2.1 2; have z3 := box8_frozen S3.out.2.1 3; have z4 := box8_frozen S3.out.2.1 4; have z5 := box8_frozen S3.out.2.1 5; have z6 := box8_frozen S3.out.2.1 6; have z7 := box8_frozen S3.out.2.1 7; clear hb3))
  refine bodyPost_ret (v := .tuple #[.agg (instrC op rd rs1 v imm csr aq rl), .bool ok]) (by simp [results, Tryz.results85, go_sem, q0, q1, q2, q3, q4, q5, q6, q7, r0, r1, r2, r3, r4, r5, r6, r7, hne, hne']) rfl ⟨rfl, ?_⟩
  iterate 9 (refine Below.setCell ?_ (by first | exact Nat.le_refl _ | exact Nat.le_succ _) _)
  exact S3.out.2.2
set_option maxRecDepth 100000 in
set_option maxHeartbeats 1000000 in
theorem rpart_110 (s : ByteArray) (hs : s.size ≤ 1000) (op rd rs1 rs2 imm csr : Int) (aq rl : Bool) (w : World) (ht : TabsLie w) : Calls Tryz.prog 85 #[.int .u8 110, .string s, .agg (instrC op rd rs1 rs2 imm csr aq rl)] w fun e w' => e = .returned (.tuple #[.agg (instrC op rd rs1 rs2 (intN s) csr aq rl), .bool (intOk s)]) ∧ Below w.heap.size w w' := by
  have HC : Hid (∀ V, Below ((w.alloc (.cells (instrC op rd rs1 rs2 imm csr aq rl) 23)).alloc (.cells (#[.int .i64 0, .int .i64 0, .int .i64 0, .int .i64 0, .int .i64 0, .int .i64 0, .bool false, .bool false]) 23)).heap.size ((w.alloc (.cells (instrC op rd rs1 rs2 imm csr aq rl) 23)).alloc (.cells (#[.int .i64 0, .int .i64 0, .int .i64 0, .int .i64 0, .int .i64 0, .int .i64 0, .bool false, .bool false]) 23)) V → Calls Tryz.prog 109 #[.string s] V fun e w' => e = .returned (.tuple #[.int .i64 (intN s), .bool (intOk s)]) ∧ Below V.heap.size V w') := fun V hV => (pint_any s (by omega) V).mono (by rintro e w' ⟨rfl, rfl⟩; exact ⟨rfl, Below.refl _ _⟩)
  have S : Hid (Two w ((w.alloc (.cells (instrC op rd rs1 rs2 imm csr aq rl) 23)).alloc (.cells (#[.int .i64 0, .int .i64 0, .int .i64 0, .int .i64 0, .int .i64 0, .int .i64 0, .bool false, .bool false]) 23)) (instrC op rd rs1 rs2 imm csr aq rl) (#[.int .i64 0, .int .i64 0, .int .i64 0, .int .i64 0, .int .i64 0, .int .i64 0, .bool false, .bool false])) := Two.new w (instrC op rd rs1 rs2 imm csr aq rl) (#[.int .i64 0, .int .i64 0, .int .i64 0, .int .i64 0, .int .i64 0, .int .i64 0, .bool false, .bool false])
  clear ht
  generalize intN s = v at *
  generalize intOk s = ok at *
  have hne : w.heap.size ≠ w.heap.size + 1 := by omega
  have hne' : w.heap.size + 1 ≠ w.heap.size := by omega
  go_enter Tryz.func85, Tryz.ntmps85
  go_wp2_with (go_at_call 109; go_must ((with_reducible refine Calls.mono (HC.out _ (Below.refl _ _)) ?_); rintro e w3 ⟨rfl, hb3⟩; have S3 : Hid (Two w w3 (instrC op rd rs1 rs2 imm csr aq rl) (#[.int .i64 0, .int .i64 0, .int .i64 0, .int .i64 0, .int .i64 0, .int .i64 0, .bool false, .bool false])) := S.out.step hb3; obtain ⟨q0, q1, q2, q3, q4, q5, q6, q7⟩ := box8_facts S3.out.1; obtain ⟨r0, r1, r2, r3, r4, r5, r6, r7⟩ := box8_facts S3.out.2.1; have y0 := box8_frozen S3.out.1 4; have z0 := box8_frozen S3.out.2.1 0; have z1 := box8_frozen S3.out.2.1 1; have z2 := box8_frozen S3.out.2.1 2; have z3 := box8_frozen S3.out.2.1 3; have z4 := box8_frozen S3.out.2.1 4; have z5 := box8_frozen S3.out.2.1 5; have z6 := box8_frozen S3.out.2.1 6; have z7 := box8_frozen S3.out.2.1 7; clear hb3))
  refine bodyPost_ret (v := .tuple #[.agg (instrC op rd rs1 rs2 v csr aq rl), .bool ok]) (by simp [results, Tryz.results85, go_sem, q0, q1, q2, q3, q4, q5, q6, q7, r0, r1, r2, r3, r4, r5, r6, r7, hne, hne']) rfl ⟨rfl, ?_⟩
  iterate 9 (refine Below.setCell ?_ (by first | exact Nat.le_refl _ | exact Nat.le_succ _) _)
  exact S3.out.2.2
set_option maxRecDepth 100000 in
set_option maxHeartbeats 1000000 in
theorem rpart_117 (s : ByteArray) (hs : s.size ≤ 1000) (op rd rs1 rs2 imm csr : Int) (aq rl : Bool) (w : World) (ht : TabsLie w) : Calls Tryz.prog 85 #[.int .u8 117, .string s, .agg (instrC op rd rs1 rs2 imm csr aq rl)] w fun e w' => e = .returned (.tuple #[.agg (instrC op rd rs1 rs2 (upN s) csr aq rl), .bool (upOk s)]) ∧ Below w.heap.size w w' := by
  have HC : Hid (∀ V, Below ((w.alloc (.cells (instrC op rd rs1 rs2 imm csr aq rl) 23)).alloc (.cells (#[.int .i64 0, .int .i64 0, .int .i64 0, .int .i64 0, .int .i64 0, .int .i64 0, .bool false, .bool false]) 23)).heap.size ((w.alloc (.cells (instrC op rd rs1 rs2 imm csr aq rl) 23)).alloc (.cells (#[.int .i64 0, .int .i64 0, .int .i64 0, .int .i64 0, .int .i64 0, .int .i64 0, .bool false, .bool false]) 23)) V → Calls Tryz.prog 110 #[.string s] V fun e w' => e = .returned (.tuple #[.int .i64 (upN s), .bool (upOk s)]) ∧ Below V.heap.size V w') := fun V hV => readupper_any s hs V
  have S : Hid (Two w ((w.alloc (.cells (instrC op rd rs1 rs2 imm csr aq rl) 23)).alloc (.cells (#[.int .i64 0, .int .i64 0, .int .i64 0, .int .i64 0, .int .i64 0, .int .i64 0, .bool false, .bool false]) 23)) (instrC op rd rs1 rs2 imm csr aq rl) (#[.int .i64 0, .int .i64 0, .int .i64 0, .int .i64 0, .int .i64 0, .int .i64 0, .bool false, .bool false])) := Two.new w (instrC op rd rs1 rs2 imm csr aq rl) (#[.int .i64 0, .int .i64 0, .int .i64 0, .int .i64 0, .int .i64 0, .int .i64 0, .bool false, .bool false])
  clear ht
  generalize upN s = v at *
  generalize upOk s = ok at *
  have hne : w.heap.size ≠ w.heap.size + 1 := by omega
  have hne' : w.heap.size + 1 ≠ w.heap.size := by omega
  go_enter Tryz.func85, Tryz.ntmps85
  go_wp2_with (go_at_call 110; go_must ((with_reducible refine Calls.mono (HC.out _ (Below.refl _ _)) ?_); rintro e w3 ⟨rfl, hb3⟩; have S3 : Hid (Two w w3 (instrC op rd rs1 rs2 imm csr aq rl) (#[.int .i64 0, .int .i64 0, .int .i64 0, .int .i64 0, .int .i64 0, .int .i64 0, .bool false, .bool false])) := S.out.step hb3; obtain ⟨q0, q1, q2, q3, q4, q5, q6, q7⟩ := box8_facts S3.out.1; obtain ⟨r0, r1, r2, r3, r4, r5, r6, r7⟩ := box8_facts S3.out.2.1; have y0 := box8_frozen S3.out.1 4; have z0 := box8_frozen S3.out.2.1 0; have z1 := box8_frozen S3.out.2.1 1; have z2 := box8_frozen S3.out.2.1 2; have z3 := box8_frozen S3.out.2.1 3; have z4 := box8_frozen S3.out.2.1 4; have z5 := box8_frozen S3.out.2.1 5; have z6 := box8_frozen S3.out.2.1 6; have z7 := box8_frozen S3.out.2.1 7; clear hb3))
  refine bodyPost_ret (v := .tuple #[.agg (instrC op rd rs1 rs2 v csr aq rl), .bool ok]) (by simp [results, Tryz.results85, go_sem, q0, q1, q2, q3, q4, q5, q6, q7, r0, r1, r2, r3, r4, r5, r6, r7, hne, hne']) rfl ⟨rfl, ?_⟩
  iterate 9 (refine Below.setCell ?_ (by first | exact Nat.le_refl _ | exact Nat.le_succ _) _)
  exact S3.out.2.2
set_option maxRecDepth 100000 in
set_option maxHeartbeats 1000000 in
theorem rpart_99 (s : ByteArray) (hs : s.size ≤ 1000) (op rd rs1 rs2 imm csr : Int) (aq rl : Bool) (w : World) (ht : TabsLie w) : Calls Tryz.prog 85 #[.int .u8 99, .string s, .agg (instrC op rd rs1 rs2 imm csr aq rl)] w fun e w' => e = .returned (.tuple #[.agg (instrC op rd rs1 rs2 imm (intN s) aq rl), .bool (intOk s)]) ∧ Below w.heap.size w w' := by
  have HC : Hid (∀ V, Below ((w.alloc (.cells (instrC op rd rs1 rs2 imm csr aq rl) 23)).alloc (.cells (#[.int .i64 0, .int .i64 0, .int .i64 0, .int .i64 0, .int .i64 0, .int .i64 0, .bool false, .bool false]) 23)).heap.size ((w.alloc (.cells (instrC op rd rs1 rs2 imm csr aq rl) 23)).alloc (.cells (#[.int .i64 0, .int .i64 0, .int .i64 0, .int .i64 0, .int .i64 0, .int .i64 0, .bool false, .bool false]) 23)) V → Calls Tryz.prog 111 #[.string s] V fun e w' => e = .returned (.tuple #[.int .i64 (intN s), .bool (intOk s)]) ∧ Below V.heap.size V w') := fun V hV => readcsr_any s hs V
  have S : Hid (Two w ((w.alloc (.cells (instrC op rd rs1 rs2 imm csr aq rl) 23)).alloc (.cells (#[.int .i64 0, .int .i64 0, .int .i64 0, .int .i64 0, .int .i64 0, .int .i64 0, .bool false, .bool false]) 23)) (instrC op rd rs1 rs2 imm csr aq rl) (#[.int .i64 0, .int .i64 0, .int .i64 0, .int .i64 0, .int .i64 0, .int .i64 0, .bool false, .bool false])) := Two.new w (instrC op rd rs1 rs2 imm csr aq rl) (#[.int .i64 0, .int .i64 0, .int .i64 0, .int .i64 0, .int .i64 0, .int .i64 0, .bool false, .bool false])
  clear ht
  generalize intN s = v at *
  generalize intOk s = ok at *
  have hne : w.heap.size ≠ w.heap.size + 1 := by omega
  have hne' : w.heap.size + 1 ≠ w.heap.size := by omega
  go_enter Tryz.func85, Tryz.ntmps85
  go_wp2_with (go_at_call 111; go_must ((with_reducible refine Calls.mono (HC.out _ (Below.refl _ _)) ?_); rintro e w3 ⟨rfl, hb3⟩; have S3 : Hid (Two w w3 (instrC op rd rs1 rs2 imm csr aq rl) (#[.int .i64 0, .int .i64 0, .int .i64 0, .int .i64 0, .int .i64 0, .int .i64 0, .bool false, .bool false])) := S.out.step hb3; obtain ⟨q0, q1, q2, q3, q4, q5, q6, q7⟩ := box8_facts S3.out.1; obtain ⟨r0, r1, r2, r3, r4, r5, r6, r7⟩ := box8_facts S3.out.2.1; have y0 := box8_frozen S3.out.1 5; have z0 := box8_frozen S3.out.2.1 0; have z1 := box8_frozen S3.out.2.1 1; have z2 := box8_frozen S3.out.2.1 2; have z3 := box8_frozen S3.out.2.1 3; have z4 := box8_frozen S3.out.2.1 4; have z5 := box8_frozen S3.out.2.1 5; have z6 := box8_frozen S3.out.2.1 6; have z7 := box8_frozen S3.out.2.1 7; clear hb3))
  refine bodyPost_ret (v := .tuple #[.agg (instrC op rd rs1 rs2 imm v aq rl), .bool ok]) (by simp [results, Tryz.results85, go_sem, q0, q1, q2, q3, q4, q5, q6, q7, r0, r1, r2, r3, r4, r5, r6, r7, hne, hne']) rfl ⟨rfl, ?_⟩
  iterate 9 (refine Below.setCell ?_ (by first | exact Nat.le_refl _ | exact Nat.le_succ _) _)
  exact S3.out.2.2
set_option maxRecDepth 100000 in
set_option maxHeartbeats 1000000 in
theorem rpart_44 (s : ByteArray) (op rd rs1 rs2 imm csr : Int) (aq rl : Bool) (w : World) : Calls Tryz.prog 85 #[.int .u8 44, .string s, .agg (instrC op rd rs1 rs2 imm csr aq rl)] w fun e w' => e = .returned (.tuple #[.agg (instrC op rd rs1 rs2 imm csr aq rl), .bool (s.toList == [44])]) ∧ Below w.heap.size w w' := by
  have S : Hid (Two w ((w.alloc (.cells (instrC op rd rs1 rs2 imm csr aq rl) 23)).alloc (.cells (#[.int .i64 0, .int .i64 0, .int .i64 0, .int .i64 0, .int .i64 0, .int .i64 0, .bool false, .bool false]) 23)) (instrC op rd rs1 rs2 imm csr aq rl) (#[.int .i64 0, .int .i64 0, .int .i64 0, .int .i64 0, .int .i64 0, .int .i64 0, .bool false, .bool false])) := Two.new w (instrC op rd rs1 rs2 imm csr aq rl) (#[.int .i64 0, .int .i64 0, .int .i64 0, .int .i64 0, .int .i64 0, .int .i64 0, .bool false, .bool false])
  have hne : w.heap.size ≠ w.heap.size + 1 := by omega
  have hne' : w.heap.size + 1 ≠ w.heap.size := by omega
  go_enter Tryz.func85, Tryz.ntmps85
  have he : (Utf8.encode 44).toList = [44] := by kernel_rfl
  go_wp2_with fail
  refine bodyPost_ret (v := .tuple #[.agg (instrC op rd rs1 rs2 imm csr aq rl), .bool (s.toList == [44])]) (by simp [results, Tryz.results85, go_sem, hne, hne', he]) rfl ⟨rfl, ?_⟩
  exact (Two.new w _ _).2.2
set_option maxRecDepth 100000 in
set_option maxHeartbeats 1000000 in
theorem rpart_40 (s : ByteArray) (op rd rs1 rs2 imm csr : Int) (aq rl : Bool) (w : World) : Calls Tryz.prog 85 #[.int .u8 40, .string s, .agg (instrC op rd rs1 rs2 imm csr aq rl)] w fun e w' => e = .returned (.tuple #[.agg (instrC op rd rs1 rs2 imm csr aq rl), .bool (s.toList == [40])]) ∧ Below w.heap.size w w' := by
  have S : Hid (Two w ((w.alloc (.cells (instrC op rd rs1 rs2 imm csr aq rl) 23)).alloc (.cells (#[.int .i64 0, .int .i64 0, .int .i64 0, .int .i64 0, .int .i64 0, .int .i64 0, .bool false, .bool false]) 23)) (instrC op rd rs1 rs2 imm csr aq rl) (#[.int .i64 0, .int .i64 0, .int .i64 0, .int .i64 0, .int .i64 0, .int .i64 0, .bool false, .bool false])) := Two.new w (instrC op rd rs1 rs2 imm csr aq rl) (#[.int .i64 0, .int .i64 0, .int .i64 0, .int .i64 0, .int .i64 0, .int .i64 0, .bool false, .bool false])
  have hne : w.heap.size ≠ w.heap.size + 1 := by omega
  have hne' : w.heap.size + 1 ≠ w.heap.size := by omega
  go_enter Tryz.func85, Tryz.ntmps85
  have he : (Utf8.encode 40).toList = [40] := by kernel_rfl
  go_wp2_with fail
  refine bodyPost_ret (v := .tuple #[.agg (instrC op rd rs1 rs2 imm csr aq rl), .bool (s.toList == [40])]) (by simp [results, Tryz.results85, go_sem, hne, hne', he]) rfl ⟨rfl, ?_⟩
  exact (Two.new w _ _).2.2
set_option maxRecDepth 100000 in
set_option maxHeartbeats 1000000 in
theorem rpart_41 (s : ByteArray) (op rd rs1 rs2 imm csr : Int) (aq rl : Bool) (w : World) : Calls Tryz.prog 85 #[.int .u8 41, .string s, .agg (instrC op rd rs1 rs2 imm csr aq rl)] w fun e w' => e = .returned (.tuple #[.agg (instrC op rd rs1 rs2 imm csr aq rl), .bool (s.toList == [41])]) ∧ Below w.heap.size w w' := by
  have S : Hid (Two w ((w.alloc (.cells (instrC op rd rs1 rs2 imm csr aq rl) 23)).alloc (.cells (#[.int .i64 0, .int .i64 0, .int .i64 0, .int .i64 0, .int .i64 0, .int .i64 0, .bool false, .bool false]) 23)) (instrC op rd rs1 rs2 imm csr aq rl) (#[.int .i64 0, .int .i64 0, .int .i64 0, .int .i64 0, .int .i64 0, .int .i64 0, .bool false, .bool false])) := Two.new w (instrC op rd rs1 rs2 imm csr aq rl) (#[.int .i64 0, .int .i64 0, .int .i64 0, .int .i64 0, .int .i64 0, .int .i64 0, .bool false, .bool false])
  have hne : w.heap.size ≠ w.heap.size + 1 := by omega
  have hne' : w.heap.size + 1 ≠ w.heap.size := by omega
  go_enter Tryz.func85, Tryz.ntmps85
  have he : (Utf8.encode 41).toList = [41] := by kernel_rfl
  go_wp2_with fail
  refine bodyPost_ret (v := .tuple #[.agg (instrC op rd rs1 rs2 imm csr aq rl), .bool (s.toList == [41])]) (by simp [results, Tryz.results85, go_sem, hne, hne', he]) rfl ⟨rfl, ?_⟩
  exact (Two.new w _ _).2.2
/-- an instruction -/
structure Ins where
  op : Int
  rd : Int
  rs1 : Int
  rs2 : Int
  imm : Int
  csr : Int
  aq : Bool
  rl : Bool
  deriving DecidableEq
def Ins.c (x : Ins) : Array Value := instrC x.op x.rd x.rs1 x.rs2 x.imm x.csr x.aq x.rl
/-- what a piece tells -/
def readS (c : UInt8) (s : ByteArray) (x : Ins) : Ins × Bool :=
  if c = 100 then ({x with rd := intN (regT s)}, regOk s) else if c = 97 then ({x with rs1 := intN (regT s)}, regOk s) else if c = 98 then ({x with rs2 := intN (regT s)}, regOk s) else if c = 110 then ({x with imm := intN s}, intOk s) else if c = 117 then ({x with imm := upN s}, upOk s) else if c = 99 then ({x with csr := intN s}, intOk s) else (x, s.toList == [c])
theorem rpart_all (c : UInt8) (hc : c ∈ letters) (s : ByteArray) (hs : s.size ≤ 1000) (x : Ins) (w : World) (ht : TabsLie w) : Calls Tryz.prog 85 #[.int .u8 (c.toNat : Int), .string s, .agg x.c] w fun e w' => e = .returned (.tuple #[.agg (readS c s x).1.c, .bool (readS c s x).2]) ∧ Below w.heap.size w w' := by
  simp only [letters, List.mem_cons, List.not_mem_nil, or_false] at hc
  rcases hc with rfl | rfl | rfl | rfl | rfl | rfl | rfl | rfl | rfl
  · exact rpart_100 s hs x.op x.rd x.rs1 x.rs2 x.imm x.csr x.aq x.rl w ht
  · exact rpart_97 s hs x.op x.rd x.rs1 x.rs2 x.imm x.csr x.aq x.rl w ht
  · exact rpart_98 s hs x.op x.rd x.rs1 x.rs2 x.imm x.csr x.aq x.rl w ht
  · exact rpart_110 s hs x.op x.rd x.rs1 x.rs2 x.imm x.csr x.aq x.rl w ht
  · exact rpart_117 s hs x.op x.rd x.rs1 x.rs2 x.imm x.csr x.aq x.rl w ht
  · exact rpart_99 s hs x.op x.rd x.rs1 x.rs2 x.imm x.csr x.aq x.rl w ht
  · exact rpart_44 s x.op x.rd x.rs1 x.rs2 x.imm x.csr x.aq x.rl w
  · exact rpart_40 s x.op x.rd x.rs1 x.rs2 x.imm x.csr x.aq x.rl w
  · exact rpart_41 s x.op x.rd x.rs1 x.rs2 x.imm x.csr x.aq x.rl w
end Go.Proofs.YtooaafbdjnlmfaaGreatDoor

namespace Go.Proofs.YtooaafbdjnlmfaaGreatDoor
open Go.RowKit
set_option linter.unusedVariables false
set_option linter.unusedSimpArgs false
def Ascii (l : List UInt8) : Prop := ∀ b ∈ l, b.toNat < 128
def headW (cs l : List UInt8) : List UInt8 := l.takeWhile fun b => !cs.contains b
def tailW (cs l : List UInt8) : List UInt8 := l.dropWhile fun b => !cs.contains b
theorem index_spec (cs : List UInt8) : ∀ l : List UInt8, (Lib.indexAny l cs = -1 ∧ headW cs l = l ∧ tailW cs l = []) ∨ ∃ i : Nat, Lib.indexAny l cs = i ∧ i < l.length ∧ headW cs l = l.take i ∧ tailW cs l = l.drop i
  | [] => .inl ⟨rfl, rfl, rfl⟩
  | b :: l => by
    by_cases hb : cs.contains b = true
    · refine .inr ⟨0, ?_, by simp, ?_, ?_⟩
      · unfold Lib.indexAny; rw [if_pos hb]; rfl
      · unfold headW; rw [List.takeWhile_cons, hb]; rfl
      · unfold tailW; rw [List.dropWhile_cons, hb]; rfl
    · have hb2 : cs.contains b = false := by simpa using hb
      have e1 : headW cs (b :: l) = b :: headW cs l := by unfold headW; rw [List.takeWhile_cons, hb2]; rfl
      have e2 : tailW cs (b :: l) = tailW cs l := by unfold tailW; rw [List.dropWhile_cons, hb2]; rfl
      have e3 : Lib.indexAny (b :: l) cs = if Lib.indexAny l cs == -1 then -1 else Lib.indexAny l cs + 1 := by
        conv => lhs; unfold Lib.indexAny
        rw [if_neg hb]
      rcases index_spec cs l with ⟨h1, h2, h3⟩ | ⟨i, h1, h2, h3, h4⟩
      · refine .inl ⟨?_, ?_, ?_⟩
        · rw [e3, h1]; rfl
        · rw [e1, h2]
        · rw [e2, h3]
      · refine .inr ⟨i + 1, ?_, by simp; omega, ?_, ?_⟩
        · have hn : ((i : Int) == -1) = false := by simp
          rw [e3, h1, hn]; simp
        · rw [e1, h3]; rfl
        · rw [e2, h4]; rfl
theorem ext_take (l : List UInt8) (i : Nat) : (mk l).extract 0 i = mk (l.take i) := by
  apply ByteArray.ext
  rw [ByteArray.data_extract]
  simp [mk]
theorem ext_drop (l : List UInt8) (i n : Nat) (hn : l.length = n) : (mk l).extract i n = mk (l.drop i) := by
  subst hn
  apply ByteArray.ext
  rw [ByteArray.data_extract]
  simp only [mk, List.extract_toArray, List.extract_eq_take_drop]
  exact congrArg List.toArray (List.take_of_length_le (by simp))
theorem index_any (l cs : List UInt8) (hl : l.length ≤ 1000) (ha : Ascii l) (hc : cs.length ≤ 1000) (hca : Ascii cs) (w : World) : Calls Tryz.prog 73 #[.string (mk l), .string (mk cs)] w fun e w' => e = .returned (.int .i64 (Lib.indexAny l cs)) ∧ Below w.heap.size w w' :=
  Tryz.strings_IndexAny_laid (mk l) (mk cs) w (by rw [mk_size]; omega) (by rw [mk_size]; omega) (fun j b h => ha b (List.mem_of_getElem? h)) (fun j b h => hca b (List.mem_of_getElem? h))
set_option maxRecDepth 100000 in
theorem cutname_any (l : List UInt8) (hl : l.length ≤ 1000) (ha : Ascii l) (w : World) : Calls Tryz.prog 35 #[.string (mk l)] w fun e w' => e = .returned (.tuple #[.string (mk (headW [32, 9] l)), .string (mk (tailW [32, 9] l))]) ∧ Below w.heap.size w w' := by
  have HI : Hid (Calls Tryz.prog 73 #[.string (mk l), .string ⟨#[32, 9]⟩] w fun e w' => e = .returned (.int .i64 (Lib.indexAny l [32, 9])) ∧ Below w.heap.size w w') := index_any l [32, 9] hl ha (by simp) (by unfold Ascii; decide) w
  rcases index_spec [32, 9] l with ⟨h1, h2, h3⟩ | ⟨i, h1, h2, h3, h4⟩
  · rw [h2, h3]
    rw [h1] at HI
    clear h1 h2 h3 ha hl
    generalize mk l = s at *
    go_enter Tryz.func35, Tryz.ntmps35
    go_wp2_with (go_at_call 73; (with_reducible refine Calls.mono HI.out ?_); rintro e w9 ⟨rfl, hb9⟩)
    go_ret2
    exact ⟨rfl, hb9⟩
  · rw [h3, h4]
    rw [h1] at HI
    have E1 : Hid ((mk l).extract 0 i = mk (l.take i)) := ext_take l i
    have E2 : Hid ((mk l).extract i (mk l).size = mk (l.drop i)) := ext_drop l i _ (mk_size l).symm
    have hs : (mk l).size ≤ 1000 := by rw [mk_size]; exact hl
    have hi : i < (mk l).size := by rw [mk_size]; exact h2
    have hii : (i : Int) ≤ (mk l).size := by omega
    have hi0 : (0 : Int) ≤ i := by omega
    clear h1 h2 h3 h4 ha hl
    generalize mk (l.take i) = s1 at *
    generalize mk (l.drop i) = s2 at *
    generalize mk l = s at *
    go_enter Tryz.func35, Tryz.ntmps35
    go_wp2_with (go_at_call 73; (with_reducible refine Calls.mono HI.out ?_); rintro e w9 ⟨rfl, hb9⟩)
    go_quiet (fail)
    all_goals go_wp2_with fail
    go_ret2
    exact ⟨by rw [← E1.out, ← E2.out]; rfl, below_drewN hb9 _⟩
/-- the first piece of a text -/
def pieceL (l : List UInt8) : List UInt8 := if headW [44, 40, 41, 32, 9] l = [] then l.take 1 else headW [44, 40, 41, 32, 9] l
set_option maxRecDepth 100000 in
theorem piece_any (l : List UInt8) (hl : l.length ≤ 1000) (ha : Ascii l) (w : World) : Calls Tryz.prog 84 #[.string (mk l)] w fun e w' => e = .returned (.string (mk (pieceL l))) ∧ Below w.heap.size w w' := by
  have HI : Hid (Calls Tryz.prog 73 #[.string (mk l), .string ⟨#[44, 40, 41, 32, 9]⟩] w fun e w' => e = .returned (.int .i64 (Lib.indexAny l [44, 40, 41, 32, 9])) ∧ Below w.heap.size w w') := index_any l [44, 40, 41, 32, 9] hl ha (by simp) (by unfold Ascii; decide) w
  unfold pieceL
  rcases index_spec [44, 40, 41, 32, 9] l with ⟨h1, h2, h3⟩ | ⟨i, h1, h2, h3, h4⟩
  · rw [h2]
    have hp : (if l = [] then l.take 1 else l) = l := by split <;> simp_all
    rw [hp]
    rw [h1] at HI
    clear h1 h2 h3 ha hl hp
    generalize mk l = s at *
    go_enter Tryz.func84, Tryz.ntmps84
    go_wp2_with (go_at_call 73; (with_reducible refine Calls.mono HI.out ?_); rintro e w9 ⟨rfl, hb9⟩)
    go_ret
    exact ⟨rfl, hb9⟩
  · rw [h1] at HI
    have hs : (mk l).size ≤ 1000 := by rw [mk_size]; exact hl
    by_cases hz : i = 0
    · subst hz
      rw [h3]
      have E1 : Hid ((mk l).extract 0 1 = mk (l.take 1)) := ext_take l 1
      have hi : 1 ≤ (mk l).size := by rw [mk_size]; exact h2
      have hii : (1 : Int) ≤ (mk l).size := by omega
      rw [if_pos (by simp)]
      clear h1 h2 h3 h4 ha hl
      generalize mk (l.take 1) = s1 at *
      generalize mk l = s at *
      go_enter Tryz.func84, Tryz.ntmps84
      go_wp2_with (go_at_call 73; (with_reducible refine Calls.mono HI.out ?_); rintro e w9 ⟨rfl, hb9⟩)
      go_ret
      exact ⟨by rw [← E1.out]; rfl, hb9⟩
    · have hne : l.take i ≠ [] := by
        rw [Ne, List.take_eq_nil_iff]
        rintro (h | h)
        · exact hz h
        · subst h; simp at h2
      rw [h3, if_neg hne]
      have E1 : Hid ((mk l).extract 0 i = mk (l.take i)) := ext_take l i
      have hi : i < (mk l).size := by rw [mk_size]; exact h2
      have hii : (i : Int) ≤ (mk l).size := by omega
      have hi0 : (0 : Int) ≤ i := by omega
      have hz1 : ((i : Int) == 0) = false := by simpa using hz
      have hz2 : ((i : Int) == -1) = false := by simp
      clear h1 h2 h3 h4 ha hl hne
      generalize mk (l.take i) = s1 at *
      generalize mk l = s at *
      go_enter Tryz.func84, Tryz.ntmps84
      go_wp2_with (go_at_call 73; (with_reducible refine Calls.mono HI.out ?_); rintro e w9 ⟨rfl, hb9⟩)
      go_ret
      exact ⟨by rw [← E1.out]; rfl, hb9⟩
end Go.Proofs.YtooaafbdjnlmfaaGreatDoor
