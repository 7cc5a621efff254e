/- The statement that any instruction has the page's text. -/
import Derived.Test.YtooaafbdjnlmfaaGreatDoorQParseB
import Derived.Test.YtooaafbdjnlmfaaGreatDoorQDPrint
namespace Go.Proofs.YtooaafbdjnlmfaaGreatDoor
open Go.RowKit
set_option linter.unusedVariables false
set_option linter.unusedSimpArgs false
def printT (op rd rs1 rs2 imm csr : Int) (aq rl : Bool) : List UInt8 := if rightB op rd rs1 rs2 imm csr aq rl then printL op rd rs1 rs2 imm csr aq rl else []
theorem print_any (op rd rs1 rs2 imm csr : Int) (aq rl : Bool) (w : World) (hL : Laid w) : Calls Tryz.prog 9 #[.agg (instrC op rd rs1 rs2 imm csr aq rl)] w fun e w' => e = .returned (.string (mk (printT op rd rs1 rs2 imm csr aq rl))) ∧ Below w.heap.size w w' := by
  unfold printT
  cases h : rightB op rd rs1 rs2 imm csr aq rl
  · exact print_no op rd rs1 rs2 imm csr aq rl h w hL.tabs
  · exact print_yes op rd rs1 rs2 imm csr aq rl h w hL.tabs hL.names hL.lie
theorem dprint_any (op rd rs1 rs2 imm csr : Int) (aq rl : Bool) (w : World) : Calls Tryz.prog 10 #[.agg (instrC op rd rs1 rs2 imm csr aq rl)] w fun e w' => e = .returned (.string (mk (printT op rd rs1 rs2 imm csr aq rl))) ∧ Below w.heap.size w w' := by
  unfold printT
  cases h : rightB op rd rs1 rs2 imm csr aq rl
  · exact dprint_no op rd rs1 rs2 imm csr aq rl h w
  · exact dprint_yes op rd rs1 rs2 imm csr aq rl h w
set_option maxRecDepth 100000 in
set_option maxHeartbeats 4000000 in
theorem prints_core (op rd rs1 rs2 imm csr : Int) (aq rl : Bool) (n : Int) (h0 : -9223372036854775808 ≤ n) (h1 : n ≤ 9223372036854775807) (w : World) (hL : Laid w) : Calls Tryz.prog 3 #[.agg (instrC op rd rs1 rs2 imm csr aq rl), .int .i64 n] w fun e w' => e = .returned (.bool true) ∧ Below w.heap.size w w' := by
  have B0 : Hid (Below w.heap.size w (w.alloc (.cells #[.int .i64 op, .int .i64 rd, .int .i64 rs1, .int .i64 rs2, .int .i64 imm, .int .i64 csr, .bool aq, .bool rl] 23))) := (Below.refl _ _).alloc (Nat.le_refl _) _
  have X0 : Hid ((w.alloc (.cells #[.int .i64 op, .int .i64 rd, .int .i64 rs1, .int .i64 rs2, .int .i64 imm, .int .i64 csr, .bool aq, .bool rl] 23)).heap[w.heap.size]? = some (.cells #[.int .i64 op, .int .i64 rd, .int .i64 rs1, .int .i64 rs2, .int .i64 imm, .int .i64 csr, .bool aq, .bool rl] 23 (0, 0))) := heap_alloc_new w _
  have L0 : Hid (Laid (w.alloc (.cells #[.int .i64 op, .int .i64 rd, .int .i64 rs1, .int .i64 rs2, .int .i64 imm, .int .i64 csr, .bool aq, .bool rl] 23))) := hL.below B0.out
  have HA : Hid (∀ V, Laid V → Calls Tryz.prog 8 #[] V fun e w' => e = .returned (.bool true) ∧ Below V.heap.size V w') := fun V hV => awake_any V hV
  have HP : Hid (∀ V, Laid V → Calls Tryz.prog 9 #[.agg #[.int .i64 op, .int .i64 rd, .int .i64 rs1, .int .i64 rs2, .int .i64 imm, .int .i64 csr, .bool aq, .bool rl]] V fun e w' => e = .returned (.string (mk (printT op rd rs1 rs2 imm csr aq rl))) ∧ Below V.heap.size V w') := fun V hV => print_any op rd rs1 rs2 imm csr aq rl V hV
  have HD : Hid (∀ V, Laid V → Calls Tryz.prog 10 #[.agg #[.int .i64 op, .int .i64 rd, .int .i64 rs1, .int .i64 rs2, .int .i64 imm, .int .i64 csr, .bool aq, .bool rl]] V fun e w' => e = .returned (.string (mk (printT op rd rs1 rs2 imm csr aq rl))) ∧ Below V.heap.size V w') := fun V _ => dprint_any op rd rs1 rs2 imm csr aq rl V
  have HR : Hid (∀ V, Laid V → Calls Tryz.prog 11 #[.int .i64 n] V fun e w' => e = .returned (.string (mk (regL n))) ∧ Below V.heap.size V w') := fun V hV => reg_any n h0 h1 V hV.lie
  have HE : Hid (∀ V, Laid V → Calls Tryz.prog 12 #[.int .i64 n] V fun e w' => e = .returned (.string (mk (regL n))) ∧ Below V.heap.size V w') := fun V _ => dreg_any n h0 h1 V
  clear hL h0 h1
  generalize mk (printT op rd rs1 rs2 imm csr aq rl) = pt at *
  generalize mk (regL n) = rt at *
  show Calls Tryz.prog 3 #[.agg #[.int .i64 op, .int .i64 rd, .int .i64 rs1, .int .i64 rs2, .int .i64 imm, .int .i64 csr, .bool aq, .bool rl], .int .i64 n] w _
  go_enter Tryz.func3, Tryz.ntmps3
  go_upto_region 1 with fail
  generalize hw0 : (w.alloc (.cells #[.int .i64 op, .int .i64 rd, .int .i64 rs1, .int .i64 rs2, .int .i64 imm, .int .i64 csr, .bool aq, .bool rl] 23)) = w0 at *
  obtain ⟨q00, q01, q02, q03, q04, q05, q06, q07⟩ := box8_facts X0.out
  go_region_with (first | (go_at_call 8; (with_reducible refine Calls.mono (HA.out _ (L0.out.below (by repeat (first | exact Below.refl _ _ | with_reducible refine Below.drew ?_)))) ?_); rintro e w1 ⟨rfl, hb1⟩; have C1 : Hid (Below w0.heap.size w0 w1) := below_call (by repeat (first | exact Below.refl _ _ | with_reducible refine Below.drew ?_)) hb1; have B1 : Hid (Below w.heap.size w w1) := below_call B0.out C1.out; have L1 : Hid (Laid w1) := L0.out.below C1.out; have X1 : Hid (w1.heap[w.heap.size]? = some (.cells #[.int .i64 op, .int .i64 rd, .int .i64 rs1, .int .i64 rs2, .int .i64 imm, .int .i64 csr, .bool aq, .bool rl] 23 (0, 0))) := below_box8 X0.out C1.out; obtain ⟨q10, q11, q12, q13, q14, q15, q16, q17⟩ := box8_facts X1.out; clear hb1 C1) | (go_at_call 9; (with_reducible refine Calls.mono (HP.out _ (L1.out.below (by repeat (first | exact Below.refl _ _ | with_reducible refine Below.drew ?_)))) ?_); rintro e w2 ⟨rfl, hb2⟩; have C2 : Hid (Below w1.heap.size w1 w2) := below_call (by repeat (first | exact Below.refl _ _ | with_reducible refine Below.drew ?_)) hb2; have B2 : Hid (Below w.heap.size w w2) := below_call B1.out C2.out; have L2 : Hid (Laid w2) := L1.out.below C2.out; have X2 : Hid (w2.heap[w.heap.size]? = some (.cells #[.int .i64 op, .int .i64 rd, .int .i64 rs1, .int .i64 rs2, .int .i64 imm, .int .i64 csr, .bool aq, .bool rl] 23 (0, 0))) := below_box8 X1.out C2.out; obtain ⟨q20, q21, q22, q23, q24, q25, q26, q27⟩ := box8_facts X2.out; clear hb2 C2) | (go_at_call 10; (with_reducible refine Calls.mono (HD.out _ (L2.out.below (by repeat (first | exact Below.refl _ _ | with_reducible refine Below.drew ?_)))) ?_); rintro e w3 ⟨rfl, hb3⟩; have C3 : Hid (Below w2.heap.size w2 w3) := below_call (by repeat (first | exact Below.refl _ _ | with_reducible refine Below.drew ?_)) hb3; have B3 : Hid (Below w.heap.size w w3) := below_call B2.out C3.out; have L3 : Hid (Laid w3) := L2.out.below C3.out; have X3 : Hid (w3.heap[w.heap.size]? = some (.cells #[.int .i64 op, .int .i64 rd, .int .i64 rs1, .int .i64 rs2, .int .i64 imm, .int .i64 csr, .bool aq, .bool rl] 23 (0, 0))) := below_box8 X2.out C3.out; obtain ⟨q30, q31, q32, q33, q34, q35, q36, q37⟩ := box8_facts X3.out; clear hb3 C3) | (go_at_call 11; (with_reducible refine Calls.mono (HR.out _ (L3.out.below (by repeat (first | exact Below.refl _ _ | with_reducible refine Below.drew ?_)))) ?_); rintro e w4 ⟨rfl, hb4⟩; have C4 : Hid (Below w3.heap.size w3 w4) := below_call (by repeat (first | exact Below.refl _ _ | with_reducible refine Below.drew ?_)) hb4; have B4 : Hid (Below w.heap.size w w4) := below_call B3.out C4.out; have L4 : Hid (Laid w4) := L3.out.below C4.out; have X4 : Hid (w4.heap[w.heap.size]? = some (.cells #[.int .i64 op, .int .i64 rd, .int .i64 rs1, .int .i64 rs2, .int .i64 imm, .int .i64 csr, .bool aq, .bool rl] 23 (0, 0))) := below_box8 X3.out C4.out; obtain ⟨q40, q41, q42, q43, q44, q45, q46, q47⟩ := box8_facts X4.out; clear hb4 C4) | (go_at_call 12; (with_reducible refine Calls.mono (HE.out _ (L4.out.below (by repeat (first | exact Below.refl _ _ | with_reducible refine Below.drew ?_)))) ?_); rintro e w5 ⟨rfl, hb5⟩; have C5 : Hid (Below w4.heap.size w4 w5) := below_call (by repeat (first | exact Below.refl _ _ | with_reducible refine Below.drew ?_)) hb5; have B5 : Hid (Below w.heap.size w w5) := below_call B4.out C5.out; have L5 : Hid (Laid w5) := L4.out.below C5.out; have X5 : Hid (w5.heap[w.heap.size]? = some (.cells #[.int .i64 op, .int .i64 rd, .int .i64 rs1, .int .i64 rs2, .int .i64 imm, .int .i64 csr, .bool aq, .bool rl] 23 (0, 0))) := below_box8 X4.out C5.out; obtain ⟨q50, q51, q52, q53, q54, q55, q56, q57⟩ := box8_facts X5.out; clear hb5 C5))
  all_goals go_wp2_with fail
  all_goals go_ret
  all_goals exact ⟨ret_bool (by first | rfl | decide | simp), by repeat (first | exact B5.out | with_reducible refine Below.drew ?_)⟩
end Go.Proofs.YtooaafbdjnlmfaaGreatDoor
