/- The document's Right is the program's; the statement that each instruction is read from its own text. -/
import Derived.Test.YtooaafbdjnlmfaaDoorDocRight
import Derived.Test.YtooaafbdjnlmfaaDoorBackL
import Derived.Test.YtooaafbdjnlmfaaDoorParseB
import Derived.Deep.DeepCutAuto
import Derived.Deep.CutBlock
namespace Go.Proofs.YtooaafbdjnlmfaaDoor
open Go.RowKit
set_option linter.unusedVariables false
set_option linter.unusedSimpArgs false
theorem dforms_pos : ∀ o, o < 99 → 1 ≤ o → formsT.getD o 0 ≠ 0 := by decide +kernel
/-- the document's Right is the program's -/
theorem dright_any (op rd rs1 rs2 imm csr : Int) (aq rl : Bool) (w : World) :
    Calls Tryd.prog 6 #[.agg (instrC op rd rs1 rs2 imm csr aq rl)] w fun e w' => e = .returned (.bool (rightB op rd rs1 rs2 imm csr aq rl)) ∧ Below w.heap.size w w' := by
  by_cases h : 1 ≤ op ∧ op ≤ 98
  · obtain ⟨o, rfl⟩ : ∃ o : Nat, op = o := ⟨op.toNat, by omega⟩
    have ho1 : 1 ≤ o := by omega
    have ho2 : o < 99 := by omega
    have hf := forms_lt o ho2
    have hz := dforms_pos o ho2 ho1
    have hfo : formI (o : Nat) = formsT.getD o 0 := by unfold formI; rw [if_pos h, Int.toNat_natCast]
    refine dright_raw (o : Nat) rd rs1 rs2 imm csr (dForm o) aq rl (dName (o - 1)) (dCode o : Nat) (dF3 o : Nat) (dF7 o : Nat) h.1 h.2 (rows_small o ho2).1 w (fun w => of_op o ho1 ho2 w) _ ?_
    unfold rightB
    rw [hfo, rows_forms o ho2 ho1, decide_eq_true hz, parts_eq _ hf hz, ← r4_eq _ hf]
    simp only [Bool.true_and, Bool.and_assoc]
  · have hfo : formI op = 0 := by unfold formI; rw [if_neg h]
    have hr : rightB op rd rs1 rs2 imm csr aq rl = false := by unfold rightB; rw [hfo]; rfl
    rw [hr]
    exact dright_none op rd rs1 rs2 imm csr aq rl h w
set_option maxRecDepth 100000 in
set_option maxHeartbeats 1000000 in
theorem back_no (op rd rs1 rs2 imm csr : Int) (aq rl : Bool) (h : rightB op rd rs1 rs2 imm csr aq rl = false) (w : World) (hL : Laid w) : Calls Tryd.prog 3 #[.agg #[.int .i64 op, .int .i64 rd, .int .i64 rs1, .int .i64 rs2, .int .i64 imm, .int .i64 csr, .bool aq, .bool rl]] w fun e w' => e = .returned (.bool true) ∧ Below w.heap.size w w' := by
  have B0 : Hid (Below w.heap.size w (w.alloc (.cells #[.int .i64 op, .int .i64 rd, .int .i64 rs1, .int .i64 rs2, .int .i64 imm, .int .i64 csr, .bool aq, .bool rl] 23))) := (Below.refl _ _).alloc (Nat.le_refl _) _
  have X0 : Hid ((w.alloc (.cells #[.int .i64 op, .int .i64 rd, .int .i64 rs1, .int .i64 rs2, .int .i64 imm, .int .i64 csr, .bool aq, .bool rl] 23)).heap[w.heap.size]? = some (.cells #[.int .i64 op, .int .i64 rd, .int .i64 rs1, .int .i64 rs2, .int .i64 imm, .int .i64 csr, .bool aq, .bool rl] 23 (0, 0))) := heap_alloc_new w _
  have HL : Hid (∀ V, Below w.heap.size w V → Laid V) := fun V hV => hL.below hV
  have HA : Hid (∀ V, Below w.heap.size w V → Calls Tryd.prog 4 #[] V fun e w' => e = .returned (.bool true) ∧ Below V.heap.size V w') := fun V hV => awake_any V (HL.out V hV)
  have HP : Hid (∀ V, Below w.heap.size w V → Calls Tryd.prog 5 #[.agg #[.int .i64 op, .int .i64 rd, .int .i64 rs1, .int .i64 rs2, .int .i64 imm, .int .i64 csr, .bool aq, .bool rl]] V fun e w' => e = .returned (.string ⟨#[]⟩) ∧ Below V.heap.size V w') := fun V hV => print_no op rd rs1 rs2 imm csr aq rl h V (HL.out V hV).tabs
  have HR : Hid (∀ V, Calls Tryd.prog 6 #[.agg #[.int .i64 op, .int .i64 rd, .int .i64 rs1, .int .i64 rs2, .int .i64 imm, .int .i64 csr, .bool aq, .bool rl]] V fun e w' => e = .returned (.bool false) ∧ Below V.heap.size V w') := fun V => by
    have h2 := dright_any op rd rs1 rs2 imm csr aq rl V
    rw [h] at h2
    exact h2
  clear hL h
  go_enter Tryd.func3, Tryd.ntmps3
  go_wp2_with fail
  refine (HA.out _ B0.out).mono ?_
  rintro e w1 ⟨rfl, hb1⟩
  have B1 : Hid (Below w.heap.size w w1) := below_call B0.out hb1
  have X1 : Hid (w1.heap[w.heap.size]? = some (.cells #[.int .i64 op, .int .i64 rd, .int .i64 rs1, .int .i64 rs2, .int .i64 imm, .int .i64 csr, .bool aq, .bool rl] 23 (0, 0))) := below_box8 X0.out hb1
  clear hb1 X0
  obtain ⟨q0, q1, q2, q3, q4, q5, q6, q7⟩ := box8_facts X1.out
  go_wp2_with fail
  refine (HP.out _ B1.out).mono ?_
  rintro e w2 ⟨rfl, hb2⟩
  have B2 : Hid (Below w.heap.size w w2) := below_call B1.out hb2
  have X2 : Hid (w2.heap[w.heap.size]? = some (.cells #[.int .i64 op, .int .i64 rd, .int .i64 rs1, .int .i64 rs2, .int .i64 imm, .int .i64 csr, .bool aq, .bool rl] 23 (0, 0))) := below_box8 X1.out hb2
  clear hb2 X1 q0 q1 q2 q3 q4 q5 q6 q7
  obtain ⟨q0, q1, q2, q3, q4, q5, q6, q7⟩ := box8_facts X2.out
  go_wp2_with fail
  refine (HR.out _).mono ?_
  rintro e w3 ⟨rfl, hb3⟩
  have B3 : Hid (Below w.heap.size w w3) := below_call B2.out hb3
  clear hb3
  go_wp2_with fail
  go_ret
  exact ⟨rfl, B3.out⟩
theorem print_some (x : Ins) (hr : x.right = true) : printL x.op x.rd x.rs1 x.rs2 x.imm x.csr x.aq x.rl ≠ [] := by
  obtain ⟨hf, ho1, ho2⟩ := fits_of _ _ _ _ _ _ _ _ hr
  have hn := name_plain (x.op.toNat - 1) (by omega) x.aq x.rl
  rw [print_text]
  exact fun h => hn.1 (List.append_eq_nil_iff.1 h).1
set_option maxRecDepth 100000 in
set_option maxHeartbeats 1000000 in
theorem back_yes (op rd rs1 rs2 imm csr : Int) (aq rl : Bool) (h : rightB op rd rs1 rs2 imm csr aq rl = true) (w : World) (hL : Laid w) : Calls Tryd.prog 3 #[.agg #[.int .i64 op, .int .i64 rd, .int .i64 rs1, .int .i64 rs2, .int .i64 imm, .int .i64 csr, .bool aq, .bool rl]] w fun e w' => e = .returned (.bool true) ∧ Below w.heap.size w w' := by
  have B0 : Hid (Below w.heap.size w (w.alloc (.cells #[.int .i64 op, .int .i64 rd, .int .i64 rs1, .int .i64 rs2, .int .i64 imm, .int .i64 csr, .bool aq, .bool rl] 23))) := (Below.refl _ _).alloc (Nat.le_refl _) _
  have X0 : Hid ((w.alloc (.cells #[.int .i64 op, .int .i64 rd, .int .i64 rs1, .int .i64 rs2, .int .i64 imm, .int .i64 csr, .bool aq, .bool rl] 23)).heap[w.heap.size]? = some (.cells #[.int .i64 op, .int .i64 rd, .int .i64 rs1, .int .i64 rs2, .int .i64 imm, .int .i64 csr, .bool aq, .bool rl] 23 (0, 0))) := heap_alloc_new w _
  have HL : Hid (∀ V, Below w.heap.size w V → Laid V) := fun V hV => hL.below hV
  have HA : Hid (∀ V, Below w.heap.size w V → Calls Tryd.prog 4 #[] V fun e w' => e = .returned (.bool true) ∧ Below V.heap.size V w') := fun V hV => awake_any V (HL.out V hV)
  have HP : Hid (∀ V, Below w.heap.size w V → Calls Tryd.prog 5 #[.agg #[.int .i64 op, .int .i64 rd, .int .i64 rs1, .int .i64 rs2, .int .i64 imm, .int .i64 csr, .bool aq, .bool rl]] V fun e w' => e = .returned (.string (mk (printL op rd rs1 rs2 imm csr aq rl))) ∧ Below V.heap.size V w') := fun V hV => print_yes op rd rs1 rs2 imm csr aq rl h V (HL.out V hV).tabs (HL.out V hV).names (HL.out V hV).lie
  have HQ : Hid (∀ V, Below w.heap.size w V → Calls Tryd.prog 7 #[.string (mk (printL op rd rs1 rs2 imm csr aq rl))] V fun e w' => e = .returned (.tuple #[.agg #[.int .i64 op, .int .i64 rd, .int .i64 rs1, .int .i64 rs2, .int .i64 imm, .int .i64 csr, .bool aq, .bool rl], .int .i64 0]) ∧ Below V.heap.size V w') := fun V hV => by
    obtain ⟨h1, h2⟩ := parse_print ⟨op, rd, rs1, rs2, imm, csr, aq, rl⟩ h
    have hp := parseT_any _ (print_len ⟨op, rd, rs1, rs2, imm, csr, aq, rl⟩ h) h2 V (HL.out V hV)
    have e : parseE (printL op rd rs1 rs2 imm csr aq rl) = 0 := by unfold parseE; rw [h1]; rfl
    rw [h1, e] at hp
    exact hp
  have hne := print_some ⟨op, rd, rs1, rs2, imm, csr, aq, rl⟩ h
  have e1 : (mk (printL op rd rs1 rs2 imm csr aq rl)).toList.isEmpty = false := by
    rw [mk_empty]
    cases hp : printL op rd rs1 rs2 imm csr aq rl
    · exact absurd hp hne
    · rfl
  clear hL h hne
  generalize mk (printL op rd rs1 rs2 imm csr aq rl) = pt at *
  go_enter Tryd.func3, Tryd.ntmps3
  go_wp2_with fail
  refine (HA.out _ B0.out).mono ?_
  rintro e w1 ⟨rfl, hb1⟩
  have B1 : Hid (Below w.heap.size w w1) := below_call B0.out hb1
  have X1 : Hid (w1.heap[w.heap.size]? = some (.cells #[.int .i64 op, .int .i64 rd, .int .i64 rs1, .int .i64 rs2, .int .i64 imm, .int .i64 csr, .bool aq, .bool rl] 23 (0, 0))) := below_box8 X0.out hb1
  clear hb1 X0
  obtain ⟨q0, q1, q2, q3, q4, q5, q6, q7⟩ := box8_facts X1.out
  go_wp2_with fail
  refine (HP.out _ B1.out).mono ?_
  rintro e w2 ⟨rfl, hb2⟩
  have B2 : Hid (Below w.heap.size w w2) := below_call B1.out hb2
  have X2 : Hid (w2.heap[w.heap.size]? = some (.cells #[.int .i64 op, .int .i64 rd, .int .i64 rs1, .int .i64 rs2, .int .i64 imm, .int .i64 csr, .bool aq, .bool rl] 23 (0, 0))) := below_box8 X1.out hb2
  clear hb2 X1 q0 q1 q2 q3 q4 q5 q6 q7
  go_wp2_with fail
  refine (HQ.out _ B2.out).mono ?_
  rintro e w3 ⟨rfl, hb3⟩
  have B3 : Hid (Below w.heap.size w w3) := below_call B2.out hb3
  have X3 : Hid (w3.heap[w.heap.size]? = some (.cells #[.int .i64 op, .int .i64 rd, .int .i64 rs1, .int .i64 rs2, .int .i64 imm, .int .i64 csr, .bool aq, .bool rl] 23 (0, 0))) := below_box8 X2.out hb3
  clear hb3 X2
  go_upto_region 7 with fail
  have B4 : Hid (Below w.heap.size w (w3.alloc (.cells #[.int .i64 op, .int .i64 rd, .int .i64 rs1, .int .i64 rs2, .int .i64 imm, .int .i64 csr, .bool aq, .bool rl] 23))) := B3.out.alloc B3.out.size _
  have X4 : Hid ((w3.alloc (.cells #[.int .i64 op, .int .i64 rd, .int .i64 rs1, .int .i64 rs2, .int .i64 imm, .int .i64 csr, .bool aq, .bool rl] 23)).heap[w.heap.size]? = some (.cells #[.int .i64 op, .int .i64 rd, .int .i64 rs1, .int .i64 rs2, .int .i64 imm, .int .i64 csr, .bool aq, .bool rl] 23 (0, 0))) := below_box8 X3.out ((Below.refl _ _).alloc (Nat.le_refl _) _)
  have Y4 : Hid ((w3.alloc (.cells #[.int .i64 op, .int .i64 rd, .int .i64 rs1, .int .i64 rs2, .int .i64 imm, .int .i64 csr, .bool aq, .bool rl] 23)).heap[w3.heap.size]? = some (.cells #[.int .i64 op, .int .i64 rd, .int .i64 rs1, .int .i64 rs2, .int .i64 imm, .int .i64 csr, .bool aq, .bool rl] 23 (0, 0))) := heap_alloc_new w3 _
  generalize w3.alloc (.cells #[.int .i64 op, .int .i64 rd, .int .i64 rs1, .int .i64 rs2, .int .i64 imm, .int .i64 csr, .bool aq, .bool rl] 23) = V4 at *
  generalize w3.heap.size = g3 at *
  obtain ⟨q0, q1, q2, q3, q4, q5, q6, q7⟩ := box8_facts X4.out
  obtain ⟨r0, r1, r2, r3, r4, r5, r6, r7⟩ := box8_facts Y4.out
  go_wp2_with fail
  go_ret
  exact ⟨ret_bool (by first | rfl | simp), B4.out⟩
theorem back_core (op rd rs1 rs2 imm csr : Int) (aq rl : Bool) (w : World) (hL : Laid w) : Calls Tryd.prog 3 #[.agg (instrC op rd rs1 rs2 imm csr aq rl)] w fun e w' => e = .returned (.bool true) ∧ Below w.heap.size w w' := by
  cases h : rightB op rd rs1 rs2 imm csr aq rl
  · exact back_no op rd rs1 rs2 imm csr aq rl h w hL
  · exact back_yes op rd rs1 rs2 imm csr aq rl h w hL
end Go.Proofs.YtooaafbdjnlmfaaDoor
