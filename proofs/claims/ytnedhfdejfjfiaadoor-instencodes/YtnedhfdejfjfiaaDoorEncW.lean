/- The statement on Encode: it answers as the document's Right and Word. -/
import Derived.Test.YtnedhfdejfjfiaaDoorDocEnc
import Derived.Test.YtnedhfdejfjfiaaDoorBackW
namespace Go.Proofs.YtnedhfdejfjfiaaDoor
open Go.RowKit
set_option linter.unusedVariables false
set_option linter.unusedSimpArgs false
set_option maxHeartbeats 1000000 in
theorem encodes_no (op rd rs1 rs2 imm csr : Int) (aq rl : Bool) (W : World) (ht : Tabs W) (hr : rightB op rd rs1 rs2 imm csr aq rl = false) :
    Calls Tryd.prog 3 #[.agg (instrC op rd rs1 rs2 imm csr aq rl)] W fun e w' => e = .returned (.bool true) ∧ Below W.heap.size W w' := by
  have T : Hid (Tabs W) := ht
  have S0 : Hid (BoxIn W (W.alloc (.cells (instrC op rd rs1 rs2 imm csr aq rl) 23)) (instrC op rd rs1 rs2 imm csr aq rl)) := BoxIn.new W _
  have HR : Hid _ := hr
  have he := rightE_no hr
  clear ht hr
  go_enter Tryd.func3, Tryd.ntmps3
  go_wp2_with fail
  refine (awake_any _ (T.out.below S0.out.1)).mono ?_
  rintro e w1 ⟨rfl, hb⟩
  have S1 : Hid (BoxIn W w1 _) := BoxIn.step S0.out hb
  obtain ⟨q0, q1, q2, q3, q4, q5, q6, q7⟩ := box8_facts S1.out.2
  clear hb
  go_wp2_with fail
  refine (encode_no op rd rs1 rs2 imm csr aq rl _ (T.out.below S1.out.1) HR.out).mono ?_
  rintro e w2 ⟨rfl, hb⟩
  have S2 : Hid (BoxIn W w2 _) := BoxIn.step S1.out hb
  obtain ⟨q0, q1, q2, q3, q4, q5, q6, q7⟩ := box8_facts S2.out.2
  clear hb
  go_wp2_with fail
  refine (dright_any op rd rs1 rs2 imm csr aq rl _).mono ?_
  rw [HR.out]
  rintro e w3 ⟨rfl, hb⟩
  have S3 : Hid (BoxIn W w3 _) := BoxIn.step S2.out hb
  obtain ⟨q0, q1, q2, q3, q4, q5, q6, q7⟩ := box8_facts S3.out.2
  clear hb
  go_wp2_with fail
  refine (right_any op rd rs1 rs2 imm csr aq rl _ (T.out.below S3.out.1)).mono ?_
  rw [he]
  rintro e w4 ⟨rfl, hb⟩
  have S4 : Hid (BoxIn W w4 _) := BoxIn.step S3.out hb
  clear hb
  go_wp2
  go_ret
  exact ⟨by first | rfl | simp, S4.out.1⟩
set_option maxHeartbeats 1000000 in
theorem encodes_yes (op rd rs1 rs2 imm csr : Int) (aq rl : Bool) (W : World) (ht : Tabs W) (hr : rightB op rd rs1 rs2 imm csr aq rl = true) (x : Nat) (hx : x < 4294967296)
    (hE : ∀ w, Tabs w → Calls Tryd.prog 10 #[.agg (instrC op rd rs1 rs2 imm csr aq rl)] w fun e w' => e = .returned (.tuple #[.int .u32 (x : Nat), .int .i64 0]) ∧ Below w.heap.size w w')
    (hW : ∀ w, Calls Tryd.prog 13 #[.agg (instrC op rd rs1 rs2 imm csr aq rl)] w fun e w' => e = .returned (.int .i64 (x : Nat)) ∧ Below w.heap.size w w') :
    Calls Tryd.prog 3 #[.agg (instrC op rd rs1 rs2 imm csr aq rl)] W fun e w' => e = .returned (.bool true) ∧ Below W.heap.size W w' := by
  have T : Hid (Tabs W) := ht
  have S0 : Hid (BoxIn W (W.alloc (.cells (instrC op rd rs1 rs2 imm csr aq rl) 23)) (instrC op rd rs1 rs2 imm csr aq rl)) := BoxIn.new W _
  have HR : Hid _ := hr
  have HE : Hid _ := hE
  have HW : Hid _ := hW
  have he := rightE_yes hr
  have ix : (x : Int) < 4294967296 := by omega
  clear ht hr hE hW
  go_enter Tryd.func3, Tryd.ntmps3
  go_wp2_with fail
  refine (awake_any _ (T.out.below S0.out.1)).mono ?_
  rintro e w1 ⟨rfl, hb⟩
  have S1 : Hid (BoxIn W w1 _) := BoxIn.step S0.out hb
  obtain ⟨q0, q1, q2, q3, q4, q5, q6, q7⟩ := box8_facts S1.out.2
  clear hb
  go_wp2_with fail
  refine (HE.out _ (T.out.below S1.out.1)).mono ?_
  rintro e w2 ⟨rfl, hb⟩
  have S2 : Hid (BoxIn W w2 _) := BoxIn.step S1.out hb
  obtain ⟨q0, q1, q2, q3, q4, q5, q6, q7⟩ := box8_facts S2.out.2
  clear hb
  go_wp2_with fail
  refine (dright_any op rd rs1 rs2 imm csr aq rl _).mono ?_
  rw [HR.out]
  rintro e w3 ⟨rfl, hb⟩
  have S3 : Hid (BoxIn W w3 _) := BoxIn.step S2.out hb
  obtain ⟨q0, q1, q2, q3, q4, q5, q6, q7⟩ := box8_facts S3.out.2
  clear hb
  go_wp2_with fail
  refine (right_any op rd rs1 rs2 imm csr aq rl _ (T.out.below S3.out.1)).mono ?_
  rw [he]
  rintro e w4 ⟨rfl, hb⟩
  have S4 : Hid (BoxIn W w4 _) := BoxIn.step S3.out hb
  obtain ⟨q0, q1, q2, q3, q4, q5, q6, q7⟩ := box8_facts S4.out.2
  clear hb
  go_wp2_with fail
  refine (HW.out _).mono ?_
  rintro e w5 ⟨rfl, hb⟩
  have S5 : Hid (BoxIn W w5 _) := BoxIn.step S4.out hb
  clear hb
  go_wp2
  go_ret
  exact ⟨by first | rfl | simp, S5.out.1⟩
/-- the statement on Encode -/
theorem encodes_core (op rd rs1 rs2 imm csr : Int) (aq rl : Bool) (hb : -9223372036854775808 ≤ imm ∧ imm < 9223372036854775808) (W : World) (ht : Tabs W) :
    Calls Tryd.prog 3 #[.agg (instrC op rd rs1 rs2 imm csr aq rl)] W fun e w' => e = .returned (.bool true) ∧ Below W.heap.size W w' := by
  cases hr : rightB op rd rs1 rs2 imm csr aq rl
  · exact encodes_no op rd rs1 rs2 imm csr aq rl W ht hr
  · obtain ⟨o, a, b, c, d, rfl, rfl, rfl, rfl, rfl, h1, h2, hf, hz, hl, hp, hi⟩ := right_nat hr
    obtain ⟨U, hU⟩ : ∃ U : Nat, (U : Int) = imm % 18446744073709551616 := ⟨(imm % 18446744073709551616).toNat, by omega⟩
    refine encodes_yes o a b c imm d aq rl W ht hr (encS o a b c d aq rl U) (decoded o a b c d imm aq rl U hU h1 h2 hp hi).1 (fun w t => ?_) (fun w => dword_any o a b c d imm aq rl U hU h1 h2 hp hi w)
    have hE := encode_yes o a b c imm d aq rl hb w t hr
    simp only [Int.toNat_natCast] at hE
    rw [show (imm % 18446744073709551616).toNat = U from by omega] at hE
    exact hE
end Go.Proofs.YtnedhfdejfjfiaaDoor
