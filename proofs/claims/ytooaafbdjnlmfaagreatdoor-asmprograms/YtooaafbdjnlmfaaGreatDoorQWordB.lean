/- What Encode and the document's Word tell of a right instruction is one word. -/
import Derived.Test.YtooaafbdjnlmfaaGreatDoorQDocEncN
import Derived.Test.YtooaafbdjnlmfaaGreatDoorQEnc
import Derived.Test.YtooaafbdjnlmfaaGreatDoorQParseB
import Derived.Test.YtooaafbdjnlmfaaGreatDoorQDocWord0
namespace Go.Proofs.YtooaafbdjnlmfaaGreatDoor
open Go.RowKit
set_option linter.unusedVariables false
set_option linter.unusedSimpArgs false
theorem word_both (x : Ins) (h : x.right = true) : ∃ f : Nat, f < 4294967296 ∧ (∀ V, TabsE V → Calls Tryz.prog 25 #[.agg x.c] V fun e w' => e = .returned (.tuple #[.int .u32 (f : Int), .int .i64 0]) ∧ Below V.heap.size V w') ∧ (∀ V, Calls Tryz.prog 16 #[.agg x.c] V fun e w' => e = .returned (.int .i64 (f : Int)) ∧ Below V.heap.size V w') := by
  obtain ⟨op, rd, rs1, rs2, imm, csr, aq, rl⟩ := x
  have h' : rightB op rd rs1 rs2 imm csr aq rl = true := h
  obtain ⟨hf, _, _⟩ := fits_of _ _ _ _ _ _ _ _ h'
  have hn := hf.n
  have he := fun V hV => encode_yes op rd rs1 rs2 imm csr aq rl ⟨by omega, by omega⟩ V hV h'
  obtain ⟨o, a, b, c, d, rfl, rfl, rfl, rfl, rfl, h1, h2, hfo, hz, hl, hp, hi⟩ := right_nat h'
  simp only [Int.toNat_natCast] at he
  obtain ⟨U, hU⟩ : ∃ U : Nat, (U : Int) = imm % 18446744073709551616 := ⟨(imm % 18446744073709551616).toNat, by omega⟩
  have hUt : (imm % 18446744073709551616).toNat = U := by omega
  rw [hUt] at he
  have hx := (decoded o a b c d imm aq rl U hU h1 h2 hp hi).1
  exact ⟨encS o a b c d aq rl U, hx, he, fun V => dword_any o a b c d imm aq rl U hU h1 h2 hp hi V⟩
end Go.Proofs.YtooaafbdjnlmfaaGreatDoor

namespace Go.Proofs.YtooaafbdjnlmfaaGreatDoor
open Go.RowKit
set_option linter.unusedVariables false
set_option linter.unusedSimpArgs false
theorem fin_word_0 (cc a b c d f3 n f7 : Nat) : dSum 0 cc a b c d f3 n f7 false false = cc + a * 128 + b * 32768 + c * 1048576 + d * 1048576 + f3 * 4096 + n + 0 := by
  unfold dSum
  rw [(add_order _).1, dA3_no 0 _ (by decide), dA7_d 0 _ (by decide) (by decide) (by decide)]
set_option maxRecDepth 100000 in
set_option maxHeartbeats 1000000 in
theorem word_0 (o a b c d cc f3 f7 n : Nat) (imm : Int) (s : ByteArray) (ha : a ≤ 31) (hb : b ≤ 31) (hc : c ≤ 31) (hd : d ≤ 4095) (hcc : cc < 128) (hf3 : f3 < 8) (hf7 : f7 < 1024) (hn : n < 4294967296) (w : World)
    (hO : ∀ w, Calls Tryz.prog 45 #[.int .i64 (o : Nat)] w fun e w' => e = .returned (.agg #[.string s, .int .i64 0, .int .i64 (cc : Nat), .int .i64 (f3 : Nat), .int .i64 (f7 : Nat)]) ∧ Below w.heap.size w w')
    : Calls Tryz.prog 16 #[.agg (instrC (o : Nat) (a : Nat) (b : Nat) (c : Nat) imm (d : Nat) false false)] w fun e w' => e = .returned (.int .i64 (dSum 0 cc a b c d f3 0 f7 false false : Nat)) ∧ Below w.heap.size w w' := by
  have S0 : Hid (BoxIn w (w.alloc (.cells (instrC (o : Nat) (a : Nat) (b : Nat) (c : Nat) imm (d : Nat) false false) 23)) (instrC (o : Nat) (a : Nat) (b : Nat) (c : Nat) imm (d : Nat) false false)) := BoxIn.new w (instrC (o : Nat) (a : Nat) (b : Nat) (c : Nat) imm (d : Nat) false false)
  have HO : Hid _ := hO
  obtain ⟨lo, hi, st, hI⟩ := dimm_ok 0 (by decide) false (by decide) 0 rfl
  have HI : Hid _ := hI
  clear hI
  clear hO
  have ia : (a : Int) ≤ 31 := by omega
  have ib : (b : Int) ≤ 31 := by omega
  have ic : (c : Int) ≤ 31 := by omega
  have id' : (d : Int) ≤ 4095 := by omega
  have icc : (cc : Int) < 128 := by omega
  have if3 : (f3 : Int) < 8 := by omega
  have if7 : (f7 : Int) < 1024 := by omega
  have inn : (n : Int) < 4294967296 := by omega
  go_enter Tryz.func16, Tryz.ntmps16
  go_wp2_with fail
  refine (HO.out _).mono ?_
  rintro e w1 ⟨rfl, hb1⟩
  have S1 : Hid (BoxIn w w1 (instrC (o : Nat) (a : Nat) (b : Nat) (c : Nat) imm (d : Nat) false false)) := S0.out.step hb1
  obtain ⟨q0, q1, q2, q3, q4, q5, q6, q7⟩ := box8_facts S1.out.2
  have l1 : w.heap.size < w1.heap.size := (Array.getElem?_eq_some_iff.1 S1.out.2).1
  have X1 : Hid _ := heap_alloc_new w1 (.cells #[.string s, .int .i64 0, .int .i64 (cc : Nat), .int .i64 (f3 : Nat), .int .i64 (f7 : Nat)] 72)
  have S2 : Hid (BoxIn w (w1.alloc (.cells #[.string s, .int .i64 0, .int .i64 (cc : Nat), .int .i64 (f3 : Nat), .int .i64 (f7 : Nat)] 72)) (instrC (o : Nat) (a : Nat) (b : Nat) (c : Nat) imm (d : Nat) false false)) := S1.out.alloc _
  clear hb1
  go_wp2_with fail
  refine (in2b 0 1 2 _ _ (by simp) false (by decide) ).mono ?_
  rintro e w2 ⟨rfl, hb2⟩
  have S3 : Hid (BoxIn w w2 (instrC (o : Nat) (a : Nat) (b : Nat) (c : Nat) imm (d : Nat) false false)) := S2.out.step hb2
  have X2 : Hid _ := below_box X1.out hb2
  have l2 : w1.heap.size < w2.heap.size := (Array.getElem?_eq_some_iff.1 X2.out).1
  obtain ⟨r0, r1, r2, r3, r4, r5, r6, r7⟩ := box8_facts S3.out.2
  obtain ⟨z0, z1, z2, z3, z4⟩ := box5_facts X2.out
  clear hb2 X1 S2 S1 S0 q0 q1 q2 q3 q4 q5 q6 q7
  go_wp2_with (first | (go_at_call 47; refine (HI.out _).mono ?_; rintro e w' ⟨rfl, hw⟩; rw [hw]; clear hw))
  go_ret
  exact ⟨ret64 (by have e := fin_word_0 cc a b c d f3 0 f7; omega), S3.out.1⟩
theorem dword_zero (w : World) : Calls Tryz.prog 16 #[.agg Ins.zero.c] w fun e w' => e = .returned (.int .i64 0) ∧ Below w.heap.size w w' :=
  word_0 0 0 0 0 0 0 0 0 0 0 ⟨#[]⟩ (by decide) (by decide) (by decide) (by decide) (by decide) (by decide) (by decide) (by decide) w (fun w => of_no 0 (by decide) w)
end Go.Proofs.YtooaafbdjnlmfaaGreatDoor
