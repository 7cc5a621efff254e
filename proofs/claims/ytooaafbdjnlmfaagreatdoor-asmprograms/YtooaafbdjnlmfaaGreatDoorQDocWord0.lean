/- The document's call Word of layer 3: a right instruction's word. -/
import Derived.Test.YtooaafbdjnlmfaaGreatDoorQDocRight
import Derived.Test.YtooaafbdjnlmfaaGreatDoorQDocNum
namespace Go.Proofs.YtooaafbdjnlmfaaGreatDoor
open Go.RowKit
set_option linter.unusedVariables false
set_option linter.unusedSimpArgs false
/-- what the number adds, if the form has one -/
def dNumI (g U : Nat) : Nat := if (docSpan g).2 = true then dNum g U else 0
/-- a word, as the document sums it up -/
def dSum (g cc a b c d f3 n f7 : Nat) (aq rl : Bool) : Nat := cc + a * 128 + b * 32768 + c * 1048576 + d * 1048576 + dA3 g f3 + n + dA7 g f7 + (if aq then 67108864 else 0) + (if rl then 33554432 else 0)
theorem dimm_ok (g : Nat) (hg : g < 17) (ok : Bool) (h : (docSpan g).2 = ok) (gi : Int) (hi : ((g : Nat) : Int) = gi) : ∃ lo hi st : Int, ∀ w, Calls Tryz.prog 47 #[.int .i64 gi] w fun e w' => e = .returned (.tuple #[.int .i64 lo, .int .i64 hi, .int .i64 st, .bool ok]) ∧ w' = w := by
  subst h hi
  exact ⟨_, _, _, dimm_any g hg⟩
theorem add_order (n : Nat) : n + (if false = true then 67108864 else 0) + (if false = true then 33554432 else 0) = n ∧ n + (if false = true then 67108864 else 0) + (if true = true then 33554432 else 0) = n + 33554432 ∧ n + (if true = true then 67108864 else 0) + (if false = true then 33554432 else 0) = n + 67108864 ∧ n + (if true = true then 67108864 else 0) + (if true = true then 33554432 else 0) = n + 67108864 + 33554432 := by simp
theorem dA3_no (g n : Nat) (h : ([1, 2] : List Int).contains (g : Int) = false) : dA3 g n = n * 4096 := by unfold dA3; rw [h]; rfl
theorem dA3_yes (g n : Nat) (h : ([1, 2] : List Int).contains (g : Int) = true) : dA3 g n = 0 := by unfold dA3; rw [h]; rfl
theorem dA7_a (g n : Nat) (h : g = 7 ∨ g = 8 ∨ g = 9 ∨ g = 16) : dA7 g n = n * 33554432 := by unfold dA7; rw [if_pos h]
theorem dA7_b (n : Nat) : dA7 11 n = n * 1048576 := by unfold dA7; rw [if_neg (by decide), if_pos rfl]
theorem dA7_c (g n : Nat) (h : g = 14 ∨ g = 15) : dA7 g n = n * 134217728 := by unfold dA7; rw [if_neg (by omega), if_neg (by omega), if_pos h]
theorem dA7_d (g n : Nat) (h : ¬ (g = 7 ∨ g = 8 ∨ g = 9 ∨ g = 16)) (h2 : ¬ g = 11) (h3 : ¬ (g = 14 ∨ g = 15)) : dA7 g n = 0 := by unfold dA7; rw [if_neg h, if_neg h2, if_neg h3]
theorem cast_sum (x y z u : Nat) (h : x = y + z + u) : (x : Int) = y + z + u := by omega
end Go.Proofs.YtooaafbdjnlmfaaGreatDoor

namespace Go.Proofs.YtooaafbdjnlmfaaGreatDoor
open Go.RowKit
set_option linter.unusedVariables false
set_option linter.unusedSimpArgs false
theorem fin_word_13 (cc a b c d f3 n f7 : Nat) : dSum 13 cc a b c d f3 n f7 false false = cc + a * 128 + b * 32768 + c * 1048576 + d * 1048576 + f3 * 4096 + n + 0 := by
  unfold dSum
  rw [(add_order _).1, dA3_no 13 _ (by decide), dA7_d 13 _ (by decide) (by decide) (by decide)]
set_option maxRecDepth 100000 in
set_option maxHeartbeats 1000000 in
theorem word_13 (o a b c d cc f3 f7 n : Nat) (imm : Int) (s : ByteArray) (ha : a ≤ 31) (hb : b ≤ 31) (hc : c ≤ 31) (hd : d ≤ 4095) (hcc : cc < 128) (hf3 : f3 < 8) (hf7 : f7 < 1024) (hn : n < 4294967296) (w : World)
    (hO : ∀ w, Calls Tryz.prog 45 #[.int .i64 (o : Nat)] w fun e w' => e = .returned (.agg #[.string s, .int .i64 13, .int .i64 (cc : Nat), .int .i64 (f3 : Nat), .int .i64 (f7 : Nat)]) ∧ Below w.heap.size w w')
    (hN : ∀ w, Calls Tryz.prog 48 #[.int .i64 13, .int .i64 imm] w fun e w' => e = .returned (.int .i64 (n : Nat)) ∧ Below w.heap.size w w')
    : Calls Tryz.prog 16 #[.agg (instrC (o : Nat) (a : Nat) (b : Nat) (c : Nat) imm (d : Nat) false false)] w fun e w' => e = .returned (.int .i64 (dSum 13 cc a b c d f3 n f7 false false : Nat)) ∧ Below w.heap.size w w' := by
  have S0 : Hid (BoxIn w (w.alloc (.cells (instrC (o : Nat) (a : Nat) (b : Nat) (c : Nat) imm (d : Nat) false false) 23)) (instrC (o : Nat) (a : Nat) (b : Nat) (c : Nat) imm (d : Nat) false false)) := BoxIn.new w (instrC (o : Nat) (a : Nat) (b : Nat) (c : Nat) imm (d : Nat) false false)
  have HO : Hid _ := hO
  have HN : Hid _ := hN
  clear hN
  obtain ⟨lo, hi, st, hI⟩ := dimm_ok 13 (by decide) true (by decide) 13 rfl
  have HI : Hid _ := hI
  clear hI
  clear hO
  have ia : (a : Int) ≤ 31 := by omega
  have ib : (b : Int) ≤ 31 := by omega
  have ic : (c : Int) ≤ 31 := by omega
  have id' : (d : Int) ≤ 4095 := by omega
  have icc : (cc : Int) < 128 := by omega
  have if3 : (f3 : Int) < 8 := by omega
  have if7 : (f7 : Int) < 1024 := by omega
  have inn : (n : Int) < 4294967296 := by omega
  go_enter Tryz.func16, Tryz.ntmps16
  go_wp2_with fail
  refine (HO.out _).mono ?_
  rintro e w1 ⟨rfl, hb1⟩
  have S1 : Hid (BoxIn w w1 (instrC (o : Nat) (a : Nat) (b : Nat) (c : Nat) imm (d : Nat) false false)) := S0.out.step hb1
  obtain ⟨q0, q1, q2, q3, q4, q5, q6, q7⟩ := box8_facts S1.out.2
  have l1 : w.heap.size < w1.heap.size := (Array.getElem?_eq_some_iff.1 S1.out.2).1
  have X1 : Hid _ := heap_alloc_new w1 (.cells #[.string s, .int .i64 13, .int .i64 (cc : Nat), .int .i64 (f3 : Nat), .int .i64 (f7 : Nat)] 72)
  have S2 : Hid (BoxIn w (w1.alloc (.cells #[.string s, .int .i64 13, .int .i64 (cc : Nat), .int .i64 (f3 : Nat), .int .i64 (f7 : Nat)] 72)) (instrC (o : Nat) (a : Nat) (b : Nat) (c : Nat) imm (d : Nat) false false)) := S1.out.alloc _
  clear hb1
  go_wp2_with fail
  refine (in2b 13 1 2 _ _ (by simp) false (by decide) ).mono ?_
  rintro e w2 ⟨rfl, hb2⟩
  have S3 : Hid (BoxIn w w2 (instrC (o : Nat) (a : Nat) (b : Nat) (c : Nat) imm (d : Nat) false false)) := S2.out.step hb2
  have X2 : Hid _ := below_box X1.out hb2
  have l2 : w1.heap.size < w2.heap.size := (Array.getElem?_eq_some_iff.1 X2.out).1
  obtain ⟨r0, r1, r2, r3, r4, r5, r6, r7⟩ := box8_facts S3.out.2
  obtain ⟨z0, z1, z2, z3, z4⟩ := box5_facts X2.out
  clear hb2 X1 S2 S1 S0 q0 q1 q2 q3 q4 q5 q6 q7
  go_wp2_with (first | (go_at_call 47; refine (HI.out _).mono ?_; rintro e w' ⟨rfl, hw⟩; rw [hw]; clear hw))
  refine (HN.out _).mono ?_
  rintro e w3 ⟨rfl, hb3⟩
  have S4 : Hid (BoxIn w w3 (instrC (o : Nat) (a : Nat) (b : Nat) (c : Nat) imm (d : Nat) false false)) := S3.out.step hb3
  have X3 : Hid _ := below_box X2.out hb3
  obtain ⟨q0, q1, q2, q3, q4, q5, q6, q7⟩ := box8_facts S4.out.2
  obtain ⟨y0, y1, y2, y3, y4⟩ := box5_facts X3.out
  clear hb3
  go_wp2
  go_ret
  exact ⟨ret64 (by have e := fin_word_13 cc a b c d f3 n f7; omega), S4.out.1⟩
theorem fin_word_16 (cc a b c d f3 n f7 : Nat) : dSum 16 cc a b c d f3 n f7 false false = cc + a * 128 + b * 32768 + c * 1048576 + d * 1048576 + f3 * 4096 + n + f7 * 33554432 := by
  unfold dSum
  rw [(add_order _).1, dA3_no 16 _ (by decide), dA7_a 16 _ (by decide)]
set_option maxRecDepth 100000 in
set_option maxHeartbeats 1000000 in
theorem word_16 (o a b c d cc f3 f7 n : Nat) (imm : Int) (s : ByteArray) (ha : a ≤ 31) (hb : b ≤ 31) (hc : c ≤ 31) (hd : d ≤ 4095) (hcc : cc < 128) (hf3 : f3 < 8) (hf7 : f7 < 1024) (hn : n < 4294967296) (w : World)
    (hO : ∀ w, Calls Tryz.prog 45 #[.int .i64 (o : Nat)] w fun e w' => e = .returned (.agg #[.string s, .int .i64 16, .int .i64 (cc : Nat), .int .i64 (f3 : Nat), .int .i64 (f7 : Nat)]) ∧ Below w.heap.size w w')
    : Calls Tryz.prog 16 #[.agg (instrC (o : Nat) (a : Nat) (b : Nat) (c : Nat) imm (d : Nat) false false)] w fun e w' => e = .returned (.int .i64 (dSum 16 cc a b c d f3 0 f7 false false : Nat)) ∧ Below w.heap.size w w' := by
  have S0 : Hid (BoxIn w (w.alloc (.cells (instrC (o : Nat) (a : Nat) (b : Nat) (c : Nat) imm (d : Nat) false false) 23)) (instrC (o : Nat) (a : Nat) (b : Nat) (c : Nat) imm (d : Nat) false false)) := BoxIn.new w (instrC (o : Nat) (a : Nat) (b : Nat) (c : Nat) imm (d : Nat) false false)
  have HO : Hid _ := hO
  obtain ⟨lo, hi, st, hI⟩ := dimm_ok 16 (by decide) false (by decide) 16 rfl
  have HI : Hid _ := hI
  clear hI
  clear hO
  have ia : (a : Int) ≤ 31 := by omega
  have ib : (b : Int) ≤ 31 := by omega
  have ic : (c : Int) ≤ 31 := by omega
  have id' : (d : Int) ≤ 4095 := by omega
  have icc : (cc : Int) < 128 := by omega
  have if3 : (f3 : Int) < 8 := by omega
  have if7 : (f7 : Int) < 1024 := by omega
  have inn : (n : Int) < 4294967296 := by omega
  go_enter Tryz.func16, Tryz.ntmps16
  go_wp2_with fail
  refine (HO.out _).mono ?_
  rintro e w1 ⟨rfl, hb1⟩
  have S1 : Hid (BoxIn w w1 (instrC (o : Nat) (a : Nat) (b : Nat) (c : Nat) imm (d : Nat) false false)) := S0.out.step hb1
  obtain ⟨q0, q1, q2, q3, q4, q5, q6, q7⟩ := box8_facts S1.out.2
  have l1 : w.heap.size < w1.heap.size := (Array.getElem?_eq_some_iff.1 S1.out.2).1
  have X1 : Hid _ := heap_alloc_new w1 (.cells #[.string s, .int .i64 16, .int .i64 (cc : Nat), .int .i64 (f3 : Nat), .int .i64 (f7 : Nat)] 72)
  have S2 : Hid (BoxIn w (w1.alloc (.cells #[.string s, .int .i64 16, .int .i64 (cc : Nat), .int .i64 (f3 : Nat), .int .i64 (f7 : Nat)] 72)) (instrC (o : Nat) (a : Nat) (b : Nat) (c : Nat) imm (d : Nat) false false)) := S1.out.alloc _
  clear hb1
  go_wp2_with fail
  refine (in2b 16 1 2 _ _ (by simp) false (by decide) ).mono ?_
  rintro e w2 ⟨rfl, hb2⟩
  have S3 : Hid (BoxIn w w2 (instrC (o : Nat) (a : Nat) (b : Nat) (c : Nat) imm (d : Nat) false false)) := S2.out.step hb2
  have X2 : Hid _ := below_box X1.out hb2
  have l2 : w1.heap.size < w2.heap.size := (Array.getElem?_eq_some_iff.1 X2.out).1
  obtain ⟨r0, r1, r2, r3, r4, r5, r6, r7⟩ := box8_facts S3.out.2
  obtain ⟨z0, z1, z2, z3, z4⟩ := box5_facts X2.out
  clear hb2 X1 S2 S1 S0 q0 q1 q2 q3 q4 q5 q6 q7
  go_wp2_with (first | (go_at_call 47; refine (HI.out _).mono ?_; rintro e w' ⟨rfl, hw⟩; rw [hw]; clear hw))
  go_ret
  exact ⟨ret64 (by have e := fin_word_16 cc a b c d f3 0 f7; omega), S3.out.1⟩
end Go.Proofs.YtooaafbdjnlmfaaGreatDoor

namespace Go.Proofs.YtooaafbdjnlmfaaGreatDoor
open Go.RowKit
set_option linter.unusedVariables false
set_option linter.unusedSimpArgs false
theorem fin_word_14_ff (cc a b c d f3 n f7 : Nat) : dSum 14 cc a b c d f3 n f7 false false = cc + a * 128 + b * 32768 + c * 1048576 + d * 1048576 + f3 * 4096 + n + f7 * 134217728 := by
  unfold dSum
  rw [(add_order _).1, dA3_no 14 _ (by decide), dA7_c 14 _ (by decide)]
set_option maxRecDepth 100000 in
set_option maxHeartbeats 1000000 in
theorem word_14_ff (o a b c d cc f3 f7 n : Nat) (imm : Int) (s : ByteArray) (ha : a ≤ 31) (hb : b ≤ 31) (hc : c ≤ 31) (hd : d ≤ 4095) (hcc : cc < 128) (hf3 : f3 < 8) (hf7 : f7 < 1024) (hn : n < 4294967296) (w : World)
    (hO : ∀ w, Calls Tryz.prog 45 #[.int .i64 (o : Nat)] w fun e w' => e = .returned (.agg #[.string s, .int .i64 14, .int .i64 (cc : Nat), .int .i64 (f3 : Nat), .int .i64 (f7 : Nat)]) ∧ Below w.heap.size w w')
    : Calls Tryz.prog 16 #[.agg (instrC (o : Nat) (a : Nat) (b : Nat) (c : Nat) imm (d : Nat) false false)] w fun e w' => e = .returned (.int .i64 (dSum 14 cc a b c d f3 0 f7 false false : Nat)) ∧ Below w.heap.size w w' := by
  have S0 : Hid (BoxIn w (w.alloc (.cells (instrC (o : Nat) (a : Nat) (b : Nat) (c : Nat) imm (d : Nat) false false) 23)) (instrC (o : Nat) (a : Nat) (b : Nat) (c : Nat) imm (d : Nat) false false)) := BoxIn.new w (instrC (o : Nat) (a : Nat) (b : Nat) (c : Nat) imm (d : Nat) false false)
  have HO : Hid _ := hO
  obtain ⟨lo, hi, st, hI⟩ := dimm_ok 14 (by decide) false (by decide) 14 rfl
  have HI : Hid _ := hI
  clear hI
  clear hO
  have ia : (a : Int) ≤ 31 := by omega
  have ib : (b : Int) ≤ 31 := by omega
  have ic : (c : Int) ≤ 31 := by omega
  have id' : (d : Int) ≤ 4095 := by omega
  have icc : (cc : Int) < 128 := by omega
  have if3 : (f3 : Int) < 8 := by omega
  have if7 : (f7 : Int) < 1024 := by omega
  have inn : (n : Int) < 4294967296 := by omega
  go_enter Tryz.func16, Tryz.ntmps16
  go_wp2_with fail
  refine (HO.out _).mono ?_
  rintro e w1 ⟨rfl, hb1⟩
  have S1 : Hid (BoxIn w w1 (instrC (o : Nat) (a : Nat) (b : Nat) (c : Nat) imm (d : Nat) false false)) := S0.out.step hb1
  obtain ⟨q0, q1, q2, q3, q4, q5, q6, q7⟩ := box8_facts S1.out.2
  have l1 : w.heap.size < w1.heap.size := (Array.getElem?_eq_some_iff.1 S1.out.2).1
  have X1 : Hid _ := heap_alloc_new w1 (.cells #[.string s, .int .i64 14, .int .i64 (cc : Nat), .int .i64 (f3 : Nat), .int .i64 (f7 : Nat)] 72)
  have S2 : Hid (BoxIn w (w1.alloc (.cells #[.string s, .int .i64 14, .int .i64 (cc : Nat), .int .i64 (f3 : Nat), .int .i64 (f7 : Nat)] 72)) (instrC (o : Nat) (a : Nat) (b : Nat) (c : Nat) imm (d : Nat) false false)) := S1.out.alloc _
  clear hb1
  go_wp2_with fail
  refine (in2b 14 1 2 _ _ (by simp) false (by decide) ).mono ?_
  rintro e w2 ⟨rfl, hb2⟩
  have S3 : Hid (BoxIn w w2 (instrC (o : Nat) (a : Nat) (b : Nat) (c : Nat) imm (d : Nat) false false)) := S2.out.step hb2
  have X2 : Hid _ := below_box X1.out hb2
  have l2 : w1.heap.size < w2.heap.size := (Array.getElem?_eq_some_iff.1 X2.out).1
  obtain ⟨r0, r1, r2, r3, r4, r5, r6, r7⟩ := box8_facts S3.out.2
  obtain ⟨z0, z1, z2, z3, z4⟩ := box5_facts X2.out
  clear hb2 X1 S2 S1 S0 q0 q1 q2 q3 q4 q5 q6 q7
  go_wp2_with (first | (go_at_call 47; refine (HI.out _).mono ?_; rintro e w' ⟨rfl, hw⟩; rw [hw]; clear hw))
  go_ret
  exact ⟨ret64 (by have e := fin_word_14_ff cc a b c d f3 0 f7; omega), S3.out.1⟩
theorem fin_word_14_ft (cc a b c d f3 n f7 : Nat) : dSum 14 cc a b c d f3 n f7 false true = cc + a * 128 + b * 32768 + c * 1048576 + d * 1048576 + f3 * 4096 + n + f7 * 134217728 + 33554432 := by
  unfold dSum
  rw [(add_order _).2.1, dA3_no 14 _ (by decide), dA7_c 14 _ (by decide)]
set_option maxRecDepth 100000 in
set_option maxHeartbeats 1000000 in
theorem word_14_ft (o a b c d cc f3 f7 n : Nat) (imm : Int) (s : ByteArray) (ha : a ≤ 31) (hb : b ≤ 31) (hc : c ≤ 31) (hd : d ≤ 4095) (hcc : cc < 128) (hf3 : f3 < 8) (hf7 : f7 < 1024) (hn : n < 4294967296) (w : World)
    (hO : ∀ w, Calls Tryz.prog 45 #[.int .i64 (o : Nat)] w fun e w' => e = .returned (.agg #[.string s, .int .i64 14, .int .i64 (cc : Nat), .int .i64 (f3 : Nat), .int .i64 (f7 : Nat)]) ∧ Below w.heap.size w w')
    : Calls Tryz.prog 16 #[.agg (instrC (o : Nat) (a : Nat) (b : Nat) (c : Nat) imm (d : Nat) false true)] w fun e w' => e = .returned (.int .i64 (dSum 14 cc a b c d f3 0 f7 false true : Nat)) ∧ Below w.heap.size w w' := by
  have S0 : Hid (BoxIn w (w.alloc (.cells (instrC (o : Nat) (a : Nat) (b : Nat) (c : Nat) imm (d : Nat) false true) 23)) (instrC (o : Nat) (a : Nat) (b : Nat) (c : Nat) imm (d : Nat) false true)) := BoxIn.new w (instrC (o : Nat) (a : Nat) (b : Nat) (c : Nat) imm (d : Nat) false true)
  have HO : Hid _ := hO
  obtain ⟨lo, hi, st, hI⟩ := dimm_ok 14 (by decide) false (by decide) 14 rfl
  have HI : Hid _ := hI
  clear hI
  clear hO
  have ia : (a : Int) ≤ 31 := by omega
  have ib : (b : Int) ≤ 31 := by omega
  have ic : (c : Int) ≤ 31 := by omega
  have id' : (d : Int) ≤ 4095 := by omega
  have icc : (cc : Int) < 128 := by omega
  have if3 : (f3 : Int) < 8 := by omega
  have if7 : (f7 : Int) < 1024 := by omega
  have inn : (n : Int) < 4294967296 := by omega
  go_enter Tryz.func16, Tryz.ntmps16
  go_wp2_with fail
  refine (HO.out _).mono ?_
  rintro e w1 ⟨rfl, hb1⟩
  have S1 : Hid (BoxIn w w1 (instrC (o : Nat) (a : Nat) (b : Nat) (c : Nat) imm (d : Nat) false true)) := S0.out.step hb1
  obtain ⟨q0, q1, q2, q3, q4, q5, q6, q7⟩ := box8_facts S1.out.2
  have l1 : w.heap.size < w1.heap.size := (Array.getElem?_eq_some_iff.1 S1.out.2).1
  have X1 : Hid _ := heap_alloc_new w1 (.cells #[.string s, .int .i64 14, .int .i64 (cc : Nat), .int .i64 (f3 : Nat), .int .i64 (f7 : Nat)] 72)
  have S2 : Hid (BoxIn w (w1.alloc (.cells #[.string s, .int .i64 14, .int .i64 (cc : Nat), .int .i64 (f3 : Nat), .int .i64 (f7 : Nat)] 72)) (instrC (o : Nat) (a : Nat) (b : Nat) (c : Nat) imm (d : Nat) false true)) := S1.out.alloc _
  clear hb1
  go_wp2_with fail
  refine (in2b 14 1 2 _ _ (by simp) false (by decide) ).mono ?_
  rintro e w2 ⟨rfl, hb2⟩
  have S3 : Hid (BoxIn w w2 (instrC (o : Nat) (a : Nat) (b : Nat) (c : Nat) imm (d : Nat) false true)) := S2.out.step hb2
  have X2 : Hid _ := below_box X1.out hb2
  have l2 : w1.heap.size < w2.heap.size := (Array.getElem?_eq_some_iff.1 X2.out).1
  obtain ⟨r0, r1, r2, r3, r4, r5, r6, r7⟩ := box8_facts S3.out.2
  obtain ⟨z0, z1, z2, z3, z4⟩ := box5_facts X2.out
  clear hb2 X1 S2 S1 S0 q0 q1 q2 q3 q4 q5 q6 q7
  go_wp2_with (first | (go_at_call 47; refine (HI.out _).mono ?_; rintro e w' ⟨rfl, hw⟩; rw [hw]; clear hw))
  go_ret
  exact ⟨ret64 (by have e := fin_word_14_ft cc a b c d f3 0 f7; omega), S3.out.1⟩
theorem fin_word_14_tf (cc a b c d f3 n f7 : Nat) : dSum 14 cc a b c d f3 n f7 true false = cc + a * 128 + b * 32768 + c * 1048576 + d * 1048576 + f3 * 4096 + n + f7 * 134217728 + 67108864 := by
  unfold dSum
  rw [(add_order _).2.2.1, dA3_no 14 _ (by decide), dA7_c 14 _ (by decide)]
set_option maxRecDepth 100000 in
set_option maxHeartbeats 1000000 in
theorem word_14_tf (o a b c d cc f3 f7 n : Nat) (imm : Int) (s : ByteArray) (ha : a ≤ 31) (hb : b ≤ 31) (hc : c ≤ 31) (hd : d ≤ 4095) (hcc : cc < 128) (hf3 : f3 < 8) (hf7 : f7 < 1024) (hn : n < 4294967296) (w : World)
    (hO : ∀ w, Calls Tryz.prog 45 #[.int .i64 (o : Nat)] w fun e w' => e = .returned (.agg #[.string s, .int .i64 14, .int .i64 (cc : Nat), .int .i64 (f3 : Nat), .int .i64 (f7 : Nat)]) ∧ Below w.heap.size w w')
    : Calls Tryz.prog 16 #[.agg (instrC (o : Nat) (a : Nat) (b : Nat) (c : Nat) imm (d : Nat) true false)] w fun e w' => e = .returned (.int .i64 (dSum 14 cc a b c d f3 0 f7 true false : Nat)) ∧ Below w.heap.size w w' := by
  have S0 : Hid (BoxIn w (w.alloc (.cells (instrC (o : Nat) (a : Nat) (b : Nat) (c : Nat) imm (d : Nat) true false) 23)) (instrC (o : Nat) (a : Nat) (b : Nat) (c : Nat) imm (d : Nat) true false)) := BoxIn.new w (instrC (o : Nat) (a : Nat) (b : Nat) (c : Nat) imm (d : Nat) true false)
  have HO : Hid _ := hO
  obtain ⟨lo, hi, st, hI⟩ := dimm_ok 14 (by decide) false (by decide) 14 rfl
  have HI : Hid _ := hI
  clear hI
  clear hO
  have ia : (a : Int) ≤ 31 := by omega
  have ib : (b : Int) ≤ 31 := by omega
  have ic : (c : Int) ≤ 31 := by omega
  have id' : (d : Int) ≤ 4095 := by omega
  have icc : (cc : Int) < 128 := by omega
  have if3 : (f3 : Int) < 8 := by omega
  have if7 : (f7 : Int) < 1024 := by omega
  have inn : (n : Int) < 4294967296 := by omega
  go_enter Tryz.func16, Tryz.ntmps16
  go_wp2_with fail
  refine (HO.out _).mono ?_
  rintro e w1 ⟨rfl, hb1⟩
  have S1 : Hid (BoxIn w w1 (instrC (o : Nat) (a : Nat) (b : Nat) (c : Nat) imm (d : Nat) true false)) := S0.out.step hb1
  obtain ⟨q0, q1, q2, q3, q4, q5, q6, q7⟩ := box8_facts S1.out.2
  have l1 : w.heap.size < w1.heap.size := (Array.getElem?_eq_some_iff.1 S1.out.2).1
  have X1 : Hid _ := heap_alloc_new w1 (.cells #[.string s, .int .i64 14, .int .i64 (cc : Nat), .int .i64 (f3 : Nat), .int .i64 (f7 : Nat)] 72)
  have S2 : Hid (BoxIn w (w1.alloc (.cells #[.string s, .int .i64 14, .int .i64 (cc : Nat), .int .i64 (f3 : Nat), .int .i64 (f7 : Nat)] 72)) (instrC (o : Nat) (a : Nat) (b : Nat) (c : Nat) imm (d : Nat) true false)) := S1.out.alloc _
  clear hb1
  go_wp2_with fail
  refine (in2b 14 1 2 _ _ (by simp) false (by decide) ).mono ?_
  rintro e w2 ⟨rfl, hb2⟩
  have S3 : Hid (BoxIn w w2 (instrC (o : Nat) (a : Nat) (b : Nat) (c : Nat) imm (d : Nat) true false)) := S2.out.step hb2
  have X2 : Hid _ := below_box X1.out hb2
  have l2 : w1.heap.size < w2.heap.size := (Array.getElem?_eq_some_iff.1 X2.out).1
  obtain ⟨r0, r1, r2, r3, r4, r5, r6, r7⟩ := box8_facts S3.out.2
  obtain ⟨z0, z1, z2, z3, z4⟩ := box5_facts X2.out
  clear hb2 X1 S2 S1 S0 q0 q1 q2 q3 q4 q5 q6 q7
  go_wp2_with (first | (go_at_call 47; refine (HI.out _).mono ?_; rintro e w' ⟨rfl, hw⟩; rw [hw]; clear hw))
  go_ret
  exact ⟨ret64 (by have e := fin_word_14_tf cc a b c d f3 0 f7; omega), S3.out.1⟩
theorem fin_word_14_tt (cc a b c d f3 n f7 : Nat) : dSum 14 cc a b c d f3 n f7 true true = cc + a * 128 + b * 32768 + c * 1048576 + d * 1048576 + f3 * 4096 + n + f7 * 134217728 + 67108864 + 33554432 := by
  unfold dSum
  rw [(add_order _).2.2.2, dA3_no 14 _ (by decide), dA7_c 14 _ (by decide)]
set_option maxRecDepth 100000 in
set_option maxHeartbeats 1000000 in
theorem word_14_tt (o a b c d cc f3 f7 n : Nat) (imm : Int) (s : ByteArray) (ha : a ≤ 31) (hb : b ≤ 31) (hc : c ≤ 31) (hd : d ≤ 4095) (hcc : cc < 128) (hf3 : f3 < 8) (hf7 : f7 < 1024) (hn : n < 4294967296) (w : World)
    (hO : ∀ w, Calls Tryz.prog 45 #[.int .i64 (o : Nat)] w fun e w' => e = .returned (.agg #[.string s, .int .i64 14, .int .i64 (cc : Nat), .int .i64 (f3 : Nat), .int .i64 (f7 : Nat)]) ∧ Below w.heap.size w w')
    : Calls Tryz.prog 16 #[.agg (instrC (o : Nat) (a : Nat) (b : Nat) (c : Nat) imm (d : Nat) true true)] w fun e w' => e = .returned (.int .i64 (dSum 14 cc a b c d f3 0 f7 true true : Nat)) ∧ Below w.heap.size w w' := by
  have S0 : Hid (BoxIn w (w.alloc (.cells (instrC (o : Nat) (a : Nat) (b : Nat) (c : Nat) imm (d : Nat) true true) 23)) (instrC (o : Nat) (a : Nat) (b : Nat) (c : Nat) imm (d : Nat) true true)) := BoxIn.new w (instrC (o : Nat) (a : Nat) (b : Nat) (c : Nat) imm (d : Nat) true true)
  have HO : Hid _ := hO
  obtain ⟨lo, hi, st, hI⟩ := dimm_ok 14 (by decide) false (by decide) 14 rfl
  have HI : Hid _ := hI
  clear hI
  clear hO
  have ia : (a : Int) ≤ 31 := by omega
  have ib : (b : Int) ≤ 31 := by omega
  have ic : (c : Int) ≤ 31 := by omega
  have id' : (d : Int) ≤ 4095 := by omega
  have icc : (cc : Int) < 128 := by omega
  have if3 : (f3 : Int) < 8 := by omega
  have if7 : (f7 : Int) < 1024 := by omega
  have inn : (n : Int) < 4294967296 := by omega
  go_enter Tryz.func16, Tryz.ntmps16
  go_wp2_with fail
  refine (HO.out _).mono ?_
  rintro e w1 ⟨rfl, hb1⟩
  have S1 : Hid (BoxIn w w1 (instrC (o : Nat) (a : Nat) (b : Nat) (c : Nat) imm (d : Nat) true true)) := S0.out.step hb1
  obtain ⟨q0, q1, q2, q3, q4, q5, q6, q7⟩ := box8_facts S1.out.2
  have l1 : w.heap.size < w1.heap.size := (Array.getElem?_eq_some_iff.1 S1.out.2).1
  have X1 : Hid _ := heap_alloc_new w1 (.cells #[.string s, .int .i64 14, .int .i64 (cc : Nat), .int .i64 (f3 : Nat), .int .i64 (f7 : Nat)] 72)
  have S2 : Hid (BoxIn w (w1.alloc (.cells #[.string s, .int .i64 14, .int .i64 (cc : Nat), .int .i64 (f3 : Nat), .int .i64 (f7 : Nat)] 72)) (instrC (o : Nat) (a : Nat) (b : Nat) (c : Nat) imm (d : Nat) true true)) := S1.out.alloc _
  clear hb1
  go_wp2_with fail
  refine (in2b 14 1 2 _ _ (by simp) false (by decide) ).mono ?_
  rintro e w2 ⟨rfl, hb2⟩
  have S3 : Hid (BoxIn w w2 (instrC (o : Nat) (a : Nat) (b : Nat) (c : Nat) imm (d : Nat) true true)) := S2.out.step hb2
  have X2 : Hid _ := below_box X1.out hb2
  have l2 : w1.heap.size < w2.heap.size := (Array.getElem?_eq_some_iff.1 X2.out).1
  obtain ⟨r0, r1, r2, r3, r4, r5, r6, r7⟩ := box8_facts S3.out.2
  obtain ⟨z0, z1, z2, z3, z4⟩ := box5_facts X2.out
  clear hb2 X1 S2 S1 S0 q0 q1 q2 q3 q4 q5 q6 q7
  go_wp2_with (first | (go_at_call 47; refine (HI.out _).mono ?_; rintro e w' ⟨rfl, hw⟩; rw [hw]; clear hw))
  go_ret
  exact ⟨ret64 (by have e := fin_word_14_tt cc a b c d f3 0 f7; omega), S3.out.1⟩
end Go.Proofs.YtooaafbdjnlmfaaGreatDoor
