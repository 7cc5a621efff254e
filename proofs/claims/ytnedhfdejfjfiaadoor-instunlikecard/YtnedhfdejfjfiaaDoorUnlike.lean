/- The statement on unlike instructions: their words are unlike. -/
import Derived.Test.YtnedhfdejfjfiaaDoorBackW
namespace Go.Proofs.YtnedhfdejfjfiaaDoor
open Go.RowKit
set_option linter.unusedVariables false
set_option linter.unusedSimpArgs false
/-- what Encode tells of a word -/
def encV (op rd rs1 rs2 imm csr : Int) (aq rl : Bool) : Int := if rightB op rd rs1 rs2 imm csr aq rl = true then ((encS op.toNat rd.toNat rs1.toNat rs2.toNat csr.toNat aq rl (imm % 18446744073709551616).toNat : Nat) : Int) else 0
theorem encode_any (op rd rs1 rs2 imm csr : Int) (aq rl : Bool) (hb : -9223372036854775808 ≤ imm ∧ imm < 9223372036854775808) (w : World) (ht : Tabs w) :
    Calls Tryd.prog 10 #[.agg (instrC op rd rs1 rs2 imm csr aq rl)] w fun e w' => e = .returned (.tuple #[.int .u32 (encV op rd rs1 rs2 imm csr aq rl), .int .i64 (rightE op rd rs1 rs2 imm csr aq rl)]) ∧ Below w.heap.size w w' := by
  cases h : rightB op rd rs1 rs2 imm csr aq rl
  · rw [rightE_no h, show encV op rd rs1 rs2 imm csr aq rl = 0 from by unfold encV; rw [h]; rfl]
    exact encode_no op rd rs1 rs2 imm csr aq rl w ht h
  · rw [rightE_yes h, show encV op rd rs1 rs2 imm csr aq rl = ((encS op.toNat rd.toNat rs1.toNat rs2.toNat csr.toNat aq rl (imm % 18446744073709551616).toNat : Nat) : Int) from by unfold encV; rw [h]; rfl]
    exact encode_yes op rd rs1 rs2 imm csr aq rl hb w ht h
theorem enc_inj {op rd rs1 rs2 imm csr op' rd' rs1' rs2' imm' csr' : Int} {aq rl aq' rl' : Bool} (h : rightB op rd rs1 rs2 imm csr aq rl = true) (h' : rightB op' rd' rs1' rs2' imm' csr' aq' rl' = true) (he : encV op rd rs1 rs2 imm csr aq rl = encV op' rd' rs1' rs2' imm' csr' aq' rl') : instrC op rd rs1 rs2 imm csr aq rl = instrC op' rd' rs1' rs2' imm' csr' aq' rl' := by
  unfold encV at he
  rw [if_pos h, if_pos h'] at he
  obtain ⟨o, a, b, c, d, rfl, rfl, rfl, rfl, rfl, h1, h2, hf, hz, hl, hp, hi⟩ := right_nat h
  obtain ⟨o', a', b', c', d', rfl, rfl, rfl, rfl, rfl, h1', h2', hf', hz', hl', hp', hi'⟩ := right_nat h'
  simp only [Int.toNat_natCast] at he
  obtain ⟨U, hU⟩ : ∃ U : Nat, (U : Int) = imm % 18446744073709551616 := ⟨(imm % 18446744073709551616).toNat, by omega⟩
  obtain ⟨U', hU'⟩ : ∃ U : Nat, (U : Int) = imm' % 18446744073709551616 := ⟨(imm' % 18446744073709551616).toNat, by omega⟩
  rw [show (imm % 18446744073709551616).toNat = U from by omega, show (imm' % 18446744073709551616).toNat = U' from by omega] at he
  obtain ⟨r0, r1, r2⟩ := decoded o a b c d imm aq rl U hU h1 h2 hp hi
  obtain ⟨s0, s1, s2⟩ := decoded o' a' b' c' d' imm' aq' rl' U' hU' h1' h2' hp' hi'
  have e : encS o a b c d aq rl U = encS o' a' b' c' d' aq' rl' U' := Int.ofNat.inj he
  rw [← e] at s1 s2
  obtain rfl : o = o' := hit_one _ o o' h2 h2' h1 h1' r1 s1
  rw [← r2, ← s2]
set_option maxHeartbeats 400000 in
theorem unlike_x (op rd rs1 rs2 imm csr op' rd' rs1' rs2' imm' csr' : Int) (aq rl aq' rl' : Bool) (hbx : -9223372036854775808 ≤ imm ∧ imm < 9223372036854775808) (hby : -9223372036854775808 ≤ imm' ∧ imm' < 9223372036854775808) (W : World) (ht : Tabs W) (hx : rightB op rd rs1 rs2 imm csr aq rl = false) :
    Calls Tryd.prog 7 #[.agg (instrC op rd rs1 rs2 imm csr aq rl), .agg (instrC op' rd' rs1' rs2' imm' csr' aq' rl')] W fun e w' => e = .returned (.bool true) ∧ Below W.heap.size W w' := by
  have b0 := (Below.refl W.heap.size W).alloc (Nat.le_refl _) (.cells (instrC op rd rs1 rs2 imm csr aq rl) 23)
  have b1 := b0.alloc b0.size (.cells (instrC op' rd' rs1' rs2' imm' csr' aq' rl') 23)
  have hn1 := heap_alloc_new (W.alloc (.cells (instrC op rd rs1 rs2 imm csr aq rl) 23)) (.cells (instrC op' rd' rs1' rs2' imm' csr' aq' rl') 23)
  rw [show (W.alloc (.cells (instrC op rd rs1 rs2 imm csr aq rl) 23)).heap.size = W.heap.size + 1 from by simp] at hn1
  have S : Hid (_ ∧ _ ∧ _ ∧ _) := ⟨ht.below b1, (heap_alloc_old (W.alloc (.cells (instrC op rd rs1 rs2 imm csr aq rl) 23)) (.cells (instrC op' rd' rs1' rs2' imm' csr' aq' rl') 23) (show W.heap.size < (W.alloc (.cells (instrC op rd rs1 rs2 imm csr aq rl) 23)).heap.size by simp)).trans (heap_alloc_new W (.cells (instrC op rd rs1 rs2 imm csr aq rl) 23)), hn1, b1⟩
  clear ht b0 b1 hn1
  have he := rightE_no hx
  clear hx
  have E1 : Hid _ := encode_any op rd rs1 rs2 imm csr aq rl hbx
  have E2 : Hid _ := encode_any op' rd' rs1' rs2' imm' csr' aq' rl' hby
  clear hbx hby
  go_enter Tryd.func7, Tryd.ntmps7
  go_wp2_with fail
  refine (awake_any _ (by exact S.out.1)).mono ?_
  rintro e w1 ⟨rfl, hb1⟩
  have x1 := below_box (by exact S.out.2.1) hb1
  have y1 := below_box (by exact S.out.2.2.1) hb1
  obtain ⟨q0, q1, q2, q3, q4, q5, q6, q7⟩ := box8_facts x1
  have C : Hid (_ ∧ _ ∧ _ ∧ _) := ⟨Tabs.below (by exact S.out.1) hb1, x1, y1, S.out.2.2.2.trans (hb1.mono S.out.2.2.2.size)⟩
  clear hb1 x1 y1
  go_wp2_with fail
  refine (E1.out _ C.out.1).mono ?_
  rintro e w2 ⟨rfl, hb2⟩
  have x2 := below_box C.out.2.1 hb2
  have y2 := below_box C.out.2.2.1 hb2
  clear q0 q1 q2 q3 q4 q5 q6 q7
  obtain ⟨q0, q1, q2, q3, q4, q5, q6, q7⟩ := box8_facts y2
  have D : Hid (_ ∧ _ ∧ _ ∧ _) := ⟨C.out.1.below hb2, x2, y2, C.out.2.2.2.trans (hb2.mono C.out.2.2.2.size)⟩
  clear hb2 x2 y2
  go_wp2_with fail
  refine (E2.out _ D.out.1).mono ?_
  rintro e w3 ⟨rfl, hb3⟩
  have x3 := below_box D.out.2.1 hb3
  have y3 := below_box D.out.2.2.1 hb3
  clear q0 q1 q2 q3 q4 q5 q6 q7
  obtain ⟨q0, q1, q2, q3, q4, q5, q6, q7⟩ := box8_facts x3
  obtain ⟨z0, z1, z2, z3, z4, z5, z6, z7⟩ := box8_facts y3
  have G : Hid _ := D.out.2.2.2.trans (hb3.mono D.out.2.2.2.size)
  clear hb3 x3 y3
  go_wp2
  go_ret
  exact ⟨rfl, G.out⟩
set_option maxHeartbeats 400000 in
theorem unlike_y (op rd rs1 rs2 imm csr op' rd' rs1' rs2' imm' csr' : Int) (aq rl aq' rl' : Bool) (hbx : -9223372036854775808 ≤ imm ∧ imm < 9223372036854775808) (hby : -9223372036854775808 ≤ imm' ∧ imm' < 9223372036854775808) (W : World) (ht : Tabs W) (hx : rightB op rd rs1 rs2 imm csr aq rl = true) (hy : rightB op' rd' rs1' rs2' imm' csr' aq' rl' = false) :
    Calls Tryd.prog 7 #[.agg (instrC op rd rs1 rs2 imm csr aq rl), .agg (instrC op' rd' rs1' rs2' imm' csr' aq' rl')] W fun e w' => e = .returned (.bool true) ∧ Below W.heap.size W w' := by
  have b0 := (Below.refl W.heap.size W).alloc (Nat.le_refl _) (.cells (instrC op rd rs1 rs2 imm csr aq rl) 23)
  have b1 := b0.alloc b0.size (.cells (instrC op' rd' rs1' rs2' imm' csr' aq' rl') 23)
  have hn1 := heap_alloc_new (W.alloc (.cells (instrC op rd rs1 rs2 imm csr aq rl) 23)) (.cells (instrC op' rd' rs1' rs2' imm' csr' aq' rl') 23)
  rw [show (W.alloc (.cells (instrC op rd rs1 rs2 imm csr aq rl) 23)).heap.size = W.heap.size + 1 from by simp] at hn1
  have S : Hid (_ ∧ _ ∧ _ ∧ _) := ⟨ht.below b1, (heap_alloc_old (W.alloc (.cells (instrC op rd rs1 rs2 imm csr aq rl) 23)) (.cells (instrC op' rd' rs1' rs2' imm' csr' aq' rl') 23) (show W.heap.size < (W.alloc (.cells (instrC op rd rs1 rs2 imm csr aq rl) 23)).heap.size by simp)).trans (heap_alloc_new W (.cells (instrC op rd rs1 rs2 imm csr aq rl) 23)), hn1, b1⟩
  clear ht b0 b1 hn1
  have he := rightE_yes hx
  have he2 := rightE_no hy
  clear hx hy
  have E1 : Hid _ := encode_any op rd rs1 rs2 imm csr aq rl hbx
  have E2 : Hid _ := encode_any op' rd' rs1' rs2' imm' csr' aq' rl' hby
  clear hbx hby
  go_enter Tryd.func7, Tryd.ntmps7
  go_wp2_with fail
  refine (awake_any _ (by exact S.out.1)).mono ?_
  rintro e w1 ⟨rfl, hb1⟩
  have x1 := below_box (by exact S.out.2.1) hb1
  have y1 := below_box (by exact S.out.2.2.1) hb1
  obtain ⟨q0, q1, q2, q3, q4, q5, q6, q7⟩ := box8_facts x1
  have C : Hid (_ ∧ _ ∧ _ ∧ _) := ⟨Tabs.below (by exact S.out.1) hb1, x1, y1, S.out.2.2.2.trans (hb1.mono S.out.2.2.2.size)⟩
  clear hb1 x1 y1
  go_wp2_with fail
  refine (E1.out _ C.out.1).mono ?_
  rintro e w2 ⟨rfl, hb2⟩
  have x2 := below_box C.out.2.1 hb2
  have y2 := below_box C.out.2.2.1 hb2
  clear q0 q1 q2 q3 q4 q5 q6 q7
  obtain ⟨q0, q1, q2, q3, q4, q5, q6, q7⟩ := box8_facts y2
  have D : Hid (_ ∧ _ ∧ _ ∧ _) := ⟨C.out.1.below hb2, x2, y2, C.out.2.2.2.trans (hb2.mono C.out.2.2.2.size)⟩
  clear hb2 x2 y2
  go_wp2_with fail
  refine (E2.out _ D.out.1).mono ?_
  rintro e w3 ⟨rfl, hb3⟩
  have x3 := below_box D.out.2.1 hb3
  have y3 := below_box D.out.2.2.1 hb3
  clear q0 q1 q2 q3 q4 q5 q6 q7
  obtain ⟨q0, q1, q2, q3, q4, q5, q6, q7⟩ := box8_facts x3
  obtain ⟨z0, z1, z2, z3, z4, z5, z6, z7⟩ := box8_facts y3
  have G : Hid _ := D.out.2.2.2.trans (hb3.mono D.out.2.2.2.size)
  clear hb3 x3 y3
  go_wp2
  go_ret
  exact ⟨rfl, G.out⟩
set_option maxHeartbeats 400000 in
theorem unlike_same (op rd rs1 rs2 imm csr : Int) (aq rl : Bool) (hbx : -9223372036854775808 ≤ imm ∧ imm < 9223372036854775808) (hby : -9223372036854775808 ≤ imm ∧ imm < 9223372036854775808) (W : World) (ht : Tabs W) (hx : rightB op rd rs1 rs2 imm csr aq rl = true) :
    Calls Tryd.prog 7 #[.agg (instrC op rd rs1 rs2 imm csr aq rl), .agg (instrC op rd rs1 rs2 imm csr aq rl)] W fun e w' => e = .returned (.bool true) ∧ Below W.heap.size W w' := by
  have b0 := (Below.refl W.heap.size W).alloc (Nat.le_refl _) (.cells (instrC op rd rs1 rs2 imm csr aq rl) 23)
  have b1 := b0.alloc b0.size (.cells (instrC op rd rs1 rs2 imm csr aq rl) 23)
  have hn1 := heap_alloc_new (W.alloc (.cells (instrC op rd rs1 rs2 imm csr aq rl) 23)) (.cells (instrC op rd rs1 rs2 imm csr aq rl) 23)
  rw [show (W.alloc (.cells (instrC op rd rs1 rs2 imm csr aq rl) 23)).heap.size = W.heap.size + 1 from by simp] at hn1
  have S : Hid (_ ∧ _ ∧ _ ∧ _) := ⟨ht.below b1, (heap_alloc_old (W.alloc (.cells (instrC op rd rs1 rs2 imm csr aq rl) 23)) (.cells (instrC op rd rs1 rs2 imm csr aq rl) 23) (show W.heap.size < (W.alloc (.cells (instrC op rd rs1 rs2 imm csr aq rl) 23)).heap.size by simp)).trans (heap_alloc_new W (.cells (instrC op rd rs1 rs2 imm csr aq rl) 23)), hn1, b1⟩
  clear ht b0 b1 hn1
  have he := rightE_yes hx
  clear hx
  have E1 : Hid _ := encode_any op rd rs1 rs2 imm csr aq rl hbx
  have E2 : Hid _ := encode_any op rd rs1 rs2 imm csr aq rl hby
  clear hbx hby
  go_enter Tryd.func7, Tryd.ntmps7
  go_wp2_with fail
  refine (awake_any _ (by exact S.out.1)).mono ?_
  rintro e w1 ⟨rfl, hb1⟩
  have x1 := below_box (by exact S.out.2.1) hb1
  have y1 := below_box (by exact S.out.2.2.1) hb1
  obtain ⟨q0, q1, q2, q3, q4, q5, q6, q7⟩ := box8_facts x1
  have C : Hid (_ ∧ _ ∧ _ ∧ _) := ⟨Tabs.below (by exact S.out.1) hb1, x1, y1, S.out.2.2.2.trans (hb1.mono S.out.2.2.2.size)⟩
  clear hb1 x1 y1
  go_wp2_with fail
  refine (E1.out _ C.out.1).mono ?_
  rintro e w2 ⟨rfl, hb2⟩
  have x2 := below_box C.out.2.1 hb2
  have y2 := below_box C.out.2.2.1 hb2
  clear q0 q1 q2 q3 q4 q5 q6 q7
  obtain ⟨q0, q1, q2, q3, q4, q5, q6, q7⟩ := box8_facts y2
  have D : Hid (_ ∧ _ ∧ _ ∧ _) := ⟨C.out.1.below hb2, x2, y2, C.out.2.2.2.trans (hb2.mono C.out.2.2.2.size)⟩
  clear hb2 x2 y2
  go_wp2_with fail
  refine (E2.out _ D.out.1).mono ?_
  rintro e w3 ⟨rfl, hb3⟩
  have x3 := below_box D.out.2.1 hb3
  have y3 := below_box D.out.2.2.1 hb3
  clear q0 q1 q2 q3 q4 q5 q6 q7
  obtain ⟨q0, q1, q2, q3, q4, q5, q6, q7⟩ := box8_facts x3
  obtain ⟨z0, z1, z2, z3, z4, z5, z6, z7⟩ := box8_facts y3
  have G : Hid _ := D.out.2.2.2.trans (hb3.mono D.out.2.2.2.size)
  clear hb3 x3 y3
  go_wp2
  go_ret
  exact ⟨by simp, G.out⟩
set_option maxHeartbeats 400000 in
theorem unlike_0 (op rd rs1 rs2 imm csr op' rd' rs1' rs2' imm' csr' : Int) (aq rl aq' rl' : Bool) (hbx : -9223372036854775808 ≤ imm ∧ imm < 9223372036854775808) (hby : -9223372036854775808 ≤ imm' ∧ imm' < 9223372036854775808) (W : World) (ht : Tabs W) (hx : rightB op rd rs1 rs2 imm csr aq rl = true) (hy : rightB op' rd' rs1' rs2' imm' csr' aq' rl' = true) (hn : op ≠ op') :
    Calls Tryd.prog 7 #[.agg (instrC op rd rs1 rs2 imm csr aq rl), .agg (instrC op' rd' rs1' rs2' imm' csr' aq' rl')] W fun e w' => e = .returned (.bool true) ∧ Below W.heap.size W w' := by
  have b0 := (Below.refl W.heap.size W).alloc (Nat.le_refl _) (.cells (instrC op rd rs1 rs2 imm csr aq rl) 23)
  have b1 := b0.alloc b0.size (.cells (instrC op' rd' rs1' rs2' imm' csr' aq' rl') 23)
  have hn1 := heap_alloc_new (W.alloc (.cells (instrC op rd rs1 rs2 imm csr aq rl) 23)) (.cells (instrC op' rd' rs1' rs2' imm' csr' aq' rl') 23)
  rw [show (W.alloc (.cells (instrC op rd rs1 rs2 imm csr aq rl) 23)).heap.size = W.heap.size + 1 from by simp] at hn1
  have S : Hid (_ ∧ _ ∧ _ ∧ _) := ⟨ht.below b1, (heap_alloc_old (W.alloc (.cells (instrC op rd rs1 rs2 imm csr aq rl) 23)) (.cells (instrC op' rd' rs1' rs2' imm' csr' aq' rl') 23) (show W.heap.size < (W.alloc (.cells (instrC op rd rs1 rs2 imm csr aq rl) 23)).heap.size by simp)).trans (heap_alloc_new W (.cells (instrC op rd rs1 rs2 imm csr aq rl) 23)), hn1, b1⟩
  clear ht b0 b1 hn1
  have hq : (encV op rd rs1 rs2 imm csr aq rl == encV op' rd' rs1' rs2' imm' csr' aq' rl') = false := by
    rw [beq_eq_false_iff_ne]
    intro h
    have := enc_inj hx hy h
    simp at this
    first | exact hn this.1 | exact hn this | simp_all
  have he := rightE_yes hx
  have he2 := rightE_yes hy
  have hm : (op == op') = false := beq_eq_false_iff_ne.2 hn
  clear hx hy hn
  have E1 : Hid _ := encode_any op rd rs1 rs2 imm csr aq rl hbx
  have E2 : Hid _ := encode_any op' rd' rs1' rs2' imm' csr' aq' rl' hby
  clear hbx hby
  go_enter Tryd.func7, Tryd.ntmps7
  go_wp2_with fail
  refine (awake_any _ (by exact S.out.1)).mono ?_
  rintro e w1 ⟨rfl, hb1⟩
  have x1 := below_box (by exact S.out.2.1) hb1
  have y1 := below_box (by exact S.out.2.2.1) hb1
  obtain ⟨q0, q1, q2, q3, q4, q5, q6, q7⟩ := box8_facts x1
  have C : Hid (_ ∧ _ ∧ _ ∧ _) := ⟨Tabs.below (by exact S.out.1) hb1, x1, y1, S.out.2.2.2.trans (hb1.mono S.out.2.2.2.size)⟩
  clear hb1 x1 y1
  go_wp2_with fail
  refine (E1.out _ C.out.1).mono ?_
  rintro e w2 ⟨rfl, hb2⟩
  have x2 := below_box C.out.2.1 hb2
  have y2 := below_box C.out.2.2.1 hb2
  clear q0 q1 q2 q3 q4 q5 q6 q7
  obtain ⟨q0, q1, q2, q3, q4, q5, q6, q7⟩ := box8_facts y2
  have D : Hid (_ ∧ _ ∧ _ ∧ _) := ⟨C.out.1.below hb2, x2, y2, C.out.2.2.2.trans (hb2.mono C.out.2.2.2.size)⟩
  clear hb2 x2 y2
  go_wp2_with fail
  refine (E2.out _ D.out.1).mono ?_
  rintro e w3 ⟨rfl, hb3⟩
  have x3 := below_box D.out.2.1 hb3
  have y3 := below_box D.out.2.2.1 hb3
  clear q0 q1 q2 q3 q4 q5 q6 q7
  obtain ⟨q0, q1, q2, q3, q4, q5, q6, q7⟩ := box8_facts x3
  obtain ⟨z0, z1, z2, z3, z4, z5, z6, z7⟩ := box8_facts y3
  have G : Hid _ := D.out.2.2.2.trans (hb3.mono D.out.2.2.2.size)
  clear hb3 x3 y3
  go_wp2
  go_ret
  exact ⟨by simp, G.out⟩
set_option maxHeartbeats 400000 in
theorem unlike_1 (op rd rs1 rs2 imm csr rd' rs1' rs2' imm' csr' : Int) (aq rl aq' rl' : Bool) (hbx : -9223372036854775808 ≤ imm ∧ imm < 9223372036854775808) (hby : -9223372036854775808 ≤ imm' ∧ imm' < 9223372036854775808) (W : World) (ht : Tabs W) (hx : rightB op rd rs1 rs2 imm csr aq rl = true) (hy : rightB op rd' rs1' rs2' imm' csr' aq' rl' = true) (hn : rd ≠ rd') :
    Calls Tryd.prog 7 #[.agg (instrC op rd rs1 rs2 imm csr aq rl), .agg (instrC op rd' rs1' rs2' imm' csr' aq' rl')] W fun e w' => e = .returned (.bool true) ∧ Below W.heap.size W w' := by
  have b0 := (Below.refl W.heap.size W).alloc (Nat.le_refl _) (.cells (instrC op rd rs1 rs2 imm csr aq rl) 23)
  have b1 := b0.alloc b0.size (.cells (instrC op rd' rs1' rs2' imm' csr' aq' rl') 23)
  have hn1 := heap_alloc_new (W.alloc (.cells (instrC op rd rs1 rs2 imm csr aq rl) 23)) (.cells (instrC op rd' rs1' rs2' imm' csr' aq' rl') 23)
  rw [show (W.alloc (.cells (instrC op rd rs1 rs2 imm csr aq rl) 23)).heap.size = W.heap.size + 1 from by simp] at hn1
  have S : Hid (_ ∧ _ ∧ _ ∧ _) := ⟨ht.below b1, (heap_alloc_old (W.alloc (.cells (instrC op rd rs1 rs2 imm csr aq rl) 23)) (.cells (instrC op rd' rs1' rs2' imm' csr' aq' rl') 23) (show W.heap.size < (W.alloc (.cells (instrC op rd rs1 rs2 imm csr aq rl) 23)).heap.size by simp)).trans (heap_alloc_new W (.cells (instrC op rd rs1 rs2 imm csr aq rl) 23)), hn1, b1⟩
  clear ht b0 b1 hn1
  have hq : (encV op rd rs1 rs2 imm csr aq rl == encV op rd' rs1' rs2' imm' csr' aq' rl') = false := by
    rw [beq_eq_false_iff_ne]
    intro h
    have := enc_inj hx hy h
    simp at this
    first | exact hn this.1 | exact hn this | simp_all
  have he := rightE_yes hx
  have he2 := rightE_yes hy
  have hm : (rd == rd') = false := beq_eq_false_iff_ne.2 hn
  clear hx hy hn
  have E1 : Hid _ := encode_any op rd rs1 rs2 imm csr aq rl hbx
  have E2 : Hid _ := encode_any op rd' rs1' rs2' imm' csr' aq' rl' hby
  clear hbx hby
  go_enter Tryd.func7, Tryd.ntmps7
  go_wp2_with fail
  refine (awake_any _ (by exact S.out.1)).mono ?_
  rintro e w1 ⟨rfl, hb1⟩
  have x1 := below_box (by exact S.out.2.1) hb1
  have y1 := below_box (by exact S.out.2.2.1) hb1
  obtain ⟨q0, q1, q2, q3, q4, q5, q6, q7⟩ := box8_facts x1
  have C : Hid (_ ∧ _ ∧ _ ∧ _) := ⟨Tabs.below (by exact S.out.1) hb1, x1, y1, S.out.2.2.2.trans (hb1.mono S.out.2.2.2.size)⟩
  clear hb1 x1 y1
  go_wp2_with fail
  refine (E1.out _ C.out.1).mono ?_
  rintro e w2 ⟨rfl, hb2⟩
  have x2 := below_box C.out.2.1 hb2
  have y2 := below_box C.out.2.2.1 hb2
  clear q0 q1 q2 q3 q4 q5 q6 q7
  obtain ⟨q0, q1, q2, q3, q4, q5, q6, q7⟩ := box8_facts y2
  have D : Hid (_ ∧ _ ∧ _ ∧ _) := ⟨C.out.1.below hb2, x2, y2, C.out.2.2.2.trans (hb2.mono C.out.2.2.2.size)⟩
  clear hb2 x2 y2
  go_wp2_with fail
  refine (E2.out _ D.out.1).mono ?_
  rintro e w3 ⟨rfl, hb3⟩
  have x3 := below_box D.out.2.1 hb3
  have y3 := below_box D.out.2.2.1 hb3
  clear q0 q1 q2 q3 q4 q5 q6 q7
  obtain ⟨q0, q1, q2, q3, q4, q5, q6, q7⟩ := box8_facts x3
  obtain ⟨z0, z1, z2, z3, z4, z5, z6, z7⟩ := box8_facts y3
  have G : Hid _ := D.out.2.2.2.trans (hb3.mono D.out.2.2.2.size)
  clear hb3 x3 y3
  go_wp2
  go_ret
  exact ⟨by simp, G.out⟩
set_option maxHeartbeats 400000 in
theorem unlike_2 (op rd rs1 rs2 imm csr rs1' rs2' imm' csr' : Int) (aq rl aq' rl' : Bool) (hbx : -9223372036854775808 ≤ imm ∧ imm < 9223372036854775808) (hby : -9223372036854775808 ≤ imm' ∧ imm' < 9223372036854775808) (W : World) (ht : Tabs W) (hx : rightB op rd rs1 rs2 imm csr aq rl = true) (hy : rightB op rd rs1' rs2' imm' csr' aq' rl' = true) (hn : rs1 ≠ rs1') :
    Calls Tryd.prog 7 #[.agg (instrC op rd rs1 rs2 imm csr aq rl), .agg (instrC op rd rs1' rs2' imm' csr' aq' rl')] W fun e w' => e = .returned (.bool true) ∧ Below W.heap.size W w' := by
  have b0 := (Below.refl W.heap.size W).alloc (Nat.le_refl _) (.cells (instrC op rd rs1 rs2 imm csr aq rl) 23)
  have b1 := b0.alloc b0.size (.cells (instrC op rd rs1' rs2' imm' csr' aq' rl') 23)
  have hn1 := heap_alloc_new (W.alloc (.cells (instrC op rd rs1 rs2 imm csr aq rl) 23)) (.cells (instrC op rd rs1' rs2' imm' csr' aq' rl') 23)
  rw [show (W.alloc (.cells (instrC op rd rs1 rs2 imm csr aq rl) 23)).heap.size = W.heap.size + 1 from by simp] at hn1
  have S : Hid (_ ∧ _ ∧ _ ∧ _) := ⟨ht.below b1, (heap_alloc_old (W.alloc (.cells (instrC op rd rs1 rs2 imm csr aq rl) 23)) (.cells (instrC op rd rs1' rs2' imm' csr' aq' rl') 23) (show W.heap.size < (W.alloc (.cells (instrC op rd rs1 rs2 imm csr aq rl) 23)).heap.size by simp)).trans (heap_alloc_new W (.cells (instrC op rd rs1 rs2 imm csr aq rl) 23)), hn1, b1⟩
  clear ht b0 b1 hn1
  have hq : (encV op rd rs1 rs2 imm csr aq rl == encV op rd rs1' rs2' imm' csr' aq' rl') = false := by
    rw [beq_eq_false_iff_ne]
    intro h
    have := enc_inj hx hy h
    simp at this
    first | exact hn this.1 | exact hn this | simp_all
  have he := rightE_yes hx
  have he2 := rightE_yes hy
  have hm : (rs1 == rs1') = false := beq_eq_false_iff_ne.2 hn
  clear hx hy hn
  have E1 : Hid _ := encode_any op rd rs1 rs2 imm csr aq rl hbx
  have E2 : Hid _ := encode_any op rd rs1' rs2' imm' csr' aq' rl' hby
  clear hbx hby
  go_enter Tryd.func7, Tryd.ntmps7
  go_wp2_with fail
  refine (awake_any _ (by exact S.out.1)).mono ?_
  rintro e w1 ⟨rfl, hb1⟩
  have x1 := below_box (by exact S.out.2.1) hb1
  have y1 := below_box (by exact S.out.2.2.1) hb1
  obtain ⟨q0, q1, q2, q3, q4, q5, q6, q7⟩ := box8_facts x1
  have C : Hid (_ ∧ _ ∧ _ ∧ _) := ⟨Tabs.below (by exact S.out.1) hb1, x1, y1, S.out.2.2.2.trans (hb1.mono S.out.2.2.2.size)⟩
  clear hb1 x1 y1
  go_wp2_with fail
  refine (E1.out _ C.out.1).mono ?_
  rintro e w2 ⟨rfl, hb2⟩
  have x2 := below_box C.out.2.1 hb2
  have y2 := below_box C.out.2.2.1 hb2
  clear q0 q1 q2 q3 q4 q5 q6 q7
  obtain ⟨q0, q1, q2, q3, q4, q5, q6, q7⟩ := box8_facts y2
  have D : Hid (_ ∧ _ ∧ _ ∧ _) := ⟨C.out.1.below hb2, x2, y2, C.out.2.2.2.trans (hb2.mono C.out.2.2.2.size)⟩
  clear hb2 x2 y2
  go_wp2_with fail
  refine (E2.out _ D.out.1).mono ?_
  rintro e w3 ⟨rfl, hb3⟩
  have x3 := below_box D.out.2.1 hb3
  have y3 := below_box D.out.2.2.1 hb3
  clear q0 q1 q2 q3 q4 q5 q6 q7
  obtain ⟨q0, q1, q2, q3, q4, q5, q6, q7⟩ := box8_facts x3
  obtain ⟨z0, z1, z2, z3, z4, z5, z6, z7⟩ := box8_facts y3
  have G : Hid _ := D.out.2.2.2.trans (hb3.mono D.out.2.2.2.size)
  clear hb3 x3 y3
  go_wp2
  go_ret
  exact ⟨by simp, G.out⟩
set_option maxHeartbeats 400000 in
theorem unlike_3 (op rd rs1 rs2 imm csr rs2' imm' csr' : Int) (aq rl aq' rl' : Bool) (hbx : -9223372036854775808 ≤ imm ∧ imm < 9223372036854775808) (hby : -9223372036854775808 ≤ imm' ∧ imm' < 9223372036854775808) (W : World) (ht : Tabs W) (hx : rightB op rd rs1 rs2 imm csr aq rl = true) (hy : rightB op rd rs1 rs2' imm' csr' aq' rl' = true) (hn : rs2 ≠ rs2') :
    Calls Tryd.prog 7 #[.agg (instrC op rd rs1 rs2 imm csr aq rl), .agg (instrC op rd rs1 rs2' imm' csr' aq' rl')] W fun e w' => e = .returned (.bool true) ∧ Below W.heap.size W w' := by
  have b0 := (Below.refl W.heap.size W).alloc (Nat.le_refl _) (.cells (instrC op rd rs1 rs2 imm csr aq rl) 23)
  have b1 := b0.alloc b0.size (.cells (instrC op rd rs1 rs2' imm' csr' aq' rl') 23)
  have hn1 := heap_alloc_new (W.alloc (.cells (instrC op rd rs1 rs2 imm csr aq rl) 23)) (.cells (instrC op rd rs1 rs2' imm' csr' aq' rl') 23)
  rw [show (W.alloc (.cells (instrC op rd rs1 rs2 imm csr aq rl) 23)).heap.size = W.heap.size + 1 from by simp] at hn1
  have S : Hid (_ ∧ _ ∧ _ ∧ _) := ⟨ht.below b1, (heap_alloc_old (W.alloc (.cells (instrC op rd rs1 rs2 imm csr aq rl) 23)) (.cells (instrC op rd rs1 rs2' imm' csr' aq' rl') 23) (show W.heap.size < (W.alloc (.cells (instrC op rd rs1 rs2 imm csr aq rl) 23)).heap.size by simp)).trans (heap_alloc_new W (.cells (instrC op rd rs1 rs2 imm csr aq rl) 23)), hn1, b1⟩
  clear ht b0 b1 hn1
  have hq : (encV op rd rs1 rs2 imm csr aq rl == encV op rd rs1 rs2' imm' csr' aq' rl') = false := by
    rw [beq_eq_false_iff_ne]
    intro h
    have := enc_inj hx hy h
    simp at this
    first | exact hn this.1 | exact hn this | simp_all
  have he := rightE_yes hx
  have he2 := rightE_yes hy
  have hm : (rs2 == rs2') = false := beq_eq_false_iff_ne.2 hn
  clear hx hy hn
  have E1 : Hid _ := encode_any op rd rs1 rs2 imm csr aq rl hbx
  have E2 : Hid _ := encode_any op rd rs1 rs2' imm' csr' aq' rl' hby
  clear hbx hby
  go_enter Tryd.func7, Tryd.ntmps7
  go_wp2_with fail
  refine (awake_any _ (by exact S.out.1)).mono ?_
  rintro e w1 ⟨rfl, hb1⟩
  have x1 := below_box (by exact S.out.2.1) hb1
  have y1 := below_box (by exact S.out.2.2.1) hb1
  obtain ⟨q0, q1, q2, q3, q4, q5, q6, q7⟩ := box8_facts x1
  have C : Hid (_ ∧ _ ∧ _ ∧ _) := ⟨Tabs.below (by exact S.out.1) hb1, x1, y1, S.out.2.2.2.trans (hb1.mono S.out.2.2.2.size)⟩
  clear hb1 x1 y1
  go_wp2_with fail
  refine (E1.out _ C.out.1).mono ?_
  rintro e w2 ⟨rfl, hb2⟩
  have x2 := below_box C.out.2.1 hb2
  have y2 := below_box C.out.2.2.1 hb2
  clear q0 q1 q2 q3 q4 q5 q6 q7
  obtain ⟨q0, q1, q2, q3, q4, q5, q6, q7⟩ := box8_facts y2
  have D : Hid (_ ∧ _ ∧ _ ∧ _) := ⟨C.out.1.below hb2, x2, y2, C.out.2.2.2.trans (hb2.mono C.out.2.2.2.size)⟩
  clear hb2 x2 y2
  go_wp2_with fail
  refine (E2.out _ D.out.1).mono ?_
  rintro e w3 ⟨rfl, hb3⟩
  have x3 := below_box D.out.2.1 hb3
  have y3 := below_box D.out.2.2.1 hb3
  clear q0 q1 q2 q3 q4 q5 q6 q7
  obtain ⟨q0, q1, q2, q3, q4, q5, q6, q7⟩ := box8_facts x3
  obtain ⟨z0, z1, z2, z3, z4, z5, z6, z7⟩ := box8_facts y3
  have G : Hid _ := D.out.2.2.2.trans (hb3.mono D.out.2.2.2.size)
  clear hb3 x3 y3
  go_wp2
  go_ret
  exact ⟨by simp, G.out⟩
set_option maxHeartbeats 400000 in
theorem unlike_4 (op rd rs1 rs2 imm csr imm' csr' : Int) (aq rl aq' rl' : Bool) (hbx : -9223372036854775808 ≤ imm ∧ imm < 9223372036854775808) (hby : -9223372036854775808 ≤ imm' ∧ imm' < 9223372036854775808) (W : World) (ht : Tabs W) (hx : rightB op rd rs1 rs2 imm csr aq rl = true) (hy : rightB op rd rs1 rs2 imm' csr' aq' rl' = true) (hn : imm ≠ imm') :
    Calls Tryd.prog 7 #[.agg (instrC op rd rs1 rs2 imm csr aq rl), .agg (instrC op rd rs1 rs2 imm' csr' aq' rl')] W fun e w' => e = .returned (.bool true) ∧ Below W.heap.size W w' := by
  have b0 := (Below.refl W.heap.size W).alloc (Nat.le_refl _) (.cells (instrC op rd rs1 rs2 imm csr aq rl) 23)
  have b1 := b0.alloc b0.size (.cells (instrC op rd rs1 rs2 imm' csr' aq' rl') 23)
  have hn1 := heap_alloc_new (W.alloc (.cells (instrC op rd rs1 rs2 imm csr aq rl) 23)) (.cells (instrC op rd rs1 rs2 imm' csr' aq' rl') 23)
  rw [show (W.alloc (.cells (instrC op rd rs1 rs2 imm csr aq rl) 23)).heap.size = W.heap.size + 1 from by simp] at hn1
  have S : Hid (_ ∧ _ ∧ _ ∧ _) := ⟨ht.below b1, (heap_alloc_old (W.alloc (.cells (instrC op rd rs1 rs2 imm csr aq rl) 23)) (.cells (instrC op rd rs1 rs2 imm' csr' aq' rl') 23) (show W.heap.size < (W.alloc (.cells (instrC op rd rs1 rs2 imm csr aq rl) 23)).heap.size by simp)).trans (heap_alloc_new W (.cells (instrC op rd rs1 rs2 imm csr aq rl) 23)), hn1, b1⟩
  clear ht b0 b1 hn1
  have hq : (encV op rd rs1 rs2 imm csr aq rl == encV op rd rs1 rs2 imm' csr' aq' rl') = false := by
    rw [beq_eq_false_iff_ne]
    intro h
    have := enc_inj hx hy h
    simp at this
    first | exact hn this.1 | exact hn this | simp_all
  have he := rightE_yes hx
  have he2 := rightE_yes hy
  have hm : (imm == imm') = false := beq_eq_false_iff_ne.2 hn
  clear hx hy hn
  have E1 : Hid _ := encode_any op rd rs1 rs2 imm csr aq rl hbx
  have E2 : Hid _ := encode_any op rd rs1 rs2 imm' csr' aq' rl' hby
  clear hbx hby
  go_enter Tryd.func7, Tryd.ntmps7
  go_wp2_with fail
  refine (awake_any _ (by exact S.out.1)).mono ?_
  rintro e w1 ⟨rfl, hb1⟩
  have x1 := below_box (by exact S.out.2.1) hb1
  have y1 := below_box (by exact S.out.2.2.1) hb1
  obtain ⟨q0, q1, q2, q3, q4, q5, q6, q7⟩ := box8_facts x1
  have C : Hid (_ ∧ _ ∧ _ ∧ _) := ⟨Tabs.below (by exact S.out.1) hb1, x1, y1, S.out.2.2.2.trans (hb1.mono S.out.2.2.2.size)⟩
  clear hb1 x1 y1
  go_wp2_with fail
  refine (E1.out _ C.out.1).mono ?_
  rintro e w2 ⟨rfl, hb2⟩
  have x2 := below_box C.out.2.1 hb2
  have y2 := below_box C.out.2.2.1 hb2
  clear q0 q1 q2 q3 q4 q5 q6 q7
  obtain ⟨q0, q1, q2, q3, q4, q5, q6, q7⟩ := box8_facts y2
  have D : Hid (_ ∧ _ ∧ _ ∧ _) := ⟨C.out.1.below hb2, x2, y2, C.out.2.2.2.trans (hb2.mono C.out.2.2.2.size)⟩
  clear hb2 x2 y2
  go_wp2_with fail
  refine (E2.out _ D.out.1).mono ?_
  rintro e w3 ⟨rfl, hb3⟩
  have x3 := below_box D.out.2.1 hb3
  have y3 := below_box D.out.2.2.1 hb3
  clear q0 q1 q2 q3 q4 q5 q6 q7
  obtain ⟨q0, q1, q2, q3, q4, q5, q6, q7⟩ := box8_facts x3
  obtain ⟨z0, z1, z2, z3, z4, z5, z6, z7⟩ := box8_facts y3
  have G : Hid _ := D.out.2.2.2.trans (hb3.mono D.out.2.2.2.size)
  clear hb3 x3 y3
  go_wp2
  go_ret
  exact ⟨by simp, G.out⟩
set_option maxHeartbeats 400000 in
theorem unlike_5 (op rd rs1 rs2 imm csr csr' : Int) (aq rl aq' rl' : Bool) (hbx : -9223372036854775808 ≤ imm ∧ imm < 9223372036854775808) (hby : -9223372036854775808 ≤ imm ∧ imm < 9223372036854775808) (W : World) (ht : Tabs W) (hx : rightB op rd rs1 rs2 imm csr aq rl = true) (hy : rightB op rd rs1 rs2 imm csr' aq' rl' = true) (hn : csr ≠ csr') :
    Calls Tryd.prog 7 #[.agg (instrC op rd rs1 rs2 imm csr aq rl), .agg (instrC op rd rs1 rs2 imm csr' aq' rl')] W fun e w' => e = .returned (.bool true) ∧ Below W.heap.size W w' := by
  have b0 := (Below.refl W.heap.size W).alloc (Nat.le_refl _) (.cells (instrC op rd rs1 rs2 imm csr aq rl) 23)
  have b1 := b0.alloc b0.size (.cells (instrC op rd rs1 rs2 imm csr' aq' rl') 23)
  have hn1 := heap_alloc_new (W.alloc (.cells (instrC op rd rs1 rs2 imm csr aq rl) 23)) (.cells (instrC op rd rs1 rs2 imm csr' aq' rl') 23)
  rw [show (W.alloc (.cells (instrC op rd rs1 rs2 imm csr aq rl) 23)).heap.size = W.heap.size + 1 from by simp] at hn1
  have S : Hid (_ ∧ _ ∧ _ ∧ _) := ⟨ht.below b1, (heap_alloc_old (W.alloc (.cells (instrC op rd rs1 rs2 imm csr aq rl) 23)) (.cells (instrC op rd rs1 rs2 imm csr' aq' rl') 23) (show W.heap.size < (W.alloc (.cells (instrC op rd rs1 rs2 imm csr aq rl) 23)).heap.size by simp)).trans (heap_alloc_new W (.cells (instrC op rd rs1 rs2 imm csr aq rl) 23)), hn1, b1⟩
  clear ht b0 b1 hn1
  have hq : (encV op rd rs1 rs2 imm csr aq rl == encV op rd rs1 rs2 imm csr' aq' rl') = false := by
    rw [beq_eq_false_iff_ne]
    intro h
    have := enc_inj hx hy h
    simp at this
    first | exact hn this.1 | exact hn this | simp_all
  have he := rightE_yes hx
  have he2 := rightE_yes hy
  have hm : (csr == csr') = false := beq_eq_false_iff_ne.2 hn
  clear hx hy hn
  have E1 : Hid _ := encode_any op rd rs1 rs2 imm csr aq rl hbx
  have E2 : Hid _ := encode_any op rd rs1 rs2 imm csr' aq' rl' hby
  clear hbx hby
  go_enter Tryd.func7, Tryd.ntmps7
  go_wp2_with fail
  refine (awake_any _ (by exact S.out.1)).mono ?_
  rintro e w1 ⟨rfl, hb1⟩
  have x1 := below_box (by exact S.out.2.1) hb1
  have y1 := below_box (by exact S.out.2.2.1) hb1
  obtain ⟨q0, q1, q2, q3, q4, q5, q6, q7⟩ := box8_facts x1
  have C : Hid (_ ∧ _ ∧ _ ∧ _) := ⟨Tabs.below (by exact S.out.1) hb1, x1, y1, S.out.2.2.2.trans (hb1.mono S.out.2.2.2.size)⟩
  clear hb1 x1 y1
  go_wp2_with fail
  refine (E1.out _ C.out.1).mono ?_
  rintro e w2 ⟨rfl, hb2⟩
  have x2 := below_box C.out.2.1 hb2
  have y2 := below_box C.out.2.2.1 hb2
  clear q0 q1 q2 q3 q4 q5 q6 q7
  obtain ⟨q0, q1, q2, q3, q4, q5, q6, q7⟩ := box8_facts y2
  have D : Hid (_ ∧ _ ∧ _ ∧ _) := ⟨C.out.1.below hb2, x2, y2, C.out.2.2.2.trans (hb2.mono C.out.2.2.2.size)⟩
  clear hb2 x2 y2
  go_wp2_with fail
  refine (E2.out _ D.out.1).mono ?_
  rintro e w3 ⟨rfl, hb3⟩
  have x3 := below_box D.out.2.1 hb3
  have y3 := below_box D.out.2.2.1 hb3
  clear q0 q1 q2 q3 q4 q5 q6 q7
  obtain ⟨q0, q1, q2, q3, q4, q5, q6, q7⟩ := box8_facts x3
  obtain ⟨z0, z1, z2, z3, z4, z5, z6, z7⟩ := box8_facts y3
  have G : Hid _ := D.out.2.2.2.trans (hb3.mono D.out.2.2.2.size)
  clear hb3 x3 y3
  go_wp2
  go_ret
  exact ⟨by simp, G.out⟩
set_option maxHeartbeats 400000 in
theorem unlike_6 (op rd rs1 rs2 imm csr : Int) (aq rl aq' rl' : Bool) (hbx : -9223372036854775808 ≤ imm ∧ imm < 9223372036854775808) (hby : -9223372036854775808 ≤ imm ∧ imm < 9223372036854775808) (W : World) (ht : Tabs W) (hx : rightB op rd rs1 rs2 imm csr aq rl = true) (hy : rightB op rd rs1 rs2 imm csr aq' rl' = true) (hn : aq ≠ aq') :
    Calls Tryd.prog 7 #[.agg (instrC op rd rs1 rs2 imm csr aq rl), .agg (instrC op rd rs1 rs2 imm csr aq' rl')] W fun e w' => e = .returned (.bool true) ∧ Below W.heap.size W w' := by
  have b0 := (Below.refl W.heap.size W).alloc (Nat.le_refl _) (.cells (instrC op rd rs1 rs2 imm csr aq rl) 23)
  have b1 := b0.alloc b0.size (.cells (instrC op rd rs1 rs2 imm csr aq' rl') 23)
  have hn1 := heap_alloc_new (W.alloc (.cells (instrC op rd rs1 rs2 imm csr aq rl) 23)) (.cells (instrC op rd rs1 rs2 imm csr aq' rl') 23)
  rw [show (W.alloc (.cells (instrC op rd rs1 rs2 imm csr aq rl) 23)).heap.size = W.heap.size + 1 from by simp] at hn1
  have S : Hid (_ ∧ _ ∧ _ ∧ _) := ⟨ht.below b1, (heap_alloc_old (W.alloc (.cells (instrC op rd rs1 rs2 imm csr aq rl) 23)) (.cells (instrC op rd rs1 rs2 imm csr aq' rl') 23) (show W.heap.size < (W.alloc (.cells (instrC op rd rs1 rs2 imm csr aq rl) 23)).heap.size by simp)).trans (heap_alloc_new W (.cells (instrC op rd rs1 rs2 imm csr aq rl) 23)), hn1, b1⟩
  clear ht b0 b1 hn1
  have hq : (encV op rd rs1 rs2 imm csr aq rl == encV op rd rs1 rs2 imm csr aq' rl') = false := by
    rw [beq_eq_false_iff_ne]
    intro h
    have := enc_inj hx hy h
    simp at this
    first | exact hn this.1 | exact hn this | simp_all
  have he := rightE_yes hx
  have he2 := rightE_yes hy
  have hm : (aq == aq') = false := beq_eq_false_iff_ne.2 hn
  clear hx hy hn
  have E1 : Hid _ := encode_any op rd rs1 rs2 imm csr aq rl hbx
  have E2 : Hid _ := encode_any op rd rs1 rs2 imm csr aq' rl' hby
  clear hbx hby
  go_enter Tryd.func7, Tryd.ntmps7
  go_wp2_with fail
  refine (awake_any _ (by exact S.out.1)).mono ?_
  rintro e w1 ⟨rfl, hb1⟩
  have x1 := below_box (by exact S.out.2.1) hb1
  have y1 := below_box (by exact S.out.2.2.1) hb1
  obtain ⟨q0, q1, q2, q3, q4, q5, q6, q7⟩ := box8_facts x1
  have C : Hid (_ ∧ _ ∧ _ ∧ _) := ⟨Tabs.below (by exact S.out.1) hb1, x1, y1, S.out.2.2.2.trans (hb1.mono S.out.2.2.2.size)⟩
  clear hb1 x1 y1
  go_wp2_with fail
  refine (E1.out _ C.out.1).mono ?_
  rintro e w2 ⟨rfl, hb2⟩
  have x2 := below_box C.out.2.1 hb2
  have y2 := below_box C.out.2.2.1 hb2
  clear q0 q1 q2 q3 q4 q5 q6 q7
  obtain ⟨q0, q1, q2, q3, q4, q5, q6, q7⟩ := box8_facts y2
  have D : Hid (_ ∧ _ ∧ _ ∧ _) := ⟨C.out.1.below hb2, x2, y2, C.out.2.2.2.trans (hb2.mono C.out.2.2.2.size)⟩
  clear hb2 x2 y2
  go_wp2_with fail
  refine (E2.out _ D.out.1).mono ?_
  rintro e w3 ⟨rfl, hb3⟩
  have x3 := below_box D.out.2.1 hb3
  have y3 := below_box D.out.2.2.1 hb3
  clear q0 q1 q2 q3 q4 q5 q6 q7
  obtain ⟨q0, q1, q2, q3, q4, q5, q6, q7⟩ := box8_facts x3
  obtain ⟨z0, z1, z2, z3, z4, z5, z6, z7⟩ := box8_facts y3
  have G : Hid _ := D.out.2.2.2.trans (hb3.mono D.out.2.2.2.size)
  clear hb3 x3 y3
  go_wp2
  go_ret
  exact ⟨by simp, G.out⟩
set_option maxHeartbeats 400000 in
theorem unlike_7 (op rd rs1 rs2 imm csr : Int) (aq rl rl' : Bool) (hbx : -9223372036854775808 ≤ imm ∧ imm < 9223372036854775808) (hby : -9223372036854775808 ≤ imm ∧ imm < 9223372036854775808) (W : World) (ht : Tabs W) (hx : rightB op rd rs1 rs2 imm csr aq rl = true) (hy : rightB op rd rs1 rs2 imm csr aq rl' = true) (hn : rl ≠ rl') :
    Calls Tryd.prog 7 #[.agg (instrC op rd rs1 rs2 imm csr aq rl), .agg (instrC op rd rs1 rs2 imm csr aq rl')] W fun e w' => e = .returned (.bool true) ∧ Below W.heap.size W w' := by
  have b0 := (Below.refl W.heap.size W).alloc (Nat.le_refl _) (.cells (instrC op rd rs1 rs2 imm csr aq rl) 23)
  have b1 := b0.alloc b0.size (.cells (instrC op rd rs1 rs2 imm csr aq rl') 23)
  have hn1 := heap_alloc_new (W.alloc (.cells (instrC op rd rs1 rs2 imm csr aq rl) 23)) (.cells (instrC op rd rs1 rs2 imm csr aq rl') 23)
  rw [show (W.alloc (.cells (instrC op rd rs1 rs2 imm csr aq rl) 23)).heap.size = W.heap.size + 1 from by simp] at hn1
  have S : Hid (_ ∧ _ ∧ _ ∧ _) := ⟨ht.below b1, (heap_alloc_old (W.alloc (.cells (instrC op rd rs1 rs2 imm csr aq rl) 23)) (.cells (instrC op rd rs1 rs2 imm csr aq rl') 23) (show W.heap.size < (W.alloc (.cells (instrC op rd rs1 rs2 imm csr aq rl) 23)).heap.size by simp)).trans (heap_alloc_new W (.cells (instrC op rd rs1 rs2 imm csr aq rl) 23)), hn1, b1⟩
  clear ht b0 b1 hn1
  have hq : (encV op rd rs1 rs2 imm csr aq rl == encV op rd rs1 rs2 imm csr aq rl') = false := by
    rw [beq_eq_false_iff_ne]
    intro h
    have := enc_inj hx hy h
    simp at this
    first | exact hn this.1 | exact hn this | simp_all
  have he := rightE_yes hx
  have he2 := rightE_yes hy
  have hm : (rl == rl') = false := beq_eq_false_iff_ne.2 hn
  clear hx hy hn
  have E1 : Hid _ := encode_any op rd rs1 rs2 imm csr aq rl hbx
  have E2 : Hid _ := encode_any op rd rs1 rs2 imm csr aq rl' hby
  clear hbx hby
  go_enter Tryd.func7, Tryd.ntmps7
  go_wp2_with fail
  refine (awake_any _ (by exact S.out.1)).mono ?_
  rintro e w1 ⟨rfl, hb1⟩
  have x1 := below_box (by exact S.out.2.1) hb1
  have y1 := below_box (by exact S.out.2.2.1) hb1
  obtain ⟨q0, q1, q2, q3, q4, q5, q6, q7⟩ := box8_facts x1
  have C : Hid (_ ∧ _ ∧ _ ∧ _) := ⟨Tabs.below (by exact S.out.1) hb1, x1, y1, S.out.2.2.2.trans (hb1.mono S.out.2.2.2.size)⟩
  clear hb1 x1 y1
  go_wp2_with fail
  refine (E1.out _ C.out.1).mono ?_
  rintro e w2 ⟨rfl, hb2⟩
  have x2 := below_box C.out.2.1 hb2
  have y2 := below_box C.out.2.2.1 hb2
  clear q0 q1 q2 q3 q4 q5 q6 q7
  obtain ⟨q0, q1, q2, q3, q4, q5, q6, q7⟩ := box8_facts y2
  have D : Hid (_ ∧ _ ∧ _ ∧ _) := ⟨C.out.1.below hb2, x2, y2, C.out.2.2.2.trans (hb2.mono C.out.2.2.2.size)⟩
  clear hb2 x2 y2
  go_wp2_with fail
  refine (E2.out _ D.out.1).mono ?_
  rintro e w3 ⟨rfl, hb3⟩
  have x3 := below_box D.out.2.1 hb3
  have y3 := below_box D.out.2.2.1 hb3
  clear q0 q1 q2 q3 q4 q5 q6 q7
  obtain ⟨q0, q1, q2, q3, q4, q5, q6, q7⟩ := box8_facts x3
  obtain ⟨z0, z1, z2, z3, z4, z5, z6, z7⟩ := box8_facts y3
  have G : Hid _ := D.out.2.2.2.trans (hb3.mono D.out.2.2.2.size)
  clear hb3 x3 y3
  go_wp2
  go_ret
  exact ⟨by simp, G.out⟩
theorem unlike_core (op rd rs1 rs2 imm csr : Int) (aq rl : Bool) (hbx : -9223372036854775808 ≤ imm ∧ imm < 9223372036854775808) (op' rd' rs1' rs2' imm' csr' : Int) (aq' rl' : Bool) (hby : -9223372036854775808 ≤ imm' ∧ imm' < 9223372036854775808) (W : World) (ht : Tabs W) :
    Calls Tryd.prog 7 #[.agg (instrC op rd rs1 rs2 imm csr aq rl), .agg (instrC op' rd' rs1' rs2' imm' csr' aq' rl')] W fun e w' => e = .returned (.bool true) ∧ Below W.heap.size W w' := by
  cases hx : rightB op rd rs1 rs2 imm csr aq rl
  · exact unlike_x _ _ _ _ _ _ _ _ _ _ _ _ _ _ _ _ hbx hby W ht hx
  cases hy : rightB op' rd' rs1' rs2' imm' csr' aq' rl'
  · exact unlike_y _ _ _ _ _ _ _ _ _ _ _ _ _ _ _ _ hbx hby W ht hx hy
  by_cases n0 : op = op'
  case neg => exact unlike_0 _ _ _ _ _ _ _ _ _ _ _ _ _ _ _ _ hbx hby W ht hx hy n0
  subst n0
  by_cases n1 : rd = rd'
  case neg => exact unlike_1 _ _ _ _ _ _ _ _ _ _ _ _ _ _ _ hbx hby W ht hx hy n1
  subst n1
  by_cases n2 : rs1 = rs1'
  case neg => exact unlike_2 _ _ _ _ _ _ _ _ _ _ _ _ _ _ hbx hby W ht hx hy n2
  subst n2
  by_cases n3 : rs2 = rs2'
  case neg => exact unlike_3 _ _ _ _ _ _ _ _ _ _ _ _ _ hbx hby W ht hx hy n3
  subst n3
  by_cases n4 : imm = imm'
  case neg => exact unlike_4 _ _ _ _ _ _ _ _ _ _ _ _ hbx hby W ht hx hy n4
  subst n4
  by_cases n5 : csr = csr'
  case neg => exact unlike_5 _ _ _ _ _ _ _ _ _ _ _ hbx hby W ht hx hy n5
  subst n5
  by_cases n6 : aq = aq'
  case neg => exact unlike_6 _ _ _ _ _ _ _ _ _ _ hbx hby W ht hx hy n6
  subst n6
  by_cases n7 : rl = rl'
  case neg => exact unlike_7 _ _ _ _ _ _ _ _ _ hbx hby W ht hx hy n7
  subst n7
  exact unlike_same _ _ _ _ _ _ _ _ hbx hby W ht hx
end Go.Proofs.YtnedhfdejfjfiaaDoor
