/- The statements' call awake, and the statement on what Encode made and Decode reads. -/
import Derived.Test.YtnedhfdejfjfiaaDoorAll
import Derived.Laws.StructEq
namespace Go.Proofs.YtnedhfdejfjfiaaDoor
open Go.RowKit
set_option linter.unusedVariables false
set_option linter.unusedSimpArgs false
theorem enc_addi (w : World) (t : Tabs w) : Calls Tryd.prog 10 #[.agg (instrC 22 1 0 0 1 0 false false)] w fun e w' => e = .returned (.tuple #[.int .u32 1048723, .int .i64 0]) ∧ Below w.heap.size w w' := by
  have h := encode_yes 22 1 0 0 1 0 false false (by decide) w t (by decide +kernel)
  rw [show encS (Int.toNat 22) (Int.toNat 1) (Int.toNat 0) (Int.toNat 0) (Int.toNat 0) false false ((1 : Int) % 18446744073709551616).toNat = 1048723 from by decide +kernel] at h
  exact h
theorem enc_ecall (w : World) (t : Tabs w) : Calls Tryd.prog 10 #[.agg (instrC 52 0 0 0 0 0 false false)] w fun e w' => e = .returned (.tuple #[.int .u32 115, .int .i64 0]) ∧ Below w.heap.size w w' := by
  have h := encode_yes 52 0 0 0 0 0 false false (by decide) w t (by decide +kernel)
  rw [show encS (Int.toNat 52) (Int.toNat 0) (Int.toNat 0) (Int.toNat 0) (Int.toNat 0) false false ((0 : Int) % 18446744073709551616).toNat = 115 from by decide +kernel] at h
  exact h
theorem zero_none : ∀ j, j < 99 → 1 ≤ j → hit 0 j = false := by decide +kernel
theorem dec_zero (w : World) (t : Tabs w) : Calls Tryd.prog 14 #[.int .u32 0] w fun e w' => e = .returned (.tuple #[.agg (instrC 0 0 0 0 0 0 false false), .int .i64 31]) ∧ Below w.heap.size w w' :=
  decode_none 0 (by decide) (fun j h1 h2 => zero_none j h2 h1) w t
set_option maxHeartbeats 400000 in
theorem awake_any (w : World) (t : Tabs w) : Calls Tryd.prog 9 #[] w fun e w' => e = .returned (.bool true) ∧ Below w.heap.size w w' := by
  have T0 : Hid (Tabs w) := t
  clear t
  go_enter Tryd.func9, Tryd.ntmps9
  go_wp2_with fail
  refine (enc_addi _ T0.out).mono ?_
  rintro e w1 ⟨rfl, hb1⟩
  have B1 : Hid _ := hb1
  clear hb1
  go_wp2_with fail
  refine (enc_ecall _ (T0.out.below B1.out)).mono ?_
  rintro e w2 ⟨rfl, hb2⟩
  have B2 : Hid _ := B1.out.trans (hb2.mono B1.out.size)
  clear hb2
  go_wp2_with fail
  refine (dec_zero _ (T0.out.below B2.out)).mono ?_
  rintro e w3 ⟨rfl, hb3⟩
  have B3 : Hid _ := B2.out.trans (hb3.mono B2.out.size)
  clear hb3
  go_wp2
  go_ret
  exact ⟨rfl, B3.out.alloc B3.out.size _⟩
/-- the statement on what Encode made and Decode reads -/
theorem back_core (op rd rs1 rs2 imm csr : Int) (aq rl : Bool) (hb : -9223372036854775808 ≤ imm ∧ imm < 9223372036854775808) (W : World) (ht : Tabs W) :
    Calls Tryd.prog 5 #[.agg (instrC op rd rs1 rs2 imm csr aq rl)] W fun e w' => e = .returned (.bool true) ∧ Below W.heap.size W w' := by
  have S : Hid (_ ∧ _ ∧ _) := ⟨ht.below ((Below.refl _ _).alloc (Nat.le_refl _) (.cells (instrC op rd rs1 rs2 imm csr aq rl) 23)), heap_alloc_new W (.cells (instrC op rd rs1 rs2 imm csr aq rl) 23), (Below.refl W.heap.size W).alloc (Nat.le_refl _) (.cells (instrC op rd rs1 rs2 imm csr aq rl) 23)⟩
  clear ht
  cases hr : rightB op rd rs1 rs2 imm csr aq rl
  · go_enter Tryd.func5, Tryd.ntmps5
    go_wp2_with fail
    refine (awake_any _ S.out.1).mono ?_
    rintro e w1 ⟨rfl, hb1⟩
    have x1 := below_box S.out.2.1 hb1
    obtain ⟨q0, q1, q2, q3, q4, q5, q6, q7⟩ := box8_facts x1
    have C : Hid (_ ∧ _ ∧ _) := ⟨S.out.1.below hb1, x1, S.out.2.2.trans (hb1.mono (by simp))⟩
    clear hb1 x1
    go_wp2_with fail
    refine (encode_no op rd rs1 rs2 imm csr aq rl _ C.out.1 hr).mono ?_
    rintro e w2 ⟨rfl, hb2⟩
    have x2 := below_box C.out.2.1 hb2
    clear q0 q1 q2 q3 q4 q5 q6 q7
    obtain ⟨q0, q1, q2, q3, q4, q5, q6, q7⟩ := box8_facts x2
    have D : Hid (_ ∧ _ ∧ _) := ⟨C.out.1.below hb2, x2, C.out.2.2.trans (hb2.mono C.out.2.2.size)⟩
    clear hb2 x2
    go_wp2_with fail
    refine (right_any op rd rs1 rs2 imm csr aq rl _ D.out.1).mono ?_
    rw [rightE_no hr]
    rintro e w3 ⟨rfl, hb3⟩
    have G : Hid _ := D.out.2.2.trans (hb3.mono D.out.2.2.size)
    clear hb3
    go_wp2
    go_ret
    exact ⟨rfl, G.out⟩
  · obtain ⟨o, a, b, c, d, rfl, rfl, rfl, rfl, rfl, h1, h2, hf, hz, hl, hp, hi⟩ := right_nat hr
    obtain ⟨U, hU⟩ : ∃ U : Nat, (U : Int) = imm % 18446744073709551616 := ⟨(imm % 18446744073709551616).toNat, by omega⟩
    obtain ⟨r0, r1, r2⟩ := decoded o a b c d imm aq rl U hU h1 h2 hp hi
    have hE := fun (w : World) (t : Tabs w) => encode_yes o a b c imm d aq rl hb w t hr
    rw [show (imm % 18446744073709551616).toNat = U from by omega] at hE
    simp only [Int.toNat_natCast] at hE
    have hD := fun (w : World) (t : Tabs w) => decode_hit (encS o a b c d aq rl U) o r0 h1 h2 r1 (fun j j1 j2 => by
      cases hj : hit (encS o a b c d aq rl U) j
      · rfl
      · have := hit_one _ j o (by omega) h2 j1 h1 hj r1; omega) w t
    rw [r2] at hD
    generalize encS o a b c d aq rl U = X at *
    have HE : Hid _ := hE
    have HD : Hid _ := hD
    clear hE hD r0 r1 r2 hU hp hi hf hz hl h1 h2 hb hr
    go_enter Tryd.func5, Tryd.ntmps5
    go_wp2_with fail
    refine (awake_any _ S.out.1).mono ?_
    rintro e w1 ⟨rfl, hb1⟩
    have x1 := below_box S.out.2.1 hb1
    obtain ⟨q0, q1, q2, q3, q4, q5, q6, q7⟩ := box8_facts x1
    have C : Hid (_ ∧ _ ∧ _) := ⟨S.out.1.below hb1, x1, S.out.2.2.trans (hb1.mono (by simp))⟩
    clear hb1 x1
    go_wp2_with fail
    refine (HE.out _ C.out.1).mono ?_
    rintro e w2 ⟨rfl, hb2⟩
    have x2 := below_box C.out.2.1 hb2
    clear q0 q1 q2 q3 q4 q5 q6 q7
    have D : Hid (_ ∧ _ ∧ _) := ⟨C.out.1.below hb2, x2, C.out.2.2.trans (hb2.mono C.out.2.2.size)⟩
    clear hb2 x2
    go_wp2_with fail
    refine (HD.out _ D.out.1).mono ?_
    rintro e w3 ⟨rfl, hb3⟩
    have x3 := below_box D.out.2.1 hb3
    have l3 : W.heap.size < w3.heap.size := (Array.getElem?_eq_some_iff.1 x3).1
    have hne : W.heap.size ≠ w3.heap.size := Nat.ne_of_lt l3
    obtain ⟨q0, q1, q2, q3, q4, q5, q6, q7⟩ := box8_facts x3
    have G : Hid _ := D.out.2.2.trans (hb3.mono D.out.2.2.size)
    clear hb3 x3
    go_wp2
    go_ret
    exact ⟨by simp, G.out.alloc G.out.size _⟩
end Go.Proofs.YtnedhfdejfjfiaaDoor
