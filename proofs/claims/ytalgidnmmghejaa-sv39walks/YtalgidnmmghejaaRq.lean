/- The document's answer Allowed of layer 10. -/
import Derived.Test.YtalgidnmmghejaaRp
namespace Go.Proofs.Ytalgidnmmghejaa
open Go.RowKit
set_option linter.unusedVariables false
set_option linter.unusedSimpArgs false
set_option maxRecDepth 100000
set_option maxHeartbeats 4000000 in
theorem dallowed_core (satp : Nat) (kind mode : Int) (sum mxr : Bool) (x : Nat) (B : Int → Bool) (w : World) (c : ∀ (i : Int) V, Calls Try.prog 94 #[.int .u64 (x : Int), .int .i64 i] V fun e w' => e = .returned (.bool (B i)) ∧ Below V.heap.size V w')
    (u1 u2 u3 u4 u6 u7 : Bool) (h1 : B 1 = u1) (h2 : B 2 = u2) (h3 : B 3 = u3) (h4 : B 4 = u4) (h6 : B 6 = u6) (h7 : B 7 = u7) (R : Bool) (hR : Hid (R = (admB kind mode sum u4 && u6 && (if kind = 0 then u3 else if kind = 1 then u1 || (u3 && mxr) else u2 && u7)))) :
    Calls Try.prog 76 #[.agg #[.int .u64 (satp : Nat), .int .i64 kind, .int .i64 mode, .bool sum, .bool mxr], .int .u64 (x : Nat)] w fun e w' => e = .returned (.bool R) ∧ Below w.heap.size w w' := by
  have X0 : Hid (At 25 w (w.alloc (.cells #[.int .u64 (satp : Nat), .int .i64 kind, .int .i64 mode, .bool sum, .bool mxr] 25)) #[.int .u64 (satp : Nat), .int .i64 kind, .int .i64 mode, .bool sum, .bool mxr]) := At.new _ _ _
  go_enter Try.func76, Try.ntmps76
  go_upto_region 1 with fail
  generalize w.alloc (.cells #[.int .u64 (satp : Nat), .int .i64 kind, .int .i64 mode, .bool sum, .bool mxr] 25) = V0 at *
  have f1 := cellOf X0.out.1 1 _ rfl
  have f2 := cellOf X0.out.1 2 _ rfl
  have f3 := cellOf X0.out.1 3 _ rfl
  have f4 := cellOf X0.out.1 4 _ rfl
  by_cases m0 : mode = 0
  · have m0b : (mode == 0) = true := by simp [m0]
    have m1b : (mode == 1) = false := by simp [m0]
    have M0 : Hid (mode = 0) := m0
    clear m0
    cases u4
    · go_wp2_with fail
      refine (c 4 _).mono ?_
      rintro e w1 ⟨rfl, hb⟩
      have X1 : Hid (At 25 w w1 #[.int .u64 (satp : Nat), .int .i64 kind, .int .i64 mode, .bool sum, .bool mxr]) := X0.out.step hb
      clear hb
      have f1_1 := cellOf X1.out.1 1 _ rfl
      have f2_1 := cellOf X1.out.1 2 _ rfl
      have f3_1 := cellOf X1.out.1 3 _ rfl
      have f4_1 := cellOf X1.out.1 4 _ rfl
      go_wp2_with fail
      go_ret
      exact ⟨by rw [hR.out]; simp [admB, M0.out], X1.out.2⟩
    cases u6
    · go_wp2_with fail
      refine (c 4 _).mono ?_
      rintro e w1 ⟨rfl, hb⟩
      have X1 : Hid (At 25 w w1 #[.int .u64 (satp : Nat), .int .i64 kind, .int .i64 mode, .bool sum, .bool mxr]) := X0.out.step hb
      clear hb
      have f1_1 := cellOf X1.out.1 1 _ rfl
      have f2_1 := cellOf X1.out.1 2 _ rfl
      have f3_1 := cellOf X1.out.1 3 _ rfl
      have f4_1 := cellOf X1.out.1 4 _ rfl
      go_wp2_with fail
      refine (c 6 _).mono ?_
      rintro e w2 ⟨rfl, hb⟩
      have X2 : Hid (At 25 w w2 #[.int .u64 (satp : Nat), .int .i64 kind, .int .i64 mode, .bool sum, .bool mxr]) := X1.out.step hb
      clear hb
      have f1_2 := cellOf X2.out.1 1 _ rfl
      have f2_2 := cellOf X2.out.1 2 _ rfl
      have f3_2 := cellOf X2.out.1 3 _ rfl
      have f4_2 := cellOf X2.out.1 4 _ rfl
      go_wp2_with fail
      go_ret
      exact ⟨by rw [hR.out]; simp [admB, M0.out], X2.out.2⟩
    go_wp2_with fail
    refine (c 4 _).mono ?_
    rintro e w1 ⟨rfl, hb⟩
    have X1 : Hid (At 25 w w1 #[.int .u64 (satp : Nat), .int .i64 kind, .int .i64 mode, .bool sum, .bool mxr]) := X0.out.step hb
    clear hb
    have f1_1 := cellOf X1.out.1 1 _ rfl
    have f2_1 := cellOf X1.out.1 2 _ rfl
    have f3_1 := cellOf X1.out.1 3 _ rfl
    have f4_1 := cellOf X1.out.1 4 _ rfl
    go_wp2_with fail
    refine (c 6 _).mono ?_
    rintro e w2 ⟨rfl, hb⟩
    have X2 : Hid (At 25 w w2 #[.int .u64 (satp : Nat), .int .i64 kind, .int .i64 mode, .bool sum, .bool mxr]) := X1.out.step hb
    clear hb
    have f1_2 := cellOf X2.out.1 1 _ rfl
    have f2_2 := cellOf X2.out.1 2 _ rfl
    have f3_2 := cellOf X2.out.1 3 _ rfl
    have f4_2 := cellOf X2.out.1 4 _ rfl
    by_cases k0 : kind = 0
    · have k0b : (kind == 0) = true := by simp [k0]
      have K0 : Hid (kind = 0) := k0
      clear k0
      go_wp2_with fail
      refine (c 3 _).mono ?_
      rintro e w3 ⟨rfl, hb⟩
      have X3 : Hid (At 25 w w3 #[.int .u64 (satp : Nat), .int .i64 kind, .int .i64 mode, .bool sum, .bool mxr]) := X2.out.step hb
      clear hb
      have f1_3 := cellOf X3.out.1 1 _ rfl
      have f2_3 := cellOf X3.out.1 2 _ rfl
      have f3_3 := cellOf X3.out.1 3 _ rfl
      have f4_3 := cellOf X3.out.1 4 _ rfl
      go_wp2_with fail
      go_ret
      exact ⟨by rw [hR.out]; simp [admB, M0.out, K0.out], X3.out.2⟩
    have k0b : (kind == 0) = false := by simp [k0]
    have K0 : Hid (¬ kind = 0) := k0
    clear k0
    by_cases k1 : kind = 1
    · have k1b : (kind == 1) = true := by simp [k1]
      have K1 : Hid (kind = 1) := k1
      clear k1
      cases u1
      · cases u3
        · go_wp2_with fail
          refine (c 1 _).mono ?_
          rintro e w3 ⟨rfl, hb⟩
          have X3 : Hid (At 25 w w3 #[.int .u64 (satp : Nat), .int .i64 kind, .int .i64 mode, .bool sum, .bool mxr]) := X2.out.step hb
          clear hb
          have f1_3 := cellOf X3.out.1 1 _ rfl
          have f2_3 := cellOf X3.out.1 2 _ rfl
          have f3_3 := cellOf X3.out.1 3 _ rfl
          have f4_3 := cellOf X3.out.1 4 _ rfl
          go_wp2_with fail
          refine (c 3 _).mono ?_
          rintro e w4 ⟨rfl, hb⟩
          have X4 : Hid (At 25 w w4 #[.int .u64 (satp : Nat), .int .i64 kind, .int .i64 mode, .bool sum, .bool mxr]) := X3.out.step hb
          clear hb
          have f1_4 := cellOf X4.out.1 1 _ rfl
          have f2_4 := cellOf X4.out.1 2 _ rfl
          have f3_4 := cellOf X4.out.1 3 _ rfl
          have f4_4 := cellOf X4.out.1 4 _ rfl
          go_wp2_with fail
          go_ret
          exact ⟨by rw [hR.out]; simp [admB, M0.out, K0.out, K1.out], X4.out.2⟩
        · go_wp2_with fail
          refine (c 1 _).mono ?_
          rintro e w3 ⟨rfl, hb⟩
          have X3 : Hid (At 25 w w3 #[.int .u64 (satp : Nat), .int .i64 kind, .int .i64 mode, .bool sum, .bool mxr]) := X2.out.step hb
          clear hb
          have f1_3 := cellOf X3.out.1 1 _ rfl
          have f2_3 := cellOf X3.out.1 2 _ rfl
          have f3_3 := cellOf X3.out.1 3 _ rfl
          have f4_3 := cellOf X3.out.1 4 _ rfl
          go_wp2_with fail
          refine (c 3 _).mono ?_
          rintro e w4 ⟨rfl, hb⟩
          have X4 : Hid (At 25 w w4 #[.int .u64 (satp : Nat), .int .i64 kind, .int .i64 mode, .bool sum, .bool mxr]) := X3.out.step hb
          clear hb
          have f1_4 := cellOf X4.out.1 1 _ rfl
          have f2_4 := cellOf X4.out.1 2 _ rfl
          have f3_4 := cellOf X4.out.1 3 _ rfl
          have f4_4 := cellOf X4.out.1 4 _ rfl
          go_wp2_with fail
          go_ret
          exact ⟨by rw [hR.out]; simp [admB, M0.out, K0.out, K1.out], X4.out.2⟩
      · go_wp2_with fail
        refine (c 1 _).mono ?_
        rintro e w3 ⟨rfl, hb⟩
        have X3 : Hid (At 25 w w3 #[.int .u64 (satp : Nat), .int .i64 kind, .int .i64 mode, .bool sum, .bool mxr]) := X2.out.step hb
        clear hb
        have f1_3 := cellOf X3.out.1 1 _ rfl
        have f2_3 := cellOf X3.out.1 2 _ rfl
        have f3_3 := cellOf X3.out.1 3 _ rfl
        have f4_3 := cellOf X3.out.1 4 _ rfl
        go_wp2_with fail
        go_ret
        exact ⟨by rw [hR.out]; simp [admB, M0.out, K0.out, K1.out], X3.out.2⟩
    have k1b : (kind == 1) = false := by simp [k1]
    have K1 : Hid (¬ kind = 1) := k1
    clear k1
    cases u2
    · go_wp2_with fail
      refine (c 2 _).mono ?_
      rintro e w3 ⟨rfl, hb⟩
      have X3 : Hid (At 25 w w3 #[.int .u64 (satp : Nat), .int .i64 kind, .int .i64 mode, .bool sum, .bool mxr]) := X2.out.step hb
      clear hb
      have f1_3 := cellOf X3.out.1 1 _ rfl
      have f2_3 := cellOf X3.out.1 2 _ rfl
      have f3_3 := cellOf X3.out.1 3 _ rfl
      have f4_3 := cellOf X3.out.1 4 _ rfl
      go_wp2_with fail
      go_ret
      exact ⟨by rw [hR.out]; simp [admB, M0.out, K0.out, K1.out], X3.out.2⟩
    · go_wp2_with fail
      refine (c 2 _).mono ?_
      rintro e w3 ⟨rfl, hb⟩
      have X3 : Hid (At 25 w w3 #[.int .u64 (satp : Nat), .int .i64 kind, .int .i64 mode, .bool sum, .bool mxr]) := X2.out.step hb
      clear hb
      have f1_3 := cellOf X3.out.1 1 _ rfl
      have f2_3 := cellOf X3.out.1 2 _ rfl
      have f3_3 := cellOf X3.out.1 3 _ rfl
      have f4_3 := cellOf X3.out.1 4 _ rfl
      go_wp2_with fail
      refine (c 7 _).mono ?_
      rintro e w4 ⟨rfl, hb⟩
      have X4 : Hid (At 25 w w4 #[.int .u64 (satp : Nat), .int .i64 kind, .int .i64 mode, .bool sum, .bool mxr]) := X3.out.step hb
      clear hb
      have f1_4 := cellOf X4.out.1 1 _ rfl
      have f2_4 := cellOf X4.out.1 2 _ rfl
      have f3_4 := cellOf X4.out.1 3 _ rfl
      have f4_4 := cellOf X4.out.1 4 _ rfl
      go_wp2_with fail
      go_ret
      exact ⟨by rw [hR.out]; simp [admB, M0.out, K0.out, K1.out], X4.out.2⟩
  have m0b : (mode == 0) = false := by simp [m0]
  have M0 : Hid (¬ mode = 0) := m0
  clear m0
  cases u6
  · go_wp2_with fail
    refine (c 6 _).mono ?_
    rintro e w1 ⟨rfl, hb⟩
    have X1 : Hid (At 25 w w1 #[.int .u64 (satp : Nat), .int .i64 kind, .int .i64 mode, .bool sum, .bool mxr]) := X0.out.step hb
    clear hb
    have f1_1 := cellOf X1.out.1 1 _ rfl
    have f2_1 := cellOf X1.out.1 2 _ rfl
    have f3_1 := cellOf X1.out.1 3 _ rfl
    have f4_1 := cellOf X1.out.1 4 _ rfl
    go_wp2_with fail
    go_ret
    exact ⟨by rw [hR.out]; simp [admB], X1.out.2⟩
  by_cases m1 : mode = 1
  · have m1b : (mode == 1) = true := by simp [m1]
    have M1 : Hid (mode = 1) := m1
    clear m1
    go_wp2_with fail
    refine (c 6 _).mono ?_
    rintro e w1 ⟨rfl, hb⟩
    have X1 : Hid (At 25 w w1 #[.int .u64 (satp : Nat), .int .i64 kind, .int .i64 mode, .bool sum, .bool mxr]) := X0.out.step hb
    clear hb
    have f1_1 := cellOf X1.out.1 1 _ rfl
    have f2_1 := cellOf X1.out.1 2 _ rfl
    have f3_1 := cellOf X1.out.1 3 _ rfl
    have f4_1 := cellOf X1.out.1 4 _ rfl
    cases u4
    · go_wp2_with fail
      refine (c 4 _).mono ?_
      rintro e w2 ⟨rfl, hb⟩
      have X2 : Hid (At 25 w w2 #[.int .u64 (satp : Nat), .int .i64 kind, .int .i64 mode, .bool sum, .bool mxr]) := X1.out.step hb
      clear hb
      have f1_2 := cellOf X2.out.1 1 _ rfl
      have f2_2 := cellOf X2.out.1 2 _ rfl
      have f3_2 := cellOf X2.out.1 3 _ rfl
      have f4_2 := cellOf X2.out.1 4 _ rfl
      by_cases k0 : kind = 0
      · have k0b : (kind == 0) = true := by simp [k0]
        have K0 : Hid (kind = 0) := k0
        clear k0
        go_wp2_with fail
        refine (c 3 _).mono ?_
        rintro e w3 ⟨rfl, hb⟩
        have X3 : Hid (At 25 w w3 #[.int .u64 (satp : Nat), .int .i64 kind, .int .i64 mode, .bool sum, .bool mxr]) := X2.out.step hb
        clear hb
        have f1_3 := cellOf X3.out.1 1 _ rfl
        have f2_3 := cellOf X3.out.1 2 _ rfl
        have f3_3 := cellOf X3.out.1 3 _ rfl
        have f4_3 := cellOf X3.out.1 4 _ rfl
        go_wp2_with fail
        go_ret
        exact ⟨by rw [hR.out]; simp [admB, M0.out, M1.out, K0.out], X3.out.2⟩
      have k0b : (kind == 0) = false := by simp [k0]
      have K0 : Hid (¬ kind = 0) := k0
      clear k0
      by_cases k1 : kind = 1
      · have k1b : (kind == 1) = true := by simp [k1]
        have K1 : Hid (kind = 1) := k1
        clear k1
        cases u1
        · cases u3
          · go_wp2_with fail
            refine (c 1 _).mono ?_
            rintro e w3 ⟨rfl, hb⟩
            have X3 : Hid (At 25 w w3 #[.int .u64 (satp : Nat), .int .i64 kind, .int .i64 mode, .bool sum, .bool mxr]) := X2.out.step hb
            clear hb
            have f1_3 := cellOf X3.out.1 1 _ rfl
            have f2_3 := cellOf X3.out.1 2 _ rfl
            have f3_3 := cellOf X3.out.1 3 _ rfl
            have f4_3 := cellOf X3.out.1 4 _ rfl
            go_wp2_with fail
            refine (c 3 _).mono ?_
            rintro e w4 ⟨rfl, hb⟩
            have X4 : Hid (At 25 w w4 #[.int .u64 (satp : Nat), .int .i64 kind, .int .i64 mode, .bool sum, .bool mxr]) := X3.out.step hb
            clear hb
            have f1_4 := cellOf X4.out.1 1 _ rfl
            have f2_4 := cellOf X4.out.1 2 _ rfl
            have f3_4 := cellOf X4.out.1 3 _ rfl
            have f4_4 := cellOf X4.out.1 4 _ rfl
            go_wp2_with fail
            go_ret
            exact ⟨by rw [hR.out]; simp [admB, M0.out, M1.out, K0.out, K1.out], X4.out.2⟩
          · go_wp2_with fail
            refine (c 1 _).mono ?_
            rintro e w3 ⟨rfl, hb⟩
            have X3 : Hid (At 25 w w3 #[.int .u64 (satp : Nat), .int .i64 kind, .int .i64 mode, .bool sum, .bool mxr]) := X2.out.step hb
            clear hb
            have f1_3 := cellOf X3.out.1 1 _ rfl
            have f2_3 := cellOf X3.out.1 2 _ rfl
            have f3_3 := cellOf X3.out.1 3 _ rfl
            have f4_3 := cellOf X3.out.1 4 _ rfl
            go_wp2_with fail
            refine (c 3 _).mono ?_
            rintro e w4 ⟨rfl, hb⟩
            have X4 : Hid (At 25 w w4 #[.int .u64 (satp : Nat), .int .i64 kind, .int .i64 mode, .bool sum, .bool mxr]) := X3.out.step hb
            clear hb
            have f1_4 := cellOf X4.out.1 1 _ rfl
            have f2_4 := cellOf X4.out.1 2 _ rfl
            have f3_4 := cellOf X4.out.1 3 _ rfl
            have f4_4 := cellOf X4.out.1 4 _ rfl
            go_wp2_with fail
            go_ret
            exact ⟨by rw [hR.out]; simp [admB, M0.out, M1.out, K0.out, K1.out], X4.out.2⟩
        · go_wp2_with fail
          refine (c 1 _).mono ?_
          rintro e w3 ⟨rfl, hb⟩
          have X3 : Hid (At 25 w w3 #[.int .u64 (satp : Nat), .int .i64 kind, .int .i64 mode, .bool sum, .bool mxr]) := X2.out.step hb
          clear hb
          have f1_3 := cellOf X3.out.1 1 _ rfl
          have f2_3 := cellOf X3.out.1 2 _ rfl
          have f3_3 := cellOf X3.out.1 3 _ rfl
          have f4_3 := cellOf X3.out.1 4 _ rfl
          go_wp2_with fail
          go_ret
          exact ⟨by rw [hR.out]; simp [admB, M0.out, M1.out, K0.out, K1.out], X3.out.2⟩
      have k1b : (kind == 1) = false := by simp [k1]
      have K1 : Hid (¬ kind = 1) := k1
      clear k1
      cases u2
      · go_wp2_with fail
        refine (c 2 _).mono ?_
        rintro e w3 ⟨rfl, hb⟩
        have X3 : Hid (At 25 w w3 #[.int .u64 (satp : Nat), .int .i64 kind, .int .i64 mode, .bool sum, .bool mxr]) := X2.out.step hb
        clear hb
        have f1_3 := cellOf X3.out.1 1 _ rfl
        have f2_3 := cellOf X3.out.1 2 _ rfl
        have f3_3 := cellOf X3.out.1 3 _ rfl
        have f4_3 := cellOf X3.out.1 4 _ rfl
        go_wp2_with fail
        go_ret
        exact ⟨by rw [hR.out]; simp [admB, M0.out, M1.out, K0.out, K1.out], X3.out.2⟩
      · go_wp2_with fail
        refine (c 2 _).mono ?_
        rintro e w3 ⟨rfl, hb⟩
        have X3 : Hid (At 25 w w3 #[.int .u64 (satp : Nat), .int .i64 kind, .int .i64 mode, .bool sum, .bool mxr]) := X2.out.step hb
        clear hb
        have f1_3 := cellOf X3.out.1 1 _ rfl
        have f2_3 := cellOf X3.out.1 2 _ rfl
        have f3_3 := cellOf X3.out.1 3 _ rfl
        have f4_3 := cellOf X3.out.1 4 _ rfl
        go_wp2_with fail
        refine (c 7 _).mono ?_
        rintro e w4 ⟨rfl, hb⟩
        have X4 : Hid (At 25 w w4 #[.int .u64 (satp : Nat), .int .i64 kind, .int .i64 mode, .bool sum, .bool mxr]) := X3.out.step hb
        clear hb
        have f1_4 := cellOf X4.out.1 1 _ rfl
        have f2_4 := cellOf X4.out.1 2 _ rfl
        have f3_4 := cellOf X4.out.1 3 _ rfl
        have f4_4 := cellOf X4.out.1 4 _ rfl
        go_wp2_with fail
        go_ret
        exact ⟨by rw [hR.out]; simp [admB, M0.out, M1.out, K0.out, K1.out], X4.out.2⟩
    go_wp2_with fail
    refine (c 4 _).mono ?_
    rintro e w2 ⟨rfl, hb⟩
    have X2 : Hid (At 25 w w2 #[.int .u64 (satp : Nat), .int .i64 kind, .int .i64 mode, .bool sum, .bool mxr]) := X1.out.step hb
    clear hb
    have f1_2 := cellOf X2.out.1 1 _ rfl
    have f2_2 := cellOf X2.out.1 2 _ rfl
    have f3_2 := cellOf X2.out.1 3 _ rfl
    have f4_2 := cellOf X2.out.1 4 _ rfl
    by_cases k0 : kind = 0
    · have k0b : (kind == 0) = true := by simp [k0]
      have K0 : Hid (kind = 0) := k0
      clear k0
      go_wp2_with fail
      go_ret
      exact ⟨by rw [hR.out]; simp [admB, M0.out, M1.out, K0.out], X2.out.2⟩
    have k0b : (kind == 0) = false := by simp [k0]
    have K0 : Hid (¬ kind = 0) := k0
    clear k0
    cases sum
    · go_wp2_with fail
      go_ret
      exact ⟨by rw [hR.out]; simp [admB, M0.out, M1.out, K0.out], X2.out.2⟩
    by_cases k1 : kind = 1
    · have k1b : (kind == 1) = true := by simp [k1]
      have K1 : Hid (kind = 1) := k1
      clear k1
      cases u1
      · cases u3
        · go_wp2_with fail
          refine (c 1 _).mono ?_
          rintro e w3 ⟨rfl, hb⟩
          have X3 : Hid (At 25 w w3 #[.int .u64 (satp : Nat), .int .i64 kind, .int .i64 mode, .bool true, .bool mxr]) := X2.out.step hb
          clear hb
          have f1_3 := cellOf X3.out.1 1 _ rfl
          have f2_3 := cellOf X3.out.1 2 _ rfl
          have f3_3 := cellOf X3.out.1 3 _ rfl
          have f4_3 := cellOf X3.out.1 4 _ rfl
          go_wp2_with fail
          refine (c 3 _).mono ?_
          rintro e w4 ⟨rfl, hb⟩
          have X4 : Hid (At 25 w w4 #[.int .u64 (satp : Nat), .int .i64 kind, .int .i64 mode, .bool true, .bool mxr]) := X3.out.step hb
          clear hb
          have f1_4 := cellOf X4.out.1 1 _ rfl
          have f2_4 := cellOf X4.out.1 2 _ rfl
          have f3_4 := cellOf X4.out.1 3 _ rfl
          have f4_4 := cellOf X4.out.1 4 _ rfl
          go_wp2_with fail
          go_ret
          exact ⟨by rw [hR.out]; simp [admB, M0.out, M1.out, K0.out, K0.out, K1.out], X4.out.2⟩
        · go_wp2_with fail
          refine (c 1 _).mono ?_
          rintro e w3 ⟨rfl, hb⟩
          have X3 : Hid (At 25 w w3 #[.int .u64 (satp : Nat), .int .i64 kind, .int .i64 mode, .bool true, .bool mxr]) := X2.out.step hb
          clear hb
          have f1_3 := cellOf X3.out.1 1 _ rfl
          have f2_3 := cellOf X3.out.1 2 _ rfl
          have f3_3 := cellOf X3.out.1 3 _ rfl
          have f4_3 := cellOf X3.out.1 4 _ rfl
          go_wp2_with fail
          refine (c 3 _).mono ?_
          rintro e w4 ⟨rfl, hb⟩
          have X4 : Hid (At 25 w w4 #[.int .u64 (satp : Nat), .int .i64 kind, .int .i64 mode, .bool true, .bool mxr]) := X3.out.step hb
          clear hb
          have f1_4 := cellOf X4.out.1 1 _ rfl
          have f2_4 := cellOf X4.out.1 2 _ rfl
          have f3_4 := cellOf X4.out.1 3 _ rfl
          have f4_4 := cellOf X4.out.1 4 _ rfl
          go_wp2_with fail
          go_ret
          exact ⟨by rw [hR.out]; simp [admB, M0.out, M1.out, K0.out, K0.out, K1.out], X4.out.2⟩
      · go_wp2_with fail
        refine (c 1 _).mono ?_
        rintro e w3 ⟨rfl, hb⟩
        have X3 : Hid (At 25 w w3 #[.int .u64 (satp : Nat), .int .i64 kind, .int .i64 mode, .bool true, .bool mxr]) := X2.out.step hb
        clear hb
        have f1_3 := cellOf X3.out.1 1 _ rfl
        have f2_3 := cellOf X3.out.1 2 _ rfl
        have f3_3 := cellOf X3.out.1 3 _ rfl
        have f4_3 := cellOf X3.out.1 4 _ rfl
        go_wp2_with fail
        go_ret
        exact ⟨by rw [hR.out]; simp [admB, M0.out, M1.out, K0.out, K0.out, K1.out], X3.out.2⟩
    have k1b : (kind == 1) = false := by simp [k1]
    have K1 : Hid (¬ kind = 1) := k1
    clear k1
    cases u2
    · go_wp2_with fail
      refine (c 2 _).mono ?_
      rintro e w3 ⟨rfl, hb⟩
      have X3 : Hid (At 25 w w3 #[.int .u64 (satp : Nat), .int .i64 kind, .int .i64 mode, .bool true, .bool mxr]) := X2.out.step hb
      clear hb
      have f1_3 := cellOf X3.out.1 1 _ rfl
      have f2_3 := cellOf X3.out.1 2 _ rfl
      have f3_3 := cellOf X3.out.1 3 _ rfl
      have f4_3 := cellOf X3.out.1 4 _ rfl
      go_wp2_with fail
      go_ret
      exact ⟨by rw [hR.out]; simp [admB, M0.out, M1.out, K0.out, K0.out, K1.out], X3.out.2⟩
    · go_wp2_with fail
      refine (c 2 _).mono ?_
      rintro e w3 ⟨rfl, hb⟩
      have X3 : Hid (At 25 w w3 #[.int .u64 (satp : Nat), .int .i64 kind, .int .i64 mode, .bool true, .bool mxr]) := X2.out.step hb
      clear hb
      have f1_3 := cellOf X3.out.1 1 _ rfl
      have f2_3 := cellOf X3.out.1 2 _ rfl
      have f3_3 := cellOf X3.out.1 3 _ rfl
      have f4_3 := cellOf X3.out.1 4 _ rfl
      go_wp2_with fail
      refine (c 7 _).mono ?_
      rintro e w4 ⟨rfl, hb⟩
      have X4 : Hid (At 25 w w4 #[.int .u64 (satp : Nat), .int .i64 kind, .int .i64 mode, .bool true, .bool mxr]) := X3.out.step hb
      clear hb
      have f1_4 := cellOf X4.out.1 1 _ rfl
      have f2_4 := cellOf X4.out.1 2 _ rfl
      have f3_4 := cellOf X4.out.1 3 _ rfl
      have f4_4 := cellOf X4.out.1 4 _ rfl
      go_wp2_with fail
      go_ret
      exact ⟨by rw [hR.out]; simp [admB, M0.out, M1.out, K0.out, K0.out, K1.out], X4.out.2⟩
  have m1b : (mode == 1) = false := by simp [m1]
  have M1 : Hid (¬ mode = 1) := m1
  clear m1
  go_wp2_with fail
  refine (c 6 _).mono ?_
  rintro e w1 ⟨rfl, hb⟩
  have X1 : Hid (At 25 w w1 #[.int .u64 (satp : Nat), .int .i64 kind, .int .i64 mode, .bool sum, .bool mxr]) := X0.out.step hb
  clear hb
  have f1_1 := cellOf X1.out.1 1 _ rfl
  have f2_1 := cellOf X1.out.1 2 _ rfl
  have f3_1 := cellOf X1.out.1 3 _ rfl
  have f4_1 := cellOf X1.out.1 4 _ rfl
  by_cases k0 : kind = 0
  · have k0b : (kind == 0) = true := by simp [k0]
    have K0 : Hid (kind = 0) := k0
    clear k0
    go_wp2_with fail
    refine (c 3 _).mono ?_
    rintro e w2 ⟨rfl, hb⟩
    have X2 : Hid (At 25 w w2 #[.int .u64 (satp : Nat), .int .i64 kind, .int .i64 mode, .bool sum, .bool mxr]) := X1.out.step hb
    clear hb
    have f1_2 := cellOf X2.out.1 1 _ rfl
    have f2_2 := cellOf X2.out.1 2 _ rfl
    have f3_2 := cellOf X2.out.1 3 _ rfl
    have f4_2 := cellOf X2.out.1 4 _ rfl
    go_wp2_with fail
    go_ret
    exact ⟨by rw [hR.out]; simp [admB, M0.out, M1.out, K0.out], X2.out.2⟩
  have k0b : (kind == 0) = false := by simp [k0]
  have K0 : Hid (¬ kind = 0) := k0
  clear k0
  by_cases k1 : kind = 1
  · have k1b : (kind == 1) = true := by simp [k1]
    have K1 : Hid (kind = 1) := k1
    clear k1
    cases u1
    · cases u3
      · go_wp2_with fail
        refine (c 1 _).mono ?_
        rintro e w2 ⟨rfl, hb⟩
        have X2 : Hid (At 25 w w2 #[.int .u64 (satp : Nat), .int .i64 kind, .int .i64 mode, .bool sum, .bool mxr]) := X1.out.step hb
        clear hb
        have f1_2 := cellOf X2.out.1 1 _ rfl
        have f2_2 := cellOf X2.out.1 2 _ rfl
        have f3_2 := cellOf X2.out.1 3 _ rfl
        have f4_2 := cellOf X2.out.1 4 _ rfl
        go_wp2_with fail
        refine (c 3 _).mono ?_
        rintro e w3 ⟨rfl, hb⟩
        have X3 : Hid (At 25 w w3 #[.int .u64 (satp : Nat), .int .i64 kind, .int .i64 mode, .bool sum, .bool mxr]) := X2.out.step hb
        clear hb
        have f1_3 := cellOf X3.out.1 1 _ rfl
        have f2_3 := cellOf X3.out.1 2 _ rfl
        have f3_3 := cellOf X3.out.1 3 _ rfl
        have f4_3 := cellOf X3.out.1 4 _ rfl
        go_wp2_with fail
        go_ret
        exact ⟨by rw [hR.out]; simp [admB, M0.out, M1.out, K0.out, K1.out], X3.out.2⟩
      · go_wp2_with fail
        refine (c 1 _).mono ?_
        rintro e w2 ⟨rfl, hb⟩
        have X2 : Hid (At 25 w w2 #[.int .u64 (satp : Nat), .int .i64 kind, .int .i64 mode, .bool sum, .bool mxr]) := X1.out.step hb
        clear hb
        have f1_2 := cellOf X2.out.1 1 _ rfl
        have f2_2 := cellOf X2.out.1 2 _ rfl
        have f3_2 := cellOf X2.out.1 3 _ rfl
        have f4_2 := cellOf X2.out.1 4 _ rfl
        go_wp2_with fail
        refine (c 3 _).mono ?_
        rintro e w3 ⟨rfl, hb⟩
        have X3 : Hid (At 25 w w3 #[.int .u64 (satp : Nat), .int .i64 kind, .int .i64 mode, .bool sum, .bool mxr]) := X2.out.step hb
        clear hb
        have f1_3 := cellOf X3.out.1 1 _ rfl
        have f2_3 := cellOf X3.out.1 2 _ rfl
        have f3_3 := cellOf X3.out.1 3 _ rfl
        have f4_3 := cellOf X3.out.1 4 _ rfl
        go_wp2_with fail
        go_ret
        exact ⟨by rw [hR.out]; simp [admB, M0.out, M1.out, K0.out, K1.out], X3.out.2⟩
    · go_wp2_with fail
      refine (c 1 _).mono ?_
      rintro e w2 ⟨rfl, hb⟩
      have X2 : Hid (At 25 w w2 #[.int .u64 (satp : Nat), .int .i64 kind, .int .i64 mode, .bool sum, .bool mxr]) := X1.out.step hb
      clear hb
      have f1_2 := cellOf X2.out.1 1 _ rfl
      have f2_2 := cellOf X2.out.1 2 _ rfl
      have f3_2 := cellOf X2.out.1 3 _ rfl
      have f4_2 := cellOf X2.out.1 4 _ rfl
      go_wp2_with fail
      go_ret
      exact ⟨by rw [hR.out]; simp [admB, M0.out, M1.out, K0.out, K1.out], X2.out.2⟩
  have k1b : (kind == 1) = false := by simp [k1]
  have K1 : Hid (¬ kind = 1) := k1
  clear k1
  cases u2
  · go_wp2_with fail
    refine (c 2 _).mono ?_
    rintro e w2 ⟨rfl, hb⟩
    have X2 : Hid (At 25 w w2 #[.int .u64 (satp : Nat), .int .i64 kind, .int .i64 mode, .bool sum, .bool mxr]) := X1.out.step hb
    clear hb
    have f1_2 := cellOf X2.out.1 1 _ rfl
    have f2_2 := cellOf X2.out.1 2 _ rfl
    have f3_2 := cellOf X2.out.1 3 _ rfl
    have f4_2 := cellOf X2.out.1 4 _ rfl
    go_wp2_with fail
    go_ret
    exact ⟨by rw [hR.out]; simp [admB, M0.out, M1.out, K0.out, K1.out], X2.out.2⟩
  · go_wp2_with fail
    refine (c 2 _).mono ?_
    rintro e w2 ⟨rfl, hb⟩
    have X2 : Hid (At 25 w w2 #[.int .u64 (satp : Nat), .int .i64 kind, .int .i64 mode, .bool sum, .bool mxr]) := X1.out.step hb
    clear hb
    have f1_2 := cellOf X2.out.1 1 _ rfl
    have f2_2 := cellOf X2.out.1 2 _ rfl
    have f3_2 := cellOf X2.out.1 3 _ rfl
    have f4_2 := cellOf X2.out.1 4 _ rfl
    go_wp2_with fail
    refine (c 7 _).mono ?_
    rintro e w3 ⟨rfl, hb⟩
    have X3 : Hid (At 25 w w3 #[.int .u64 (satp : Nat), .int .i64 kind, .int .i64 mode, .bool sum, .bool mxr]) := X2.out.step hb
    clear hb
    have f1_3 := cellOf X3.out.1 1 _ rfl
    have f2_3 := cellOf X3.out.1 2 _ rfl
    have f3_3 := cellOf X3.out.1 3 _ rfl
    have f4_3 := cellOf X3.out.1 4 _ rfl
    go_wp2_with fail
    go_ret
    exact ⟨by rw [hR.out]; simp [admB, M0.out, M1.out, K0.out, K1.out], X3.out.2⟩
theorem dallowed_any (satp : Nat) (kind mode : Int) (sum mxr : Bool) (x : Nat) (hx : x < 18446744073709551616) (W w : World) (hb : Below W.heap.size W w) : Calls Try.prog 76 #[.agg #[.int .u64 (satp : Nat), .int .i64 kind, .int .i64 mode, .bool sum, .bool mxr], .int .u64 (x : Nat)] w fun e w' => e = .returned (.bool (alwB kind mode sum mxr x)) ∧ Below W.heap.size W w' :=
  (dallowed_core satp kind mode sum mxr x (tb x) w (fun i V => dbit_any x i hx V V (Below.refl _ _)) _ _ _ _ _ _ rfl rfl rfl rfl rfl rfl _ rfl).mono fun e w' ⟨he, hw⟩ => ⟨he, hb.trans (hw.mono hb.size)⟩
end Go.Proofs.Ytalgidnmmghejaa
