/- The document's small answers of layer 10: a bit, Leads, Odd, Bare, Proper. -/
import Derived.Test.YtalgidnmmghejaaSr
namespace Go.Proofs.Ytalgidnmmghejaa
open Go.RowKit
set_option linter.unusedVariables false
set_option linter.unusedSimpArgs false
set_option maxRecDepth 100000
theorem dbit_any (x : Nat) (i : Int) (hx : x < 18446744073709551616) (W w : World) (hb : Below W.heap.size W w) : Calls Try.prog 94 #[.int .u64 (x : Int), .int .i64 i] w fun e w' => e = .returned (.bool (tb x i)) ∧ Below W.heap.size W w' := by
  go_enter Try.func94, Try.ntmps94
  go_wp2_with fail
  refine (E.rget_all x i 1 hx W _ (by assumption)).mono ?_
  rintro e w1 ⟨rfl, hb1⟩
  go_wp2_with fail
  go_ret
  exact ⟨rfl, by assumption⟩
theorem dleads_any (x : Nat) (hx : x < 18446744073709551616) (W w : World) (hb : Below W.heap.size W w) : Calls Try.prog 75 #[.int .u64 (x : Int)] w fun e w' => e = .returned (.bool (leadsB x)) ∧ Below W.heap.size W w' := by
  have c1 : ∀ V, Below W.heap.size W V → Calls Try.prog 94 #[.int .u64 (x : Int), .int .i64 1] V fun e w' => e = .returned (.bool (tb x 1)) ∧ Below W.heap.size W w' := fun V h => dbit_any x 1 hx W V h
  have c3 : ∀ V, Below W.heap.size W V → Calls Try.prog 94 #[.int .u64 (x : Int), .int .i64 3] V fun e w' => e = .returned (.bool (tb x 3)) ∧ Below W.heap.size W w' := fun V h => dbit_any x 3 hx W V h
  unfold leadsB
  generalize tb x 1 = r at *
  generalize tb x 3 = y at *
  cases r
  · go_enter Try.func75, Try.ntmps75
    go_wp2_with fail
    refine (c1 _ (by assumption)).mono ?_
    rintro e w1 ⟨rfl, hb1⟩
    go_wp2_with fail
    refine (c3 _ (by assumption)).mono ?_
    rintro e w2 ⟨rfl, hb2⟩
    go_wp2_with fail
    go_ret
    exact ⟨by simp, by assumption⟩
  · go_enter Try.func75, Try.ntmps75
    go_wp2_with fail
    refine (c1 _ (by assumption)).mono ?_
    rintro e w1 ⟨rfl, hb1⟩
    go_wp2_with fail
    go_ret
    exact ⟨by simp, by assumption⟩
theorem dodd_any (x : Nat) (hx : x < 18446744073709551616) (W w : World) (hb : Below W.heap.size W w) : Calls Try.prog 74 #[.int .u64 (x : Int)] w fun e w' => e = .returned (.bool (oddB x)) ∧ Below W.heap.size W w' := by
  have c0 : ∀ V, Below W.heap.size W V → Calls Try.prog 94 #[.int .u64 (x : Int), .int .i64 0] V fun e w' => e = .returned (.bool (tb x 0)) ∧ Below W.heap.size W w' := fun V h => dbit_any x 0 hx W V h
  have c1 : ∀ V, Below W.heap.size W V → Calls Try.prog 94 #[.int .u64 (x : Int), .int .i64 1] V fun e w' => e = .returned (.bool (tb x 1)) ∧ Below W.heap.size W w' := fun V h => dbit_any x 1 hx W V h
  have c2 : ∀ V, Below W.heap.size W V → Calls Try.prog 94 #[.int .u64 (x : Int), .int .i64 2] V fun e w' => e = .returned (.bool (tb x 2)) ∧ Below W.heap.size W w' := fun V h => dbit_any x 2 hx W V h
  have c4 : ∀ V, Below W.heap.size W V → Calls Try.prog 94 #[.int .u64 (x : Int), .int .i64 4] V fun e w' => e = .returned (.bool (tb x 4)) ∧ Below W.heap.size W w' := fun V h => dbit_any x 4 hx W V h
  have c6 : ∀ V, Below W.heap.size W V → Calls Try.prog 94 #[.int .u64 (x : Int), .int .i64 6] V fun e w' => e = .returned (.bool (tb x 6)) ∧ Below W.heap.size W w' := fun V h => dbit_any x 6 hx W V h
  have c7 : ∀ V, Below W.heap.size W V → Calls Try.prog 94 #[.int .u64 (x : Int), .int .i64 7] V fun e w' => e = .returned (.bool (tb x 7)) ∧ Below W.heap.size W w' := fun V h => dbit_any x 7 hx W V h
  have cl : ∀ V, Below W.heap.size W V → Calls Try.prog 75 #[.int .u64 (x : Int)] V fun e w' => e = .returned (.bool (leadsB x)) ∧ Below W.heap.size W w' := fun V h => dleads_any x hx W V h
  have cg : ∀ V, Below W.heap.size W V → Calls Try.prog 17 #[.int .u64 (x : Int), .int .i64 54, .int .i64 10] V fun e w' => e = .returned (.int .u64 (E.getN x 54 10 : Nat)) ∧ Below W.heap.size W w' := fun V h => E.rget_all x 54 10 hx W V h
  unfold oddB
  generalize leadsB x = L at *
  generalize tb x 0 = v at *
  generalize tb x 1 = r at *
  generalize tb x 2 = y at *
  generalize tb x 4 = u at *
  generalize tb x 6 = a at *
  generalize tb x 7 = d at *
  generalize E.getN x 54 10 = g at *
  cases v
  · go_enter Try.func74, Try.ntmps74
    go_wp2_with fail
    refine (c0 _ (by assumption)).mono ?_
    rintro e w1 ⟨rfl, hb1⟩
    go_wp2_with fail
    go_ret
    exact ⟨by simp, by assumption⟩
  by_cases hg : g = 0
  case neg =>
    have h2 : ((g : Int) == 0) = false := by simp; omega
    have h3 : ¬ (g : Int) = 0 := by omega
    have H4 : Hid ((g == 0) = false) := by show (g == 0) = false; simp [hg]
    clear hg
    go_enter Try.func74, Try.ntmps74
    go_wp2_with fail
    refine (c0 _ (by assumption)).mono ?_
    rintro e w1 ⟨rfl, hb1⟩
    go_wp2_with fail
    refine (cg _ (by assumption)).mono ?_
    rintro e w2 ⟨rfl, hb2⟩
    go_wp2_with fail
    go_ret
    exact ⟨by simp [H4.out], by assumption⟩
  subst hg
  cases y
  · cases L
    · cases u
      · cases a
        · go_enter Try.func74, Try.ntmps74
          go_wp2_with fail
          refine (c0 _ (by assumption)).mono ?_
          rintro e w1 ⟨rfl, hb1⟩
          go_wp2_with fail
          refine (cg _ (by assumption)).mono ?_
          rintro e w2 ⟨rfl, hb2⟩
          go_wp2_with fail
          refine (c2 _ (by assumption)).mono ?_
          rintro e w3 ⟨rfl, hb3⟩
          go_wp2_with fail
          refine (cl _ (by assumption)).mono ?_
          rintro e w4 ⟨rfl, hb4⟩
          go_wp2_with fail
          refine (c4 _ (by assumption)).mono ?_
          rintro e w5 ⟨rfl, hb5⟩
          go_wp2_with fail
          refine (c6 _ (by assumption)).mono ?_
          rintro e w6 ⟨rfl, hb6⟩
          go_wp2_with fail
          refine (c7 _ (by assumption)).mono ?_
          rintro e w7 ⟨rfl, hb7⟩
          go_wp2_with fail
          go_ret
          exact ⟨by simp, by assumption⟩
        · go_enter Try.func74, Try.ntmps74
          go_wp2_with fail
          refine (c0 _ (by assumption)).mono ?_
          rintro e w1 ⟨rfl, hb1⟩
          go_wp2_with fail
          refine (cg _ (by assumption)).mono ?_
          rintro e w2 ⟨rfl, hb2⟩
          go_wp2_with fail
          refine (c2 _ (by assumption)).mono ?_
          rintro e w3 ⟨rfl, hb3⟩
          go_wp2_with fail
          refine (cl _ (by assumption)).mono ?_
          rintro e w4 ⟨rfl, hb4⟩
          go_wp2_with fail
          refine (c4 _ (by assumption)).mono ?_
          rintro e w5 ⟨rfl, hb5⟩
          go_wp2_with fail
          refine (c6 _ (by assumption)).mono ?_
          rintro e w6 ⟨rfl, hb6⟩
          go_wp2_with fail
          go_ret
          exact ⟨by simp, by assumption⟩
      · go_enter Try.func74, Try.ntmps74
        go_wp2_with fail
        refine (c0 _ (by assumption)).mono ?_
        rintro e w1 ⟨rfl, hb1⟩
        go_wp2_with fail
        refine (cg _ (by assumption)).mono ?_
        rintro e w2 ⟨rfl, hb2⟩
        go_wp2_with fail
        refine (c2 _ (by assumption)).mono ?_
        rintro e w3 ⟨rfl, hb3⟩
        go_wp2_with fail
        refine (cl _ (by assumption)).mono ?_
        rintro e w4 ⟨rfl, hb4⟩
        go_wp2_with fail
        refine (c4 _ (by assumption)).mono ?_
        rintro e w5 ⟨rfl, hb5⟩
        go_wp2_with fail
        go_ret
        exact ⟨by simp, by assumption⟩
    · go_enter Try.func74, Try.ntmps74
      go_wp2_with fail
      refine (c0 _ (by assumption)).mono ?_
      rintro e w1 ⟨rfl, hb1⟩
      go_wp2_with fail
      refine (cg _ (by assumption)).mono ?_
      rintro e w2 ⟨rfl, hb2⟩
      go_wp2_with fail
      refine (c2 _ (by assumption)).mono ?_
      rintro e w3 ⟨rfl, hb3⟩
      go_wp2_with fail
      refine (cl _ (by assumption)).mono ?_
      rintro e w4 ⟨rfl, hb4⟩
      go_wp2_with fail
      go_ret
      exact ⟨by simp, by assumption⟩
  cases r
  · go_enter Try.func74, Try.ntmps74
    go_wp2_with fail
    refine (c0 _ (by assumption)).mono ?_
    rintro e w1 ⟨rfl, hb1⟩
    go_wp2_with fail
    refine (cg _ (by assumption)).mono ?_
    rintro e w2 ⟨rfl, hb2⟩
    go_wp2_with fail
    refine (c2 _ (by assumption)).mono ?_
    rintro e w3 ⟨rfl, hb3⟩
    go_wp2_with fail
    refine (c1 _ (by assumption)).mono ?_
    rintro e w4 ⟨rfl, hb4⟩
    go_wp2_with fail
    go_ret
    exact ⟨by simp, by assumption⟩
  · cases L
    · cases u
      · cases a
        · go_enter Try.func74, Try.ntmps74
          go_wp2_with fail
          refine (c0 _ (by assumption)).mono ?_
          rintro e w1 ⟨rfl, hb1⟩
          go_wp2_with fail
          refine (cg _ (by assumption)).mono ?_
          rintro e w2 ⟨rfl, hb2⟩
          go_wp2_with fail
          refine (c2 _ (by assumption)).mono ?_
          rintro e w3 ⟨rfl, hb3⟩
          go_wp2_with fail
          refine (c1 _ (by assumption)).mono ?_
          rintro e w4 ⟨rfl, hb4⟩
          go_wp2_with fail
          refine (cl _ (by assumption)).mono ?_
          rintro e w5 ⟨rfl, hb5⟩
          go_wp2_with fail
          refine (c4 _ (by assumption)).mono ?_
          rintro e w6 ⟨rfl, hb6⟩
          go_wp2_with fail
          refine (c6 _ (by assumption)).mono ?_
          rintro e w7 ⟨rfl, hb7⟩
          go_wp2_with fail
          refine (c7 _ (by assumption)).mono ?_
          rintro e w8 ⟨rfl, hb8⟩
          go_wp2_with fail
          go_ret
          exact ⟨by simp, by assumption⟩
        · go_enter Try.func74, Try.ntmps74
          go_wp2_with fail
          refine (c0 _ (by assumption)).mono ?_
          rintro e w1 ⟨rfl, hb1⟩
          go_wp2_with fail
          refine (cg _ (by assumption)).mono ?_
          rintro e w2 ⟨rfl, hb2⟩
          go_wp2_with fail
          refine (c2 _ (by assumption)).mono ?_
          rintro e w3 ⟨rfl, hb3⟩
          go_wp2_with fail
          refine (c1 _ (by assumption)).mono ?_
          rintro e w4 ⟨rfl, hb4⟩
          go_wp2_with fail
          refine (cl _ (by assumption)).mono ?_
          rintro e w5 ⟨rfl, hb5⟩
          go_wp2_with fail
          refine (c4 _ (by assumption)).mono ?_
          rintro e w6 ⟨rfl, hb6⟩
          go_wp2_with fail
          refine (c6 _ (by assumption)).mono ?_
          rintro e w7 ⟨rfl, hb7⟩
          go_wp2_with fail
          go_ret
          exact ⟨by simp, by assumption⟩
      · go_enter Try.func74, Try.ntmps74
        go_wp2_with fail
        refine (c0 _ (by assumption)).mono ?_
        rintro e w1 ⟨rfl, hb1⟩
        go_wp2_with fail
        refine (cg _ (by assumption)).mono ?_
        rintro e w2 ⟨rfl, hb2⟩
        go_wp2_with fail
        refine (c2 _ (by assumption)).mono ?_
        rintro e w3 ⟨rfl, hb3⟩
        go_wp2_with fail
        refine (c1 _ (by assumption)).mono ?_
        rintro e w4 ⟨rfl, hb4⟩
        go_wp2_with fail
        refine (cl _ (by assumption)).mono ?_
        rintro e w5 ⟨rfl, hb5⟩
        go_wp2_with fail
        refine (c4 _ (by assumption)).mono ?_
        rintro e w6 ⟨rfl, hb6⟩
        go_wp2_with fail
        go_ret
        exact ⟨by simp, by assumption⟩
    · go_enter Try.func74, Try.ntmps74
      go_wp2_with fail
      refine (c0 _ (by assumption)).mono ?_
      rintro e w1 ⟨rfl, hb1⟩
      go_wp2_with fail
      refine (cg _ (by assumption)).mono ?_
      rintro e w2 ⟨rfl, hb2⟩
      go_wp2_with fail
      refine (c2 _ (by assumption)).mono ?_
      rintro e w3 ⟨rfl, hb3⟩
      go_wp2_with fail
      refine (c1 _ (by assumption)).mono ?_
      rintro e w4 ⟨rfl, hb4⟩
      go_wp2_with fail
      refine (cl _ (by assumption)).mono ?_
      rintro e w5 ⟨rfl, hb5⟩
      go_wp2_with fail
      go_ret
      exact ⟨by simp, by assumption⟩
theorem dproper_any (x : Nat) (hx : x < 18446744073709551616) (W w : World) (hb : Below W.heap.size W w) : Calls Try.prog 22 #[.int .u64 (x : Int)] w fun e w' => e = .returned (.bool (propB x)) ∧ Below W.heap.size W w' := by
  have cg : ∀ V, Below W.heap.size W V → Calls Try.prog 17 #[.int .u64 (x : Int), .int .i64 38, .int .i64 26] V fun e w' => e = .returned (.int .u64 (E.getN x 38 26 : Nat)) ∧ Below W.heap.size W w' := fun V h => E.rget_all x 38 26 hx W V h
  unfold propB
  generalize E.getN x 38 26 = g at *
  by_cases h0 : g = 0
  · subst h0
    go_enter Try.func22, Try.ntmps22
    go_wp2_with fail
    refine (cg _ (by assumption)).mono ?_
    rintro e w1 ⟨rfl, hb1⟩
    go_wp2_with fail
    go_ret
    exact ⟨by simp, by assumption⟩
  have h1 : ((g : Int) == 0) = false := by simp; omega
  have h2 : ¬ (g : Int) = 0 := by omega
  have H3 : Hid ((g == 0) = false) := by show (g == 0) = false; simp [h0]
  by_cases h4 : g = 67108863
  · subst h4
    clear h0 h1 h2
    go_enter Try.func22, Try.ntmps22
    go_wp2_with fail
    refine (cg _ (by assumption)).mono ?_
    rintro e w1 ⟨rfl, hb1⟩
    go_wp2_with fail
    go_ret
    exact ⟨by simp, by assumption⟩
  have h5 : ((g : Int) == 67108863) = false := by simp; omega
  have h6 : ¬ (g : Int) = 67108863 := by omega
  have H7 : Hid ((g == 67108863) = false) := by show (g == 67108863) = false; simp [h4]
  clear h0 h4
  go_enter Try.func22, Try.ntmps22
  go_wp2_with fail
  refine (cg _ (by assumption)).mono ?_
  rintro e w1 ⟨rfl, hb1⟩
  go_wp2_with fail
  go_ret
  exact ⟨by simp [H3.out, H7.out], by assumption⟩
theorem dbare_any (satp : Nat) (kind mode : Int) (sum mxr : Bool) (hs : satp < 18446744073709551616) (W w : World) (hb : Below W.heap.size W w) : Calls Try.prog 20 #[.agg #[.int .u64 (satp : Nat), .int .i64 kind, .int .i64 mode, .bool sum, .bool mxr]] w fun e w' => e = .returned (.bool (bareB satp mode)) ∧ Below W.heap.size W w' := by
  have c : ∀ V, Below W.heap.size W V → Calls Try.prog 17 #[.int .u64 (satp : Int), .int .i64 60, .int .i64 4] V fun e w' => e = .returned (.int .u64 (E.getN satp 60 4 : Nat)) ∧ Below W.heap.size W w' := fun V h => E.rget_all satp 60 4 hs W V h
  have hb0 : Below W.heap.size W (w.alloc (.cells #[.int .u64 (satp : Nat), .int .i64 kind, .int .i64 mode, .bool sum, .bool mxr] 25)) := hb.alloc hb.size _
  unfold bareB
  generalize E.getN satp 60 4 = g at *
  by_cases m3 : mode = 3
  · have mb : (mode == 3) = true := by simp [m3]
    have M3 : Hid (mode = 3) := m3
    clear m3
    go_enter Try.func20, Try.ntmps20
    go_wp2_with fail
    go_ret
    exact ⟨by simp [M3.out], by assumption⟩
  · have mb : (mode == 3) = false := by simp [m3]
    by_cases hg : g = 8
    · subst hg
      go_enter Try.func20, Try.ntmps20
      go_wp2_with fail
      refine (c _ (by assumption)).mono ?_
      rintro e w1 ⟨rfl, hb1⟩
      go_wp2_with fail
      go_ret
      exact ⟨by simp [mb], by assumption⟩
    · have h2 : ((g : Int) == 8) = false := by simp; omega
      have h3 : ¬ (g : Int) = 8 := by omega
      have h4 : Hid ((g == 8) = false) := by show (g == 8) = false; simp [hg]
      clear hg
      go_enter Try.func20, Try.ntmps20
      go_wp2_with fail
      refine (c _ (by assumption)).mono ?_
      rintro e w1 ⟨rfl, hb1⟩
      go_wp2_with fail
      go_ret
      exact ⟨by simp [mb, h4.out, h3], by assumption⟩
end Go.Proofs.Ytalgidnmmghejaa
