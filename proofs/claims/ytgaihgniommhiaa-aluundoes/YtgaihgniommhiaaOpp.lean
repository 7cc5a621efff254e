/- The statements on opposite branches and on what undoes what return true for every input. -/
import Derived.Test.YtgaihgniommhiaaAny
namespace Go.Proofs.Ytgaihgniommhiaa
open Go.RowKit
set_option linter.unusedVariables false
set_option linter.unusedSimpArgs false
theorem opp_core (a b : Nat) (ha : a < 18446744073709551616) (hb : b < 18446744073709551616) (W w : World) (hw : Below W.heap.size W w) : Calls Try.prog 6 #[.int .u64 (a : Int), .int .u64 (b : Int)] w fun e w' => e = .returned (.bool true) ∧ Below W.heap.size W w' := by
  have HA : Hid (takB 5 a b = !takB 6 a b ∧ takB 7 a b = !takB 8 a b ∧ takB 9 a b = !takB 10 a b) := by
    refine (show _ ∧ _ ∧ _ from ?_)
    rw [takB_5, takB_6, takB_7, takB_8, takB_9, takB_10]; simp
  have ht : ∀ op w, Calls Try.prog 12 #[.int .i64 op, .int .u64 (a : Int), .int .u64 (b : Int)] w fun e w' => e = .returned (.bool (takB op a b)) ∧ w' = w := fun op w => taken_any op a b ha hb w
  generalize h5 : takB 5 a b = t5 at *
  generalize h6 : takB 6 a b = t6 at *
  generalize h7 : takB 7 a b = t7 at *
  generalize h8 : takB 8 a b = t8 at *
  generalize h9 : takB 9 a b = t9 at *
  generalize h10 : takB 10 a b = t10 at *
  obtain ⟨e1, e2, e3⟩ := HA.out
  clear HA
  subst e1 e2 e3
  go_enter Try.func6, Try.ntmps6
  go_wp2_with (first | (go_at_call 9; refine (awake_any W _ (by assumption)).mono ?_; rintro e w' ⟨rfl, hw2⟩) | (go_at_call 12; refine (ht _ _).mono ?_; rintro e w' ⟨rfl, rfl⟩))
  go_ret
  exact ⟨ret_bool (by first | rfl | (simp; done) | (cases t6 <;> cases t8 <;> cases t10 <;> simp)), by assumption⟩
theorem opp_walk (W : World) (a0 : Int) (w0 : (Lit.int .u64 a0).wf = true) (a1 : Int) (w1 : (Lit.int .u64 a1).wf = true) :
    Calls Try.prog 6 #[.int .u64 a0, .int .u64 a1] W fun e w' => e = .returned (.bool true) ∧ Below W.heap.size W w' := by
  have b0 := bounds_u64 w0
  have b1 := bounds_u64 w1
  obtain ⟨x, rfl⟩ : ∃ x : Nat, a0 = x := ⟨a0.toNat, by omega⟩
  obtain ⟨y, rfl⟩ : ∃ y : Nat, a1 = y := ⟨a1.toNat, by omega⟩
  exact opp_core x y (by omega) (by omega) W W (Below.refl _ _)
theorem flagN_lt (c : Bool) : (flagN c : Int) < 2 := by cases c <;> decide
theorem flagN_one (c : Bool) : ((flagN c : Int) == 1) = c := by cases c <;> decide
theorem und_num (a b : Nat) (ha : a < 18446744073709551616) (hb : b < 18446744073709551616) : ((a + b) % 18446744073709551616 + 18446744073709551616 - b) % 18446744073709551616 = a := by omega
theorem und_xor (a b : Nat) : a ^^^ b ^^^ b = a := by rw [Nat.xor_assoc, Nat.xor_self, Nat.xor_zero]
theorem und_core (a b : Nat) (ha : a < 18446744073709551616) (hb : b < 18446744073709551616) (W w : World) (hw : Below W.heap.size W w) : Calls Try.prog 7 #[.int .u64 (a : Int), .int .u64 (b : Int)] w fun e w' => e = .returned (.bool true) ∧ Below W.heap.size W w' := by
  obtain ⟨s, H1, H2⟩ : ∃ s : Nat, (∀ w, Calls Try.prog 10 #[.int .i64 31, .int .u64 (a : Int), .int .u64 (b : Int)] w fun e w' => e = .returned (.tuple #[.int .u64 (s : Int), .bool true]) ∧ w' = w) ∧ (∀ w, Calls Try.prog 10 #[.int .i64 32, .int .u64 (s : Int), .int .u64 (b : Int)] w fun e w' => e = .returned (.tuple #[.int .u64 (a : Int), .bool true]) ∧ w' = w) := by
    refine ⟨_, fun w => do_31 a b ha hb w, fun w => ?_⟩
    have h := do_32 ((a + b) % 18446744073709551616) b (Nat.mod_lt _ (by decide)) hb w
    rw [und_num a b ha hb] at h
    exact h
  obtain ⟨x, H3, H4⟩ : ∃ s : Nat, (∀ w, Calls Try.prog 10 #[.int .i64 36, .int .u64 (a : Int), .int .u64 (b : Int)] w fun e w' => e = .returned (.tuple #[.int .u64 (s : Int), .bool true]) ∧ w' = w) ∧ (∀ w, Calls Try.prog 10 #[.int .i64 36, .int .u64 (s : Int), .int .u64 (b : Int)] w fun e w' => e = .returned (.tuple #[.int .u64 (a : Int), .bool true]) ∧ w' = w) := by
    refine ⟨_, fun w => do_36 a b ha hb w, fun w => ?_⟩
    have h := do_36 (a ^^^ b) b (Nat.xor_lt_two_pow (n := 64) ha hb) hb w
    rw [und_xor a b] at h
    exact h
  obtain ⟨l, H5, H6⟩ : ∃ l : Bool, (∀ w, Calls Try.prog 10 #[.int .i64 34, .int .u64 (a : Int), .int .u64 (b : Int)] w fun e w' => e = .returned (.tuple #[.int .u64 ((flagN l : Nat) : Int), .bool true]) ∧ w' = w) ∧ takB 7 a b = l := ⟨_, fun w => do_34 a b ha hb w, takB_7 a b⟩
  obtain ⟨u, H7, H8⟩ : ∃ l : Bool, (∀ w, Calls Try.prog 10 #[.int .i64 35, .int .u64 (a : Int), .int .u64 (b : Int)] w fun e w' => e = .returned (.tuple #[.int .u64 ((flagN l : Nat) : Int), .bool true]) ∧ w' = w) ∧ takB 9 a b = l := ⟨_, fun w => do_35 a b ha hb w, takB_9 a b⟩
  have ht : ∀ op w, Calls Try.prog 12 #[.int .i64 op, .int .u64 (a : Int), .int .u64 (b : Int)] w fun e w' => e = .returned (.bool (takB op a b)) ∧ w' = w := fun op w => taken_any op a b ha hb w
  have f1 := flagN_one l
  have f2 := flagN_one u
  have f3 := flagN_lt l
  have f4 := flagN_lt u
  generalize ((flagN l : Nat) : Int) = fl at *
  generalize ((flagN u : Nat) : Int) = fu at *
  go_enter Try.func7, Try.ntmps7
  go_wp2_with (go_at_call 9; refine (awake_any W _ (by assumption)).mono ?_; rintro e w' ⟨rfl, hw2⟩)
  refine (H1 _).mono ?_
  rintro e w1 ⟨rfl, h⟩; rw [h]; clear h
  go_wp2_with fail
  refine (H2 _).mono ?_
  rintro e w1 ⟨rfl, h⟩; rw [h]; clear h
  go_wp2_with fail
  refine (H3 _).mono ?_
  rintro e w1 ⟨rfl, h⟩; rw [h]; clear h
  go_wp2_with fail
  refine (H4 _).mono ?_
  rintro e w1 ⟨rfl, h⟩; rw [h]; clear h
  go_wp2_with fail
  refine (H5 _).mono ?_
  rintro e w1 ⟨rfl, h⟩; rw [h]; clear h
  go_wp2_with fail
  refine (H7 _).mono ?_
  rintro e w1 ⟨rfl, h⟩; rw [h]; clear h
  go_wp2_with (go_at_call 12; refine (ht _ _).mono ?_; rintro e w' ⟨rfl, rfl⟩)
  go_ret
  exact ⟨ret_bool (by simp [f1, f2, f3, f4, H6, H8]), by assumption⟩
theorem und_walk (W : World) (a0 : Int) (w0 : (Lit.int .u64 a0).wf = true) (a1 : Int) (w1 : (Lit.int .u64 a1).wf = true) :
    Calls Try.prog 7 #[.int .u64 a0, .int .u64 a1] W fun e w' => e = .returned (.bool true) ∧ Below W.heap.size W w' := by
  have b0 := bounds_u64 w0
  have b1 := bounds_u64 w1
  obtain ⟨x, rfl⟩ : ∃ x : Nat, a0 = x := ⟨a0.toNat, by omega⟩
  obtain ⟨y, rfl⟩ : ∃ y : Nat, a1 = y := ⟨a1.toNat, by omega⟩
  exact und_core x y (by omega) (by omega) W W (Below.refl _ _)
end Go.Proofs.Ytgaihgniommhiaa
