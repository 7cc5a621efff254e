/- The statements on quotients, rests and the number of layer 6 return true for every input. -/
import Derived.Test.YtdejnlblcokldaaDo
import Derived.Laws.NewBlocks
import Derived.Deep.DeepCutAuto
namespace Go.Proofs.Ytdejnlblcokldaa
open Go.RowKit
set_option linter.unusedVariables false
set_option linter.unusedSimpArgs false
theorem mod_join (t r d s B c A : Int) (h1 : d % 18446744073709551616 = t % 18446744073709551616) (h2 : s % 18446744073709551616 = r % 18446744073709551616) (h3 : c % 18446744073709551616 = B % 18446744073709551616) (h : B * t + r = A) : (d * c + s) % 18446744073709551616 = A % 18446744073709551616 := by
  rw [Int.add_emod, Int.mul_emod, h1, h2, h3, ← Int.mul_emod, ← Int.add_emod, ← h, Int.mul_comm]
theorem back_s (a b : Nat) (ha : a < 18446744073709551616) (hb : b < 18446744073709551616) (h0 : ¬ b = 0) : IntKind.u64.wrap (IntKind.u64.wrap (((divV a b : Nat) : Int) * b) + ((remV a b : Nat) : Int)) = a := by
  have h := mod_join ((numI a).tdiv (numI b)) ((numI a).tmod (numI b)) (divV a b : Nat) (remV a b : Nat) (numI b) b (numI a) (by unfold divV; rw [if_neg h0]; omega) (by unfold remV; rw [if_neg h0]; omega) (by rw [numI_mod b hb]; omega) (Int.mul_tdiv_add_tmod (numI a) (numI b))
  rw [numI_mod a ha] at h
  rw [wrap_u64, wrap_u64]
  rw [← h]
  omega
theorem back_u (a b : Nat) (ha : a < 18446744073709551616) (hb : b < 18446744073709551616) (h0 : ¬ b = 0) : IntKind.u64.wrap (IntKind.u64.wrap (((divuV a b : Nat) : Int) * b) + ((remuV a b : Nat) : Int)) = a := by
  have h : divuV a b * b + remuV a b = a := by unfold divuV remuV; rw [if_neg h0, if_neg h0, Nat.mul_comm]; exact Nat.div_add_mod a b
  have h2 : ((divuV a b : Nat) : Int) * b + ((remuV a b : Nat) : Int) = a := by
    have := congrArg (fun z : Nat => (z : Int)) h
    simpa using this
  rw [wrap_u64, wrap_u64]
  omega
theorem divV_lt (a b : Nat) : divV a b < 18446744073709551616 := by unfold divV; split <;> omega
theorem remV_lt (a b : Nat) (ha : a < 18446744073709551616) : remV a b < 18446744073709551616 := by unfold remV; split <;> omega
theorem divuV_lt (a b : Nat) (ha : a < 18446744073709551616) : divuV a b < 18446744073709551616 := by
  unfold divuV; split
  · decide
  · exact Nat.lt_of_le_of_lt (Nat.div_le_self _ _) ha
theorem remuV_lt (a b : Nat) (ha : a < 18446744073709551616) : remuV a b < 18446744073709551616 := by
  unfold remuV; split
  · exact ha
  · exact Nat.lt_of_le_of_lt (Nat.mod_le _ _) ha
set_option maxHeartbeats 800000 in
theorem back_core (a b : Nat) (ha : a < 18446744073709551616) (hb : b < 18446744073709551616) (W w : World) (hw : Below W.heap.size W w) : Calls Try.prog 5 #[.int .u64 (a : Int), .int .u64 (b : Int)] w fun e w' => e = .returned (.bool true) ∧ Below W.heap.size W w' := by
  have h1 : ∀ w, Calls Try.prog 9 #[.int .i64 64, .int .u64 (a : Int), .int .u64 (b : Int)] w fun e w' => e = .returned (.tuple #[.int .u64 ((divV a b : Nat) : Int), .bool true]) ∧ w' = w := fun w => by have h := do_any 64 a b ha hb w; rw [mulV_64, mulOk_64] at h; exact h
  have h2 : ∀ w, Calls Try.prog 9 #[.int .i64 66, .int .u64 (a : Int), .int .u64 (b : Int)] w fun e w' => e = .returned (.tuple #[.int .u64 ((remV a b : Nat) : Int), .bool true]) ∧ w' = w := fun w => by have h := do_any 66 a b ha hb w; rw [mulV_66, mulOk_66] at h; exact h
  have h3 : ∀ w, Calls Try.prog 9 #[.int .i64 65, .int .u64 (a : Int), .int .u64 (b : Int)] w fun e w' => e = .returned (.tuple #[.int .u64 ((divuV a b : Nat) : Int), .bool true]) ∧ w' = w := fun w => by have h := do_any 65 a b ha hb w; rw [mulV_65, mulOk_65] at h; exact h
  have h4 : ∀ w, Calls Try.prog 9 #[.int .i64 67, .int .u64 (a : Int), .int .u64 (b : Int)] w fun e w' => e = .returned (.tuple #[.int .u64 ((remuV a b : Nat) : Int), .bool true]) ∧ w' = w := fun w => by have h := do_any 67 a b ha hb w; rw [mulV_67, mulOk_67] at h; exact h
  have l1 := divV_lt a b
  have l2 := remV_lt a b ha
  have l3 := divuV_lt a b ha
  have l4 := remuV_lt a b ha
  by_cases h0 : b = 0
  · have z1 : divV a b = 18446744073709551615 := by unfold divV; rw [if_pos h0]
    have z2 : remV a b = a := by unfold remV; rw [if_pos h0]
    have z3 : divuV a b = 18446744073709551615 := by unfold divuV; rw [if_pos h0]
    have z4 : remuV a b = a := by unfold remuV; rw [if_pos h0]
    rw [z1] at h1
    rw [z2] at h2
    rw [z3] at h3
    rw [z4] at h4
    clear z1 z2 z3 z4 l1 l2 l3 l4
    subst h0
    go_enter Try.func5, Try.ntmps5
    go_wp2_with (go_at_call 8; refine (awake_any _).mono ?_; rintro e w1 ⟨rfl, rfl⟩)
    refine (h1 _).mono ?_
    rintro e w2 ⟨rfl, hx⟩; rw [hx]; clear hx
    go_wp2_with fail
    refine (h2 _).mono ?_
    rintro e w2 ⟨rfl, hx⟩; rw [hx]; clear hx
    go_wp2_with fail
    refine (h3 _).mono ?_
    rintro e w2 ⟨rfl, hx⟩; rw [hx]; clear hx
    go_wp2_with fail
    refine (h4 _).mono ?_
    rintro e w2 ⟨rfl, hx⟩; rw [hx]; clear hx
    go_wp2_with fail
    go_ret
    exact ⟨ret_bool (by first | rfl | simp), hw⟩
  · have z1 := back_s a b ha hb h0
    have z2 := back_u a b ha hb h0
    have z3 : remuV a b < b := by unfold remuV; rw [if_neg h0]; exact Nat.mod_lt _ (by omega)
    generalize divV a b = q at *
    generalize remV a b = r at *
    generalize divuV a b = u at *
    generalize remuV a b = v at *
    have h00 : ¬ (b : Int) = 0 := by omega
    go_enter Try.func5, Try.ntmps5
    go_wp2_with (go_at_call 8; refine (awake_any _).mono ?_; rintro e w1 ⟨rfl, rfl⟩)
    refine (h1 _).mono ?_
    rintro e w2 ⟨rfl, hx⟩; rw [hx]; clear hx
    go_wp2_with fail
    refine (h2 _).mono ?_
    rintro e w2 ⟨rfl, hx⟩; rw [hx]; clear hx
    go_wp2_with fail
    refine (h3 _).mono ?_
    rintro e w2 ⟨rfl, hx⟩; rw [hx]; clear hx
    go_wp2_with fail
    refine (h4 _).mono ?_
    rintro e w2 ⟨rfl, hx⟩; rw [hx]; clear hx
    go_wp2_with fail
    go_ret
    exact ⟨ret_bool (by first | rfl | simp | (simp; omega) | (simp [z1, z2, z3]; done) | (simp [z1, z2]; omega)), hw⟩
theorem back_walk (W : World) (a0 : Int) (w0 : (Lit.int .u64 a0).wf = true) (a1 : Int) (w1 : (Lit.int .u64 a1).wf = true) :
    Calls Try.prog 5 #[.int .u64 a0, .int .u64 a1] W fun e w' => e = .returned (.bool true) ∧ Below W.heap.size W w' := by
  have b0 := bounds_u64 w0
  have b1 := bounds_u64 w1
  obtain ⟨x, rfl⟩ : ∃ x : Nat, a0 = x := ⟨a0.toNat, by omega⟩
  obtain ⟨y, rfl⟩ : ∃ y : Nat, a1 = y := ⟨a1.toNat, by omega⟩
  exact back_core x y (by omega) (by omega) W W (Below.refl _ _)
end Go.Proofs.Ytdejnlblcokldaa
