/- The laws AmoBoth and AmoHalves. -/
import Derived.Test.YtcpaddnigembkaaNew
namespace Go.Proofs.Ytcpaddnigembkaa
open Go.RowKit
set_option linter.unusedVariables false
set_option linter.unusedSimpArgs false
theorem numI_inj (a b : Nat) (ha : a < 18446744073709551616) (hb : b < 18446744073709551616) (h : numI a = numI b) : a = b := by
  unfold numI at h; split at h <;> split at h <;> omega
theorem both_s (a b : Nat) (ha : a < 18446744073709551616) (hb : b < 18446744073709551616) : (minI a b = a ∧ maxI a b = b) ∨ (minI a b = b ∧ maxI a b = a) := by
  unfold minI maxI
  by_cases h1 : numI b < numI a
  · right; rw [if_pos h1, if_neg (by omega)]; exact ⟨rfl, rfl⟩
  · by_cases h2 : numI a < numI b
    · left; rw [if_neg h1, if_pos h2]; exact ⟨rfl, rfl⟩
    · have := numI_inj a b ha hb (by omega)
      subst this; left; simp
theorem both_u (a b : Nat) : ((min a b = a ∧ max a b = b) ∨ (min a b = b ∧ max a b = a)) ∧ min a b ≤ max a b := by omega
theorem new_s (o : Int) (a b v : Nat) (ha : a < 18446744073709551616) (hb : b < 18446744073709551616) (hv : newV o a b = v) (hk : newOk o = true) (w : World) : Calls Try.prog 9 #[.int .i64 o, .int .u64 (a : Int), .int .u64 (b : Int)] w fun e w' => e = .returned (.tuple #[.int .u64 (v : Int), .bool true]) ∧ w' = w := by
  subst hv
  rw [← hk]
  exact new_any o a b ha hb w
theorem both_core (a b : Nat) (ha : a < 18446744073709551616) (hb : b < 18446744073709551616) (w : World) : Calls Try.prog 5 #[.int .u64 (a : Int), .int .u64 (b : Int)] w fun e w' => e = .returned (.bool true) ∧ w' = w := by
  have hu := both_u a b
  have hs := both_s a b ha hb
  have h91 := new_s 91 a b _ ha hb rfl rfl
  have h92 := new_s 92 a b _ ha hb rfl rfl
  have h93 := new_s 93 a b _ ha hb rfl rfl
  have h94 := new_s 94 a b _ ha hb rfl rfl
  have h86 := new_s 86 a b b ha hb rfl rfl
  have h87 := new_s 86 b a a hb ha rfl rfl
  rw [newV_91] at h91
  rw [newV_92] at h92
  rw [newV_93] at h93
  rw [newV_94] at h94
  generalize minI a b = x at *
  generalize maxI a b = y at *
  generalize min a b = u at *
  generalize max a b = v at *
  obtain ⟨hu, huv⟩ := hu
  rcases hu with ⟨rfl, rfl⟩ | ⟨rfl, rfl⟩ <;> rcases hs with ⟨rfl, rfl⟩ | ⟨rfl, rfl⟩
  all_goals
    go_enter Try.func5, Try.ntmps5
    go_wp2_with (first | (go_at_call 8; refine (awake_any _).mono ?_; rintro e w' ⟨rfl, rfl⟩) | (go_at_call 9; (first | with_reducible refine (h91 _).mono ?_ | with_reducible refine (h92 _).mono ?_ | with_reducible refine (h93 _).mono ?_ | with_reducible refine (h94 _).mono ?_ | with_reducible refine (h86 _).mono ?_ | with_reducible refine (h87 _).mono ?_); rintro e w' ⟨rfl, rfl⟩))
    all_goals
      go_ret
      exact ⟨ret_bool (by first | rfl | simp_all | omega), rfl⟩
theorem both_walk (W : World) (a0 : Int) (w0 : (Lit.int .u64 a0).wf = true) (a1 : Int) (w1 : (Lit.int .u64 a1).wf = true) :
    Calls Try.prog 5 #[.int .u64 a0, .int .u64 a1] W fun e w' => e = .returned (.bool true) ∧ Below W.heap.size W w' := by
  have b0 := bounds_u64 w0
  have b1 := bounds_u64 w1
  obtain ⟨x, rfl⟩ : ∃ x : Nat, a0 = x := ⟨a0.toNat, by omega⟩
  obtain ⟨y, rfl⟩ : ∃ y : Nat, a1 = y := ⟨a1.toNat, by omega⟩
  refine (both_core x y (by omega) (by omega) W).mono ?_
  rintro e w' ⟨rfl, rfl⟩
  exact ⟨rfl, Below.refl _ _⟩
theorem sx32 (x : Nat) : sextA x 32 = if x % 4294967296 < 2147483648 then x % 4294967296 else x % 4294967296 + 18446744069414584320 := by
  rw [show (32 : Int) = ((32 : Nat) : Int) from rfl, sextA_in x 32 (by decide) (by decide)]
  unfold sextN
  rw [Nat.testBit_eq_decide_div_mod_eq]
  simp only [Nat.reduceSub, Nat.reducePow, decide_eq_true_eq]
  split <;> split <;> omega
theorem newV_half (op : Int) (a b : Nat) (h : wideB op = false) : newV op (a % 4294967296) (b % 4294967296) = newV op a b ∧ newV op a b < 4294967296 := by
  have hx : a % 4294967296 < 4294967296 := Nat.mod_lt _ (by decide)
  have hy : b % 4294967296 < 4294967296 := Nat.mod_lt _ (by decide)
  by_cases h75 : op = 75
  · subst h75
    rw [newV_75, newV_75]
    refine ⟨by simp only [Nat.mod_mod], hy⟩
  by_cases h76 : op = 76
  · subst h76
    rw [newV_76, newV_76]
    refine ⟨by simp only [Nat.mod_mod], Nat.mod_lt _ (by decide)⟩
  by_cases h77 : op = 77
  · subst h77
    rw [newV_77, newV_77]
    refine ⟨by simp only [Nat.mod_mod], lt_32 _ (Nat.xor_lt_two_pow hx hy)⟩
  by_cases h78 : op = 78
  · subst h78
    rw [newV_78, newV_78]
    refine ⟨by simp only [Nat.mod_mod], lt_32 _ (Nat.and_lt_two_pow _ hy)⟩
  by_cases h79 : op = 79
  · subst h79
    rw [newV_79, newV_79]
    refine ⟨by simp only [Nat.mod_mod], lt_32 _ (Nat.or_lt_two_pow hx hy)⟩
  by_cases h80 : op = 80
  · subst h80
    rw [newV_80, newV_80]
    refine ⟨by simp only [Nat.mod_mod], min32_lt _ _ hx hy⟩
  by_cases h81 : op = 81
  · subst h81
    rw [newV_81, newV_81]
    refine ⟨by simp only [Nat.mod_mod], max32_lt _ _ hx hy⟩
  by_cases h82 : op = 82
  · subst h82
    rw [newV_82, newV_82]
    refine ⟨by simp only [Nat.mod_mod], by omega⟩
  by_cases h83 : op = 83
  · subst h83
    rw [newV_83, newV_83]
    refine ⟨by simp only [Nat.mod_mod], by omega⟩
  have e : ∀ x y, newV op x y = 0 := newV_no op h75 h76 h77 h78 h79 h80 h81 h82 h83 (by intro e; subst e; exact absurd h (by decide)) (by intro e; subst e; exact absurd h (by decide)) (by intro e; subst e; exact absurd h (by decide)) (by intro e; subst e; exact absurd h (by decide)) (by intro e; subst e; exact absurd h (by decide)) (by intro e; subst e; exact absurd h (by decide)) (by intro e; subst e; exact absurd h (by decide)) (by intro e; subst e; exact absurd h (by decide)) (by intro e; subst e; exact absurd h (by decide))
  rw [e, e]
  exact ⟨rfl, by decide⟩
theorem halves_core (op : Int) (a b : Nat) (ha : a < 18446744073709551616) (hb : b < 18446744073709551616) (w : World) : Calls Try.prog 6 #[.int .i64 op, .int .u64 (a : Int), .int .u64 (b : Int)] w fun e w' => e = .returned (.bool true) ∧ w' = w := by
  have h14 : ∀ w, Calls Try.prog 14 #[.int .i64 op] w fun e w' => e = .returned (.bool (wideB op)) ∧ w' = w := fun w => wide_any op w
  cases hw : wideB op
  · obtain ⟨x, hxx⟩ : ∃ x, a % 4294967296 = x := ⟨_, rfl⟩
    obtain ⟨y, hyy⟩ : ∃ y, b % 4294967296 = y := ⟨_, rfl⟩
    have hxa : (a : Int) % 4294967296 = x := by omega
    have hyb : (b : Int) % 4294967296 = y := by omega
    have hx : x < 18446744073709551616 := by omega
    have hy : y < 18446744073709551616 := by omega
    have hh := newV_half op a b hw
    have ho : oldV op x = oldV op a := by
      unfold oldV; rw [hw, ← hxx]; simp [sx32, Nat.mod_mod]
    rw [hxx, hyy] at hh
    have hn1 := fun w => new_any op a b ha hb w
    have hn2 := fun w => new_any op x y hx hy w
    have ho1 := fun w => old_any op a ha w
    have ho2 := fun w => old_any op x hx w
    rw [hh.1] at hn2
    rw [ho] at ho2
    rw [hw] at h14
    obtain ⟨vi, hvi⟩ : ∃ vi : Int, (newV op a b : Int) = vi := ⟨_, rfl⟩
    have hlt : vi < 4294967296 := by have := hh.2; omega
    rw [hvi] at hn1 hn2
    clear hvi hh ho hw hxx hyy
    generalize newOk op = k at *
    generalize oldV op a = o at *
    cases k
    all_goals
      go_enter Try.func6, Try.ntmps6
      go_wp2_with fail
      refine (awake_any _).mono ?_
      rintro e w1 ⟨rfl, rfl⟩
      go_wp2_with fail
      refine (h14 _).mono ?_
      rintro e w2 ⟨rfl, rfl⟩
      go_wp2_with fail
      refine (hn1 _).mono ?_
      rintro e w3 ⟨rfl, rfl⟩
      go_wp2_with fail
      refine (hn2 _).mono ?_
      rintro e w4 ⟨rfl, rfl⟩
      go_wp2_with fail
      refine (ho1 _).mono ?_
      rintro e w5 ⟨rfl, rfl⟩
      go_wp2_with fail
      refine (ho2 _).mono ?_
      rintro e w6 ⟨rfl, rfl⟩
      go_wp2_with fail
      go_ret
      exact ⟨ret_bool (by first | rfl | simp), rfl⟩
  · rw [hw] at h14
    clear hw
    go_enter Try.func6, Try.ntmps6
    go_wp2_with (first | (go_at_call 8; refine (awake_any _).mono ?_; rintro e w' ⟨rfl, rfl⟩) | (go_at_call 14; refine (h14 _).mono ?_; rintro e w' ⟨rfl, rfl⟩))
    go_ret
    exact ⟨rfl, rfl⟩
theorem halves_walk (W : World) (a0 : Int) (w0 : (Lit.int .i64 a0).wf = true) (a1 : Int) (w1 : (Lit.int .u64 a1).wf = true) (a2 : Int) (w2 : (Lit.int .u64 a2).wf = true) :
    Calls Try.prog 6 #[.int .i64 a0, .int .u64 a1, .int .u64 a2] W fun e w' => e = .returned (.bool true) ∧ Below W.heap.size W w' := by
  have b1 := bounds_u64 w1
  have b2 := bounds_u64 w2
  obtain ⟨x, rfl⟩ : ∃ x : Nat, a1 = x := ⟨a1.toNat, by omega⟩
  obtain ⟨y, rfl⟩ : ∃ y : Nat, a2 = y := ⟨a2.toNat, by omega⟩
  refine (halves_core a0 x y (by omega) (by omega) W).mono ?_
  rintro e w' ⟨rfl, rfl⟩
  exact ⟨rfl, Below.refl _ _⟩
end Go.Proofs.Ytcpaddnigembkaa
