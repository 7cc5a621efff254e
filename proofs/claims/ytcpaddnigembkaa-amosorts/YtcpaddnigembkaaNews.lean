/- The document's calls one, New and Old of layer 7; the laws AmoSorts and AmoNews. -/
import Derived.Test.YtcpaddnigembkaaOf
import Derived.Test.YtcpaddnigembkaaBoth
namespace Go.Proofs.Ytcpaddnigembkaa
open Go.RowKit
set_option linter.unusedVariables false
set_option linter.unusedSimpArgs false
theorem one_any (c : Bool) (a b : Nat) (w : World) : Calls Try.prog 26 #[.bool c, .int .u64 (a : Int), .int .u64 (b : Int)] w fun e w' => e = .returned (.int .u64 ((if c then a else b : Nat) : Int)) ∧ w' = w := by
  cases c
  all_goals
    go_enter Try.func26, Try.ntmps26
    go_wp2
    go_ret
    exact ⟨rfl, rfl⟩
theorem num_sx (x : Nat) (hx : x < 4294967296) : numI (sextA x 32) = num32 x := by
  rw [sx32, Nat.mod_eq_of_lt hx]
  unfold numI num32
  split <;> split <;> first | omega | (split <;> omega)
theorem sx_lt (x : Nat) : sextA x 32 < 18446744073709551616 := by rw [sx32]; split <;> omega
theorem num32_inj (a b : Nat) (ha : a < 4294967296) (hb : b < 4294967296) (h : num32 a = num32 b) : a = b := by
  unfold num32 at h; split at h <;> split at h <;> omega
theorem minI_eq (a b : Nat) (ha : a < 18446744073709551616) (hb : b < 18446744073709551616) : minI a b = if decide (numI a < numI b) then a else b := by
  unfold minI; have := numI_inj a b ha hb
  by_cases h1 : numI b < numI a
  · rw [if_pos h1, if_neg (by simp; omega)]
  · by_cases h2 : numI a < numI b
    · rw [if_neg h1, if_pos (by simp [h2])]
    · rw [if_neg h1, if_neg (by simp; omega)]; exact this (by omega)
theorem maxI_eq (a b : Nat) (ha : a < 18446744073709551616) (hb : b < 18446744073709551616) : maxI a b = if decide (numI a < numI b) then b else a := by
  unfold maxI; by_cases h2 : numI a < numI b <;> simp [h2]
theorem min32_eq (a b : Nat) (ha : a < 4294967296) (hb : b < 4294967296) : min32 a b = if decide (num32 a < num32 b) then a else b := by
  unfold min32; have := num32_inj a b ha hb
  by_cases h1 : num32 b < num32 a
  · rw [if_pos h1, if_neg (by simp; omega)]
  · by_cases h2 : num32 a < num32 b
    · rw [if_neg h1, if_pos (by simp [h2])]
    · rw [if_neg h1, if_neg (by simp; omega)]; exact this (by omega)
theorem max32_eq (a b : Nat) (ha : a < 4294967296) (hb : b < 4294967296) : max32 a b = if decide (num32 a < num32 b) then b else a := by
  unfold max32; by_cases h2 : num32 a < num32 b <;> simp [h2]
theorem min_eq (a b : Nat) : min a b = if decide (a < b) then a else b := by by_cases h : a < b <;> simp [h] <;> omega
theorem max_eq (a b : Nat) : max a b = if decide (a < b) then b else a := by by_cases h : a < b <;> simp [h] <;> omega
theorem rnew_86 (a b : Nat) (ha : a < 18446744073709551616) (hb : b < 18446744073709551616) (W w : World) (hw : Below W.heap.size W w) : Calls Try.prog 10 #[.int .i64 86, .int .u64 (a : Int), .int .u64 (b : Int)] w fun e w' => e = .returned (.tuple #[.int .u64 ((b : Nat) : Int), .bool true]) ∧ Below W.heap.size W w' := by
  have h13 : ∀ w, Below W.heap.size W w → Calls Try.prog 13 #[.int .i64 86] w fun e w' => e = .returned (.tuple #[.int .i64 2, .bool true]) ∧ Below W.heap.size W w' := fun w hw => of_any 86 W w hw
  have hl : ∀ w, Below W.heap.size W w → Calls Try.prog 24 #[.int .u64 (a : Int), .int .u64 (b : Int)] w fun e w' => e = .returned (.bool (decide (numI a < numI b))) ∧ Below W.heap.size W w' := fun w hw => less_any a b ha hb W w hw
  generalize decide (numI a < numI b) = lb at *
  go_enter Try.func10, Try.ntmps10
  go_wp2_with (first | (go_at_call 13; refine (h13 _ (by assumption)).mono ?_; rintro e w' ⟨rfl, hw1⟩) | (go_at_call 24; refine (hl _ (by assumption)).mono ?_; rintro e w' ⟨rfl, hw3⟩))
  go_ret2
  exact ⟨ret_two (by first | rfl | omega) rfl, by assumption⟩
theorem rnew_75 (a b : Nat) (ha : a < 18446744073709551616) (hb : b < 18446744073709551616) (W w : World) (hw : Below W.heap.size W w) : Calls Try.prog 10 #[.int .i64 75, .int .u64 (a : Int), .int .u64 (b : Int)] w fun e w' => e = .returned (.tuple #[.int .u64 (((b % 4294967296) : Nat) : Int), .bool true]) ∧ Below W.heap.size W w' := by
  have h13 : ∀ w, Below W.heap.size W w → Calls Try.prog 13 #[.int .i64 75] w fun e w' => e = .returned (.tuple #[.int .i64 2, .bool false]) ∧ Below W.heap.size W w' := fun w hw => of_any 75 W w hw
  obtain ⟨x, hxx⟩ : ∃ x, a % 4294967296 = x := ⟨_, rfl⟩
  obtain ⟨y, hyy⟩ : ∃ y, b % 4294967296 = y := ⟨_, rfl⟩
  have hxa : (a : Int) % 4294967296 = x := by omega
  have hyb : (b : Int) % 4294967296 = y := by omega
  have hx : x < 4294967296 := by omega
  have hy : y < 4294967296 := by omega
  rw [hyy]
  clear hxx hyy
  have hs1 : ∀ w, Below W.heap.size W w → Calls Try.prog 23 #[.int .u64 (x : Int), .int .i64 32] w fun e w' => e = .returned (.int .u64 ((sextA x 32 : Nat) : Int)) ∧ Below W.heap.size W w' := fun w hw => rsext_all x 32 (by omega) W w hw
  have hs2 : ∀ w, Below W.heap.size W w → Calls Try.prog 23 #[.int .u64 (y : Int), .int .i64 32] w fun e w' => e = .returned (.int .u64 ((sextA y 32 : Nat) : Int)) ∧ Below W.heap.size W w' := fun w hw => rsext_all y 32 (by omega) W w hw
  have hl : ∀ w, Below W.heap.size W w → Calls Try.prog 24 #[.int .u64 ((sextA x 32 : Nat) : Int), .int .u64 ((sextA y 32 : Nat) : Int)] w fun e w' => e = .returned (.bool (decide (num32 x < num32 y))) ∧ Below W.heap.size W w' := fun w hw => by
    have h := less_any (sextA x 32) (sextA y 32) (sx_lt x) (sx_lt y) W w hw
    rw [num_sx x hx, num_sx y hy] at h
    exact h
  generalize sextA x 32 = sx at *
  generalize sextA y 32 = sy at *
  generalize decide (num32 x < num32 y) = lb at *
  have hmx : (x : Int) % 4294967296 = x := by omega
  have hmy : (y : Int) % 4294967296 = y := by omega
  go_enter Try.func10, Try.ntmps10
  go_wp2_with (first | (go_at_call 13; refine (h13 _ (by assumption)).mono ?_; rintro e w' ⟨rfl, hw1⟩) | (go_at_call 24; refine (hl _ (by assumption)).mono ?_; rintro e w' ⟨rfl, hw3⟩) | (go_at_call 23; (first | with_reducible refine (hs1 _ (by assumption)).mono ?_ | with_reducible refine (hs2 _ (by assumption)).mono ?_); rintro e w' ⟨rfl, hw4⟩))
  go_ret2
  exact ⟨ret_two (by first | rfl | omega) rfl, by assumption⟩
theorem rnew_87 (a b : Nat) (ha : a < 18446744073709551616) (hb : b < 18446744073709551616) (W w : World) (hw : Below W.heap.size W w) : Calls Try.prog 10 #[.int .i64 87, .int .u64 (a : Int), .int .u64 (b : Int)] w fun e w' => e = .returned (.tuple #[.int .u64 ((((a + b) % 18446744073709551616) : Nat) : Int), .bool true]) ∧ Below W.heap.size W w' := by
  have h13 : ∀ w, Below W.heap.size W w → Calls Try.prog 13 #[.int .i64 87] w fun e w' => e = .returned (.tuple #[.int .i64 3, .bool true]) ∧ Below W.heap.size W w' := fun w hw => of_any 87 W w hw
  have hl : ∀ w, Below W.heap.size W w → Calls Try.prog 24 #[.int .u64 (a : Int), .int .u64 (b : Int)] w fun e w' => e = .returned (.bool (decide (numI a < numI b))) ∧ Below W.heap.size W w' := fun w hw => less_any a b ha hb W w hw
  generalize decide (numI a < numI b) = lb at *
  have HV : Hid _ := wrap_u64 ((a : Int) + b)
  go_enter Try.func10, Try.ntmps10
  go_wp2_with (first | (go_at_call 13; refine (h13 _ (by assumption)).mono ?_; rintro e w' ⟨rfl, hw1⟩) | (go_at_call 24; refine (hl _ (by assumption)).mono ?_; rintro e w' ⟨rfl, hw3⟩))
  go_ret2
  exact ⟨ret_two (by first | omega | (rw [HV.out]; omega)) rfl, by assumption⟩
theorem rnew_76 (a b : Nat) (ha : a < 18446744073709551616) (hb : b < 18446744073709551616) (W w : World) (hw : Below W.heap.size W w) : Calls Try.prog 10 #[.int .i64 76, .int .u64 (a : Int), .int .u64 (b : Int)] w fun e w' => e = .returned (.tuple #[.int .u64 (((((a % 4294967296) + (b % 4294967296)) % 4294967296) : Nat) : Int), .bool true]) ∧ Below W.heap.size W w' := by
  have h13 : ∀ w, Below W.heap.size W w → Calls Try.prog 13 #[.int .i64 76] w fun e w' => e = .returned (.tuple #[.int .i64 3, .bool false]) ∧ Below W.heap.size W w' := fun w hw => of_any 76 W w hw
  obtain ⟨x, hxx⟩ : ∃ x, a % 4294967296 = x := ⟨_, rfl⟩
  obtain ⟨y, hyy⟩ : ∃ y, b % 4294967296 = y := ⟨_, rfl⟩
  have hxa : (a : Int) % 4294967296 = x := by omega
  have hyb : (b : Int) % 4294967296 = y := by omega
  have hx : x < 4294967296 := by omega
  have hy : y < 4294967296 := by omega
  rw [hxx, hyy]
  clear hxx hyy
  have hs1 : ∀ w, Below W.heap.size W w → Calls Try.prog 23 #[.int .u64 (x : Int), .int .i64 32] w fun e w' => e = .returned (.int .u64 ((sextA x 32 : Nat) : Int)) ∧ Below W.heap.size W w' := fun w hw => rsext_all x 32 (by omega) W w hw
  have hs2 : ∀ w, Below W.heap.size W w → Calls Try.prog 23 #[.int .u64 (y : Int), .int .i64 32] w fun e w' => e = .returned (.int .u64 ((sextA y 32 : Nat) : Int)) ∧ Below W.heap.size W w' := fun w hw => rsext_all y 32 (by omega) W w hw
  have hl : ∀ w, Below W.heap.size W w → Calls Try.prog 24 #[.int .u64 ((sextA x 32 : Nat) : Int), .int .u64 ((sextA y 32 : Nat) : Int)] w fun e w' => e = .returned (.bool (decide (num32 x < num32 y))) ∧ Below W.heap.size W w' := fun w hw => by
    have h := less_any (sextA x 32) (sextA y 32) (sx_lt x) (sx_lt y) W w hw
    rw [num_sx x hx, num_sx y hy] at h
    exact h
  generalize sextA x 32 = sx at *
  generalize sextA y 32 = sy at *
  generalize decide (num32 x < num32 y) = lb at *
  have hmx : (x : Int) % 4294967296 = x := by omega
  have hmy : (y : Int) % 4294967296 = y := by omega
  have HV : Hid _ := wrap_u64 ((x : Int) + y)
  go_enter Try.func10, Try.ntmps10
  go_wp2_with (first | (go_at_call 13; refine (h13 _ (by assumption)).mono ?_; rintro e w' ⟨rfl, hw1⟩) | (go_at_call 24; refine (hl _ (by assumption)).mono ?_; rintro e w' ⟨rfl, hw3⟩) | (go_at_call 23; (first | with_reducible refine (hs1 _ (by assumption)).mono ?_ | with_reducible refine (hs2 _ (by assumption)).mono ?_); rintro e w' ⟨rfl, hw4⟩))
  go_ret2
  exact ⟨ret_two (by first | omega | (rw [HV.out]; omega)) rfl, by assumption⟩
theorem rnew_88 (a b : Nat) (ha : a < 18446744073709551616) (hb : b < 18446744073709551616) (W w : World) (hw : Below W.heap.size W w) : Calls Try.prog 10 #[.int .i64 88, .int .u64 (a : Int), .int .u64 (b : Int)] w fun e w' => e = .returned (.tuple #[.int .u64 (((a ^^^ b) : Nat) : Int), .bool true]) ∧ Below W.heap.size W w' := by
  have h13 : ∀ w, Below W.heap.size W w → Calls Try.prog 13 #[.int .i64 88] w fun e w' => e = .returned (.tuple #[.int .i64 4, .bool true]) ∧ Below W.heap.size W w' := fun w hw => of_any 88 W w hw
  have hl : ∀ w, Below W.heap.size W w → Calls Try.prog 24 #[.int .u64 (a : Int), .int .u64 (b : Int)] w fun e w' => e = .returned (.bool (decide (numI a < numI b))) ∧ Below W.heap.size W w' := fun w hw => less_any a b ha hb W w hw
  have hd : ∀ w, Below W.heap.size W w → Calls Try.prog 25 #[.int .i64 36, .int .u64 (a : Int), .int .u64 (b : Int)] w fun e w' => e = .returned (.tuple #[.int .u64 ((a ^^^ b : Nat) : Int), .bool true]) ∧ Below W.heap.size W w' := fun w hw => rdo_36 a b (by omega) (by omega) W w hw
  generalize a ^^^ b = v at *
  generalize decide (numI a < numI b) = lb at *
  go_enter Try.func10, Try.ntmps10
  go_wp2_with (first | (go_at_call 13; refine (h13 _ (by assumption)).mono ?_; rintro e w' ⟨rfl, hw1⟩) | (go_at_call 24; refine (hl _ (by assumption)).mono ?_; rintro e w' ⟨rfl, hw3⟩) | (go_at_call 25; refine (hd _ (by assumption)).mono ?_; rintro e w' ⟨rfl, hw2⟩))
  go_ret2
  exact ⟨ret_two (by first | rfl | omega) rfl, by assumption⟩
theorem rnew_77 (a b : Nat) (ha : a < 18446744073709551616) (hb : b < 18446744073709551616) (W w : World) (hw : Below W.heap.size W w) : Calls Try.prog 10 #[.int .i64 77, .int .u64 (a : Int), .int .u64 (b : Int)] w fun e w' => e = .returned (.tuple #[.int .u64 ((((a % 4294967296) ^^^ (b % 4294967296)) : Nat) : Int), .bool true]) ∧ Below W.heap.size W w' := by
  have h13 : ∀ w, Below W.heap.size W w → Calls Try.prog 13 #[.int .i64 77] w fun e w' => e = .returned (.tuple #[.int .i64 4, .bool false]) ∧ Below W.heap.size W w' := fun w hw => of_any 77 W w hw
  obtain ⟨x, hxx⟩ : ∃ x, a % 4294967296 = x := ⟨_, rfl⟩
  obtain ⟨y, hyy⟩ : ∃ y, b % 4294967296 = y := ⟨_, rfl⟩
  have hxa : (a : Int) % 4294967296 = x := by omega
  have hyb : (b : Int) % 4294967296 = y := by omega
  have hx : x < 4294967296 := by omega
  have hy : y < 4294967296 := by omega
  rw [hxx, hyy]
  clear hxx hyy
  have hs1 : ∀ w, Below W.heap.size W w → Calls Try.prog 23 #[.int .u64 (x : Int), .int .i64 32] w fun e w' => e = .returned (.int .u64 ((sextA x 32 : Nat) : Int)) ∧ Below W.heap.size W w' := fun w hw => rsext_all x 32 (by omega) W w hw
  have hs2 : ∀ w, Below W.heap.size W w → Calls Try.prog 23 #[.int .u64 (y : Int), .int .i64 32] w fun e w' => e = .returned (.int .u64 ((sextA y 32 : Nat) : Int)) ∧ Below W.heap.size W w' := fun w hw => rsext_all y 32 (by omega) W w hw
  have hl : ∀ w, Below W.heap.size W w → Calls Try.prog 24 #[.int .u64 ((sextA x 32 : Nat) : Int), .int .u64 ((sextA y 32 : Nat) : Int)] w fun e w' => e = .returned (.bool (decide (num32 x < num32 y))) ∧ Below W.heap.size W w' := fun w hw => by
    have h := less_any (sextA x 32) (sextA y 32) (sx_lt x) (sx_lt y) W w hw
    rw [num_sx x hx, num_sx y hy] at h
    exact h
  generalize sextA x 32 = sx at *
  generalize sextA y 32 = sy at *
  have hd : ∀ w, Below W.heap.size W w → Calls Try.prog 25 #[.int .i64 36, .int .u64 (x : Int), .int .u64 (y : Int)] w fun e w' => e = .returned (.tuple #[.int .u64 ((x ^^^ y : Nat) : Int), .bool true]) ∧ Below W.heap.size W w' := fun w hw => rdo_36 x y (by omega) (by omega) W w hw
  have hlt : x ^^^ y < 4294967296 := lt_32 _ (Nat.xor_lt_two_pow hx hy)
  generalize x ^^^ y = v at *
  have hmv : (v : Int) % 4294967296 = v := by omega
  clear hlt
  generalize decide (num32 x < num32 y) = lb at *
  have hmx : (x : Int) % 4294967296 = x := by omega
  have hmy : (y : Int) % 4294967296 = y := by omega
  go_enter Try.func10, Try.ntmps10
  go_wp2_with (first | (go_at_call 13; refine (h13 _ (by assumption)).mono ?_; rintro e w' ⟨rfl, hw1⟩) | (go_at_call 24; refine (hl _ (by assumption)).mono ?_; rintro e w' ⟨rfl, hw3⟩) | (go_at_call 23; (first | with_reducible refine (hs1 _ (by assumption)).mono ?_ | with_reducible refine (hs2 _ (by assumption)).mono ?_); rintro e w' ⟨rfl, hw4⟩) | (go_at_call 25; refine (hd _ (by assumption)).mono ?_; rintro e w' ⟨rfl, hw2⟩))
  go_ret2
  exact ⟨ret_two (by first | rfl | omega) rfl, by assumption⟩
theorem rnew_89 (a b : Nat) (ha : a < 18446744073709551616) (hb : b < 18446744073709551616) (W w : World) (hw : Below W.heap.size W w) : Calls Try.prog 10 #[.int .i64 89, .int .u64 (a : Int), .int .u64 (b : Int)] w fun e w' => e = .returned (.tuple #[.int .u64 (((a &&& b) : Nat) : Int), .bool true]) ∧ Below W.heap.size W w' := by
  have h13 : ∀ w, Below W.heap.size W w → Calls Try.prog 13 #[.int .i64 89] w fun e w' => e = .returned (.tuple #[.int .i64 5, .bool true]) ∧ Below W.heap.size W w' := fun w hw => of_any 89 W w hw
  have hl : ∀ w, Below W.heap.size W w → Calls Try.prog 24 #[.int .u64 (a : Int), .int .u64 (b : Int)] w fun e w' => e = .returned (.bool (decide (numI a < numI b))) ∧ Below W.heap.size W w' := fun w hw => less_any a b ha hb W w hw
  have hd : ∀ w, Below W.heap.size W w → Calls Try.prog 25 #[.int .i64 40, .int .u64 (a : Int), .int .u64 (b : Int)] w fun e w' => e = .returned (.tuple #[.int .u64 ((a &&& b : Nat) : Int), .bool true]) ∧ Below W.heap.size W w' := fun w hw => rdo_40 a b (by omega) (by omega) W w hw
  generalize a &&& b = v at *
  generalize decide (numI a < numI b) = lb at *
  go_enter Try.func10, Try.ntmps10
  go_wp2_with (first | (go_at_call 13; refine (h13 _ (by assumption)).mono ?_; rintro e w' ⟨rfl, hw1⟩) | (go_at_call 24; refine (hl _ (by assumption)).mono ?_; rintro e w' ⟨rfl, hw3⟩) | (go_at_call 25; refine (hd _ (by assumption)).mono ?_; rintro e w' ⟨rfl, hw2⟩))
  go_ret2
  exact ⟨ret_two (by first | rfl | omega) rfl, by assumption⟩
theorem rnew_78 (a b : Nat) (ha : a < 18446744073709551616) (hb : b < 18446744073709551616) (W w : World) (hw : Below W.heap.size W w) : Calls Try.prog 10 #[.int .i64 78, .int .u64 (a : Int), .int .u64 (b : Int)] w fun e w' => e = .returned (.tuple #[.int .u64 ((((a % 4294967296) &&& (b % 4294967296)) : Nat) : Int), .bool true]) ∧ Below W.heap.size W w' := by
  have h13 : ∀ w, Below W.heap.size W w → Calls Try.prog 13 #[.int .i64 78] w fun e w' => e = .returned (.tuple #[.int .i64 5, .bool false]) ∧ Below W.heap.size W w' := fun w hw => of_any 78 W w hw
  obtain ⟨x, hxx⟩ : ∃ x, a % 4294967296 = x := ⟨_, rfl⟩
  obtain ⟨y, hyy⟩ : ∃ y, b % 4294967296 = y := ⟨_, rfl⟩
  have hxa : (a : Int) % 4294967296 = x := by omega
  have hyb : (b : Int) % 4294967296 = y := by omega
  have hx : x < 4294967296 := by omega
  have hy : y < 4294967296 := by omega
  rw [hxx, hyy]
  clear hxx hyy
  have hs1 : ∀ w, Below W.heap.size W w → Calls Try.prog 23 #[.int .u64 (x : Int), .int .i64 32] w fun e w' => e = .returned (.int .u64 ((sextA x 32 : Nat) : Int)) ∧ Below W.heap.size W w' := fun w hw => rsext_all x 32 (by omega) W w hw
  have hs2 : ∀ w, Below W.heap.size W w → Calls Try.prog 23 #[.int .u64 (y : Int), .int .i64 32] w fun e w' => e = .returned (.int .u64 ((sextA y 32 : Nat) : Int)) ∧ Below W.heap.size W w' := fun w hw => rsext_all y 32 (by omega) W w hw
  have hl : ∀ w, Below W.heap.size W w → Calls Try.prog 24 #[.int .u64 ((sextA x 32 : Nat) : Int), .int .u64 ((sextA y 32 : Nat) : Int)] w fun e w' => e = .returned (.bool (decide (num32 x < num32 y))) ∧ Below W.heap.size W w' := fun w hw => by
    have h := less_any (sextA x 32) (sextA y 32) (sx_lt x) (sx_lt y) W w hw
    rw [num_sx x hx, num_sx y hy] at h
    exact h
  generalize sextA x 32 = sx at *
  generalize sextA y 32 = sy at *
  have hd : ∀ w, Below W.heap.size W w → Calls Try.prog 25 #[.int .i64 40, .int .u64 (x : Int), .int .u64 (y : Int)] w fun e w' => e = .returned (.tuple #[.int .u64 ((x &&& y : Nat) : Int), .bool true]) ∧ Below W.heap.size W w' := fun w hw => rdo_40 x y (by omega) (by omega) W w hw
  have hlt : x &&& y < 4294967296 := lt_32 _ (Nat.and_lt_two_pow _ hy)
  generalize x &&& y = v at *
  have hmv : (v : Int) % 4294967296 = v := by omega
  clear hlt
  generalize decide (num32 x < num32 y) = lb at *
  have hmx : (x : Int) % 4294967296 = x := by omega
  have hmy : (y : Int) % 4294967296 = y := by omega
  go_enter Try.func10, Try.ntmps10
  go_wp2_with (first | (go_at_call 13; refine (h13 _ (by assumption)).mono ?_; rintro e w' ⟨rfl, hw1⟩) | (go_at_call 24; refine (hl _ (by assumption)).mono ?_; rintro e w' ⟨rfl, hw3⟩) | (go_at_call 23; (first | with_reducible refine (hs1 _ (by assumption)).mono ?_ | with_reducible refine (hs2 _ (by assumption)).mono ?_); rintro e w' ⟨rfl, hw4⟩) | (go_at_call 25; refine (hd _ (by assumption)).mono ?_; rintro e w' ⟨rfl, hw2⟩))
  go_ret2
  exact ⟨ret_two (by first | rfl | omega) rfl, by assumption⟩
theorem rnew_90 (a b : Nat) (ha : a < 18446744073709551616) (hb : b < 18446744073709551616) (W w : World) (hw : Below W.heap.size W w) : Calls Try.prog 10 #[.int .i64 90, .int .u64 (a : Int), .int .u64 (b : Int)] w fun e w' => e = .returned (.tuple #[.int .u64 (((a ||| b) : Nat) : Int), .bool true]) ∧ Below W.heap.size W w' := by
  have h13 : ∀ w, Below W.heap.size W w → Calls Try.prog 13 #[.int .i64 90] w fun e w' => e = .returned (.tuple #[.int .i64 6, .bool true]) ∧ Below W.heap.size W w' := fun w hw => of_any 90 W w hw
  have hl : ∀ w, Below W.heap.size W w → Calls Try.prog 24 #[.int .u64 (a : Int), .int .u64 (b : Int)] w fun e w' => e = .returned (.bool (decide (numI a < numI b))) ∧ Below W.heap.size W w' := fun w hw => less_any a b ha hb W w hw
  have hd : ∀ w, Below W.heap.size W w → Calls Try.prog 25 #[.int .i64 39, .int .u64 (a : Int), .int .u64 (b : Int)] w fun e w' => e = .returned (.tuple #[.int .u64 ((a ||| b : Nat) : Int), .bool true]) ∧ Below W.heap.size W w' := fun w hw => rdo_39 a b (by omega) (by omega) W w hw
  generalize a ||| b = v at *
  generalize decide (numI a < numI b) = lb at *
  go_enter Try.func10, Try.ntmps10
  go_wp2_with (first | (go_at_call 13; refine (h13 _ (by assumption)).mono ?_; rintro e w' ⟨rfl, hw1⟩) | (go_at_call 24; refine (hl _ (by assumption)).mono ?_; rintro e w' ⟨rfl, hw3⟩) | (go_at_call 25; refine (hd _ (by assumption)).mono ?_; rintro e w' ⟨rfl, hw2⟩))
  go_ret2
  exact ⟨ret_two (by first | rfl | omega) rfl, by assumption⟩
theorem rnew_79 (a b : Nat) (ha : a < 18446744073709551616) (hb : b < 18446744073709551616) (W w : World) (hw : Below W.heap.size W w) : Calls Try.prog 10 #[.int .i64 79, .int .u64 (a : Int), .int .u64 (b : Int)] w fun e w' => e = .returned (.tuple #[.int .u64 ((((a % 4294967296) ||| (b % 4294967296)) : Nat) : Int), .bool true]) ∧ Below W.heap.size W w' := by
  have h13 : ∀ w, Below W.heap.size W w → Calls Try.prog 13 #[.int .i64 79] w fun e w' => e = .returned (.tuple #[.int .i64 6, .bool false]) ∧ Below W.heap.size W w' := fun w hw => of_any 79 W w hw
  obtain ⟨x, hxx⟩ : ∃ x, a % 4294967296 = x := ⟨_, rfl⟩
  obtain ⟨y, hyy⟩ : ∃ y, b % 4294967296 = y := ⟨_, rfl⟩
  have hxa : (a : Int) % 4294967296 = x := by omega
  have hyb : (b : Int) % 4294967296 = y := by omega
  have hx : x < 4294967296 := by omega
  have hy : y < 4294967296 := by omega
  rw [hxx, hyy]
  clear hxx hyy
  have hs1 : ∀ w, Below W.heap.size W w → Calls Try.prog 23 #[.int .u64 (x : Int), .int .i64 32] w fun e w' => e = .returned (.int .u64 ((sextA x 32 : Nat) : Int)) ∧ Below W.heap.size W w' := fun w hw => rsext_all x 32 (by omega) W w hw
  have hs2 : ∀ w, Below W.heap.size W w → Calls Try.prog 23 #[.int .u64 (y : Int), .int .i64 32] w fun e w' => e = .returned (.int .u64 ((sextA y 32 : Nat) : Int)) ∧ Below W.heap.size W w' := fun w hw => rsext_all y 32 (by omega) W w hw
  have hl : ∀ w, Below W.heap.size W w → Calls Try.prog 24 #[.int .u64 ((sextA x 32 : Nat) : Int), .int .u64 ((sextA y 32 : Nat) : Int)] w fun e w' => e = .returned (.bool (decide (num32 x < num32 y))) ∧ Below W.heap.size W w' := fun w hw => by
    have h := less_any (sextA x 32) (sextA y 32) (sx_lt x) (sx_lt y) W w hw
    rw [num_sx x hx, num_sx y hy] at h
    exact h
  generalize sextA x 32 = sx at *
  generalize sextA y 32 = sy at *
  have hd : ∀ w, Below W.heap.size W w → Calls Try.prog 25 #[.int .i64 39, .int .u64 (x : Int), .int .u64 (y : Int)] w fun e w' => e = .returned (.tuple #[.int .u64 ((x ||| y : Nat) : Int), .bool true]) ∧ Below W.heap.size W w' := fun w hw => rdo_39 x y (by omega) (by omega) W w hw
  have hlt : x ||| y < 4294967296 := lt_32 _ (Nat.or_lt_two_pow hx hy)
  generalize x ||| y = v at *
  have hmv : (v : Int) % 4294967296 = v := by omega
  clear hlt
  generalize decide (num32 x < num32 y) = lb at *
  have hmx : (x : Int) % 4294967296 = x := by omega
  have hmy : (y : Int) % 4294967296 = y := by omega
  go_enter Try.func10, Try.ntmps10
  go_wp2_with (first | (go_at_call 13; refine (h13 _ (by assumption)).mono ?_; rintro e w' ⟨rfl, hw1⟩) | (go_at_call 24; refine (hl _ (by assumption)).mono ?_; rintro e w' ⟨rfl, hw3⟩) | (go_at_call 23; (first | with_reducible refine (hs1 _ (by assumption)).mono ?_ | with_reducible refine (hs2 _ (by assumption)).mono ?_); rintro e w' ⟨rfl, hw4⟩) | (go_at_call 25; refine (hd _ (by assumption)).mono ?_; rintro e w' ⟨rfl, hw2⟩))
  go_ret2
  exact ⟨ret_two (by first | rfl | omega) rfl, by assumption⟩
theorem rnew_91 (a b : Nat) (ha : a < 18446744073709551616) (hb : b < 18446744073709551616) (W w : World) (hw : Below W.heap.size W w) : Calls Try.prog 10 #[.int .i64 91, .int .u64 (a : Int), .int .u64 (b : Int)] w fun e w' => e = .returned (.tuple #[.int .u64 (((minI a b) : Nat) : Int), .bool true]) ∧ Below W.heap.size W w' := by
  have h13 : ∀ w, Below W.heap.size W w → Calls Try.prog 13 #[.int .i64 91] w fun e w' => e = .returned (.tuple #[.int .i64 7, .bool true]) ∧ Below W.heap.size W w' := fun w hw => of_any 91 W w hw
  have hl : ∀ w, Below W.heap.size W w → Calls Try.prog 24 #[.int .u64 (a : Int), .int .u64 (b : Int)] w fun e w' => e = .returned (.bool (decide (numI a < numI b))) ∧ Below W.heap.size W w' := fun w hw => less_any a b ha hb W w hw
  rw [minI_eq a b ha hb]
  generalize decide (numI a < numI b) = lb at *
  have h1 : ∀ w, Calls Try.prog 26 #[.bool lb, .int .u64 (a : Int), .int .u64 (b : Int)] w fun e w' => e = .returned (.int .u64 ((if lb then a else b : Nat) : Int)) ∧ w' = w := fun w => one_any lb a b w
  generalize ((if lb then a else b : Nat) : Int) = r at *
  go_enter Try.func10, Try.ntmps10
  go_wp2_with (first | (go_at_call 13; refine (h13 _ (by assumption)).mono ?_; rintro e w' ⟨rfl, hw1⟩) | (go_at_call 24; refine (hl _ (by assumption)).mono ?_; rintro e w' ⟨rfl, hw3⟩) | (go_at_call 26; refine (h1 _).mono ?_; rintro e w' ⟨rfl, rfl⟩))
  go_ret2
  exact ⟨ret_two (by first | rfl | omega) rfl, by assumption⟩
theorem rnew_80 (a b : Nat) (ha : a < 18446744073709551616) (hb : b < 18446744073709551616) (W w : World) (hw : Below W.heap.size W w) : Calls Try.prog 10 #[.int .i64 80, .int .u64 (a : Int), .int .u64 (b : Int)] w fun e w' => e = .returned (.tuple #[.int .u64 (((min32 (a % 4294967296) (b % 4294967296)) : Nat) : Int), .bool true]) ∧ Below W.heap.size W w' := by
  have h13 : ∀ w, Below W.heap.size W w → Calls Try.prog 13 #[.int .i64 80] w fun e w' => e = .returned (.tuple #[.int .i64 7, .bool false]) ∧ Below W.heap.size W w' := fun w hw => of_any 80 W w hw
  obtain ⟨x, hxx⟩ : ∃ x, a % 4294967296 = x := ⟨_, rfl⟩
  obtain ⟨y, hyy⟩ : ∃ y, b % 4294967296 = y := ⟨_, rfl⟩
  have hxa : (a : Int) % 4294967296 = x := by omega
  have hyb : (b : Int) % 4294967296 = y := by omega
  have hx : x < 4294967296 := by omega
  have hy : y < 4294967296 := by omega
  rw [hxx, hyy]
  clear hxx hyy
  have hs1 : ∀ w, Below W.heap.size W w → Calls Try.prog 23 #[.int .u64 (x : Int), .int .i64 32] w fun e w' => e = .returned (.int .u64 ((sextA x 32 : Nat) : Int)) ∧ Below W.heap.size W w' := fun w hw => rsext_all x 32 (by omega) W w hw
  have hs2 : ∀ w, Below W.heap.size W w → Calls Try.prog 23 #[.int .u64 (y : Int), .int .i64 32] w fun e w' => e = .returned (.int .u64 ((sextA y 32 : Nat) : Int)) ∧ Below W.heap.size W w' := fun w hw => rsext_all y 32 (by omega) W w hw
  have hl : ∀ w, Below W.heap.size W w → Calls Try.prog 24 #[.int .u64 ((sextA x 32 : Nat) : Int), .int .u64 ((sextA y 32 : Nat) : Int)] w fun e w' => e = .returned (.bool (decide (num32 x < num32 y))) ∧ Below W.heap.size W w' := fun w hw => by
    have h := less_any (sextA x 32) (sextA y 32) (sx_lt x) (sx_lt y) W w hw
    rw [num_sx x hx, num_sx y hy] at h
    exact h
  generalize sextA x 32 = sx at *
  generalize sextA y 32 = sy at *
  rw [min32_eq x y hx hy]
  generalize decide (num32 x < num32 y) = lb at *
  have hmx : (x : Int) % 4294967296 = x := by omega
  have hmy : (y : Int) % 4294967296 = y := by omega
  have h1 : ∀ w, Calls Try.prog 26 #[.bool lb, .int .u64 (x : Int), .int .u64 (y : Int)] w fun e w' => e = .returned (.int .u64 ((if lb then x else y : Nat) : Int)) ∧ w' = w := fun w => one_any lb x y w
  have hq : ((if lb then x else y : Nat) : Int) % 4294967296 = ((if lb then x else y : Nat) : Int) := by cases lb <;> simp [hmx, hmy]
  generalize ((if lb then x else y : Nat) : Int) = r at *
  go_enter Try.func10, Try.ntmps10
  go_wp2_with (first | (go_at_call 13; refine (h13 _ (by assumption)).mono ?_; rintro e w' ⟨rfl, hw1⟩) | (go_at_call 24; refine (hl _ (by assumption)).mono ?_; rintro e w' ⟨rfl, hw3⟩) | (go_at_call 23; (first | with_reducible refine (hs1 _ (by assumption)).mono ?_ | with_reducible refine (hs2 _ (by assumption)).mono ?_); rintro e w' ⟨rfl, hw4⟩) | (go_at_call 26; refine (h1 _).mono ?_; rintro e w' ⟨rfl, rfl⟩))
  go_ret2
  exact ⟨ret_two (by first | rfl | omega) rfl, by assumption⟩
theorem rnew_92 (a b : Nat) (ha : a < 18446744073709551616) (hb : b < 18446744073709551616) (W w : World) (hw : Below W.heap.size W w) : Calls Try.prog 10 #[.int .i64 92, .int .u64 (a : Int), .int .u64 (b : Int)] w fun e w' => e = .returned (.tuple #[.int .u64 (((maxI a b) : Nat) : Int), .bool true]) ∧ Below W.heap.size W w' := by
  have h13 : ∀ w, Below W.heap.size W w → Calls Try.prog 13 #[.int .i64 92] w fun e w' => e = .returned (.tuple #[.int .i64 8, .bool true]) ∧ Below W.heap.size W w' := fun w hw => of_any 92 W w hw
  have hl : ∀ w, Below W.heap.size W w → Calls Try.prog 24 #[.int .u64 (a : Int), .int .u64 (b : Int)] w fun e w' => e = .returned (.bool (decide (numI a < numI b))) ∧ Below W.heap.size W w' := fun w hw => less_any a b ha hb W w hw
  rw [maxI_eq a b ha hb]
  generalize decide (numI a < numI b) = lb at *
  have h1 : ∀ w, Calls Try.prog 26 #[.bool lb, .int .u64 (b : Int), .int .u64 (a : Int)] w fun e w' => e = .returned (.int .u64 ((if lb then b else a : Nat) : Int)) ∧ w' = w := fun w => one_any lb b a w
  generalize ((if lb then b else a : Nat) : Int) = r at *
  go_enter Try.func10, Try.ntmps10
  go_wp2_with (first | (go_at_call 13; refine (h13 _ (by assumption)).mono ?_; rintro e w' ⟨rfl, hw1⟩) | (go_at_call 24; refine (hl _ (by assumption)).mono ?_; rintro e w' ⟨rfl, hw3⟩) | (go_at_call 26; refine (h1 _).mono ?_; rintro e w' ⟨rfl, rfl⟩))
  go_ret2
  exact ⟨ret_two (by first | rfl | omega) rfl, by assumption⟩
theorem rnew_81 (a b : Nat) (ha : a < 18446744073709551616) (hb : b < 18446744073709551616) (W w : World) (hw : Below W.heap.size W w) : Calls Try.prog 10 #[.int .i64 81, .int .u64 (a : Int), .int .u64 (b : Int)] w fun e w' => e = .returned (.tuple #[.int .u64 (((max32 (a % 4294967296) (b % 4294967296)) : Nat) : Int), .bool true]) ∧ Below W.heap.size W w' := by
  have h13 : ∀ w, Below W.heap.size W w → Calls Try.prog 13 #[.int .i64 81] w fun e w' => e = .returned (.tuple #[.int .i64 8, .bool false]) ∧ Below W.heap.size W w' := fun w hw => of_any 81 W w hw
  obtain ⟨x, hxx⟩ : ∃ x, a % 4294967296 = x := ⟨_, rfl⟩
  obtain ⟨y, hyy⟩ : ∃ y, b % 4294967296 = y := ⟨_, rfl⟩
  have hxa : (a : Int) % 4294967296 = x := by omega
  have hyb : (b : Int) % 4294967296 = y := by omega
  have hx : x < 4294967296 := by omega
  have hy : y < 4294967296 := by omega
  rw [hxx, hyy]
  clear hxx hyy
  have hs1 : ∀ w, Below W.heap.size W w → Calls Try.prog 23 #[.int .u64 (x : Int), .int .i64 32] w fun e w' => e = .returned (.int .u64 ((sextA x 32 : Nat) : Int)) ∧ Below W.heap.size W w' := fun w hw => rsext_all x 32 (by omega) W w hw
  have hs2 : ∀ w, Below W.heap.size W w → Calls Try.prog 23 #[.int .u64 (y : Int), .int .i64 32] w fun e w' => e = .returned (.int .u64 ((sextA y 32 : Nat) : Int)) ∧ Below W.heap.size W w' := fun w hw => rsext_all y 32 (by omega) W w hw
  have hl : ∀ w, Below W.heap.size W w → Calls Try.prog 24 #[.int .u64 ((sextA x 32 : Nat) : Int), .int .u64 ((sextA y 32 : Nat) : Int)] w fun e w' => e = .returned (.bool (decide (num32 x < num32 y))) ∧ Below W.heap.size W w' := fun w hw => by
    have h := less_any (sextA x 32) (sextA y 32) (sx_lt x) (sx_lt y) W w hw
    rw [num_sx x hx, num_sx y hy] at h
    exact h
  generalize sextA x 32 = sx at *
  generalize sextA y 32 = sy at *
  rw [max32_eq x y hx hy]
  generalize decide (num32 x < num32 y) = lb at *
  have hmx : (x : Int) % 4294967296 = x := by omega
  have hmy : (y : Int) % 4294967296 = y := by omega
  have h1 : ∀ w, Calls Try.prog 26 #[.bool lb, .int .u64 (y : Int), .int .u64 (x : Int)] w fun e w' => e = .returned (.int .u64 ((if lb then y else x : Nat) : Int)) ∧ w' = w := fun w => one_any lb y x w
  have hq : ((if lb then y else x : Nat) : Int) % 4294967296 = ((if lb then y else x : Nat) : Int) := by cases lb <;> simp [hmx, hmy]
  generalize ((if lb then y else x : Nat) : Int) = r at *
  go_enter Try.func10, Try.ntmps10
  go_wp2_with (first | (go_at_call 13; refine (h13 _ (by assumption)).mono ?_; rintro e w' ⟨rfl, hw1⟩) | (go_at_call 24; refine (hl _ (by assumption)).mono ?_; rintro e w' ⟨rfl, hw3⟩) | (go_at_call 23; (first | with_reducible refine (hs1 _ (by assumption)).mono ?_ | with_reducible refine (hs2 _ (by assumption)).mono ?_); rintro e w' ⟨rfl, hw4⟩) | (go_at_call 26; refine (h1 _).mono ?_; rintro e w' ⟨rfl, rfl⟩))
  go_ret2
  exact ⟨ret_two (by first | rfl | omega) rfl, by assumption⟩
set_option maxHeartbeats 800000 in
theorem rnew_93 (a b : Nat) (ha : a < 18446744073709551616) (hb : b < 18446744073709551616) (W w : World) (hw : Below W.heap.size W w) : Calls Try.prog 10 #[.int .i64 93, .int .u64 (a : Int), .int .u64 (b : Int)] w fun e w' => e = .returned (.tuple #[.int .u64 (((min a b) : Nat) : Int), .bool true]) ∧ Below W.heap.size W w' := by
  have h13 : ∀ w, Below W.heap.size W w → Calls Try.prog 13 #[.int .i64 93] w fun e w' => e = .returned (.tuple #[.int .i64 9, .bool true]) ∧ Below W.heap.size W w' := fun w hw => of_any 93 W w hw
  have hl : ∀ w, Below W.heap.size W w → Calls Try.prog 24 #[.int .u64 (a : Int), .int .u64 (b : Int)] w fun e w' => e = .returned (.bool (decide (numI a < numI b))) ∧ Below W.heap.size W w' := fun w hw => less_any a b ha hb W w hw
  rw [min_eq a b]
  generalize decide (numI a < numI b) = lb at *
  have h1 : ∀ (c : Bool) w, c = decide (a < b) → Calls Try.prog 26 #[.bool c, .int .u64 (a : Int), .int .u64 (b : Int)] w fun e w' => e = .returned (.int .u64 ((if decide (a < b) then a else b : Nat) : Int)) ∧ w' = w := fun c w hc => by
    subst hc
    exact one_any _ a b w
  generalize ((if decide (a < b) then a else b : Nat) : Int) = r at *
  go_enter Try.func10, Try.ntmps10
  go_wp2_with (first | (go_at_call 13; refine (h13 _ (by assumption)).mono ?_; rintro e w' ⟨rfl, hw1⟩) | (go_at_call 24; refine (hl _ (by assumption)).mono ?_; rintro e w' ⟨rfl, hw3⟩) | (go_at_call 26; refine (h1 _ _ (by first | rfl | (simp; done) | (simp; omega))).mono ?_; rintro e w' ⟨rfl, rfl⟩))
  all_goals
    go_ret2
    exact ⟨ret_two (by first | rfl | omega) rfl, by assumption⟩
set_option maxHeartbeats 800000 in
theorem rnew_82 (a b : Nat) (ha : a < 18446744073709551616) (hb : b < 18446744073709551616) (W w : World) (hw : Below W.heap.size W w) : Calls Try.prog 10 #[.int .i64 82, .int .u64 (a : Int), .int .u64 (b : Int)] w fun e w' => e = .returned (.tuple #[.int .u64 (((min (a % 4294967296) (b % 4294967296)) : Nat) : Int), .bool true]) ∧ Below W.heap.size W w' := by
  have h13 : ∀ w, Below W.heap.size W w → Calls Try.prog 13 #[.int .i64 82] w fun e w' => e = .returned (.tuple #[.int .i64 9, .bool false]) ∧ Below W.heap.size W w' := fun w hw => of_any 82 W w hw
  obtain ⟨x, hxx⟩ : ∃ x, a % 4294967296 = x := ⟨_, rfl⟩
  obtain ⟨y, hyy⟩ : ∃ y, b % 4294967296 = y := ⟨_, rfl⟩
  have hxa : (a : Int) % 4294967296 = x := by omega
  have hyb : (b : Int) % 4294967296 = y := by omega
  have hx : x < 4294967296 := by omega
  have hy : y < 4294967296 := by omega
  rw [hxx, hyy]
  clear hxx hyy
  have hs1 : ∀ w, Below W.heap.size W w → Calls Try.prog 23 #[.int .u64 (x : Int), .int .i64 32] w fun e w' => e = .returned (.int .u64 ((sextA x 32 : Nat) : Int)) ∧ Below W.heap.size W w' := fun w hw => rsext_all x 32 (by omega) W w hw
  have hs2 : ∀ w, Below W.heap.size W w → Calls Try.prog 23 #[.int .u64 (y : Int), .int .i64 32] w fun e w' => e = .returned (.int .u64 ((sextA y 32 : Nat) : Int)) ∧ Below W.heap.size W w' := fun w hw => rsext_all y 32 (by omega) W w hw
  have hl : ∀ w, Below W.heap.size W w → Calls Try.prog 24 #[.int .u64 ((sextA x 32 : Nat) : Int), .int .u64 ((sextA y 32 : Nat) : Int)] w fun e w' => e = .returned (.bool (decide (num32 x < num32 y))) ∧ Below W.heap.size W w' := fun w hw => by
    have h := less_any (sextA x 32) (sextA y 32) (sx_lt x) (sx_lt y) W w hw
    rw [num_sx x hx, num_sx y hy] at h
    exact h
  generalize sextA x 32 = sx at *
  generalize sextA y 32 = sy at *
  rw [min_eq x y]
  generalize decide (num32 x < num32 y) = lb at *
  have hmx : (x : Int) % 4294967296 = x := by omega
  have hmy : (y : Int) % 4294967296 = y := by omega
  have h1 : ∀ (c : Bool) w, c = decide (x < y) → Calls Try.prog 26 #[.bool c, .int .u64 (x : Int), .int .u64 (y : Int)] w fun e w' => e = .returned (.int .u64 ((if decide (x < y) then x else y : Nat) : Int)) ∧ w' = w := fun c w hc => by
    subst hc
    exact one_any _ x y w
  have hq : ((if decide (x < y) then x else y : Nat) : Int) % 4294967296 = ((if decide (x < y) then x else y : Nat) : Int) := by split <;> assumption
  generalize ((if decide (x < y) then x else y : Nat) : Int) = r at *
  go_enter Try.func10, Try.ntmps10
  go_wp2_with (first | (go_at_call 13; refine (h13 _ (by assumption)).mono ?_; rintro e w' ⟨rfl, hw1⟩) | (go_at_call 24; refine (hl _ (by assumption)).mono ?_; rintro e w' ⟨rfl, hw3⟩) | (go_at_call 23; (first | with_reducible refine (hs1 _ (by assumption)).mono ?_ | with_reducible refine (hs2 _ (by assumption)).mono ?_); rintro e w' ⟨rfl, hw4⟩) | (go_at_call 26; refine (h1 _ _ (by first | rfl | (simp; done) | (simp; omega))).mono ?_; rintro e w' ⟨rfl, rfl⟩))
  all_goals
    go_ret2
    exact ⟨ret_two (by first | rfl | omega) rfl, by assumption⟩
set_option maxHeartbeats 800000 in
theorem rnew_94 (a b : Nat) (ha : a < 18446744073709551616) (hb : b < 18446744073709551616) (W w : World) (hw : Below W.heap.size W w) : Calls Try.prog 10 #[.int .i64 94, .int .u64 (a : Int), .int .u64 (b : Int)] w fun e w' => e = .returned (.tuple #[.int .u64 (((max a b) : Nat) : Int), .bool true]) ∧ Below W.heap.size W w' := by
  have h13 : ∀ w, Below W.heap.size W w → Calls Try.prog 13 #[.int .i64 94] w fun e w' => e = .returned (.tuple #[.int .i64 10, .bool true]) ∧ Below W.heap.size W w' := fun w hw => of_any 94 W w hw
  have hl : ∀ w, Below W.heap.size W w → Calls Try.prog 24 #[.int .u64 (a : Int), .int .u64 (b : Int)] w fun e w' => e = .returned (.bool (decide (numI a < numI b))) ∧ Below W.heap.size W w' := fun w hw => less_any a b ha hb W w hw
  rw [max_eq a b]
  generalize decide (numI a < numI b) = lb at *
  have h1 : ∀ (c : Bool) w, c = decide (a < b) → Calls Try.prog 26 #[.bool c, .int .u64 (b : Int), .int .u64 (a : Int)] w fun e w' => e = .returned (.int .u64 ((if decide (a < b) then b else a : Nat) : Int)) ∧ w' = w := fun c w hc => by
    subst hc
    exact one_any _ b a w
  generalize ((if decide (a < b) then b else a : Nat) : Int) = r at *
  go_enter Try.func10, Try.ntmps10
  go_wp2_with (first | (go_at_call 13; refine (h13 _ (by assumption)).mono ?_; rintro e w' ⟨rfl, hw1⟩) | (go_at_call 24; refine (hl _ (by assumption)).mono ?_; rintro e w' ⟨rfl, hw3⟩) | (go_at_call 26; refine (h1 _ _ (by first | rfl | (simp; done) | (simp; omega))).mono ?_; rintro e w' ⟨rfl, rfl⟩))
  all_goals
    go_ret2
    exact ⟨ret_two (by first | rfl | omega) rfl, by assumption⟩
set_option maxHeartbeats 800000 in
theorem rnew_83 (a b : Nat) (ha : a < 18446744073709551616) (hb : b < 18446744073709551616) (W w : World) (hw : Below W.heap.size W w) : Calls Try.prog 10 #[.int .i64 83, .int .u64 (a : Int), .int .u64 (b : Int)] w fun e w' => e = .returned (.tuple #[.int .u64 (((max (a % 4294967296) (b % 4294967296)) : Nat) : Int), .bool true]) ∧ Below W.heap.size W w' := by
  have h13 : ∀ w, Below W.heap.size W w → Calls Try.prog 13 #[.int .i64 83] w fun e w' => e = .returned (.tuple #[.int .i64 10, .bool false]) ∧ Below W.heap.size W w' := fun w hw => of_any 83 W w hw
  obtain ⟨x, hxx⟩ : ∃ x, a % 4294967296 = x := ⟨_, rfl⟩
  obtain ⟨y, hyy⟩ : ∃ y, b % 4294967296 = y := ⟨_, rfl⟩
  have hxa : (a : Int) % 4294967296 = x := by omega
  have hyb : (b : Int) % 4294967296 = y := by omega
  have hx : x < 4294967296 := by omega
  have hy : y < 4294967296 := by omega
  rw [hxx, hyy]
  clear hxx hyy
  have hs1 : ∀ w, Below W.heap.size W w → Calls Try.prog 23 #[.int .u64 (x : Int), .int .i64 32] w fun e w' => e = .returned (.int .u64 ((sextA x 32 : Nat) : Int)) ∧ Below W.heap.size W w' := fun w hw => rsext_all x 32 (by omega) W w hw
  have hs2 : ∀ w, Below W.heap.size W w → Calls Try.prog 23 #[.int .u64 (y : Int), .int .i64 32] w fun e w' => e = .returned (.int .u64 ((sextA y 32 : Nat) : Int)) ∧ Below W.heap.size W w' := fun w hw => rsext_all y 32 (by omega) W w hw
  have hl : ∀ w, Below W.heap.size W w → Calls Try.prog 24 #[.int .u64 ((sextA x 32 : Nat) : Int), .int .u64 ((sextA y 32 : Nat) : Int)] w fun e w' => e = .returned (.bool (decide (num32 x < num32 y))) ∧ Below W.heap.size W w' := fun w hw => by
    have h := less_any (sextA x 32) (sextA y 32) (sx_lt x) (sx_lt y) W w hw
    rw [num_sx x hx, num_sx y hy] at h
    exact h
  generalize sextA x 32 = sx at *
  generalize sextA y 32 = sy at *
  rw [max_eq x y]
  generalize decide (num32 x < num32 y) = lb at *
  have hmx : (x : Int) % 4294967296 = x := by omega
  have hmy : (y : Int) % 4294967296 = y := by omega
  have h1 : ∀ (c : Bool) w, c = decide (x < y) → Calls Try.prog 26 #[.bool c, .int .u64 (y : Int), .int .u64 (x : Int)] w fun e w' => e = .returned (.int .u64 ((if decide (x < y) then y else x : Nat) : Int)) ∧ w' = w := fun c w hc => by
    subst hc
    exact one_any _ y x w
  have hq : ((if decide (x < y) then y else x : Nat) : Int) % 4294967296 = ((if decide (x < y) then y else x : Nat) : Int) := by split <;> assumption
  generalize ((if decide (x < y) then y else x : Nat) : Int) = r at *
  go_enter Try.func10, Try.ntmps10
  go_wp2_with (first | (go_at_call 13; refine (h13 _ (by assumption)).mono ?_; rintro e w' ⟨rfl, hw1⟩) | (go_at_call 24; refine (hl _ (by assumption)).mono ?_; rintro e w' ⟨rfl, hw3⟩) | (go_at_call 23; (first | with_reducible refine (hs1 _ (by assumption)).mono ?_ | with_reducible refine (hs2 _ (by assumption)).mono ?_); rintro e w' ⟨rfl, hw4⟩) | (go_at_call 26; refine (h1 _ _ (by first | rfl | (simp; done) | (simp; omega))).mono ?_; rintro e w' ⟨rfl, rfl⟩))
  all_goals
    go_ret2
    exact ⟨ret_two (by first | rfl | omega) rfl, by assumption⟩
theorem rnew_no (op : Int) (h75 : ¬ op = 75) (h76 : ¬ op = 76) (h77 : ¬ op = 77) (h78 : ¬ op = 78) (h79 : ¬ op = 79) (h80 : ¬ op = 80) (h81 : ¬ op = 81) (h82 : ¬ op = 82) (h83 : ¬ op = 83) (h86 : ¬ op = 86) (h87 : ¬ op = 87) (h88 : ¬ op = 88) (h89 : ¬ op = 89) (h90 : ¬ op = 90) (h91 : ¬ op = 91) (h92 : ¬ op = 92) (h93 : ¬ op = 93) (h94 : ¬ op = 94) (a b : Nat) (ha : a < 18446744073709551616) (hb : b < 18446744073709551616) (W w : World) (hw : Below W.heap.size W w) : Calls Try.prog 10 #[.int .i64 op, .int .u64 (a : Int), .int .u64 (b : Int)] w fun e w' => e = .returned (.tuple #[.int .u64 (0), .bool false]) ∧ Below W.heap.size W w' := by
  have h13 : ∀ w, Below W.heap.size W w → Calls Try.prog 13 #[.int .i64 op] w fun e w' => e = .returned (.tuple #[.int .i64 (ofK op), .bool (wideB op)]) ∧ Below W.heap.size W w' := fun w hw => of_any op W w hw
  have hk : ofK op < 2 := by unfold ofK; split; omega; split <;> omega
  generalize ofK op = k at *
  generalize wideB op = wb at *
  clear h75 h76 h77 h78 h79 h80 h81 h82 h83 h86 h87 h88 h89 h90 h91 h92 h93 h94
  go_enter Try.func10, Try.ntmps10
  go_wp2_with (first | (go_at_call 13; refine (h13 _ (by assumption)).mono ?_; rintro e w' ⟨rfl, hw1⟩))
  go_ret2
  exact ⟨rfl, by assumption⟩
theorem rnew_any (op : Int) (a b : Nat) (ha : a < 18446744073709551616) (hb : b < 18446744073709551616) (W w : World) (hw : Below W.heap.size W w) : Calls Try.prog 10 #[.int .i64 op, .int .u64 (a : Int), .int .u64 (b : Int)] w fun e w' => e = .returned (.tuple #[.int .u64 ((newV op a b : Nat) : Int), .bool (newOk op)]) ∧ Below W.heap.size W w' := by
  by_cases h75 : op = 75
  · subst h75
    rw [newV_75, show newOk 75 = true from rfl]; exact rnew_75 a b ha hb W w hw
  by_cases h76 : op = 76
  · subst h76
    rw [newV_76, show newOk 76 = true from rfl]; exact rnew_76 a b ha hb W w hw
  by_cases h77 : op = 77
  · subst h77
    rw [newV_77, show newOk 77 = true from rfl]; exact rnew_77 a b ha hb W w hw
  by_cases h78 : op = 78
  · subst h78
    rw [newV_78, show newOk 78 = true from rfl]; exact rnew_78 a b ha hb W w hw
  by_cases h79 : op = 79
  · subst h79
    rw [newV_79, show newOk 79 = true from rfl]; exact rnew_79 a b ha hb W w hw
  by_cases h80 : op = 80
  · subst h80
    rw [newV_80, show newOk 80 = true from rfl]; exact rnew_80 a b ha hb W w hw
  by_cases h81 : op = 81
  · subst h81
    rw [newV_81, show newOk 81 = true from rfl]; exact rnew_81 a b ha hb W w hw
  by_cases h82 : op = 82
  · subst h82
    rw [newV_82, show newOk 82 = true from rfl]; exact rnew_82 a b ha hb W w hw
  by_cases h83 : op = 83
  · subst h83
    rw [newV_83, show newOk 83 = true from rfl]; exact rnew_83 a b ha hb W w hw
  by_cases h86 : op = 86
  · subst h86
    rw [newV_86, show newOk 86 = true from rfl]; exact rnew_86 a b ha hb W w hw
  by_cases h87 : op = 87
  · subst h87
    rw [newV_87, show newOk 87 = true from rfl]; exact rnew_87 a b ha hb W w hw
  by_cases h88 : op = 88
  · subst h88
    rw [newV_88, show newOk 88 = true from rfl]; exact rnew_88 a b ha hb W w hw
  by_cases h89 : op = 89
  · subst h89
    rw [newV_89, show newOk 89 = true from rfl]; exact rnew_89 a b ha hb W w hw
  by_cases h90 : op = 90
  · subst h90
    rw [newV_90, show newOk 90 = true from rfl]; exact rnew_90 a b ha hb W w hw
  by_cases h91 : op = 91
  · subst h91
    rw [newV_91, show newOk 91 = true from rfl]; exact rnew_91 a b ha hb W w hw
  by_cases h92 : op = 92
  · subst h92
    rw [newV_92, show newOk 92 = true from rfl]; exact rnew_92 a b ha hb W w hw
  by_cases h93 : op = 93
  · subst h93
    rw [newV_93, show newOk 93 = true from rfl]; exact rnew_93 a b ha hb W w hw
  by_cases h94 : op = 94
  · subst h94
    rw [newV_94, show newOk 94 = true from rfl]; exact rnew_94 a b ha hb W w hw
  rw [newV_no op h75 h76 h77 h78 h79 h80 h81 h82 h83 h86 h87 h88 h89 h90 h91 h92 h93 h94, newOk_no op h75 h76 h77 h78 h79 h80 h81 h82 h83 h86 h87 h88 h89 h90 h91 h92 h93 h94]; exact rnew_no op h75 h76 h77 h78 h79 h80 h81 h82 h83 h86 h87 h88 h89 h90 h91 h92 h93 h94 a b ha hb W w hw
theorem rold_any (op : Int) (a : Nat) (ha : a < 18446744073709551616) (W w : World) (hw : Below W.heap.size W w) : Calls Try.prog 12 #[.int .i64 op, .int .u64 (a : Int)] w fun e w' => e = .returned (.int .u64 ((oldV op a : Nat) : Int)) ∧ Below W.heap.size W w' := by
  have h13 : ∀ w, Below W.heap.size W w → Calls Try.prog 13 #[.int .i64 op] w fun e w' => e = .returned (.tuple #[.int .i64 (ofK op), .bool (wideB op)]) ∧ Below W.heap.size W w' := fun w hw => of_any op W w hw
  have hs : ∀ w, Below W.heap.size W w → Calls Try.prog 23 #[.int .u64 (a : Int), .int .i64 32] w fun e w' => e = .returned (.int .u64 ((sextA a 32 : Nat) : Int)) ∧ Below W.heap.size W w' := fun w hw => rsext_all a 32 ha W w hw
  unfold oldV
  generalize ofK op = k at *
  cases hwb : wideB op <;> rw [hwb] at h13 <;> clear hwb
  all_goals
    generalize sextA a 32 = v at *
    go_enter Try.func12, Try.ntmps12
    go_wp2_with (first | (go_at_call 13; refine (h13 _ (by assumption)).mono ?_; rintro e w' ⟨rfl, hw1⟩) | (go_at_call 23; refine (hs _ (by assumption)).mono ?_; rintro e w' ⟨rfl, hw4⟩))
    go_ret
    exact ⟨rfl, by assumption⟩
theorem news_core (op : Int) (a b : Nat) (ha : a < 18446744073709551616) (hb : b < 18446744073709551616) (W w : World) (hw : Below W.heap.size W w) : Calls Try.prog 3 #[.int .i64 op, .int .u64 (a : Int), .int .u64 (b : Int)] w fun e w' => e = .returned (.bool true) ∧ Below W.heap.size W w' := by
  go_enter Try.func3, Try.ntmps3
  go_wp2_with (first | (go_at_call 8; refine (awake_any _).mono ?_; rintro e w' ⟨rfl, rfl⟩) | (go_at_call 9; refine (new_any op a b ha hb _).mono ?_; rintro e w' ⟨rfl, rfl⟩) | (go_at_call 10; refine (rnew_any op a b ha hb W _ (by assumption)).mono ?_; rintro e w' ⟨rfl, hw3⟩) | (go_at_call 11; refine (old_any op a ha _).mono ?_; rintro e w' ⟨rfl, rfl⟩) | (go_at_call 12; refine (rold_any op a ha W _ (by assumption)).mono ?_; rintro e w' ⟨rfl, hw5⟩))
  go_ret
  exact ⟨ret_bool (by first | rfl | simp), by assumption⟩
theorem news_walk (W : World) (a0 : Int) (w0 : (Lit.int .i64 a0).wf = true) (a1 : Int) (w1 : (Lit.int .u64 a1).wf = true) (a2 : Int) (w2 : (Lit.int .u64 a2).wf = true) :
    Calls Try.prog 3 #[.int .i64 a0, .int .u64 a1, .int .u64 a2] W fun e w' => e = .returned (.bool true) ∧ Below W.heap.size W w' := by
  have b1 := bounds_u64 w1
  have b2 := bounds_u64 w2
  obtain ⟨x, rfl⟩ : ∃ x : Nat, a1 = x := ⟨a1.toNat, by omega⟩
  obtain ⟨y, rfl⟩ : ∃ y : Nat, a2 = y := ⟨a2.toNat, by omega⟩
  exact news_core a0 x y (by omega) (by omega) W W (Below.refl _ _)
theorem sorts_walk (W : World) (op : Int) (w0 : (Lit.int .i64 op).wf = true) : Calls Try.prog 4 #[.int .i64 op] W fun e w' => e = .returned (.bool true) ∧ Below W.heap.size W w' := by
  have h13 : ∀ w, Below W.heap.size W w → Calls Try.prog 13 #[.int .i64 op] w fun e w' => e = .returned (.tuple #[.int .i64 (ofK op), .bool (wideB op)]) ∧ Below W.heap.size W w' := fun w hw => of_any op W w hw
  have h15 : decide (op = 73 ∨ op = 84) = decide (ofK op = 0) := by unfold ofK; split; (congr 1; simp; omega); split; (congr 1; simp; omega); (congr 1; simp; omega)
  have h16 : decide (op = 74 ∨ op = 85) = decide (ofK op = 1) := by unfold ofK; split; (congr 1; simp; omega); split; (congr 1; simp; omega); (congr 1; simp; omega)
  have hr := fun w => reserves_any op w
  have hc := fun w => cond_any op w
  rw [h15] at hr
  rw [h16] at hc
  have h14 := fun w => wide_any op w
  clear h15 h16
  generalize ofK op = k at *
  generalize wideB op = wb at *
  have hB : Below W.heap.size W W := Below.refl _ _
  by_cases e0 : k = 0
  · subst e0
    cases wb
    all_goals
      simp at hr hc
      go_enter Try.func4, Try.ntmps4
      go_wp2_with (first | (go_at_call 8; refine (awake_any _).mono ?_; rintro e w' ⟨rfl, rfl⟩) | (go_at_call 13; refine (h13 _ (by assumption)).mono ?_; rintro e w' ⟨rfl, hw1⟩) | (go_at_call 14; refine (h14 _).mono ?_; rintro e w' ⟨rfl, rfl⟩) | (go_at_call 15; refine (hr _).mono ?_; rintro e w' ⟨rfl, rfl⟩) | (go_at_call 16; refine (hc _).mono ?_; rintro e w' ⟨rfl, rfl⟩))
      go_ret
      exact ⟨ret_bool (by first | rfl | simp), by assumption⟩
  · by_cases e1 : k = 1
    · subst e1
      cases wb
      all_goals
        simp at hr hc
        go_enter Try.func4, Try.ntmps4
        go_wp2_with (first | (go_at_call 8; refine (awake_any _).mono ?_; rintro e w' ⟨rfl, rfl⟩) | (go_at_call 13; refine (h13 _ (by assumption)).mono ?_; rintro e w' ⟨rfl, hw1⟩) | (go_at_call 14; refine (h14 _).mono ?_; rintro e w' ⟨rfl, rfl⟩) | (go_at_call 15; refine (hr _).mono ?_; rintro e w' ⟨rfl, rfl⟩) | (go_at_call 16; refine (hc _).mono ?_; rintro e w' ⟨rfl, rfl⟩))
        go_ret
        exact ⟨ret_bool (by first | rfl | simp), by assumption⟩
    · simp only [e0, e1, decide_false] at hr hc
      cases wb
      all_goals
        go_enter Try.func4, Try.ntmps4
        go_wp2_with (first | (go_at_call 8; refine (awake_any _).mono ?_; rintro e w' ⟨rfl, rfl⟩) | (go_at_call 13; refine (h13 _ (by assumption)).mono ?_; rintro e w' ⟨rfl, hw1⟩) | (go_at_call 14; refine (h14 _).mono ?_; rintro e w' ⟨rfl, rfl⟩) | (go_at_call 15; refine (hr _).mono ?_; rintro e w' ⟨rfl, rfl⟩) | (go_at_call 16; refine (hc _).mono ?_; rintro e w' ⟨rfl, rfl⟩))
        go_ret
        exact ⟨ret_bool (by first | rfl | simp_all), by assumption⟩
end Go.Proofs.Ytcpaddnigembkaa
