/- The calls Taken and Extend of layer 5, and the statements' call awake. -/
import Derived.Test.YtgaihgniommhiaaDo
namespace Go.Proofs.Ytgaihgniommhiaa
open Go.RowKit
set_option linter.unusedVariables false
set_option linter.unusedSimpArgs false
theorem ret_bool {a b : Bool} (h : a = b) : Ending.returned (.bool a) = .returned (.bool b) := by rw [h]
theorem taken_5 (a b : Nat) (ha : a < 18446744073709551616) (hb : b < 18446744073709551616) (w : World) : Calls Try.prog 12 #[.int .i64 5, .int .u64 (a : Int), .int .u64 (b : Int)] w fun e w' => e = .returned (.bool (decide (a = b))) ∧ w' = w := by
  have hw := numI_eq a ha
  have hw2 := numI_eq b hb
  obtain ⟨r, hr⟩ : ∃ r : Bool, (decide (a = b)) = r := ⟨_, rfl⟩
  have HR : Hid (_ = r) := hr
  rw [hr]
  clear hr
  go_enter Try.func12, Try.ntmps12
  go_wp2
  go_ret
  exact ⟨ret_bool (by rw [← HR.out]; try first | rfl | (simp; done) | (apply Bool.eq_iff_iff.2; simp <;> omega)), rfl⟩
theorem taken_6 (a b : Nat) (ha : a < 18446744073709551616) (hb : b < 18446744073709551616) (w : World) : Calls Try.prog 12 #[.int .i64 6, .int .u64 (a : Int), .int .u64 (b : Int)] w fun e w' => e = .returned (.bool (!decide (a = b))) ∧ w' = w := by
  have hw := numI_eq a ha
  have hw2 := numI_eq b hb
  obtain ⟨r, hr⟩ : ∃ r : Bool, (!decide (a = b)) = r := ⟨_, rfl⟩
  have HR : Hid (_ = r) := hr
  rw [hr]
  clear hr
  go_enter Try.func12, Try.ntmps12
  go_wp2
  go_ret
  exact ⟨ret_bool (by rw [← HR.out]; try first | rfl | (simp; done) | (apply Bool.eq_iff_iff.2; simp <;> omega)), rfl⟩
theorem taken_7 (a b : Nat) (ha : a < 18446744073709551616) (hb : b < 18446744073709551616) (w : World) : Calls Try.prog 12 #[.int .i64 7, .int .u64 (a : Int), .int .u64 (b : Int)] w fun e w' => e = .returned (.bool (decide (numI a < numI b))) ∧ w' = w := by
  have hw := numI_eq a ha
  have hw2 := numI_eq b hb
  generalize numI a = na at *
  generalize numI b = nb at *
  obtain ⟨r, hr⟩ : ∃ r : Bool, (decide (na < nb)) = r := ⟨_, rfl⟩
  have HR : Hid (_ = r) := hr
  rw [hr]
  clear hr
  go_enter Try.func12, Try.ntmps12
  go_wp2
  go_ret
  exact ⟨ret_bool (by rw [← HR.out]; try first | rfl | (simp; done) | (apply Bool.eq_iff_iff.2; simp <;> omega)), rfl⟩
theorem taken_8 (a b : Nat) (ha : a < 18446744073709551616) (hb : b < 18446744073709551616) (w : World) : Calls Try.prog 12 #[.int .i64 8, .int .u64 (a : Int), .int .u64 (b : Int)] w fun e w' => e = .returned (.bool (!decide (numI a < numI b))) ∧ w' = w := by
  have hw := numI_eq a ha
  have hw2 := numI_eq b hb
  generalize numI a = na at *
  generalize numI b = nb at *
  obtain ⟨r, hr⟩ : ∃ r : Bool, (!decide (na < nb)) = r := ⟨_, rfl⟩
  have HR : Hid (_ = r) := hr
  rw [hr]
  clear hr
  go_enter Try.func12, Try.ntmps12
  go_wp2
  go_ret
  exact ⟨ret_bool (by rw [← HR.out]; try first | rfl | (simp; done) | (apply Bool.eq_iff_iff.2; simp <;> omega)), rfl⟩
theorem taken_9 (a b : Nat) (ha : a < 18446744073709551616) (hb : b < 18446744073709551616) (w : World) : Calls Try.prog 12 #[.int .i64 9, .int .u64 (a : Int), .int .u64 (b : Int)] w fun e w' => e = .returned (.bool (decide (a < b))) ∧ w' = w := by
  have hw := numI_eq a ha
  have hw2 := numI_eq b hb
  obtain ⟨r, hr⟩ : ∃ r : Bool, (decide (a < b)) = r := ⟨_, rfl⟩
  have HR : Hid (_ = r) := hr
  rw [hr]
  clear hr
  go_enter Try.func12, Try.ntmps12
  go_wp2
  go_ret
  exact ⟨ret_bool (by rw [← HR.out]; try first | rfl | (simp; done) | (apply Bool.eq_iff_iff.2; simp <;> omega)), rfl⟩
theorem taken_10 (a b : Nat) (ha : a < 18446744073709551616) (hb : b < 18446744073709551616) (w : World) : Calls Try.prog 12 #[.int .i64 10, .int .u64 (a : Int), .int .u64 (b : Int)] w fun e w' => e = .returned (.bool (!decide (a < b))) ∧ w' = w := by
  have hw := numI_eq a ha
  have hw2 := numI_eq b hb
  obtain ⟨r, hr⟩ : ∃ r : Bool, (!decide (a < b)) = r := ⟨_, rfl⟩
  have HR : Hid (_ = r) := hr
  rw [hr]
  clear hr
  go_enter Try.func12, Try.ntmps12
  go_wp2
  go_ret
  exact ⟨ret_bool (by rw [← HR.out]; try first | rfl | (simp; done) | (apply Bool.eq_iff_iff.2; simp <;> omega)), rfl⟩
theorem taken_no (op : Int) (h5 : ¬ op = 5) (h6 : ¬ op = 6) (h7 : ¬ op = 7) (h8 : ¬ op = 8) (h9 : ¬ op = 9) (h10 : ¬ op = 10) (a b : Nat) (w : World) : Calls Try.prog 12 #[.int .i64 op, .int .u64 (a : Int), .int .u64 (b : Int)] w fun e w' => e = .returned (.bool false) ∧ w' = w := by
  go_enter Try.func12, Try.ntmps12
  go_wp2
  go_ret
  exact ⟨rfl, rfl⟩
theorem get_low (x : Nat) (n : Nat) (hx : x < 18446744073709551616) (hn : n ≤ 64) (W w : World) (hb : Below W.heap.size W w) : Calls Try.prog 26 #[.int .u64 (x : Int), .int .i64 0, .int .i64 (n : Int)] w fun e w' => e = .returned (.int .u64 ((x % 2 ^ n : Nat) : Int)) ∧ Below W.heap.size W w' := by
  have h := get_any x 0 (n : Int) n hx (by omega) (by omega) w
  simp only [Nat.pow_zero, Nat.div_one] at h
  exact h.mono fun e w' ⟨he, k, hw⟩ => ⟨he, by rw [hw]; exact below_drewN hb k⟩
theorem ext_11 (a : Nat) (ha : a < 18446744073709551616) (W w : World) (hb : Below W.heap.size W w) : Calls Try.prog 14 #[.int .i64 11, .int .u64 (a : Int)] w fun e w' => e = .returned (.int .u64 ((sextA a 8 : Nat) : Int)) ∧ Below W.heap.size W w' := by
  go_enter Try.func14, Try.ntmps14
  go_wp2_with (go_at_call 25; refine (sext_any a 8 ha _).mono ?_; rintro e w' ⟨rfl, rfl⟩)
  go_ret
  exact ⟨rfl, hb⟩
theorem ext_12 (a : Nat) (ha : a < 18446744073709551616) (W w : World) (hb : Below W.heap.size W w) : Calls Try.prog 14 #[.int .i64 12, .int .u64 (a : Int)] w fun e w' => e = .returned (.int .u64 ((sextA a 16 : Nat) : Int)) ∧ Below W.heap.size W w' := by
  go_enter Try.func14, Try.ntmps14
  go_wp2_with (go_at_call 25; refine (sext_any a 16 ha _).mono ?_; rintro e w' ⟨rfl, rfl⟩)
  go_ret
  exact ⟨rfl, hb⟩
theorem ext_13 (a : Nat) (ha : a < 18446744073709551616) (W w : World) (hb : Below W.heap.size W w) : Calls Try.prog 14 #[.int .i64 13, .int .u64 (a : Int)] w fun e w' => e = .returned (.int .u64 ((sextA a 32 : Nat) : Int)) ∧ Below W.heap.size W w' := by
  go_enter Try.func14, Try.ntmps14
  go_wp2_with (go_at_call 18; refine (sext32_any a ha _).mono ?_; rintro e w' ⟨rfl, rfl⟩)
  go_ret
  exact ⟨rfl, hb⟩
theorem ext_15 (a : Nat) (ha : a < 18446744073709551616) (W w : World) (hb : Below W.heap.size W w) : Calls Try.prog 14 #[.int .i64 15, .int .u64 (a : Int)] w fun e w' => e = .returned (.int .u64 ((a % 2 ^ 8 : Nat) : Int)) ∧ Below W.heap.size W w' := by
  go_enter Try.func14, Try.ntmps14
  go_wp2_with (go_at_call 26; refine (get_low a 8 ha (by omega) W _ hb).mono ?_; rintro e w' ⟨rfl, hb2⟩)
  go_ret
  exact ⟨rfl, hb2⟩
theorem ext_16 (a : Nat) (ha : a < 18446744073709551616) (W w : World) (hb : Below W.heap.size W w) : Calls Try.prog 14 #[.int .i64 16, .int .u64 (a : Int)] w fun e w' => e = .returned (.int .u64 ((a % 2 ^ 16 : Nat) : Int)) ∧ Below W.heap.size W w' := by
  go_enter Try.func14, Try.ntmps14
  go_wp2_with (go_at_call 26; refine (get_low a 16 ha (by omega) W _ hb).mono ?_; rintro e w' ⟨rfl, hb2⟩)
  go_ret
  exact ⟨rfl, hb2⟩
theorem ext_17 (a : Nat) (ha : a < 18446744073709551616) (W w : World) (hb : Below W.heap.size W w) : Calls Try.prog 14 #[.int .i64 17, .int .u64 (a : Int)] w fun e w' => e = .returned (.int .u64 ((a % 2 ^ 32 : Nat) : Int)) ∧ Below W.heap.size W w' := by
  go_enter Try.func14, Try.ntmps14
  go_wp2_with (go_at_call 26; refine (get_low a 32 ha (by omega) W _ hb).mono ?_; rintro e w' ⟨rfl, hb2⟩)
  go_ret
  exact ⟨rfl, hb2⟩
theorem ext_no (op : Int) (h11 : ¬ op = 11) (h12 : ¬ op = 12) (h13 : ¬ op = 13) (h15 : ¬ op = 15) (h16 : ¬ op = 16) (h17 : ¬ op = 17) (a : Nat) (ha : a < 18446744073709551616) (W w : World) (hb : Below W.heap.size W w) : Calls Try.prog 14 #[.int .i64 op, .int .u64 (a : Int)] w fun e w' => e = .returned (.int .u64 (a : Int)) ∧ Below W.heap.size W w' := by
  go_enter Try.func14, Try.ntmps14
  go_wp2
  go_ret
  exact ⟨rfl, hb⟩
theorem sx_a : sextA ((2147483647 % 4294967296 + 1 % 4294967296) % 4294967296) 32 = 18446744071562067968 := by decide +kernel
theorem sx_b : sextA 255 8 = 18446744073709551615 := by decide +kernel
theorem awake_any (W w : World) (hb : Below W.heap.size W w) : Calls Try.prog 9 #[] w fun e w' => e = .returned (.bool true) ∧ Below W.heap.size W w' := by
  have h1 : ∀ w, Calls Try.prog 10 #[.int .i64 45, .int .u64 2147483647, .int .u64 1] w fun e w' => e = .returned (.tuple #[.int .u64 18446744071562067968, .bool true]) ∧ w' = w := by
    intro w
    have h := do_45 2147483647 1 (by decide) (by decide) w
    rw [sx_a] at h
    exact h
  have h2 : ∀ w, Calls Try.prog 12 #[.int .i64 5, .int .u64 1, .int .u64 1] w fun e w' => e = .returned (.bool true) ∧ w' = w := fun w => taken_5 1 1 (by decide) (by decide) w
  have h3 : ∀ w, Below W.heap.size W w → Calls Try.prog 14 #[.int .i64 11, .int .u64 255] w fun e w' => e = .returned (.int .u64 18446744073709551615) ∧ Below W.heap.size W w' := by
    intro w hb
    have h := ext_11 255 (by decide) W w hb
    rw [sx_b] at h
    exact h
  go_enter Try.func9, Try.ntmps9
  go_wp2_with (first | (go_at_call 10; refine (h1 _).mono ?_; rintro e w' ⟨rfl, rfl⟩) | (go_at_call 12; refine (h2 _).mono ?_; rintro e w' ⟨rfl, rfl⟩) | (go_at_call 14; refine (h3 _ (by assumption)).mono ?_; rintro e w' ⟨rfl, hb2⟩))
  go_ret
  exact ⟨rfl, by assumption⟩
end Go.Proofs.Ytgaihgniommhiaa
