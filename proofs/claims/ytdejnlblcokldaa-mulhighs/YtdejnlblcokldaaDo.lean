/- The calls whole, half and Do of layer 6 come to plain numbers. -/
import Derived.Test.YtdejnlblcokldaaPrg
namespace Go.Proofs.Ytdejnlblcokldaa
open Go.RowKit
set_option linter.unusedVariables false
set_option linter.unusedSimpArgs false
/-- what Div, Rem, Divu, Remu come to, of words of 64 bits -/
def divV (a b : Nat) : Nat := if b = 0 then 18446744073709551615 else ((numI a).tdiv (numI b) % 18446744073709551616).toNat
def remV (a b : Nat) : Nat := if b = 0 then a else ((numI a).tmod (numI b) % 18446744073709551616).toNat
def divuV (a b : Nat) : Nat := if b = 0 then 18446744073709551615 else a / b
def remuV (a b : Nat) : Nat := if b = 0 then a else a % b
/-- likewise of words of 32 bits -/
def divW (a b : Nat) : Nat := if b = 0 then 4294967295 else ((num32 a).tdiv (num32 b) % 4294967296).toNat
def remW (a b : Nat) : Nat := if b = 0 then a else ((num32 a).tmod (num32 b) % 4294967296).toNat
def divuW (a b : Nat) : Nat := if b = 0 then 4294967295 else a / b
def remuW (a b : Nat) : Nat := if b = 0 then a else a % b
theorem numI_zero (b : Nat) (hb : b < 18446744073709551616) : (numI b = 0) = (b = 0) := by unfold numI; split <;> simp <;> omega
theorem num32_zero (b : Nat) (hb : b < 4294967296) : (num32 b = 0) = (b = 0) := by unfold num32; split <;> simp <;> omega
theorem numI_lo (b : Nat) (hb : b < 18446744073709551616) : -9223372036854775808 ≤ numI b := by unfold numI; split <;> omega
theorem numI_hi (b : Nat) (hb : b < 18446744073709551616) : numI b ≤ 9223372036854775807 := by unfold numI; split <;> omega
theorem num32_lo (b : Nat) (hb : b < 4294967296) : -2147483648 ≤ num32 b := by unfold num32; split <;> omega
theorem num32_hi (b : Nat) (hb : b < 4294967296) : num32 b ≤ 2147483647 := by unfold num32; split <;> omega
theorem numI_mod (b : Nat) (hb : b < 18446744073709551616) : numI b % 18446744073709551616 = b := by unfold numI; split <;> omega
theorem num32_mod (b : Nat) (hb : b < 4294967296) : num32 b % 4294967296 = b := by unfold num32; split <;> omega
theorem divV_eq (a b : Nat) (ha : a < 18446744073709551616) (hb : b < 18446744073709551616) : (if numI b = 0 then -1 else wrap64 ((numI a).tdiv (numI b))) % 18446744073709551616 = ((divV a b : Nat) : Int) := by
  unfold divV
  simp only [numI_zero b hb]
  split
  · decide
  · unfold wrap64; omega
theorem remV_eq (a b : Nat) (ha : a < 18446744073709551616) (hb : b < 18446744073709551616) : (if numI b = 0 then numI a else (numI a).tmod (numI b)) % 18446744073709551616 = ((remV a b : Nat) : Int) := by
  unfold remV
  simp only [numI_zero b hb]
  split
  · exact numI_mod a ha
  · omega
theorem divW_eq (a b : Nat) (ha : a < 4294967296) (hb : b < 4294967296) : (if num32 b = 0 then -1 else wrap32 ((num32 a).tdiv (num32 b))) % 4294967296 = ((divW a b : Nat) : Int) := by
  unfold divW
  simp only [num32_zero b hb]
  split
  · decide
  · unfold wrap32; omega
theorem remW_eq (a b : Nat) (ha : a < 4294967296) (hb : b < 4294967296) : (if num32 b = 0 then num32 a else (num32 a).tmod (num32 b)) % 4294967296 = ((remW a b : Nat) : Int) := by
  unfold remW
  simp only [num32_zero b hb]
  split
  · exact num32_mod a ha
  · omega
theorem divuV_eq (a b : Nat) : (if (b : Int) = 0 then 18446744073709551615 else (a : Int) / (b : Int)) = ((divuV a b : Nat) : Int) := by
  unfold divuV; simp only [Int.natCast_eq_zero]; split
  · rfl
  · simp
theorem remuV_eq (a b : Nat) : (if (b : Int) = 0 then (a : Int) else (a : Int) % (b : Int)) = ((remuV a b : Nat) : Int) := by
  unfold remuV; simp only [Int.natCast_eq_zero]; split
  · rfl
  · simp
theorem divuW_eq (a b : Nat) : (if (b : Int) = 0 then 4294967295 else (a : Int) / (b : Int)) = ((divuW a b : Nat) : Int) := by
  unfold divuW; simp only [Int.natCast_eq_zero]; split
  · rfl
  · simp
theorem remuW_eq (a b : Nat) : (if (b : Int) = 0 then (a : Int) else (a : Int) % (b : Int)) = ((remuW a b : Nat) : Int) := by
  unfold remuW; simp only [Int.natCast_eq_zero]; split
  · rfl
  · simp
theorem whole_60 (a b : Nat) (ha : a < 18446744073709551616) (hb : b < 18446744073709551616) (w : World) : Calls Try.prog 16 #[.int .i64 60, .int .u64 (a : Int), .int .u64 (b : Int)] w fun e w' => e = .returned (.tuple #[.int .u64 ((a * b % 18446744073709551616 : Nat) : Int), .bool true]) ∧ w' = w := by
  have HV : Hid _ := wrap_u64 ((a : Int) * b)
  go_enter Try.func16, Try.ntmps16
  go_wp2
  go_ret2
  exact ⟨ret_two (by first | omega | (rw [HV.out]; simp) | (simp)) rfl, rfl⟩
theorem whole_61 (a b : Nat) (ha : a < 18446744073709551616) (hb : b < 18446744073709551616) (w : World) : Calls Try.prog 16 #[.int .i64 61, .int .u64 (a : Int), .int .u64 (b : Int)] w fun e w' => e = .returned (.tuple #[.int .u64 ((hsV a b true : Nat) : Int), .bool true]) ∧ w' = w := by
  have hc : ∀ w, Calls Try.prog 13 #[.int .u64 (a : Int), .int .u64 (b : Int), .bool true] w fun e w' => e = .returned (.int .u64 ((hsV a b true : Nat) : Int)) ∧ w' = w := fun w => hsigned_any a b true ha hb w
  generalize ((hsV a b true : Nat) : Int) = v at *
  go_enter Try.func16, Try.ntmps16
  go_wp2_with (go_at_call 13; refine (hc _).mono ?_; rintro e w' ⟨rfl, rfl⟩)
  go_ret2
  exact ⟨ret_two (rfl) rfl, rfl⟩
theorem whole_62 (a b : Nat) (ha : a < 18446744073709551616) (hb : b < 18446744073709551616) (w : World) : Calls Try.prog 16 #[.int .i64 62, .int .u64 (a : Int), .int .u64 (b : Int)] w fun e w' => e = .returned (.tuple #[.int .u64 ((hsV a b false : Nat) : Int), .bool true]) ∧ w' = w := by
  have hc : ∀ w, Calls Try.prog 13 #[.int .u64 (a : Int), .int .u64 (b : Int), .bool false] w fun e w' => e = .returned (.int .u64 ((hsV a b false : Nat) : Int)) ∧ w' = w := fun w => hsigned_any a b false ha hb w
  generalize ((hsV a b false : Nat) : Int) = v at *
  go_enter Try.func16, Try.ntmps16
  go_wp2_with (go_at_call 13; refine (hc _).mono ?_; rintro e w' ⟨rfl, rfl⟩)
  go_ret2
  exact ⟨ret_two (rfl) rfl, rfl⟩
theorem whole_63 (a b : Nat) (ha : a < 18446744073709551616) (hb : b < 18446744073709551616) (w : World) : Calls Try.prog 16 #[.int .i64 63, .int .u64 (a : Int), .int .u64 (b : Int)] w fun e w' => e = .returned (.tuple #[.int .u64 ((a * b / 18446744073709551616 : Nat) : Int), .bool true]) ∧ w' = w := by
  have hc : ∀ w, Calls Try.prog 11 #[.int .u64 (a : Int), .int .u64 (b : Int)] w fun e w' => e = .returned (.int .u64 ((a * b / 18446744073709551616 : Nat) : Int)) ∧ w' = w := fun w => high_any a b ha hb w
  generalize ((a * b / 18446744073709551616 : Nat) : Int) = v at *
  go_enter Try.func16, Try.ntmps16
  go_wp2_with (go_at_call 11; refine (hc _).mono ?_; rintro e w' ⟨rfl, rfl⟩)
  go_ret2
  exact ⟨ret_two (rfl) rfl, rfl⟩
theorem whole_64 (a b : Nat) (ha : a < 18446744073709551616) (hb : b < 18446744073709551616) (w : World) : Calls Try.prog 16 #[.int .i64 64, .int .u64 (a : Int), .int .u64 (b : Int)] w fun e w' => e = .returned (.tuple #[.int .u64 ((divV a b : Nat) : Int), .bool true]) ∧ w' = w := by
  have HV : Hid _ := divV_eq a b ha hb
  have hwa := numI_eq a ha
  have hwb := numI_eq b hb
  have hc : ∀ w, Calls Try.prog 29 #[.int .i64 (numI a), .int .i64 (numI b)] w fun e w' => e = .returned (.int .i64 (if numI b = 0 then -1 else wrap64 ((numI a).tdiv (numI b)))) ∧ w' = w := fun w => quo_i64 (numI a) (numI b) (numI_lo a ha) (numI_hi a ha) (numI_lo b hb) (numI_hi b hb) w
  generalize (if numI b = 0 then -1 else wrap64 ((numI a).tdiv (numI b))) = q at *
  generalize ((divV a b : Nat) : Int) = v at *
  have h1 := numI_lo a ha
  have h2 := numI_hi a ha
  have h3 := numI_lo b hb
  have h4 := numI_hi b hb
  have HW : Hid _ := wrap_u64 q
  generalize numI a = na at *
  generalize numI b = nb at *
  go_enter Try.func16, Try.ntmps16
  go_wp2_with (go_at_call 29; refine (hc _).mono ?_; rintro e w' ⟨rfl, rfl⟩)
  go_ret2
  exact ⟨ret_two (by first | exact HV.out | (rw [HW.out]; exact HV.out)) rfl, rfl⟩
theorem whole_65 (a b : Nat) (ha : a < 18446744073709551616) (hb : b < 18446744073709551616) (w : World) : Calls Try.prog 16 #[.int .i64 65, .int .u64 (a : Int), .int .u64 (b : Int)] w fun e w' => e = .returned (.tuple #[.int .u64 ((divuV a b : Nat) : Int), .bool true]) ∧ w' = w := by
  have hc : ∀ w, Calls Try.prog 30 #[.int .u64 (a : Int), .int .u64 (b : Int)] w fun e w' => e = .returned (.int .u64 ((divuV a b : Nat) : Int)) ∧ w' = w := by
    intro w
    have h := quo_u64 (a : Int) (b : Int) (by omega) (by omega) (by omega) (by omega) w
    rw [divuV_eq a b] at h
    exact h
  generalize ((divuV a b : Nat) : Int) = v at *
  go_enter Try.func16, Try.ntmps16
  go_wp2_with (go_at_call 30; refine (hc _).mono ?_; rintro e w' ⟨rfl, rfl⟩)
  go_ret2
  exact ⟨ret_two (rfl) rfl, rfl⟩
theorem whole_66 (a b : Nat) (ha : a < 18446744073709551616) (hb : b < 18446744073709551616) (w : World) : Calls Try.prog 16 #[.int .i64 66, .int .u64 (a : Int), .int .u64 (b : Int)] w fun e w' => e = .returned (.tuple #[.int .u64 ((remV a b : Nat) : Int), .bool true]) ∧ w' = w := by
  have HV : Hid _ := remV_eq a b ha hb
  have hwa := numI_eq a ha
  have hwb := numI_eq b hb
  have hc : ∀ w, Calls Try.prog 31 #[.int .i64 (numI a), .int .i64 (numI b)] w fun e w' => e = .returned (.int .i64 (if numI b = 0 then numI a else (numI a).tmod (numI b))) ∧ w' = w := fun w => rem_i64 (numI a) (numI b) (numI_lo a ha) (numI_hi a ha) (numI_lo b hb) (numI_hi b hb) w
  generalize (if numI b = 0 then numI a else (numI a).tmod (numI b)) = q at *
  generalize ((remV a b : Nat) : Int) = v at *
  have h1 := numI_lo a ha
  have h2 := numI_hi a ha
  have h3 := numI_lo b hb
  have h4 := numI_hi b hb
  have HW : Hid _ := wrap_u64 q
  generalize numI a = na at *
  generalize numI b = nb at *
  go_enter Try.func16, Try.ntmps16
  go_wp2_with (go_at_call 31; refine (hc _).mono ?_; rintro e w' ⟨rfl, rfl⟩)
  go_ret2
  exact ⟨ret_two (by first | exact HV.out | (rw [HW.out]; exact HV.out)) rfl, rfl⟩
theorem whole_67 (a b : Nat) (ha : a < 18446744073709551616) (hb : b < 18446744073709551616) (w : World) : Calls Try.prog 16 #[.int .i64 67, .int .u64 (a : Int), .int .u64 (b : Int)] w fun e w' => e = .returned (.tuple #[.int .u64 ((remuV a b : Nat) : Int), .bool true]) ∧ w' = w := by
  have hc : ∀ w, Calls Try.prog 32 #[.int .u64 (a : Int), .int .u64 (b : Int)] w fun e w' => e = .returned (.int .u64 ((remuV a b : Nat) : Int)) ∧ w' = w := by
    intro w
    have h := rem_u64 (a : Int) (b : Int) (by omega) (by omega) (by omega) (by omega) w
    rw [remuV_eq a b] at h
    exact h
  generalize ((remuV a b : Nat) : Int) = v at *
  go_enter Try.func16, Try.ntmps16
  go_wp2_with (go_at_call 32; refine (hc _).mono ?_; rintro e w' ⟨rfl, rfl⟩)
  go_ret2
  exact ⟨ret_two (rfl) rfl, rfl⟩
theorem whole_no (op : Int) (h60 : ¬ op = 60) (h61 : ¬ op = 61) (h62 : ¬ op = 62) (h63 : ¬ op = 63) (h64 : ¬ op = 64) (h65 : ¬ op = 65) (h66 : ¬ op = 66) (h67 : ¬ op = 67) (a b : Nat) (ha : a < 18446744073709551616) (hb : b < 18446744073709551616) (w : World) : Calls Try.prog 16 #[.int .i64 op, .int .u64 (a : Int), .int .u64 (b : Int)] w fun e w' => e = .returned (.tuple #[.int .u64 0, .bool false]) ∧ w' = w := by
  go_enter Try.func16, Try.ntmps16
  go_wp2
  go_ret2
  exact ⟨rfl, rfl⟩
theorem half_68 (a b : Nat) (ha : a < 4294967296) (hb : b < 4294967296) (w : World) : Calls Try.prog 17 #[.int .i64 68, .int .u32 (a : Int), .int .u32 (b : Int)] w fun e w' => e = .returned (.tuple #[.int .u32 ((a * b % 4294967296 : Nat) : Int), .bool true]) ∧ w' = w := by
  have HV : Hid _ := wrap_u32 ((a : Int) * b)
  go_enter Try.func17, Try.ntmps17
  go_wp2
  go_ret2
  exact ⟨ret_two (by first | omega | (rw [HV.out]; simp) | (simp)) rfl, rfl⟩
theorem half_69 (a b : Nat) (ha : a < 4294967296) (hb : b < 4294967296) (w : World) : Calls Try.prog 17 #[.int .i64 69, .int .u32 (a : Int), .int .u32 (b : Int)] w fun e w' => e = .returned (.tuple #[.int .u32 ((divW a b : Nat) : Int), .bool true]) ∧ w' = w := by
  have HV : Hid _ := divW_eq a b ha hb
  have hwa := num32_eq a ha
  have hwb := num32_eq b hb
  have hc : ∀ w, Calls Try.prog 33 #[.int .i32 (num32 a), .int .i32 (num32 b)] w fun e w' => e = .returned (.int .i32 (if num32 b = 0 then -1 else wrap32 ((num32 a).tdiv (num32 b)))) ∧ w' = w := fun w => quo_i32 (num32 a) (num32 b) (num32_lo a ha) (num32_hi a ha) (num32_lo b hb) (num32_hi b hb) w
  generalize (if num32 b = 0 then -1 else wrap32 ((num32 a).tdiv (num32 b))) = q at *
  generalize ((divW a b : Nat) : Int) = v at *
  have h1 := num32_lo a ha
  have h2 := num32_hi a ha
  have h3 := num32_lo b hb
  have h4 := num32_hi b hb
  have HW : Hid _ := wrap_u32 q
  generalize num32 a = na at *
  generalize num32 b = nb at *
  go_enter Try.func17, Try.ntmps17
  go_wp2_with (go_at_call 33; refine (hc _).mono ?_; rintro e w' ⟨rfl, rfl⟩)
  go_ret2
  exact ⟨ret_two (by first | exact HV.out | (rw [HW.out]; exact HV.out)) rfl, rfl⟩
theorem half_70 (a b : Nat) (ha : a < 4294967296) (hb : b < 4294967296) (w : World) : Calls Try.prog 17 #[.int .i64 70, .int .u32 (a : Int), .int .u32 (b : Int)] w fun e w' => e = .returned (.tuple #[.int .u32 ((divuW a b : Nat) : Int), .bool true]) ∧ w' = w := by
  have hc : ∀ w, Calls Try.prog 34 #[.int .u32 (a : Int), .int .u32 (b : Int)] w fun e w' => e = .returned (.int .u32 ((divuW a b : Nat) : Int)) ∧ w' = w := by
    intro w
    have h := quo_u32 (a : Int) (b : Int) (by omega) (by omega) (by omega) (by omega) w
    rw [divuW_eq a b] at h
    exact h
  generalize ((divuW a b : Nat) : Int) = v at *
  go_enter Try.func17, Try.ntmps17
  go_wp2_with (go_at_call 34; refine (hc _).mono ?_; rintro e w' ⟨rfl, rfl⟩)
  go_ret2
  exact ⟨ret_two (rfl) rfl, rfl⟩
theorem half_71 (a b : Nat) (ha : a < 4294967296) (hb : b < 4294967296) (w : World) : Calls Try.prog 17 #[.int .i64 71, .int .u32 (a : Int), .int .u32 (b : Int)] w fun e w' => e = .returned (.tuple #[.int .u32 ((remW a b : Nat) : Int), .bool true]) ∧ w' = w := by
  have HV : Hid _ := remW_eq a b ha hb
  have hwa := num32_eq a ha
  have hwb := num32_eq b hb
  have hc : ∀ w, Calls Try.prog 35 #[.int .i32 (num32 a), .int .i32 (num32 b)] w fun e w' => e = .returned (.int .i32 (if num32 b = 0 then num32 a else (num32 a).tmod (num32 b))) ∧ w' = w := fun w => rem_i32 (num32 a) (num32 b) (num32_lo a ha) (num32_hi a ha) (num32_lo b hb) (num32_hi b hb) w
  generalize (if num32 b = 0 then num32 a else (num32 a).tmod (num32 b)) = q at *
  generalize ((remW a b : Nat) : Int) = v at *
  have h1 := num32_lo a ha
  have h2 := num32_hi a ha
  have h3 := num32_lo b hb
  have h4 := num32_hi b hb
  have HW : Hid _ := wrap_u32 q
  generalize num32 a = na at *
  generalize num32 b = nb at *
  go_enter Try.func17, Try.ntmps17
  go_wp2_with (go_at_call 35; refine (hc _).mono ?_; rintro e w' ⟨rfl, rfl⟩)
  go_ret2
  exact ⟨ret_two (by first | exact HV.out | (rw [HW.out]; exact HV.out)) rfl, rfl⟩
theorem half_72 (a b : Nat) (ha : a < 4294967296) (hb : b < 4294967296) (w : World) : Calls Try.prog 17 #[.int .i64 72, .int .u32 (a : Int), .int .u32 (b : Int)] w fun e w' => e = .returned (.tuple #[.int .u32 ((remuW a b : Nat) : Int), .bool true]) ∧ w' = w := by
  have hc : ∀ w, Calls Try.prog 36 #[.int .u32 (a : Int), .int .u32 (b : Int)] w fun e w' => e = .returned (.int .u32 ((remuW a b : Nat) : Int)) ∧ w' = w := by
    intro w
    have h := rem_u32 (a : Int) (b : Int) (by omega) (by omega) (by omega) (by omega) w
    rw [remuW_eq a b] at h
    exact h
  generalize ((remuW a b : Nat) : Int) = v at *
  go_enter Try.func17, Try.ntmps17
  go_wp2_with (go_at_call 36; refine (hc _).mono ?_; rintro e w' ⟨rfl, rfl⟩)
  go_ret2
  exact ⟨ret_two (rfl) rfl, rfl⟩
theorem half_no (op : Int) (h68 : ¬ op = 68) (h69 : ¬ op = 69) (h70 : ¬ op = 70) (h71 : ¬ op = 71) (h72 : ¬ op = 72) (a b : Nat) (ha : a < 4294967296) (hb : b < 4294967296) (w : World) : Calls Try.prog 17 #[.int .i64 op, .int .u32 (a : Int), .int .u32 (b : Int)] w fun e w' => e = .returned (.tuple #[.int .u32 0, .bool false]) ∧ w' = w := by
  go_enter Try.func17, Try.ntmps17
  go_wp2
  go_ret2
  exact ⟨rfl, rfl⟩
theorem low_eq (a : Nat) : IntKind.u32.wrap (a : Int) = ((a % 4294967296 : Nat) : Int) := by rw [wrap_u32]; omega
/-- where whole tells a word, Do tells it -/
theorem do_whole (op : Int) (a b v : Nat) (w : World) (h : ∀ w, Calls Try.prog 16 #[.int .i64 op, .int .u64 (a : Int), .int .u64 (b : Int)] w fun e w' => e = .returned (.tuple #[.int .u64 (v : Int), .bool true]) ∧ w' = w) :
    Calls Try.prog 9 #[.int .i64 op, .int .u64 (a : Int), .int .u64 (b : Int)] w fun e w' => e = .returned (.tuple #[.int .u64 (v : Int), .bool true]) ∧ w' = w := by
  go_enter Try.func9, Try.ntmps9
  go_wp2_with (go_at_call 16; refine (h _).mono ?_; rintro e w' ⟨rfl, rfl⟩)
  go_ret2
  exact ⟨rfl, rfl⟩
/-- where whole tells nothing and half a word, Do tells that with its sign -/
theorem do_half (op : Int) (a b v : Nat) (hv : v < 4294967296) (w : World) (h : ∀ w, Calls Try.prog 16 #[.int .i64 op, .int .u64 (a : Int), .int .u64 (b : Int)] w fun e w' => e = .returned (.tuple #[.int .u64 0, .bool false]) ∧ w' = w)
    (h2 : ∀ w, Calls Try.prog 17 #[.int .i64 op, .int .u32 ((a % 4294967296 : Nat) : Int), .int .u32 ((b % 4294967296 : Nat) : Int)] w fun e w' => e = .returned (.tuple #[.int .u32 (v : Int), .bool true]) ∧ w' = w) :
    Calls Try.prog 9 #[.int .i64 op, .int .u64 (a : Int), .int .u64 (b : Int)] w fun e w' => e = .returned (.tuple #[.int .u64 ((sextA v 32 : Nat) : Int), .bool true]) ∧ w' = w := by
  have ea := low_eq a
  have eb := low_eq b
  have ea2 := Int.natCast_emod a 4294967296
  have eb2 := Int.natCast_emod b 4294967296
  have ea3 := ea2.symm
  have eb3 := eb2.symm
  clear ea2 eb2
  generalize ((a % 4294967296 : Nat) : Int) = la at *
  generalize ((b % 4294967296 : Nat) : Int) = lb at *
  have hs : ∀ w, Calls Try.prog 18 #[.int .u64 (v : Int)] w fun e w' => e = .returned (.int .u64 (sextA v 32 : Nat)) ∧ w' = w := fun w => sext32_any v (by omega) w
  go_enter Try.func9, Try.ntmps9
  go_wp2_with (first | (go_at_call 16; refine (h _).mono ?_; rintro e w' ⟨rfl, rfl⟩) | (go_at_call 17; refine (h2 _).mono ?_; rintro e w' ⟨rfl, rfl⟩) | (go_at_call 18; refine (hs _).mono ?_; rintro e w' ⟨rfl, rfl⟩))
  go_ret2
  exact ⟨rfl, rfl⟩
theorem do_none (op : Int) (a b : Nat) (w : World) (h : ∀ w, Calls Try.prog 16 #[.int .i64 op, .int .u64 (a : Int), .int .u64 (b : Int)] w fun e w' => e = .returned (.tuple #[.int .u64 0, .bool false]) ∧ w' = w)
    (h2 : ∀ w, Calls Try.prog 17 #[.int .i64 op, .int .u32 ((a % 4294967296 : Nat) : Int), .int .u32 ((b % 4294967296 : Nat) : Int)] w fun e w' => e = .returned (.tuple #[.int .u32 0, .bool false]) ∧ w' = w) :
    Calls Try.prog 9 #[.int .i64 op, .int .u64 (a : Int), .int .u64 (b : Int)] w fun e w' => e = .returned (.tuple #[.int .u64 0, .bool false]) ∧ w' = w := by
  have ea := low_eq a
  have eb := low_eq b
  have ea2 := Int.natCast_emod a 4294967296
  have eb2 := Int.natCast_emod b 4294967296
  have ea3 := ea2.symm
  have eb3 := eb2.symm
  clear ea2 eb2
  generalize ((a % 4294967296 : Nat) : Int) = la at *
  generalize ((b % 4294967296 : Nat) : Int) = lb at *
  go_enter Try.func9, Try.ntmps9
  go_wp2_with (first | (go_at_call 16; refine (h _).mono ?_; rintro e w' ⟨rfl, rfl⟩) | (go_at_call 17; refine (h2 _).mono ?_; rintro e w' ⟨rfl, rfl⟩))
  go_ret2
  exact ⟨rfl, rfl⟩
theorem divW_lt (a b : Nat) : divW a b < 4294967296 := by unfold divW; split <;> omega
theorem remW_lt (a b : Nat) (ha : a < 4294967296) : remW a b < 4294967296 := by unfold remW; split <;> omega
theorem divuW_lt (a b : Nat) (ha : a < 4294967296) : divuW a b < 4294967296 := by
  unfold divuW; split
  · decide
  · exact Nat.lt_of_le_of_lt (Nat.div_le_self _ _) ha
theorem remuW_lt (a b : Nat) (ha : a < 4294967296) : remuW a b < 4294967296 := by
  unfold remuW; split
  · exact ha
  · exact Nat.lt_of_le_of_lt (Nat.mod_le _ _) ha
def mulV (op : Int) (a b : Nat) : Nat :=
  if op = 60 then a * b % 18446744073709551616 else
  if op = 61 then hsV a b true else
  if op = 62 then hsV a b false else
  if op = 63 then a * b / 18446744073709551616 else
  if op = 64 then divV a b else
  if op = 65 then divuV a b else
  if op = 66 then remV a b else
  if op = 67 then remuV a b else
  if op = 68 then sextA ((a % 4294967296) * (b % 4294967296) % 4294967296) 32 else
  if op = 69 then sextA (divW (a % 4294967296) (b % 4294967296)) 32 else
  if op = 70 then sextA (divuW (a % 4294967296) (b % 4294967296)) 32 else
  if op = 71 then sextA (remW (a % 4294967296) (b % 4294967296)) 32 else
  if op = 72 then sextA (remuW (a % 4294967296) (b % 4294967296)) 32 else
  0
def mulOk (op : Int) : Bool := decide (60 ≤ op ∧ op ≤ 72)
theorem mulV_60 (a b : Nat) : mulV 60 a b = a * b % 18446744073709551616 := by unfold mulV; rw [if_pos (by decide)]
theorem mulOk_60 : mulOk 60 = true := by decide
theorem mulV_61 (a b : Nat) : mulV 61 a b = hsV a b true := by unfold mulV; rw [if_neg (by decide), if_pos (by decide)]
theorem mulOk_61 : mulOk 61 = true := by decide
theorem mulV_62 (a b : Nat) : mulV 62 a b = hsV a b false := by unfold mulV; rw [if_neg (by decide), if_neg (by decide), if_pos (by decide)]
theorem mulOk_62 : mulOk 62 = true := by decide
theorem mulV_63 (a b : Nat) : mulV 63 a b = a * b / 18446744073709551616 := by unfold mulV; rw [if_neg (by decide), if_neg (by decide), if_neg (by decide), if_pos (by decide)]
theorem mulOk_63 : mulOk 63 = true := by decide
theorem mulV_64 (a b : Nat) : mulV 64 a b = divV a b := by unfold mulV; rw [if_neg (by decide), if_neg (by decide), if_neg (by decide), if_neg (by decide), if_pos (by decide)]
theorem mulOk_64 : mulOk 64 = true := by decide
theorem mulV_65 (a b : Nat) : mulV 65 a b = divuV a b := by unfold mulV; rw [if_neg (by decide), if_neg (by decide), if_neg (by decide), if_neg (by decide), if_neg (by decide), if_pos (by decide)]
theorem mulOk_65 : mulOk 65 = true := by decide
theorem mulV_66 (a b : Nat) : mulV 66 a b = remV a b := by unfold mulV; rw [if_neg (by decide), if_neg (by decide), if_neg (by decide), if_neg (by decide), if_neg (by decide), if_neg (by decide), if_pos (by decide)]
theorem mulOk_66 : mulOk 66 = true := by decide
theorem mulV_67 (a b : Nat) : mulV 67 a b = remuV a b := by unfold mulV; rw [if_neg (by decide), if_neg (by decide), if_neg (by decide), if_neg (by decide), if_neg (by decide), if_neg (by decide), if_neg (by decide), if_pos (by decide)]
theorem mulOk_67 : mulOk 67 = true := by decide
theorem mulV_68 (a b : Nat) : mulV 68 a b = sextA ((a % 4294967296) * (b % 4294967296) % 4294967296) 32 := by unfold mulV; rw [if_neg (by decide), if_neg (by decide), if_neg (by decide), if_neg (by decide), if_neg (by decide), if_neg (by decide), if_neg (by decide), if_neg (by decide), if_pos (by decide)]
theorem mulOk_68 : mulOk 68 = true := by decide
theorem mulV_69 (a b : Nat) : mulV 69 a b = sextA (divW (a % 4294967296) (b % 4294967296)) 32 := by unfold mulV; rw [if_neg (by decide), if_neg (by decide), if_neg (by decide), if_neg (by decide), if_neg (by decide), if_neg (by decide), if_neg (by decide), if_neg (by decide), if_neg (by decide), if_pos (by decide)]
theorem mulOk_69 : mulOk 69 = true := by decide
theorem mulV_70 (a b : Nat) : mulV 70 a b = sextA (divuW (a % 4294967296) (b % 4294967296)) 32 := by unfold mulV; rw [if_neg (by decide), if_neg (by decide), if_neg (by decide), if_neg (by decide), if_neg (by decide), if_neg (by decide), if_neg (by decide), if_neg (by decide), if_neg (by decide), if_neg (by decide), if_pos (by decide)]
theorem mulOk_70 : mulOk 70 = true := by decide
theorem mulV_71 (a b : Nat) : mulV 71 a b = sextA (remW (a % 4294967296) (b % 4294967296)) 32 := by unfold mulV; rw [if_neg (by decide), if_neg (by decide), if_neg (by decide), if_neg (by decide), if_neg (by decide), if_neg (by decide), if_neg (by decide), if_neg (by decide), if_neg (by decide), if_neg (by decide), if_neg (by decide), if_pos (by decide)]
theorem mulOk_71 : mulOk 71 = true := by decide
theorem mulV_72 (a b : Nat) : mulV 72 a b = sextA (remuW (a % 4294967296) (b % 4294967296)) 32 := by unfold mulV; rw [if_neg (by decide), if_neg (by decide), if_neg (by decide), if_neg (by decide), if_neg (by decide), if_neg (by decide), if_neg (by decide), if_neg (by decide), if_neg (by decide), if_neg (by decide), if_neg (by decide), if_neg (by decide), if_pos (by decide)]
theorem mulOk_72 : mulOk 72 = true := by decide
theorem mulV_no (op : Int) (h60 : ¬ op = 60) (h61 : ¬ op = 61) (h62 : ¬ op = 62) (h63 : ¬ op = 63) (h64 : ¬ op = 64) (h65 : ¬ op = 65) (h66 : ¬ op = 66) (h67 : ¬ op = 67) (h68 : ¬ op = 68) (h69 : ¬ op = 69) (h70 : ¬ op = 70) (h71 : ¬ op = 71) (h72 : ¬ op = 72) (a b : Nat) : mulV op a b = 0 := by unfold mulV; rw [if_neg h60, if_neg h61, if_neg h62, if_neg h63, if_neg h64, if_neg h65, if_neg h66, if_neg h67, if_neg h68, if_neg h69, if_neg h70, if_neg h71, if_neg h72]
theorem mulOk_no (op : Int) (h60 : ¬ op = 60) (h61 : ¬ op = 61) (h62 : ¬ op = 62) (h63 : ¬ op = 63) (h64 : ¬ op = 64) (h65 : ¬ op = 65) (h66 : ¬ op = 66) (h67 : ¬ op = 67) (h68 : ¬ op = 68) (h69 : ¬ op = 69) (h70 : ¬ op = 70) (h71 : ¬ op = 71) (h72 : ¬ op = 72) : mulOk op = false := by unfold mulOk; apply decide_eq_false; omega
theorem do_any (op : Int) (a b : Nat) (ha : a < 18446744073709551616) (hb : b < 18446744073709551616) (w : World) : Calls Try.prog 9 #[.int .i64 op, .int .u64 (a : Int), .int .u64 (b : Int)] w fun e w' => e = .returned (.tuple #[.int .u64 ((mulV op a b : Nat) : Int), .bool (mulOk op)]) ∧ w' = w := by
  have la : a % 4294967296 < 4294967296 := Nat.mod_lt _ (by decide)
  have lb : b % 4294967296 < 4294967296 := Nat.mod_lt _ (by decide)
  by_cases h60 : op = 60
  · subst h60; rw [mulV_60, mulOk_60]; exact do_whole 60 a b _ w fun w => whole_60 a b ha hb w
  by_cases h61 : op = 61
  · subst h61; rw [mulV_61, mulOk_61]; exact do_whole 61 a b _ w fun w => whole_61 a b ha hb w
  by_cases h62 : op = 62
  · subst h62; rw [mulV_62, mulOk_62]; exact do_whole 62 a b _ w fun w => whole_62 a b ha hb w
  by_cases h63 : op = 63
  · subst h63; rw [mulV_63, mulOk_63]; exact do_whole 63 a b _ w fun w => whole_63 a b ha hb w
  by_cases h64 : op = 64
  · subst h64; rw [mulV_64, mulOk_64]; exact do_whole 64 a b _ w fun w => whole_64 a b ha hb w
  by_cases h65 : op = 65
  · subst h65; rw [mulV_65, mulOk_65]; exact do_whole 65 a b _ w fun w => whole_65 a b ha hb w
  by_cases h66 : op = 66
  · subst h66; rw [mulV_66, mulOk_66]; exact do_whole 66 a b _ w fun w => whole_66 a b ha hb w
  by_cases h67 : op = 67
  · subst h67; rw [mulV_67, mulOk_67]; exact do_whole 67 a b _ w fun w => whole_67 a b ha hb w
  by_cases h68 : op = 68
  · subst h68; rw [mulV_68, mulOk_68]; exact do_half 68 a b _ (Nat.mod_lt _ (by decide)) w (fun w => whole_no 68 (by decide) (by decide) (by decide) (by decide) (by decide) (by decide) (by decide) (by decide) a b ha hb w) fun w => half_68 _ _ la lb w
  by_cases h69 : op = 69
  · subst h69; rw [mulV_69, mulOk_69]; exact do_half 69 a b _ (divW_lt _ _) w (fun w => whole_no 69 (by decide) (by decide) (by decide) (by decide) (by decide) (by decide) (by decide) (by decide) a b ha hb w) fun w => half_69 _ _ la lb w
  by_cases h70 : op = 70
  · subst h70; rw [mulV_70, mulOk_70]; exact do_half 70 a b _ (divuW_lt _ _ la) w (fun w => whole_no 70 (by decide) (by decide) (by decide) (by decide) (by decide) (by decide) (by decide) (by decide) a b ha hb w) fun w => half_70 _ _ la lb w
  by_cases h71 : op = 71
  · subst h71; rw [mulV_71, mulOk_71]; exact do_half 71 a b _ (remW_lt _ _ la) w (fun w => whole_no 71 (by decide) (by decide) (by decide) (by decide) (by decide) (by decide) (by decide) (by decide) a b ha hb w) fun w => half_71 _ _ la lb w
  by_cases h72 : op = 72
  · subst h72; rw [mulV_72, mulOk_72]; exact do_half 72 a b _ (remuW_lt _ _ la) w (fun w => whole_no 72 (by decide) (by decide) (by decide) (by decide) (by decide) (by decide) (by decide) (by decide) a b ha hb w) fun w => half_72 _ _ la lb w
  rw [mulV_no op h60 h61 h62 h63 h64 h65 h66 h67 h68 h69 h70 h71 h72, mulOk_no op h60 h61 h62 h63 h64 h65 h66 h67 h68 h69 h70 h71 h72]
  exact do_none op a b w (fun w => whole_no op h60 h61 h62 h63 h64 h65 h66 h67 a b ha hb w) fun w => half_no op h68 h69 h70 h71 h72 _ _ la lb w
theorem sx_least : mulV 69 2147483648 4294967295 = 18446744071562067968 := by decide +kernel
theorem sx_ones : mulV 63 18446744073709551615 18446744073709551615 = 18446744073709551614 := by decide +kernel
theorem awake_any (w : World) : Calls Try.prog 8 #[] w fun e w' => e = .returned (.bool true) ∧ w' = w := by
  have h1 : ∀ w, Calls Try.prog 9 #[.int .i64 69, .int .u64 2147483648, .int .u64 4294967295] w fun e w' => e = .returned (.tuple #[.int .u64 18446744071562067968, .bool true]) ∧ w' = w := by
    intro w
    have h := do_any 69 2147483648 4294967295 (by decide) (by decide) w
    rw [sx_least, mulOk_69] at h
    exact h
  have h2 : ∀ w, Calls Try.prog 9 #[.int .i64 63, .int .u64 18446744073709551615, .int .u64 18446744073709551615] w fun e w' => e = .returned (.tuple #[.int .u64 18446744073709551614, .bool true]) ∧ w' = w := by
    intro w
    have h := do_any 63 18446744073709551615 18446744073709551615 (by decide) (by decide) w
    rw [sx_ones, mulOk_63] at h
    exact h
  go_enter Try.func8, Try.ntmps8
  go_wp2_with fail
  refine (h1 _).mono ?_
  rintro e w1 ⟨rfl, h⟩; rw [h]; clear h
  go_wp2_with fail
  refine (h2 _).mono ?_
  rintro e w1 ⟨rfl, h⟩; rw [h]; clear h
  go_wp2
  go_ret
  exact ⟨rfl, rfl⟩
end Go.Proofs.Ytdejnlblcokldaa
