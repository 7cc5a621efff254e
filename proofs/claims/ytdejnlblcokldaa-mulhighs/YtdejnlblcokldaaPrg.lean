/- The calls High, HighSigned, quotient and rest of layer 6 come to plain numbers. -/
import Derived.Test.YtdejnlblcokldaaSx
import Derived.Shelf.Bits.Mul64
namespace Go.Proofs.Ytdejnlblcokldaa
open Go.Shelf
def Try.lays264_ren : Go.Shelf.Ren := ⟨fun | 264 => 22 | n => n, fun | 53 => 22 | 46 => 36 | n => n, fun | n => n⟩
theorem Try.lays264 : Go.Proofs.Lays.n264 Try.prog Try.lays264_ren := {
  mixed := by kernel_rfl
  f264 := Try.func22.trans (congrArg some (by kernel_rfl))
  t46 := Try.underlying36
  a46 := Try.isAgg36
  z46 := Try.sizeOf36
  v46 := Try.zeroValue36
  t53 := Try.underlying22
  a53 := Try.isAgg22
  z53 := Try.sizeOf22
  v53 := Try.zeroValue22 }
open Go.RowKit Go.Lib in
theorem Try.bits_Mul64 (x y : Nat) (hx : x < 18446744073709551616) (hy : y < 18446744073709551616) (w : World) :
    Calls Try.prog 22 #[.int .u64 x, .int .u64 y] w fun e w' => e = .returned (.tuple #[.int .u64 ((x * y / 18446744073709551616 : Nat) : Int), .int .u64 ((x * y % 18446744073709551616 : Nat) : Int)]) ∧ w' = w := Any.bits_Mul64 Try.lays264 x y hx hy w
open Go.RowKit
set_option linter.unusedVariables false
set_option linter.unusedSimpArgs false
theorem ret_two {k : IntKind} {a b : Int} {c d : Bool} (h : a = b) (g : c = d) : Ending.returned (.tuple #[.int k a, .bool c]) = .returned (.tuple #[.int k b, .bool d]) := by rw [h, g]
theorem ret_int {k : IntKind} {a b : Int} (h : a = b) : Ending.returned (.int k a) = .returned (.int k b) := by rw [h]
theorem ret_bool {a b : Bool} (h : a = b) : Ending.returned (.bool a) = .returned (.bool b) := by rw [h]
def numI (a : Nat) : Int := if a < 9223372036854775808 then (a : Int) else (a : Int) - 18446744073709551616
theorem numI_eq (a : Nat) (h : a < 18446744073709551616) : wrap64 (a : Int) = numI a := wrap64_val a h
theorem numI_neg (a : Nat) (h : a < 18446744073709551616) : (numI a < 0) = (9223372036854775808 ≤ a) := by
  unfold numI; split <;> simp <;> omega
def num32 (a : Nat) : Int := if a < 2147483648 then (a : Int) else (a : Int) - 4294967296
theorem num32_eq (a : Nat) (h : a < 4294967296) : IntKind.i32.wrap (a : Int) = num32 a := by
  unfold num32; simp [IntKind.wrap, IntKind.signed, IntKind.bits]; split <;> omega
theorem wrap_u32 (x : Int) : IntKind.u32.wrap x = x % 4294967296 := by simp [IntKind.wrap, IntKind.signed, IntKind.bits]
theorem high_any (a b : Nat) (ha : a < 18446744073709551616) (hb : b < 18446744073709551616) (w : World) : Calls Try.prog 11 #[.int .u64 (a : Int), .int .u64 (b : Int)] w fun e w' => e = .returned (.int .u64 ((a * b / 18446744073709551616 : Nat) : Int)) ∧ w' = w := by
  have hm : ∀ w, Calls Try.prog 22 #[.int .u64 (a : Int), .int .u64 (b : Int)] w fun e w' => e = .returned (.tuple #[.int .u64 ((a * b / 18446744073709551616 : Nat) : Int), .int .u64 ((a * b % 18446744073709551616 : Nat) : Int)]) ∧ w' = w := fun w => Try.bits_Mul64 a b ha hb w
  generalize ((a * b / 18446744073709551616 : Nat) : Int) = h at *
  generalize ((a * b % 18446744073709551616 : Nat) : Int) = l at *
  go_enter Try.func11, Try.ntmps11
  go_wp2_with (go_at_call 22; refine (hm _).mono ?_; rintro e w' ⟨rfl, rfl⟩)
  go_ret
  exact ⟨rfl, rfl⟩
/-- what HighSigned comes to -/
def hsV (a b : Nat) (both : Bool) : Nat := ((((a * b / 18446744073709551616 : Nat) : Int) - (if numI a < 0 then (b : Int) else 0) - (if both = true ∧ numI b < 0 then (a : Int) else 0)) % 18446744073709551616).toNat
theorem hsV_eq (a b : Nat) (both : Bool) : ((hsV a b both : Nat) : Int) = (((a * b / 18446744073709551616 : Nat) : Int) - (if numI a < 0 then (b : Int) else 0) - (if both = true ∧ numI b < 0 then (a : Int) else 0)) % 18446744073709551616 := by
  unfold hsV; omega
theorem hsV_lt (a b : Nat) (both : Bool) : hsV a b both < 18446744073709551616 := by unfold hsV; omega
theorem hs_tt (h a b : Int) : IntKind.u64.wrap (IntKind.u64.wrap (h - b) - a) = (h - b - a) % 18446744073709551616 := by rw [wrap_u64, wrap_u64]; omega
theorem hsigned_any (a b : Nat) (both : Bool) (ha : a < 18446744073709551616) (hb : b < 18446744073709551616) (w : World) : Calls Try.prog 13 #[.int .u64 (a : Int), .int .u64 (b : Int), .bool both] w fun e w' => e = .returned (.int .u64 ((hsV a b both : Nat) : Int)) ∧ w' = w := by
  have hm : ∀ w, Calls Try.prog 11 #[.int .u64 (a : Int), .int .u64 (b : Int)] w fun e w' => e = .returned (.int .u64 ((a * b / 18446744073709551616 : Nat) : Int)) ∧ w' = w := fun w => high_any a b ha hb w
  have hlt : a * b / 18446744073709551616 < 18446744073709551616 := by
    rw [Nat.div_lt_iff_lt_mul (by decide)]; exact Nat.mul_lt_mul'' ha hb
  have HV : Hid _ := hsV_eq a b both
  have hwa := numI_eq a ha
  have hwb := numI_eq b hb
  generalize ((hsV a b both : Nat) : Int) = v at *
  generalize a * b / 18446744073709551616 = h at *
  generalize numI a = na at *
  generalize numI b = nb at *
  have HW : Hid (∀ x : Int, IntKind.u64.wrap x = x % 18446744073709551616) := wrap_u64
  by_cases h1 : na < 0 <;> by_cases h2 : nb < 0 <;> cases both
  all_goals
    go_enter Try.func13, Try.ntmps13
    go_wp2_with (go_at_call 11; refine (hm _).mono ?_; rintro e w' ⟨rfl, rfl⟩)
    go_ret
    refine ⟨ret_int ?_, rfl⟩
    have hv := HV.out
    have hw := HW.out
    simp only [h1, h2, if_true, if_false, and_true, and_false, Bool.false_eq_true, true_and, false_and] at hv
    first | (rw [hv]; omega) | (rw [hv]; simp only [hw]; omega)
theorem quo_i64 (x y : Int) (hx : -9223372036854775808 ≤ x) (hx2 : x ≤ 9223372036854775807) (hy : -9223372036854775808 ≤ y) (hy2 : y ≤ 9223372036854775807) (w : World) : Calls Try.prog 29 #[.int .i64 x, .int .i64 y] w fun e w' => e = .returned (.int .i64 (if y = 0 then -1 else wrap64 (x.tdiv y))) ∧ w' = w := by
  by_cases h : y = 0
  · subst h
    rw [if_pos rfl]
    go_enter Try.func29, Try.ntmps29
    go_wp2
    go_ret
    exact ⟨rfl, rfl⟩
  · rw [if_neg h]
    go_enter Try.func29, Try.ntmps29
    go_wp2
    go_ret
    exact ⟨rfl, rfl⟩
theorem quo_u64 (x y : Int) (hx : 0 ≤ x) (hx2 : x ≤ 18446744073709551615) (hy : 0 ≤ y) (hy2 : y ≤ 18446744073709551615) (w : World) : Calls Try.prog 30 #[.int .u64 x, .int .u64 y] w fun e w' => e = .returned (.int .u64 (if y = 0 then 18446744073709551615 else x / y)) ∧ w' = w := by
  by_cases h : y = 0
  · subst h
    rw [if_pos rfl]
    go_enter Try.func30, Try.ntmps30
    go_wp2
    go_ret
    exact ⟨rfl, rfl⟩
  · rw [if_neg h]
    go_enter Try.func30, Try.ntmps30
    go_wp2
    go_ret
    exact ⟨rfl, rfl⟩
theorem rem_i64 (x y : Int) (hx : -9223372036854775808 ≤ x) (hx2 : x ≤ 9223372036854775807) (hy : -9223372036854775808 ≤ y) (hy2 : y ≤ 9223372036854775807) (w : World) : Calls Try.prog 31 #[.int .i64 x, .int .i64 y] w fun e w' => e = .returned (.int .i64 (if y = 0 then x else x.tmod y)) ∧ w' = w := by
  by_cases h : y = 0
  · subst h
    rw [if_pos rfl]
    go_enter Try.func31, Try.ntmps31
    go_wp2
    go_ret
    exact ⟨rfl, rfl⟩
  · rw [if_neg h]
    go_enter Try.func31, Try.ntmps31
    go_wp2
    go_ret
    exact ⟨rfl, rfl⟩
theorem rem_u64 (x y : Int) (hx : 0 ≤ x) (hx2 : x ≤ 18446744073709551615) (hy : 0 ≤ y) (hy2 : y ≤ 18446744073709551615) (w : World) : Calls Try.prog 32 #[.int .u64 x, .int .u64 y] w fun e w' => e = .returned (.int .u64 (if y = 0 then x else x % y)) ∧ w' = w := by
  by_cases h : y = 0
  · subst h
    rw [if_pos rfl]
    go_enter Try.func32, Try.ntmps32
    go_wp2
    go_ret
    exact ⟨rfl, rfl⟩
  · rw [if_neg h]
    go_enter Try.func32, Try.ntmps32
    go_wp2
    go_ret
    exact ⟨rfl, rfl⟩
theorem quo_i32 (x y : Int) (hx : -2147483648 ≤ x) (hx2 : x ≤ 2147483647) (hy : -2147483648 ≤ y) (hy2 : y ≤ 2147483647) (w : World) : Calls Try.prog 33 #[.int .i32 x, .int .i32 y] w fun e w' => e = .returned (.int .i32 (if y = 0 then -1 else wrap32 (x.tdiv y))) ∧ w' = w := by
  by_cases h : y = 0
  · subst h
    rw [if_pos rfl]
    go_enter Try.func33, Try.ntmps33
    go_wp2
    go_ret
    exact ⟨rfl, rfl⟩
  · rw [if_neg h]
    go_enter Try.func33, Try.ntmps33
    go_wp2
    go_ret
    exact ⟨rfl, rfl⟩
theorem quo_u32 (x y : Int) (hx : 0 ≤ x) (hx2 : x ≤ 4294967295) (hy : 0 ≤ y) (hy2 : y ≤ 4294967295) (w : World) : Calls Try.prog 34 #[.int .u32 x, .int .u32 y] w fun e w' => e = .returned (.int .u32 (if y = 0 then 4294967295 else x / y)) ∧ w' = w := by
  by_cases h : y = 0
  · subst h
    rw [if_pos rfl]
    go_enter Try.func34, Try.ntmps34
    go_wp2
    go_ret
    exact ⟨rfl, rfl⟩
  · rw [if_neg h]
    go_enter Try.func34, Try.ntmps34
    go_wp2
    go_ret
    exact ⟨rfl, rfl⟩
theorem rem_i32 (x y : Int) (hx : -2147483648 ≤ x) (hx2 : x ≤ 2147483647) (hy : -2147483648 ≤ y) (hy2 : y ≤ 2147483647) (w : World) : Calls Try.prog 35 #[.int .i32 x, .int .i32 y] w fun e w' => e = .returned (.int .i32 (if y = 0 then x else x.tmod y)) ∧ w' = w := by
  by_cases h : y = 0
  · subst h
    rw [if_pos rfl]
    go_enter Try.func35, Try.ntmps35
    go_wp2
    go_ret
    exact ⟨rfl, rfl⟩
  · rw [if_neg h]
    go_enter Try.func35, Try.ntmps35
    go_wp2
    go_ret
    exact ⟨rfl, rfl⟩
theorem rem_u32 (x y : Int) (hx : 0 ≤ x) (hx2 : x ≤ 4294967295) (hy : 0 ≤ y) (hy2 : y ≤ 4294967295) (w : World) : Calls Try.prog 36 #[.int .u32 x, .int .u32 y] w fun e w' => e = .returned (.int .u32 (if y = 0 then x else x % y)) ∧ w' = w := by
  by_cases h : y = 0
  · subst h
    rw [if_pos rfl]
    go_enter Try.func36, Try.ntmps36
    go_wp2
    go_ret
    exact ⟨rfl, rfl⟩
  · rw [if_neg h]
    go_enter Try.func36, Try.ntmps36
    go_wp2
    go_ret
    exact ⟨rfl, rfl⟩
end Go.Proofs.Ytdejnlblcokldaa
