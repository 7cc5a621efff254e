/- The calls oneIf, whole and half of layer 5 come to plain numbers. -/
import Derived.Test.YtgaihgniommhiaaSx
import Derived.Laws.BitsAllLaws
namespace Go.Proofs.Ytgaihgniommhiaa
open Go.RowKit
set_option linter.unusedVariables false
set_option linter.unusedSimpArgs false
theorem ret_tup {a b c d : Value} (h : a = c) (k : b = d) : Ending.returned (.tuple #[a, b]) = .returned (.tuple #[c, d]) := by rw [h, k]
theorem ret_two {k : IntKind} {a b : Int} {c d : Bool} (h : a = b) (g : c = d) : Ending.returned (.tuple #[.int k a, .bool c]) = .returned (.tuple #[.int k b, .bool d]) := by rw [h, g]
/-- a word as a number with its sign -/
def numI (a : Nat) : Int := if a < 9223372036854775808 then (a : Int) else (a : Int) - 18446744073709551616
theorem numI_eq (a : Nat) (h : a < 18446744073709551616) : wrap64 (a : Int) = numI a := wrap64_val a h
def num32 (a : Nat) : Int := if a < 2147483648 then (a : Int) else (a : Int) - 4294967296
theorem num32_eq (a : Nat) (h : a < 4294967296) : IntKind.i32.wrap (a : Int) = num32 a := by
  unfold num32; simp [IntKind.wrap, IntKind.signed, IntKind.bits]; split <;> omega
theorem and63 (b : Nat) (hb : b < 18446744073709551616) : bits .and .u64 (b : Int) 63 = ((b % 64 : Nat) : Int) := by
  have := bits_and_u64_nat b 63 hb (by decide)
  rw [show (63 : Nat) = 2 ^ 6 - 1 from rfl, Nat.and_two_pow_sub_one_eq_mod] at this
  exact this
def sraN (a n : Nat) : Nat := if a < 9223372036854775808 then a / 2 ^ n else 2 ^ (64 - n) * (2 ^ n - 1) + a / 2 ^ n
theorem sra_num (a n : Nat) (ha : a < 18446744073709551616) (hn : n < 64) : IntKind.u64.wrap (numI a / 2 ^ n) = ((sraN a n : Nat) : Int) := by
  unfold numI sraN
  have hp : 0 < 2 ^ n := Nat.two_pow_pos n
  have hpq : 2 ^ (64 - n) * 2 ^ n = 18446744073709551616 := by rw [← Nat.pow_add, show 64 - n + n = 64 from by omega]
  have ep : ((2 : Int) ^ n) = ((2 ^ n : Nat) : Int) := by simp
  have hle : a / 2 ^ n ≤ a := Nat.div_le_self _ _
  rw [ep]
  split
  · rw [wrap_u64, ← Int.natCast_ediv]; generalize a / 2 ^ n = r at *; omega
  · have h1 : ((a : Int) - 18446744073709551616) / ((2 ^ n : Nat) : Int) = ((a / 2 ^ n : Nat) : Int) - ((2 ^ (64 - n) : Nat) : Int) := by
      have e : (a : Int) - 18446744073709551616 = (a : Int) + (-((2 ^ (64 - n) : Nat) : Int)) * ((2 ^ n : Nat) : Int) := by
        have := congrArg (fun z : Nat => (z : Int)) hpq
        simp only [Int.natCast_mul] at this
        rw [Int.neg_mul, this]; rfl
      rw [e, Int.add_mul_ediv_right _ _ (by omega)]
      simp; omega
    rw [h1, wrap_u64]
    have hmul : 2 ^ (64 - n) * (2 ^ n - 1) = 18446744073709551616 - 2 ^ (64 - n) := by rw [Nat.mul_sub, hpq]; simp
    have hlt : a / 2 ^ n < 2 ^ (64 - n) := by
      rw [Nat.div_lt_iff_lt_mul hp]; omega
    have hq : 2 ^ (64 - n) ≤ 18446744073709551616 := by rw [← hpq]; exact Nat.le_mul_of_pos_right _ hp
    rw [hmul]
    generalize 2 ^ (64 - n) = q at *
    generalize a / 2 ^ n = r at *
    omega
theorem sll_num (a n : Nat) : IntKind.u64.wrap ((a : Int) * 2 ^ n) = ((a * 2 ^ n % 18446744073709551616 : Nat) : Int) := by
  rw [wrap_u64]; simp
def flagN (c : Bool) : Nat := if c then 1 else 0
theorem oneif_any (c : Bool) (w : World) : Calls Try.prog 27 #[.bool c] w fun e w' => e = .returned (.int .u64 ((flagN c : Nat) : Int)) ∧ w' = w := by
  cases c
  · go_enter Try.func27, Try.ntmps27
    go_wp2
    go_ret
    exact ⟨rfl, rfl⟩
  · go_enter Try.func27, Try.ntmps27
    go_wp2
    go_ret
    exact ⟨rfl, rfl⟩
theorem whole_31 (a b : Nat) (ha : a < 18446744073709551616) (hb : b < 18446744073709551616) (w : World) : Calls Try.prog 16 #[.int .i64 31, .int .u64 (a : Int), .int .u64 (b : Int)] w fun e w' => e = .returned (.tuple #[.int .u64 (((a + b) % 18446744073709551616 : Nat) : Int), .bool true]) ∧ w' = w := by
  have hn : bits .and .u64 (b : Int) 63 = ((b % 64 : Nat) : Int) := and63 b hb
  have hn64 : b % 64 < 64 := Nat.mod_lt _ (by decide)
  have HV : Hid _ := wrap_u64 ((a : Int) + b)
  go_enter Try.func16, Try.ntmps16
  go_wp2
  go_ret2
  exact ⟨ret_two (by first | omega | (rw [HV.out]; omega)) rfl, rfl⟩
theorem whole_22 (a b : Nat) (ha : a < 18446744073709551616) (hb : b < 18446744073709551616) (w : World) : Calls Try.prog 16 #[.int .i64 22, .int .u64 (a : Int), .int .u64 (b : Int)] w fun e w' => e = .returned (.tuple #[.int .u64 (((a + b) % 18446744073709551616 : Nat) : Int), .bool true]) ∧ w' = w := by
  have hn : bits .and .u64 (b : Int) 63 = ((b % 64 : Nat) : Int) := and63 b hb
  have hn64 : b % 64 < 64 := Nat.mod_lt _ (by decide)
  have HV : Hid _ := wrap_u64 ((a : Int) + b)
  go_enter Try.func16, Try.ntmps16
  go_wp2
  go_ret2
  exact ⟨ret_two (by first | omega | (rw [HV.out]; omega)) rfl, rfl⟩
theorem whole_32 (a b : Nat) (ha : a < 18446744073709551616) (hb : b < 18446744073709551616) (w : World) : Calls Try.prog 16 #[.int .i64 32, .int .u64 (a : Int), .int .u64 (b : Int)] w fun e w' => e = .returned (.tuple #[.int .u64 (((a + 18446744073709551616 - b) % 18446744073709551616 : Nat) : Int), .bool true]) ∧ w' = w := by
  have hn : bits .and .u64 (b : Int) 63 = ((b % 64 : Nat) : Int) := and63 b hb
  have hn64 : b % 64 < 64 := Nat.mod_lt _ (by decide)
  have HV : Hid _ := wrap_u64 ((a : Int) - b)
  go_enter Try.func16, Try.ntmps16
  go_wp2
  go_ret2
  exact ⟨ret_two (by rw [HV.out]; omega) rfl, rfl⟩
theorem whole_33 (a b : Nat) (ha : a < 18446744073709551616) (hb : b < 18446744073709551616) (w : World) : Calls Try.prog 16 #[.int .i64 33, .int .u64 (a : Int), .int .u64 (b : Int)] w fun e w' => e = .returned (.tuple #[.int .u64 ((a * 2 ^ (b % 64) % 18446744073709551616 : Nat) : Int), .bool true]) ∧ w' = w := by
  have hn : bits .and .u64 (b : Int) 63 = ((b % 64 : Nat) : Int) := and63 b hb
  have hn64 : b % 64 < 64 := Nat.mod_lt _ (by decide)
  obtain ⟨n, hnn⟩ : ∃ n, b % 64 = n := ⟨_, rfl⟩
  rw [hnn] at hn hn64 ⊢
  clear hnn
  have hn0 : (n : Int) < 64 := by omega
  have HV : Hid _ := sll_num a n
  go_enter Try.func16, Try.ntmps16
  go_wp2
  go_ret2
  exact ⟨ret_two (by first | exact HV.out | (rw [← HV.out])) rfl, rfl⟩
theorem whole_28 (a b : Nat) (ha : a < 18446744073709551616) (hb : b < 18446744073709551616) (w : World) : Calls Try.prog 16 #[.int .i64 28, .int .u64 (a : Int), .int .u64 (b : Int)] w fun e w' => e = .returned (.tuple #[.int .u64 ((a * 2 ^ (b % 64) % 18446744073709551616 : Nat) : Int), .bool true]) ∧ w' = w := by
  have hn : bits .and .u64 (b : Int) 63 = ((b % 64 : Nat) : Int) := and63 b hb
  have hn64 : b % 64 < 64 := Nat.mod_lt _ (by decide)
  obtain ⟨n, hnn⟩ : ∃ n, b % 64 = n := ⟨_, rfl⟩
  rw [hnn] at hn hn64 ⊢
  clear hnn
  have hn0 : (n : Int) < 64 := by omega
  have HV : Hid _ := sll_num a n
  go_enter Try.func16, Try.ntmps16
  go_wp2
  go_ret2
  exact ⟨ret_two (by first | exact HV.out | (rw [← HV.out])) rfl, rfl⟩
theorem whole_37 (a b : Nat) (ha : a < 18446744073709551616) (hb : b < 18446744073709551616) (w : World) : Calls Try.prog 16 #[.int .i64 37, .int .u64 (a : Int), .int .u64 (b : Int)] w fun e w' => e = .returned (.tuple #[.int .u64 ((a / 2 ^ (b % 64) : Nat) : Int), .bool true]) ∧ w' = w := by
  have hn : bits .and .u64 (b : Int) 63 = ((b % 64 : Nat) : Int) := and63 b hb
  have hn64 : b % 64 < 64 := Nat.mod_lt _ (by decide)
  obtain ⟨n, hnn⟩ : ∃ n, b % 64 = n := ⟨_, rfl⟩
  rw [hnn] at hn hn64 ⊢
  clear hnn
  have hn0 : (n : Int) < 64 := by omega
  go_enter Try.func16, Try.ntmps16
  go_wp2
  go_ret2
  exact ⟨ret_two (by simp) rfl, rfl⟩
theorem whole_29 (a b : Nat) (ha : a < 18446744073709551616) (hb : b < 18446744073709551616) (w : World) : Calls Try.prog 16 #[.int .i64 29, .int .u64 (a : Int), .int .u64 (b : Int)] w fun e w' => e = .returned (.tuple #[.int .u64 ((a / 2 ^ (b % 64) : Nat) : Int), .bool true]) ∧ w' = w := by
  have hn : bits .and .u64 (b : Int) 63 = ((b % 64 : Nat) : Int) := and63 b hb
  have hn64 : b % 64 < 64 := Nat.mod_lt _ (by decide)
  obtain ⟨n, hnn⟩ : ∃ n, b % 64 = n := ⟨_, rfl⟩
  rw [hnn] at hn hn64 ⊢
  clear hnn
  have hn0 : (n : Int) < 64 := by omega
  go_enter Try.func16, Try.ntmps16
  go_wp2
  go_ret2
  exact ⟨ret_two (by simp) rfl, rfl⟩
theorem whole_38 (a b : Nat) (ha : a < 18446744073709551616) (hb : b < 18446744073709551616) (w : World) : Calls Try.prog 16 #[.int .i64 38, .int .u64 (a : Int), .int .u64 (b : Int)] w fun e w' => e = .returned (.tuple #[.int .u64 ((sraN a (b % 64) : Nat) : Int), .bool true]) ∧ w' = w := by
  have hn : bits .and .u64 (b : Int) 63 = ((b % 64 : Nat) : Int) := and63 b hb
  have hn64 : b % 64 < 64 := Nat.mod_lt _ (by decide)
  obtain ⟨n, hnn⟩ : ∃ n, b % 64 = n := ⟨_, rfl⟩
  rw [hnn] at hn hn64 ⊢
  clear hnn
  have hn0 : (n : Int) < 64 := by omega
  have HV : Hid _ := sra_num a n ha (by omega)
  have hw := numI_eq a ha
  go_enter Try.func16, Try.ntmps16
  go_wp2
  go_ret2
  exact ⟨ret_two (by rw [← HV.out]) rfl, rfl⟩
theorem whole_30 (a b : Nat) (ha : a < 18446744073709551616) (hb : b < 18446744073709551616) (w : World) : Calls Try.prog 16 #[.int .i64 30, .int .u64 (a : Int), .int .u64 (b : Int)] w fun e w' => e = .returned (.tuple #[.int .u64 ((sraN a (b % 64) : Nat) : Int), .bool true]) ∧ w' = w := by
  have hn : bits .and .u64 (b : Int) 63 = ((b % 64 : Nat) : Int) := and63 b hb
  have hn64 : b % 64 < 64 := Nat.mod_lt _ (by decide)
  obtain ⟨n, hnn⟩ : ∃ n, b % 64 = n := ⟨_, rfl⟩
  rw [hnn] at hn hn64 ⊢
  clear hnn
  have hn0 : (n : Int) < 64 := by omega
  have HV : Hid _ := sra_num a n ha (by omega)
  have hw := numI_eq a ha
  go_enter Try.func16, Try.ntmps16
  go_wp2
  go_ret2
  exact ⟨ret_two (by rw [← HV.out]) rfl, rfl⟩
theorem whole_34 (a b : Nat) (ha : a < 18446744073709551616) (hb : b < 18446744073709551616) (w : World) : Calls Try.prog 16 #[.int .i64 34, .int .u64 (a : Int), .int .u64 (b : Int)] w fun e w' => e = .returned (.tuple #[.int .u64 ((flagN (decide (numI a < numI b)) : Nat) : Int), .bool true]) ∧ w' = w := by
  have hn : bits .and .u64 (b : Int) 63 = ((b % 64 : Nat) : Int) := and63 b hb
  have hn64 : b % 64 < 64 := Nat.mod_lt _ (by decide)
  have hw := numI_eq a ha
  have hw2 := numI_eq b hb
  have hc : ∀ c w, Calls Try.prog 27 #[.bool c] w fun e w' => e = .returned (.int .u64 ((flagN c : Nat) : Int)) ∧ w' = w := oneif_any
  generalize numI a = na at *
  generalize numI b = nb at *
  go_enter Try.func16, Try.ntmps16
  go_wp2_with (go_at_call 27; refine (hc _ _).mono ?_; rintro e w' ⟨rfl, rfl⟩)
  go_ret2
  exact ⟨rfl, rfl⟩
theorem whole_23 (a b : Nat) (ha : a < 18446744073709551616) (hb : b < 18446744073709551616) (w : World) : Calls Try.prog 16 #[.int .i64 23, .int .u64 (a : Int), .int .u64 (b : Int)] w fun e w' => e = .returned (.tuple #[.int .u64 ((flagN (decide (numI a < numI b)) : Nat) : Int), .bool true]) ∧ w' = w := by
  have hn : bits .and .u64 (b : Int) 63 = ((b % 64 : Nat) : Int) := and63 b hb
  have hn64 : b % 64 < 64 := Nat.mod_lt _ (by decide)
  have hw := numI_eq a ha
  have hw2 := numI_eq b hb
  have hc : ∀ c w, Calls Try.prog 27 #[.bool c] w fun e w' => e = .returned (.int .u64 ((flagN c : Nat) : Int)) ∧ w' = w := oneif_any
  generalize numI a = na at *
  generalize numI b = nb at *
  go_enter Try.func16, Try.ntmps16
  go_wp2_with (go_at_call 27; refine (hc _ _).mono ?_; rintro e w' ⟨rfl, rfl⟩)
  go_ret2
  exact ⟨rfl, rfl⟩
theorem whole_35 (a b : Nat) (ha : a < 18446744073709551616) (hb : b < 18446744073709551616) (w : World) : Calls Try.prog 16 #[.int .i64 35, .int .u64 (a : Int), .int .u64 (b : Int)] w fun e w' => e = .returned (.tuple #[.int .u64 ((flagN (decide (a < b)) : Nat) : Int), .bool true]) ∧ w' = w := by
  have hn : bits .and .u64 (b : Int) 63 = ((b % 64 : Nat) : Int) := and63 b hb
  have hn64 : b % 64 < 64 := Nat.mod_lt _ (by decide)
  go_enter Try.func16, Try.ntmps16
  go_wp2_with (go_at_call 27; refine (oneif_any _ _).mono ?_; rintro e w' ⟨rfl, rfl⟩)
  go_ret2
  exact ⟨ret_two (by simp) rfl, rfl⟩
theorem whole_24 (a b : Nat) (ha : a < 18446744073709551616) (hb : b < 18446744073709551616) (w : World) : Calls Try.prog 16 #[.int .i64 24, .int .u64 (a : Int), .int .u64 (b : Int)] w fun e w' => e = .returned (.tuple #[.int .u64 ((flagN (decide (a < b)) : Nat) : Int), .bool true]) ∧ w' = w := by
  have hn : bits .and .u64 (b : Int) 63 = ((b % 64 : Nat) : Int) := and63 b hb
  have hn64 : b % 64 < 64 := Nat.mod_lt _ (by decide)
  go_enter Try.func16, Try.ntmps16
  go_wp2_with (go_at_call 27; refine (oneif_any _ _).mono ?_; rintro e w' ⟨rfl, rfl⟩)
  go_ret2
  exact ⟨ret_two (by simp) rfl, rfl⟩
theorem whole_36 (a b : Nat) (ha : a < 18446744073709551616) (hb : b < 18446744073709551616) (w : World) : Calls Try.prog 16 #[.int .i64 36, .int .u64 (a : Int), .int .u64 (b : Int)] w fun e w' => e = .returned (.tuple #[.int .u64 ((a ^^^ b : Nat) : Int), .bool true]) ∧ w' = w := by
  have hn : bits .and .u64 (b : Int) 63 = ((b % 64 : Nat) : Int) := and63 b hb
  have hn64 : b % 64 < 64 := Nat.mod_lt _ (by decide)
  have HV : Hid _ := bits_xor_u64_nat a b ha hb
  go_enter Try.func16, Try.ntmps16
  go_wp2
  go_ret2
  exact ⟨ret_two (by first | exact HV.out | (rw [HV.out])) rfl, rfl⟩
theorem whole_25 (a b : Nat) (ha : a < 18446744073709551616) (hb : b < 18446744073709551616) (w : World) : Calls Try.prog 16 #[.int .i64 25, .int .u64 (a : Int), .int .u64 (b : Int)] w fun e w' => e = .returned (.tuple #[.int .u64 ((a ^^^ b : Nat) : Int), .bool true]) ∧ w' = w := by
  have hn : bits .and .u64 (b : Int) 63 = ((b % 64 : Nat) : Int) := and63 b hb
  have hn64 : b % 64 < 64 := Nat.mod_lt _ (by decide)
  have HV : Hid _ := bits_xor_u64_nat a b ha hb
  go_enter Try.func16, Try.ntmps16
  go_wp2
  go_ret2
  exact ⟨ret_two (by first | exact HV.out | (rw [HV.out])) rfl, rfl⟩
theorem whole_39 (a b : Nat) (ha : a < 18446744073709551616) (hb : b < 18446744073709551616) (w : World) : Calls Try.prog 16 #[.int .i64 39, .int .u64 (a : Int), .int .u64 (b : Int)] w fun e w' => e = .returned (.tuple #[.int .u64 ((a ||| b : Nat) : Int), .bool true]) ∧ w' = w := by
  have hn : bits .and .u64 (b : Int) 63 = ((b % 64 : Nat) : Int) := and63 b hb
  have hn64 : b % 64 < 64 := Nat.mod_lt _ (by decide)
  have HV : Hid _ := bits_or_u64_nat a b ha hb
  go_enter Try.func16, Try.ntmps16
  go_wp2
  go_ret2
  exact ⟨ret_two (by first | exact HV.out | (rw [HV.out])) rfl, rfl⟩
theorem whole_26 (a b : Nat) (ha : a < 18446744073709551616) (hb : b < 18446744073709551616) (w : World) : Calls Try.prog 16 #[.int .i64 26, .int .u64 (a : Int), .int .u64 (b : Int)] w fun e w' => e = .returned (.tuple #[.int .u64 ((a ||| b : Nat) : Int), .bool true]) ∧ w' = w := by
  have hn : bits .and .u64 (b : Int) 63 = ((b % 64 : Nat) : Int) := and63 b hb
  have hn64 : b % 64 < 64 := Nat.mod_lt _ (by decide)
  have HV : Hid _ := bits_or_u64_nat a b ha hb
  go_enter Try.func16, Try.ntmps16
  go_wp2
  go_ret2
  exact ⟨ret_two (by first | exact HV.out | (rw [HV.out])) rfl, rfl⟩
theorem whole_40 (a b : Nat) (ha : a < 18446744073709551616) (hb : b < 18446744073709551616) (w : World) : Calls Try.prog 16 #[.int .i64 40, .int .u64 (a : Int), .int .u64 (b : Int)] w fun e w' => e = .returned (.tuple #[.int .u64 ((a &&& b : Nat) : Int), .bool true]) ∧ w' = w := by
  have hn : bits .and .u64 (b : Int) 63 = ((b % 64 : Nat) : Int) := and63 b hb
  have hn64 : b % 64 < 64 := Nat.mod_lt _ (by decide)
  have HV : Hid _ := bits_and_u64_nat a b ha hb
  go_enter Try.func16, Try.ntmps16
  go_wp2
  go_ret2
  exact ⟨ret_two (by first | exact HV.out | (rw [HV.out])) rfl, rfl⟩
theorem whole_27 (a b : Nat) (ha : a < 18446744073709551616) (hb : b < 18446744073709551616) (w : World) : Calls Try.prog 16 #[.int .i64 27, .int .u64 (a : Int), .int .u64 (b : Int)] w fun e w' => e = .returned (.tuple #[.int .u64 ((a &&& b : Nat) : Int), .bool true]) ∧ w' = w := by
  have hn : bits .and .u64 (b : Int) 63 = ((b % 64 : Nat) : Int) := and63 b hb
  have hn64 : b % 64 < 64 := Nat.mod_lt _ (by decide)
  have HV : Hid _ := bits_and_u64_nat a b ha hb
  go_enter Try.func16, Try.ntmps16
  go_wp2
  go_ret2
  exact ⟨ret_two (by first | exact HV.out | (rw [HV.out])) rfl, rfl⟩
theorem whole_no (op : Int) (h31 : ¬ op = 31) (h22 : ¬ op = 22) (h32 : ¬ op = 32) (h33 : ¬ op = 33) (h28 : ¬ op = 28) (h37 : ¬ op = 37) (h29 : ¬ op = 29) (h38 : ¬ op = 38) (h30 : ¬ op = 30) (h34 : ¬ op = 34) (h23 : ¬ op = 23) (h35 : ¬ op = 35) (h24 : ¬ op = 24) (h36 : ¬ op = 36) (h25 : ¬ op = 25) (h39 : ¬ op = 39) (h26 : ¬ op = 26) (h40 : ¬ op = 40) (h27 : ¬ op = 27) (a b : Nat) (ha : a < 18446744073709551616) (hb : b < 18446744073709551616) (w : World) : Calls Try.prog 16 #[.int .i64 op, .int .u64 (a : Int), .int .u64 (b : Int)] w fun e w' => e = .returned (.tuple #[.int .u64 0, .bool false]) ∧ w' = w := by
  have hn : bits .and .u64 (b : Int) 63 = ((b % 64 : Nat) : Int) := and63 b hb
  go_enter Try.func16, Try.ntmps16
  go_wp2
  go_ret2
  exact ⟨rfl, rfl⟩
end Go.Proofs.Ytgaihgniommhiaa
