/- The calls half and Do of layer 5 come to plain numbers. -/
import Derived.Test.YtgaihgniommhiaaWhole
import Derived.Laws.Bits64b
namespace Go.Proofs.Ytgaihgniommhiaa
open Go.RowKit
set_option linter.unusedVariables false
set_option linter.unusedSimpArgs false
theorem wrap_u32 (x : Int) : IntKind.u32.wrap x = x % 4294967296 := by simp [IntKind.wrap, IntKind.signed, IntKind.bits]
theorem and31 (b : Nat) (hb : b < 4294967296) : bits .and .u32 (b : Int) 31 = ((b % 32 : Nat) : Int) := by
  have h1 : (BitVec.ofInt 32 (b : Int)).toNat = b := by rw [BitVec.ofInt_natCast, BitVec.toNat_ofNat]; exact Nat.mod_eq_of_lt (by omega)
  show IntKind.u32.wrap ((BitVec.ofInt 32 (b : Int) &&& BitVec.ofInt 32 31).toNat : Int) = _
  rw [BitVec.toNat_and, h1, wrap_u32, show (BitVec.ofInt 32 31).toNat = 2 ^ 5 - 1 from by decide, Nat.and_two_pow_sub_one_eq_mod]
  omega
def sra32N (a n : Nat) : Nat := if a < 2147483648 then a / 2 ^ n else 2 ^ (32 - n) * (2 ^ n - 1) + a / 2 ^ n
theorem sra32_num (a n : Nat) (ha : a < 4294967296) (hn : n < 32) : IntKind.u32.wrap (num32 a / 2 ^ n) = ((sra32N a n : Nat) : Int) := by
  unfold num32 sra32N
  have hp : 0 < 2 ^ n := Nat.two_pow_pos n
  have hpq : 2 ^ (32 - n) * 2 ^ n = 4294967296 := by rw [← Nat.pow_add, show 32 - n + n = 32 from by omega]
  have ep : ((2 : Int) ^ n) = ((2 ^ n : Nat) : Int) := by simp
  have hle : a / 2 ^ n ≤ a := Nat.div_le_self _ _
  rw [ep]
  split
  · rw [wrap_u32, ← Int.natCast_ediv]; generalize a / 2 ^ n = r at *; omega
  · have h1 : ((a : Int) - 4294967296) / ((2 ^ n : Nat) : Int) = ((a / 2 ^ n : Nat) : Int) - ((2 ^ (32 - n) : Nat) : Int) := by
      have e : (a : Int) - 4294967296 = (a : Int) + (-((2 ^ (32 - n) : Nat) : Int)) * ((2 ^ n : Nat) : Int) := by
        have := congrArg (fun z : Nat => (z : Int)) hpq
        simp only [Int.natCast_mul] at this
        rw [Int.neg_mul, this]; rfl
      rw [e, Int.add_mul_ediv_right _ _ (by omega)]
      simp; omega
    rw [h1, wrap_u32]
    have hmul : 2 ^ (32 - n) * (2 ^ n - 1) = 4294967296 - 2 ^ (32 - n) := by rw [Nat.mul_sub, hpq]; simp
    have hlt : a / 2 ^ n < 2 ^ (32 - n) := by
      rw [Nat.div_lt_iff_lt_mul hp]; omega
    have hq : 2 ^ (32 - n) ≤ 4294967296 := by rw [← hpq]; exact Nat.le_mul_of_pos_right _ hp
    rw [hmul]
    generalize 2 ^ (32 - n) = q at *
    generalize a / 2 ^ n = r at *
    omega
theorem sll32_num (a n : Nat) : IntKind.u32.wrap ((a : Int) * 2 ^ n) = ((a * 2 ^ n % 4294967296 : Nat) : Int) := by
  rw [wrap_u32]; simp
theorem half_45 (a b : Nat) (ha : a < 4294967296) (hb : b < 4294967296) (w : World) : Calls Try.prog 17 #[.int .i64 45, .int .u32 (a : Int), .int .u32 (b : Int)] w fun e w' => e = .returned (.tuple #[.int .u32 (((a + b) % 4294967296 : Nat) : Int), .bool true]) ∧ w' = w := by
  have hn : bits .and .u32 (b : Int) 31 = ((b % 32 : Nat) : Int) := and31 b hb
  have hn64 : b % 32 < 32 := Nat.mod_lt _ (by decide)
  have HV : Hid _ := wrap_u32 ((a : Int) + b)
  go_enter Try.func17, Try.ntmps17
  go_wp2
  go_ret2
  exact ⟨ret_two (by first | omega | (rw [HV.out]; omega)) rfl, rfl⟩
theorem half_41 (a b : Nat) (ha : a < 4294967296) (hb : b < 4294967296) (w : World) : Calls Try.prog 17 #[.int .i64 41, .int .u32 (a : Int), .int .u32 (b : Int)] w fun e w' => e = .returned (.tuple #[.int .u32 (((a + b) % 4294967296 : Nat) : Int), .bool true]) ∧ w' = w := by
  have hn : bits .and .u32 (b : Int) 31 = ((b % 32 : Nat) : Int) := and31 b hb
  have hn64 : b % 32 < 32 := Nat.mod_lt _ (by decide)
  have HV : Hid _ := wrap_u32 ((a : Int) + b)
  go_enter Try.func17, Try.ntmps17
  go_wp2
  go_ret2
  exact ⟨ret_two (by first | omega | (rw [HV.out]; omega)) rfl, rfl⟩
theorem half_46 (a b : Nat) (ha : a < 4294967296) (hb : b < 4294967296) (w : World) : Calls Try.prog 17 #[.int .i64 46, .int .u32 (a : Int), .int .u32 (b : Int)] w fun e w' => e = .returned (.tuple #[.int .u32 (((a + 4294967296 - b) % 4294967296 : Nat) : Int), .bool true]) ∧ w' = w := by
  have hn : bits .and .u32 (b : Int) 31 = ((b % 32 : Nat) : Int) := and31 b hb
  have hn64 : b % 32 < 32 := Nat.mod_lt _ (by decide)
  have HV : Hid _ := wrap_u32 ((a : Int) - b)
  go_enter Try.func17, Try.ntmps17
  go_wp2
  go_ret2
  exact ⟨ret_two (by first | omega | (rw [HV.out]; omega)) rfl, rfl⟩
theorem half_47 (a b : Nat) (ha : a < 4294967296) (hb : b < 4294967296) (w : World) : Calls Try.prog 17 #[.int .i64 47, .int .u32 (a : Int), .int .u32 (b : Int)] w fun e w' => e = .returned (.tuple #[.int .u32 ((a * 2 ^ (b % 32) % 4294967296 : Nat) : Int), .bool true]) ∧ w' = w := by
  have hn : bits .and .u32 (b : Int) 31 = ((b % 32 : Nat) : Int) := and31 b hb
  have hn64 : b % 32 < 32 := Nat.mod_lt _ (by decide)
  obtain ⟨n, hnn⟩ : ∃ n, b % 32 = n := ⟨_, rfl⟩
  rw [hnn] at hn hn64 ⊢
  clear hnn
  have hn0 : (n : Int) < 32 := by omega
  have HV : Hid _ := sll32_num a n
  go_enter Try.func17, Try.ntmps17
  go_wp2
  go_ret2
  exact ⟨ret_two (by first | exact HV.out | (rw [← HV.out])) rfl, rfl⟩
theorem half_42 (a b : Nat) (ha : a < 4294967296) (hb : b < 4294967296) (w : World) : Calls Try.prog 17 #[.int .i64 42, .int .u32 (a : Int), .int .u32 (b : Int)] w fun e w' => e = .returned (.tuple #[.int .u32 ((a * 2 ^ (b % 32) % 4294967296 : Nat) : Int), .bool true]) ∧ w' = w := by
  have hn : bits .and .u32 (b : Int) 31 = ((b % 32 : Nat) : Int) := and31 b hb
  have hn64 : b % 32 < 32 := Nat.mod_lt _ (by decide)
  obtain ⟨n, hnn⟩ : ∃ n, b % 32 = n := ⟨_, rfl⟩
  rw [hnn] at hn hn64 ⊢
  clear hnn
  have hn0 : (n : Int) < 32 := by omega
  have HV : Hid _ := sll32_num a n
  go_enter Try.func17, Try.ntmps17
  go_wp2
  go_ret2
  exact ⟨ret_two (by first | exact HV.out | (rw [← HV.out])) rfl, rfl⟩
theorem half_48 (a b : Nat) (ha : a < 4294967296) (hb : b < 4294967296) (w : World) : Calls Try.prog 17 #[.int .i64 48, .int .u32 (a : Int), .int .u32 (b : Int)] w fun e w' => e = .returned (.tuple #[.int .u32 ((a / 2 ^ (b % 32) : Nat) : Int), .bool true]) ∧ w' = w := by
  have hn : bits .and .u32 (b : Int) 31 = ((b % 32 : Nat) : Int) := and31 b hb
  have hn64 : b % 32 < 32 := Nat.mod_lt _ (by decide)
  obtain ⟨n, hnn⟩ : ∃ n, b % 32 = n := ⟨_, rfl⟩
  rw [hnn] at hn hn64 ⊢
  clear hnn
  have hn0 : (n : Int) < 32 := by omega
  go_enter Try.func17, Try.ntmps17
  go_wp2
  go_ret2
  exact ⟨ret_two (by simp) rfl, rfl⟩
theorem half_43 (a b : Nat) (ha : a < 4294967296) (hb : b < 4294967296) (w : World) : Calls Try.prog 17 #[.int .i64 43, .int .u32 (a : Int), .int .u32 (b : Int)] w fun e w' => e = .returned (.tuple #[.int .u32 ((a / 2 ^ (b % 32) : Nat) : Int), .bool true]) ∧ w' = w := by
  have hn : bits .and .u32 (b : Int) 31 = ((b % 32 : Nat) : Int) := and31 b hb
  have hn64 : b % 32 < 32 := Nat.mod_lt _ (by decide)
  obtain ⟨n, hnn⟩ : ∃ n, b % 32 = n := ⟨_, rfl⟩
  rw [hnn] at hn hn64 ⊢
  clear hnn
  have hn0 : (n : Int) < 32 := by omega
  go_enter Try.func17, Try.ntmps17
  go_wp2
  go_ret2
  exact ⟨ret_two (by simp) rfl, rfl⟩
theorem half_49 (a b : Nat) (ha : a < 4294967296) (hb : b < 4294967296) (w : World) : Calls Try.prog 17 #[.int .i64 49, .int .u32 (a : Int), .int .u32 (b : Int)] w fun e w' => e = .returned (.tuple #[.int .u32 ((sra32N a (b % 32) : Nat) : Int), .bool true]) ∧ w' = w := by
  have hn : bits .and .u32 (b : Int) 31 = ((b % 32 : Nat) : Int) := and31 b hb
  have hn64 : b % 32 < 32 := Nat.mod_lt _ (by decide)
  obtain ⟨n, hnn⟩ : ∃ n, b % 32 = n := ⟨_, rfl⟩
  rw [hnn] at hn hn64 ⊢
  clear hnn
  have hn0 : (n : Int) < 32 := by omega
  have HV : Hid _ := sra32_num a n ha (by omega)
  have hw := num32_eq a ha
  go_enter Try.func17, Try.ntmps17
  go_wp2
  go_ret2
  exact ⟨ret_two (by rw [← HV.out, wrap_u32]) rfl, rfl⟩
theorem half_44 (a b : Nat) (ha : a < 4294967296) (hb : b < 4294967296) (w : World) : Calls Try.prog 17 #[.int .i64 44, .int .u32 (a : Int), .int .u32 (b : Int)] w fun e w' => e = .returned (.tuple #[.int .u32 ((sra32N a (b % 32) : Nat) : Int), .bool true]) ∧ w' = w := by
  have hn : bits .and .u32 (b : Int) 31 = ((b % 32 : Nat) : Int) := and31 b hb
  have hn64 : b % 32 < 32 := Nat.mod_lt _ (by decide)
  obtain ⟨n, hnn⟩ : ∃ n, b % 32 = n := ⟨_, rfl⟩
  rw [hnn] at hn hn64 ⊢
  clear hnn
  have hn0 : (n : Int) < 32 := by omega
  have HV : Hid _ := sra32_num a n ha (by omega)
  have hw := num32_eq a ha
  go_enter Try.func17, Try.ntmps17
  go_wp2
  go_ret2
  exact ⟨ret_two (by rw [← HV.out, wrap_u32]) rfl, rfl⟩
theorem half_no (op : Int) (h45 : ¬ op = 45) (h41 : ¬ op = 41) (h46 : ¬ op = 46) (h47 : ¬ op = 47) (h42 : ¬ op = 42) (h48 : ¬ op = 48) (h43 : ¬ op = 43) (h49 : ¬ op = 49) (h44 : ¬ op = 44) (a b : Nat) (ha : a < 4294967296) (hb : b < 4294967296) (w : World) : Calls Try.prog 17 #[.int .i64 op, .int .u32 (a : Int), .int .u32 (b : Int)] w fun e w' => e = .returned (.tuple #[.int .u32 0, .bool false]) ∧ w' = w := by
  have hn : bits .and .u32 (b : Int) 31 = ((b % 32 : Nat) : Int) := and31 b hb
  go_enter Try.func17, Try.ntmps17
  go_wp2
  go_ret2
  exact ⟨rfl, rfl⟩
theorem low_eq (a : Nat) : IntKind.u32.wrap (a : Int) = ((a % 4294967296 : Nat) : Int) := by rw [wrap_u32]; omega
/-- where whole tells a word, Do tells it -/
theorem do_whole (op : Int) (a b v : Nat) (w : World) (h : ∀ w, Calls Try.prog 16 #[.int .i64 op, .int .u64 (a : Int), .int .u64 (b : Int)] w fun e w' => e = .returned (.tuple #[.int .u64 (v : Int), .bool true]) ∧ w' = w) :
    Calls Try.prog 10 #[.int .i64 op, .int .u64 (a : Int), .int .u64 (b : Int)] w fun e w' => e = .returned (.tuple #[.int .u64 (v : Int), .bool true]) ∧ w' = w := by
  go_enter Try.func10, Try.ntmps10
  go_wp2_with (go_at_call 16; refine (h _).mono ?_; rintro e w' ⟨rfl, rfl⟩)
  go_ret2
  exact ⟨rfl, rfl⟩
/-- where whole tells nothing and half a word, Do tells that with its sign -/
theorem do_half (op : Int) (a b v : Nat) (hv : v < 4294967296) (w : World) (h : ∀ w, Calls Try.prog 16 #[.int .i64 op, .int .u64 (a : Int), .int .u64 (b : Int)] w fun e w' => e = .returned (.tuple #[.int .u64 0, .bool false]) ∧ w' = w)
    (h2 : ∀ w, Calls Try.prog 17 #[.int .i64 op, .int .u32 ((a % 4294967296 : Nat) : Int), .int .u32 ((b % 4294967296 : Nat) : Int)] w fun e w' => e = .returned (.tuple #[.int .u32 (v : Int), .bool true]) ∧ w' = w) :
    Calls Try.prog 10 #[.int .i64 op, .int .u64 (a : Int), .int .u64 (b : Int)] w fun e w' => e = .returned (.tuple #[.int .u64 ((sextA v 32 : Nat) : Int), .bool true]) ∧ w' = w := by
  have ea := low_eq a
  have eb := low_eq b
  have ea2 := Int.natCast_emod a 4294967296
  have eb2 := Int.natCast_emod b 4294967296
  have ea3 := ea2.symm
  have eb3 := eb2.symm
  clear ea2 eb2
  generalize ((a % 4294967296 : Nat) : Int) = la at *
  generalize ((b % 4294967296 : Nat) : Int) = lb at *
  have hs : ∀ w, Calls Try.prog 18 #[.int .u64 (v : Int)] w fun e w' => e = .returned (.int .u64 (sextA v 32 : Nat)) ∧ w' = w := fun w => sext32_any v (by omega) w
  go_enter Try.func10, Try.ntmps10
  go_wp2_with (first | (go_at_call 16; refine (h _).mono ?_; rintro e w' ⟨rfl, rfl⟩) | (go_at_call 17; refine (h2 _).mono ?_; rintro e w' ⟨rfl, rfl⟩) | (go_at_call 18; refine (hs _).mono ?_; rintro e w' ⟨rfl, rfl⟩))
  go_ret2
  exact ⟨rfl, rfl⟩
theorem do_none (op : Int) (a b : Nat) (w : World) (h : ∀ w, Calls Try.prog 16 #[.int .i64 op, .int .u64 (a : Int), .int .u64 (b : Int)] w fun e w' => e = .returned (.tuple #[.int .u64 0, .bool false]) ∧ w' = w)
    (h2 : ∀ w, Calls Try.prog 17 #[.int .i64 op, .int .u32 ((a % 4294967296 : Nat) : Int), .int .u32 ((b % 4294967296 : Nat) : Int)] w fun e w' => e = .returned (.tuple #[.int .u32 0, .bool false]) ∧ w' = w) :
    Calls Try.prog 10 #[.int .i64 op, .int .u64 (a : Int), .int .u64 (b : Int)] w fun e w' => e = .returned (.tuple #[.int .u64 0, .bool false]) ∧ w' = w := by
  have ea := low_eq a
  have eb := low_eq b
  have ea2 := Int.natCast_emod a 4294967296
  have eb2 := Int.natCast_emod b 4294967296
  have ea3 := ea2.symm
  have eb3 := eb2.symm
  clear ea2 eb2
  generalize ((a % 4294967296 : Nat) : Int) = la at *
  generalize ((b % 4294967296 : Nat) : Int) = lb at *
  go_enter Try.func10, Try.ntmps10
  go_wp2_with (first | (go_at_call 16; refine (h _).mono ?_; rintro e w' ⟨rfl, rfl⟩) | (go_at_call 17; refine (h2 _).mono ?_; rintro e w' ⟨rfl, rfl⟩))
  go_ret2
  exact ⟨rfl, rfl⟩
theorem do_31 (a b : Nat) (ha : a < 18446744073709551616) (hb : b < 18446744073709551616) (w : World) : Calls Try.prog 10 #[.int .i64 31, .int .u64 (a : Int), .int .u64 (b : Int)] w fun e w' => e = .returned (.tuple #[.int .u64 (((a + b) % 18446744073709551616 : Nat) : Int), .bool true]) ∧ w' = w :=
  do_whole 31 a b _ w fun w => whole_31 a b ha hb w
theorem do_22 (a b : Nat) (ha : a < 18446744073709551616) (hb : b < 18446744073709551616) (w : World) : Calls Try.prog 10 #[.int .i64 22, .int .u64 (a : Int), .int .u64 (b : Int)] w fun e w' => e = .returned (.tuple #[.int .u64 (((a + b) % 18446744073709551616 : Nat) : Int), .bool true]) ∧ w' = w :=
  do_whole 22 a b _ w fun w => whole_22 a b ha hb w
theorem do_32 (a b : Nat) (ha : a < 18446744073709551616) (hb : b < 18446744073709551616) (w : World) : Calls Try.prog 10 #[.int .i64 32, .int .u64 (a : Int), .int .u64 (b : Int)] w fun e w' => e = .returned (.tuple #[.int .u64 (((a + 18446744073709551616 - b) % 18446744073709551616 : Nat) : Int), .bool true]) ∧ w' = w :=
  do_whole 32 a b _ w fun w => whole_32 a b ha hb w
theorem do_33 (a b : Nat) (ha : a < 18446744073709551616) (hb : b < 18446744073709551616) (w : World) : Calls Try.prog 10 #[.int .i64 33, .int .u64 (a : Int), .int .u64 (b : Int)] w fun e w' => e = .returned (.tuple #[.int .u64 ((a * 2 ^ (b % 64) % 18446744073709551616 : Nat) : Int), .bool true]) ∧ w' = w :=
  do_whole 33 a b _ w fun w => whole_33 a b ha hb w
theorem do_28 (a b : Nat) (ha : a < 18446744073709551616) (hb : b < 18446744073709551616) (w : World) : Calls Try.prog 10 #[.int .i64 28, .int .u64 (a : Int), .int .u64 (b : Int)] w fun e w' => e = .returned (.tuple #[.int .u64 ((a * 2 ^ (b % 64) % 18446744073709551616 : Nat) : Int), .bool true]) ∧ w' = w :=
  do_whole 28 a b _ w fun w => whole_28 a b ha hb w
theorem do_37 (a b : Nat) (ha : a < 18446744073709551616) (hb : b < 18446744073709551616) (w : World) : Calls Try.prog 10 #[.int .i64 37, .int .u64 (a : Int), .int .u64 (b : Int)] w fun e w' => e = .returned (.tuple #[.int .u64 ((a / 2 ^ (b % 64) : Nat) : Int), .bool true]) ∧ w' = w :=
  do_whole 37 a b _ w fun w => whole_37 a b ha hb w
theorem do_29 (a b : Nat) (ha : a < 18446744073709551616) (hb : b < 18446744073709551616) (w : World) : Calls Try.prog 10 #[.int .i64 29, .int .u64 (a : Int), .int .u64 (b : Int)] w fun e w' => e = .returned (.tuple #[.int .u64 ((a / 2 ^ (b % 64) : Nat) : Int), .bool true]) ∧ w' = w :=
  do_whole 29 a b _ w fun w => whole_29 a b ha hb w
theorem do_38 (a b : Nat) (ha : a < 18446744073709551616) (hb : b < 18446744073709551616) (w : World) : Calls Try.prog 10 #[.int .i64 38, .int .u64 (a : Int), .int .u64 (b : Int)] w fun e w' => e = .returned (.tuple #[.int .u64 ((sraN a (b % 64) : Nat) : Int), .bool true]) ∧ w' = w :=
  do_whole 38 a b _ w fun w => whole_38 a b ha hb w
theorem do_30 (a b : Nat) (ha : a < 18446744073709551616) (hb : b < 18446744073709551616) (w : World) : Calls Try.prog 10 #[.int .i64 30, .int .u64 (a : Int), .int .u64 (b : Int)] w fun e w' => e = .returned (.tuple #[.int .u64 ((sraN a (b % 64) : Nat) : Int), .bool true]) ∧ w' = w :=
  do_whole 30 a b _ w fun w => whole_30 a b ha hb w
theorem do_34 (a b : Nat) (ha : a < 18446744073709551616) (hb : b < 18446744073709551616) (w : World) : Calls Try.prog 10 #[.int .i64 34, .int .u64 (a : Int), .int .u64 (b : Int)] w fun e w' => e = .returned (.tuple #[.int .u64 ((flagN (decide (numI a < numI b)) : Nat) : Int), .bool true]) ∧ w' = w :=
  do_whole 34 a b _ w fun w => whole_34 a b ha hb w
theorem do_23 (a b : Nat) (ha : a < 18446744073709551616) (hb : b < 18446744073709551616) (w : World) : Calls Try.prog 10 #[.int .i64 23, .int .u64 (a : Int), .int .u64 (b : Int)] w fun e w' => e = .returned (.tuple #[.int .u64 ((flagN (decide (numI a < numI b)) : Nat) : Int), .bool true]) ∧ w' = w :=
  do_whole 23 a b _ w fun w => whole_23 a b ha hb w
theorem do_35 (a b : Nat) (ha : a < 18446744073709551616) (hb : b < 18446744073709551616) (w : World) : Calls Try.prog 10 #[.int .i64 35, .int .u64 (a : Int), .int .u64 (b : Int)] w fun e w' => e = .returned (.tuple #[.int .u64 ((flagN (decide (a < b)) : Nat) : Int), .bool true]) ∧ w' = w :=
  do_whole 35 a b _ w fun w => whole_35 a b ha hb w
theorem do_24 (a b : Nat) (ha : a < 18446744073709551616) (hb : b < 18446744073709551616) (w : World) : Calls Try.prog 10 #[.int .i64 24, .int .u64 (a : Int), .int .u64 (b : Int)] w fun e w' => e = .returned (.tuple #[.int .u64 ((flagN (decide (a < b)) : Nat) : Int), .bool true]) ∧ w' = w :=
  do_whole 24 a b _ w fun w => whole_24 a b ha hb w
theorem do_36 (a b : Nat) (ha : a < 18446744073709551616) (hb : b < 18446744073709551616) (w : World) : Calls Try.prog 10 #[.int .i64 36, .int .u64 (a : Int), .int .u64 (b : Int)] w fun e w' => e = .returned (.tuple #[.int .u64 ((a ^^^ b : Nat) : Int), .bool true]) ∧ w' = w :=
  do_whole 36 a b _ w fun w => whole_36 a b ha hb w
theorem do_25 (a b : Nat) (ha : a < 18446744073709551616) (hb : b < 18446744073709551616) (w : World) : Calls Try.prog 10 #[.int .i64 25, .int .u64 (a : Int), .int .u64 (b : Int)] w fun e w' => e = .returned (.tuple #[.int .u64 ((a ^^^ b : Nat) : Int), .bool true]) ∧ w' = w :=
  do_whole 25 a b _ w fun w => whole_25 a b ha hb w
theorem do_39 (a b : Nat) (ha : a < 18446744073709551616) (hb : b < 18446744073709551616) (w : World) : Calls Try.prog 10 #[.int .i64 39, .int .u64 (a : Int), .int .u64 (b : Int)] w fun e w' => e = .returned (.tuple #[.int .u64 ((a ||| b : Nat) : Int), .bool true]) ∧ w' = w :=
  do_whole 39 a b _ w fun w => whole_39 a b ha hb w
theorem do_26 (a b : Nat) (ha : a < 18446744073709551616) (hb : b < 18446744073709551616) (w : World) : Calls Try.prog 10 #[.int .i64 26, .int .u64 (a : Int), .int .u64 (b : Int)] w fun e w' => e = .returned (.tuple #[.int .u64 ((a ||| b : Nat) : Int), .bool true]) ∧ w' = w :=
  do_whole 26 a b _ w fun w => whole_26 a b ha hb w
theorem do_40 (a b : Nat) (ha : a < 18446744073709551616) (hb : b < 18446744073709551616) (w : World) : Calls Try.prog 10 #[.int .i64 40, .int .u64 (a : Int), .int .u64 (b : Int)] w fun e w' => e = .returned (.tuple #[.int .u64 ((a &&& b : Nat) : Int), .bool true]) ∧ w' = w :=
  do_whole 40 a b _ w fun w => whole_40 a b ha hb w
theorem do_27 (a b : Nat) (ha : a < 18446744073709551616) (hb : b < 18446744073709551616) (w : World) : Calls Try.prog 10 #[.int .i64 27, .int .u64 (a : Int), .int .u64 (b : Int)] w fun e w' => e = .returned (.tuple #[.int .u64 ((a &&& b : Nat) : Int), .bool true]) ∧ w' = w :=
  do_whole 27 a b _ w fun w => whole_27 a b ha hb w
theorem sra32N_lt (a n : Nat) (ha : a < 4294967296) (hn : n < 32) : sra32N a n < 4294967296 := by
  have h := sra32_num a n ha hn
  rw [wrap_u32] at h
  omega
theorem do_45 (a b : Nat) (ha : a < 18446744073709551616) (hb : b < 18446744073709551616) (w : World) : Calls Try.prog 10 #[.int .i64 45, .int .u64 (a : Int), .int .u64 (b : Int)] w fun e w' => e = .returned (.tuple #[.int .u64 ((sextA (((a % 4294967296) + (b % 4294967296)) % 4294967296) 32 : Nat) : Int), .bool true]) ∧ w' = w :=
  do_half 45 a b _ (Nat.mod_lt _ (by decide)) w (fun w => whole_no 45 (by decide) (by decide) (by decide) (by decide) (by decide) (by decide) (by decide) (by decide) (by decide) (by decide) (by decide) (by decide) (by decide) (by decide) (by decide) (by decide) (by decide) (by decide) (by decide) a b ha hb w) (fun w => half_45 _ _ (Nat.mod_lt _ (by decide)) (Nat.mod_lt _ (by decide)) w)
theorem do_41 (a b : Nat) (ha : a < 18446744073709551616) (hb : b < 18446744073709551616) (w : World) : Calls Try.prog 10 #[.int .i64 41, .int .u64 (a : Int), .int .u64 (b : Int)] w fun e w' => e = .returned (.tuple #[.int .u64 ((sextA (((a % 4294967296) + (b % 4294967296)) % 4294967296) 32 : Nat) : Int), .bool true]) ∧ w' = w :=
  do_half 41 a b _ (Nat.mod_lt _ (by decide)) w (fun w => whole_no 41 (by decide) (by decide) (by decide) (by decide) (by decide) (by decide) (by decide) (by decide) (by decide) (by decide) (by decide) (by decide) (by decide) (by decide) (by decide) (by decide) (by decide) (by decide) (by decide) a b ha hb w) (fun w => half_41 _ _ (Nat.mod_lt _ (by decide)) (Nat.mod_lt _ (by decide)) w)
theorem do_46 (a b : Nat) (ha : a < 18446744073709551616) (hb : b < 18446744073709551616) (w : World) : Calls Try.prog 10 #[.int .i64 46, .int .u64 (a : Int), .int .u64 (b : Int)] w fun e w' => e = .returned (.tuple #[.int .u64 ((sextA (((a % 4294967296) + 4294967296 - (b % 4294967296)) % 4294967296) 32 : Nat) : Int), .bool true]) ∧ w' = w :=
  do_half 46 a b _ (Nat.mod_lt _ (by decide)) w (fun w => whole_no 46 (by decide) (by decide) (by decide) (by decide) (by decide) (by decide) (by decide) (by decide) (by decide) (by decide) (by decide) (by decide) (by decide) (by decide) (by decide) (by decide) (by decide) (by decide) (by decide) a b ha hb w) (fun w => half_46 _ _ (Nat.mod_lt _ (by decide)) (Nat.mod_lt _ (by decide)) w)
theorem do_47 (a b : Nat) (ha : a < 18446744073709551616) (hb : b < 18446744073709551616) (w : World) : Calls Try.prog 10 #[.int .i64 47, .int .u64 (a : Int), .int .u64 (b : Int)] w fun e w' => e = .returned (.tuple #[.int .u64 ((sextA ((a % 4294967296) * 2 ^ ((b % 4294967296) % 32) % 4294967296) 32 : Nat) : Int), .bool true]) ∧ w' = w :=
  do_half 47 a b _ (Nat.mod_lt _ (by decide)) w (fun w => whole_no 47 (by decide) (by decide) (by decide) (by decide) (by decide) (by decide) (by decide) (by decide) (by decide) (by decide) (by decide) (by decide) (by decide) (by decide) (by decide) (by decide) (by decide) (by decide) (by decide) a b ha hb w) (fun w => half_47 _ _ (Nat.mod_lt _ (by decide)) (Nat.mod_lt _ (by decide)) w)
theorem do_42 (a b : Nat) (ha : a < 18446744073709551616) (hb : b < 18446744073709551616) (w : World) : Calls Try.prog 10 #[.int .i64 42, .int .u64 (a : Int), .int .u64 (b : Int)] w fun e w' => e = .returned (.tuple #[.int .u64 ((sextA ((a % 4294967296) * 2 ^ ((b % 4294967296) % 32) % 4294967296) 32 : Nat) : Int), .bool true]) ∧ w' = w :=
  do_half 42 a b _ (Nat.mod_lt _ (by decide)) w (fun w => whole_no 42 (by decide) (by decide) (by decide) (by decide) (by decide) (by decide) (by decide) (by decide) (by decide) (by decide) (by decide) (by decide) (by decide) (by decide) (by decide) (by decide) (by decide) (by decide) (by decide) a b ha hb w) (fun w => half_42 _ _ (Nat.mod_lt _ (by decide)) (Nat.mod_lt _ (by decide)) w)
theorem do_48 (a b : Nat) (ha : a < 18446744073709551616) (hb : b < 18446744073709551616) (w : World) : Calls Try.prog 10 #[.int .i64 48, .int .u64 (a : Int), .int .u64 (b : Int)] w fun e w' => e = .returned (.tuple #[.int .u64 ((sextA ((a % 4294967296) / 2 ^ ((b % 4294967296) % 32)) 32 : Nat) : Int), .bool true]) ∧ w' = w :=
  do_half 48 a b _ (Nat.lt_of_le_of_lt (Nat.div_le_self _ _) (Nat.mod_lt _ (by decide))) w (fun w => whole_no 48 (by decide) (by decide) (by decide) (by decide) (by decide) (by decide) (by decide) (by decide) (by decide) (by decide) (by decide) (by decide) (by decide) (by decide) (by decide) (by decide) (by decide) (by decide) (by decide) a b ha hb w) (fun w => half_48 _ _ (Nat.mod_lt _ (by decide)) (Nat.mod_lt _ (by decide)) w)
theorem do_43 (a b : Nat) (ha : a < 18446744073709551616) (hb : b < 18446744073709551616) (w : World) : Calls Try.prog 10 #[.int .i64 43, .int .u64 (a : Int), .int .u64 (b : Int)] w fun e w' => e = .returned (.tuple #[.int .u64 ((sextA ((a % 4294967296) / 2 ^ ((b % 4294967296) % 32)) 32 : Nat) : Int), .bool true]) ∧ w' = w :=
  do_half 43 a b _ (Nat.lt_of_le_of_lt (Nat.div_le_self _ _) (Nat.mod_lt _ (by decide))) w (fun w => whole_no 43 (by decide) (by decide) (by decide) (by decide) (by decide) (by decide) (by decide) (by decide) (by decide) (by decide) (by decide) (by decide) (by decide) (by decide) (by decide) (by decide) (by decide) (by decide) (by decide) a b ha hb w) (fun w => half_43 _ _ (Nat.mod_lt _ (by decide)) (Nat.mod_lt _ (by decide)) w)
theorem do_49 (a b : Nat) (ha : a < 18446744073709551616) (hb : b < 18446744073709551616) (w : World) : Calls Try.prog 10 #[.int .i64 49, .int .u64 (a : Int), .int .u64 (b : Int)] w fun e w' => e = .returned (.tuple #[.int .u64 ((sextA (sra32N (a % 4294967296) ((b % 4294967296) % 32)) 32 : Nat) : Int), .bool true]) ∧ w' = w :=
  do_half 49 a b _ (sra32N_lt _ _ (Nat.mod_lt _ (by decide)) (Nat.mod_lt _ (by decide))) w (fun w => whole_no 49 (by decide) (by decide) (by decide) (by decide) (by decide) (by decide) (by decide) (by decide) (by decide) (by decide) (by decide) (by decide) (by decide) (by decide) (by decide) (by decide) (by decide) (by decide) (by decide) a b ha hb w) (fun w => half_49 _ _ (Nat.mod_lt _ (by decide)) (Nat.mod_lt _ (by decide)) w)
theorem do_44 (a b : Nat) (ha : a < 18446744073709551616) (hb : b < 18446744073709551616) (w : World) : Calls Try.prog 10 #[.int .i64 44, .int .u64 (a : Int), .int .u64 (b : Int)] w fun e w' => e = .returned (.tuple #[.int .u64 ((sextA (sra32N (a % 4294967296) ((b % 4294967296) % 32)) 32 : Nat) : Int), .bool true]) ∧ w' = w :=
  do_half 44 a b _ (sra32N_lt _ _ (Nat.mod_lt _ (by decide)) (Nat.mod_lt _ (by decide))) w (fun w => whole_no 44 (by decide) (by decide) (by decide) (by decide) (by decide) (by decide) (by decide) (by decide) (by decide) (by decide) (by decide) (by decide) (by decide) (by decide) (by decide) (by decide) (by decide) (by decide) (by decide) a b ha hb w) (fun w => half_44 _ _ (Nat.mod_lt _ (by decide)) (Nat.mod_lt _ (by decide)) w)
theorem do_no (op : Int) (h31 : ¬ op = 31) (h22 : ¬ op = 22) (h32 : ¬ op = 32) (h33 : ¬ op = 33) (h28 : ¬ op = 28) (h37 : ¬ op = 37) (h29 : ¬ op = 29) (h38 : ¬ op = 38) (h30 : ¬ op = 30) (h34 : ¬ op = 34) (h23 : ¬ op = 23) (h35 : ¬ op = 35) (h24 : ¬ op = 24) (h36 : ¬ op = 36) (h25 : ¬ op = 25) (h39 : ¬ op = 39) (h26 : ¬ op = 26) (h40 : ¬ op = 40) (h27 : ¬ op = 27) (h45 : ¬ op = 45) (h41 : ¬ op = 41) (h46 : ¬ op = 46) (h47 : ¬ op = 47) (h42 : ¬ op = 42) (h48 : ¬ op = 48) (h43 : ¬ op = 43) (h49 : ¬ op = 49) (h44 : ¬ op = 44) (a b : Nat) (ha : a < 18446744073709551616) (hb : b < 18446744073709551616) (w : World) : Calls Try.prog 10 #[.int .i64 op, .int .u64 (a : Int), .int .u64 (b : Int)] w fun e w' => e = .returned (.tuple #[.int .u64 0, .bool false]) ∧ w' = w :=
  do_none op a b w (fun w => whole_no op h31 h22 h32 h33 h28 h37 h29 h38 h30 h34 h23 h35 h24 h36 h25 h39 h26 h40 h27 a b ha hb w) (fun w => half_no op h45 h41 h46 h47 h42 h48 h43 h49 h44 _ _ (Nat.mod_lt _ (by decide)) (Nat.mod_lt _ (by decide)) w)
end Go.Proofs.Ytgaihgniommhiaa
