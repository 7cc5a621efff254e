/- The calls Wide, Reserves, Conditional, New and Old of layer 7 come to plain numbers. -/
import Derived.Test.YtcpaddnigembkaaDoc
namespace Go.Proofs.Ytcpaddnigembkaa
open Go.RowKit
set_option linter.unusedVariables false
set_option linter.unusedSimpArgs false
def minI (a b : Nat) : Nat := if numI b < numI a then b else a
def maxI (a b : Nat) : Nat := if numI a < numI b then b else a
def min32 (a b : Nat) : Nat := if num32 b < num32 a then b else a
def max32 (a b : Nat) : Nat := if num32 a < num32 b then b else a
theorem back_numI (a : Nat) (h : a < 18446744073709551616) : IntKind.u64.wrap (numI a) = a := by rw [wrap_u64]; unfold numI; split <;> omega
theorem back_num32 (a : Nat) (h : a < 4294967296) : IntKind.u32.wrap (num32 a) = a := by rw [wrap_u32]; unfold num32; split <;> omega
theorem back_m32 (a : Nat) (h : a < 4294967296) : num32 a % 4294967296 = a := by rw [← wrap_u32]; exact back_num32 a h
def wideB (op : Int) : Bool := decide (84 ≤ op ∧ op ≤ 94)
theorem wide_any (op : Int) (w : World) : Calls Try.prog 14 #[.int .i64 op] w fun e w' => e = .returned (.bool (wideB op)) ∧ w' = w := by
  go_enter Try.func14, Try.ntmps14
  go_wp2
  all_goals
    go_ret
    exact ⟨ret_bool (by unfold wideB; first | (simp; omega) | (rw [eq_comm]; simp; omega)), rfl⟩
theorem bits_and_u32n (a b : Nat) (ha : a < 4294967296) (hb : b < 4294967296) : bits .and .u32 (a : Int) (b : Int) = ((a &&& b : Nat) : Int) := by
  have hx : a &&& b < 2 ^ 32 := Nat.and_lt_two_pow _ (by omega)
  have h1 : (BitVec.ofInt 32 (a : Int)).toNat = a := by
    rw [BitVec.ofInt_natCast, BitVec.toNat_ofNat]; exact Nat.mod_eq_of_lt (by omega)
  have h2 : (BitVec.ofInt 32 (b : Int)).toNat = b := by
    rw [BitVec.ofInt_natCast, BitVec.toNat_ofNat]; exact Nat.mod_eq_of_lt (by omega)
  show IntKind.u32.wrap ((BitVec.ofInt 32 (a : Int) &&& BitVec.ofInt 32 (b : Int)).toNat : Int) = _
  rw [BitVec.toNat_and, h1, h2, wrap_u32]
  omega
theorem bits_or_u32n (a b : Nat) (ha : a < 4294967296) (hb : b < 4294967296) : bits .or .u32 (a : Int) (b : Int) = ((a ||| b : Nat) : Int) := by
  have hx : a ||| b < 2 ^ 32 := Nat.or_lt_two_pow (by omega) (by omega)
  have h1 : (BitVec.ofInt 32 (a : Int)).toNat = a := by
    rw [BitVec.ofInt_natCast, BitVec.toNat_ofNat]; exact Nat.mod_eq_of_lt (by omega)
  have h2 : (BitVec.ofInt 32 (b : Int)).toNat = b := by
    rw [BitVec.ofInt_natCast, BitVec.toNat_ofNat]; exact Nat.mod_eq_of_lt (by omega)
  show IntKind.u32.wrap ((BitVec.ofInt 32 (a : Int) ||| BitVec.ofInt 32 (b : Int)).toNat : Int) = _
  rw [BitVec.toNat_or, h1, h2, wrap_u32]
  omega
theorem bits_xor_u32n (a b : Nat) (ha : a < 4294967296) (hb : b < 4294967296) : bits .xor .u32 (a : Int) (b : Int) = ((a ^^^ b : Nat) : Int) := by
  have hx : a ^^^ b < 2 ^ 32 := Nat.xor_lt_two_pow (by omega) (by omega)
  have h1 : (BitVec.ofInt 32 (a : Int)).toNat = a := by
    rw [BitVec.ofInt_natCast, BitVec.toNat_ofNat]; exact Nat.mod_eq_of_lt (by omega)
  have h2 : (BitVec.ofInt 32 (b : Int)).toNat = b := by
    rw [BitVec.ofInt_natCast, BitVec.toNat_ofNat]; exact Nat.mod_eq_of_lt (by omega)
  show IntKind.u32.wrap ((BitVec.ofInt 32 (a : Int) ^^^ BitVec.ofInt 32 (b : Int)).toNat : Int) = _
  rw [BitVec.toNat_xor, h1, h2, wrap_u32]
  omega
theorem made_86 (a b : Nat) (ha : a < 18446744073709551616) (hb : b < 18446744073709551616) (w : World) : Calls Try.prog 21 #[.int .i64 86, .int .u64 (a : Int), .int .u64 (b : Int)] w fun e w' => e = .returned (.tuple #[.int .u64 ((b : Nat) : Int), .bool true]) ∧ w' = w := by
  go_enter Try.func21, Try.ntmps21
  go_wp2
  go_ret2
  exact ⟨ret_two (by first | rfl | omega) rfl, rfl⟩
theorem made_75 (a b : Nat) (ha : a < 4294967296) (hb : b < 4294967296) (w : World) : Calls Try.prog 22 #[.int .i64 75, .int .u32 (a : Int), .int .u32 (b : Int)] w fun e w' => e = .returned (.tuple #[.int .u32 ((b : Nat) : Int), .bool true]) ∧ w' = w := by
  go_enter Try.func22, Try.ntmps22
  go_wp2
  go_ret2
  exact ⟨ret_two (by first | rfl | omega) rfl, rfl⟩
theorem made_87 (a b : Nat) (ha : a < 18446744073709551616) (hb : b < 18446744073709551616) (w : World) : Calls Try.prog 21 #[.int .i64 87, .int .u64 (a : Int), .int .u64 (b : Int)] w fun e w' => e = .returned (.tuple #[.int .u64 ((((a + b) % 18446744073709551616) : Nat) : Int), .bool true]) ∧ w' = w := by
  have HV : Hid _ := wrap_u64 ((a : Int) + b)
  go_enter Try.func21, Try.ntmps21
  go_wp2
  go_ret2
  exact ⟨ret_two (by first | omega | (rw [HV.out]; omega)) rfl, rfl⟩
theorem made_76 (a b : Nat) (ha : a < 4294967296) (hb : b < 4294967296) (w : World) : Calls Try.prog 22 #[.int .i64 76, .int .u32 (a : Int), .int .u32 (b : Int)] w fun e w' => e = .returned (.tuple #[.int .u32 ((((a + b) % 4294967296) : Nat) : Int), .bool true]) ∧ w' = w := by
  have HV : Hid _ := wrap_u32 ((a : Int) + b)
  go_enter Try.func22, Try.ntmps22
  go_wp2
  go_ret2
  exact ⟨ret_two (by first | omega | (rw [HV.out]; omega)) rfl, rfl⟩
theorem made_88 (a b : Nat) (ha : a < 18446744073709551616) (hb : b < 18446744073709551616) (w : World) : Calls Try.prog 21 #[.int .i64 88, .int .u64 (a : Int), .int .u64 (b : Int)] w fun e w' => e = .returned (.tuple #[.int .u64 (((a ^^^ b) : Nat) : Int), .bool true]) ∧ w' = w := by
  have HV : Hid _ := bits_xor_u64_nat a b (by omega) (by omega)
  go_enter Try.func21, Try.ntmps21
  go_wp2
  go_ret2
  exact ⟨ret_two (by first | exact HV.out | (rw [HV.out])) rfl, rfl⟩
theorem made_77 (a b : Nat) (ha : a < 4294967296) (hb : b < 4294967296) (w : World) : Calls Try.prog 22 #[.int .i64 77, .int .u32 (a : Int), .int .u32 (b : Int)] w fun e w' => e = .returned (.tuple #[.int .u32 (((a ^^^ b) : Nat) : Int), .bool true]) ∧ w' = w := by
  have HV : Hid _ := bits_xor_u32n a b (by omega) (by omega)
  go_enter Try.func22, Try.ntmps22
  go_wp2
  go_ret2
  exact ⟨ret_two (by first | exact HV.out | (rw [HV.out])) rfl, rfl⟩
theorem made_89 (a b : Nat) (ha : a < 18446744073709551616) (hb : b < 18446744073709551616) (w : World) : Calls Try.prog 21 #[.int .i64 89, .int .u64 (a : Int), .int .u64 (b : Int)] w fun e w' => e = .returned (.tuple #[.int .u64 (((a &&& b) : Nat) : Int), .bool true]) ∧ w' = w := by
  have HV : Hid _ := bits_and_u64_nat a b (by omega) (by omega)
  go_enter Try.func21, Try.ntmps21
  go_wp2
  go_ret2
  exact ⟨ret_two (by first | exact HV.out | (rw [HV.out])) rfl, rfl⟩
theorem made_78 (a b : Nat) (ha : a < 4294967296) (hb : b < 4294967296) (w : World) : Calls Try.prog 22 #[.int .i64 78, .int .u32 (a : Int), .int .u32 (b : Int)] w fun e w' => e = .returned (.tuple #[.int .u32 (((a &&& b) : Nat) : Int), .bool true]) ∧ w' = w := by
  have HV : Hid _ := bits_and_u32n a b (by omega) (by omega)
  go_enter Try.func22, Try.ntmps22
  go_wp2
  go_ret2
  exact ⟨ret_two (by first | exact HV.out | (rw [HV.out])) rfl, rfl⟩
theorem made_90 (a b : Nat) (ha : a < 18446744073709551616) (hb : b < 18446744073709551616) (w : World) : Calls Try.prog 21 #[.int .i64 90, .int .u64 (a : Int), .int .u64 (b : Int)] w fun e w' => e = .returned (.tuple #[.int .u64 (((a ||| b) : Nat) : Int), .bool true]) ∧ w' = w := by
  have HV : Hid _ := bits_or_u64_nat a b (by omega) (by omega)
  go_enter Try.func21, Try.ntmps21
  go_wp2
  go_ret2
  exact ⟨ret_two (by first | exact HV.out | (rw [HV.out])) rfl, rfl⟩
theorem made_79 (a b : Nat) (ha : a < 4294967296) (hb : b < 4294967296) (w : World) : Calls Try.prog 22 #[.int .i64 79, .int .u32 (a : Int), .int .u32 (b : Int)] w fun e w' => e = .returned (.tuple #[.int .u32 (((a ||| b) : Nat) : Int), .bool true]) ∧ w' = w := by
  have HV : Hid _ := bits_or_u32n a b (by omega) (by omega)
  go_enter Try.func22, Try.ntmps22
  go_wp2
  go_ret2
  exact ⟨ret_two (by first | exact HV.out | (rw [HV.out])) rfl, rfl⟩
theorem made_91 (a b : Nat) (ha : a < 18446744073709551616) (hb : b < 18446744073709551616) (w : World) : Calls Try.prog 21 #[.int .i64 91, .int .u64 (a : Int), .int .u64 (b : Int)] w fun e w' => e = .returned (.tuple #[.int .u64 (((minI a b) : Nat) : Int), .bool true]) ∧ w' = w := by
  have hwa := numI_eq a ha
  have hwb := numI_eq b hb
  have HA : Hid _ := back_numI a ha
  have HB : Hid _ := back_numI b hb
  go_enter Try.func21, Try.ntmps21
  go_wp2
  all_goals
    go_ret2
    refine ⟨ret_two ?_ rfl, rfl⟩
    unfold minI
    split <;> first | exact HA.out | exact HB.out | (rw [wrap_u32] at HA; exact HA.out) | omega
theorem made_80 (a b : Nat) (ha : a < 4294967296) (hb : b < 4294967296) (w : World) : Calls Try.prog 22 #[.int .i64 80, .int .u32 (a : Int), .int .u32 (b : Int)] w fun e w' => e = .returned (.tuple #[.int .u32 (((min32 a b) : Nat) : Int), .bool true]) ∧ w' = w := by
  have hwa := num32_eq a ha
  have hwb := num32_eq b hb
  have HA : Hid _ := back_m32 a ha
  have HB : Hid _ := back_m32 b hb
  go_enter Try.func22, Try.ntmps22
  go_wp2
  all_goals
    go_ret2
    refine ⟨ret_two ?_ rfl, rfl⟩
    unfold min32
    split <;> first | exact HA.out | exact HB.out | (rw [wrap_u32] at HA; exact HA.out) | omega
theorem made_92 (a b : Nat) (ha : a < 18446744073709551616) (hb : b < 18446744073709551616) (w : World) : Calls Try.prog 21 #[.int .i64 92, .int .u64 (a : Int), .int .u64 (b : Int)] w fun e w' => e = .returned (.tuple #[.int .u64 (((maxI a b) : Nat) : Int), .bool true]) ∧ w' = w := by
  have hwa := numI_eq a ha
  have hwb := numI_eq b hb
  have HA : Hid _ := back_numI a ha
  have HB : Hid _ := back_numI b hb
  go_enter Try.func21, Try.ntmps21
  go_wp2
  all_goals
    go_ret2
    refine ⟨ret_two ?_ rfl, rfl⟩
    unfold maxI
    split <;> first | exact HA.out | exact HB.out | (rw [wrap_u32] at HA; exact HA.out) | omega
theorem made_81 (a b : Nat) (ha : a < 4294967296) (hb : b < 4294967296) (w : World) : Calls Try.prog 22 #[.int .i64 81, .int .u32 (a : Int), .int .u32 (b : Int)] w fun e w' => e = .returned (.tuple #[.int .u32 (((max32 a b) : Nat) : Int), .bool true]) ∧ w' = w := by
  have hwa := num32_eq a ha
  have hwb := num32_eq b hb
  have HA : Hid _ := back_m32 a ha
  have HB : Hid _ := back_m32 b hb
  go_enter Try.func22, Try.ntmps22
  go_wp2
  all_goals
    go_ret2
    refine ⟨ret_two ?_ rfl, rfl⟩
    unfold max32
    split <;> first | exact HA.out | exact HB.out | (rw [wrap_u32] at HA; exact HA.out) | omega
theorem made_93 (a b : Nat) (ha : a < 18446744073709551616) (hb : b < 18446744073709551616) (w : World) : Calls Try.prog 21 #[.int .i64 93, .int .u64 (a : Int), .int .u64 (b : Int)] w fun e w' => e = .returned (.tuple #[.int .u64 (((min a b) : Nat) : Int), .bool true]) ∧ w' = w := by
  go_enter Try.func21, Try.ntmps21
  go_wp2
  all_goals
    go_ret2
    refine ⟨ret_two ?_ rfl, rfl⟩
    omega
theorem made_82 (a b : Nat) (ha : a < 4294967296) (hb : b < 4294967296) (w : World) : Calls Try.prog 22 #[.int .i64 82, .int .u32 (a : Int), .int .u32 (b : Int)] w fun e w' => e = .returned (.tuple #[.int .u32 (((min a b) : Nat) : Int), .bool true]) ∧ w' = w := by
  go_enter Try.func22, Try.ntmps22
  go_wp2
  all_goals
    go_ret2
    refine ⟨ret_two ?_ rfl, rfl⟩
    omega
theorem made_94 (a b : Nat) (ha : a < 18446744073709551616) (hb : b < 18446744073709551616) (w : World) : Calls Try.prog 21 #[.int .i64 94, .int .u64 (a : Int), .int .u64 (b : Int)] w fun e w' => e = .returned (.tuple #[.int .u64 (((max a b) : Nat) : Int), .bool true]) ∧ w' = w := by
  go_enter Try.func21, Try.ntmps21
  go_wp2
  all_goals
    go_ret2
    refine ⟨ret_two ?_ rfl, rfl⟩
    omega
theorem made_83 (a b : Nat) (ha : a < 4294967296) (hb : b < 4294967296) (w : World) : Calls Try.prog 22 #[.int .i64 83, .int .u32 (a : Int), .int .u32 (b : Int)] w fun e w' => e = .returned (.tuple #[.int .u32 (((max a b) : Nat) : Int), .bool true]) ∧ w' = w := by
  go_enter Try.func22, Try.ntmps22
  go_wp2
  all_goals
    go_ret2
    refine ⟨ret_two ?_ rfl, rfl⟩
    omega
theorem made_no_u64 (op : Int) (h75 : ¬ op = 75) (h86 : ¬ op = 86) (h76 : ¬ op = 76) (h87 : ¬ op = 87) (h77 : ¬ op = 77) (h88 : ¬ op = 88) (h78 : ¬ op = 78) (h89 : ¬ op = 89) (h79 : ¬ op = 79) (h90 : ¬ op = 90) (h80 : ¬ op = 80) (h91 : ¬ op = 91) (h81 : ¬ op = 81) (h92 : ¬ op = 92) (h82 : ¬ op = 82) (h93 : ¬ op = 93) (h83 : ¬ op = 83) (h94 : ¬ op = 94) (a b : Nat) (w : World) : Calls Try.prog 21 #[.int .i64 op, .int .u64 (a : Int), .int .u64 (b : Int)] w fun e w' => e = .returned (.tuple #[.int .u64 0, .bool false]) ∧ w' = w := by
  go_enter Try.func21, Try.ntmps21
  go_wp2
  go_ret2
  exact ⟨rfl, rfl⟩
theorem made_no_u32 (op : Int) (h75 : ¬ op = 75) (h86 : ¬ op = 86) (h76 : ¬ op = 76) (h87 : ¬ op = 87) (h77 : ¬ op = 77) (h88 : ¬ op = 88) (h78 : ¬ op = 78) (h89 : ¬ op = 89) (h79 : ¬ op = 79) (h90 : ¬ op = 90) (h80 : ¬ op = 80) (h91 : ¬ op = 91) (h81 : ¬ op = 81) (h92 : ¬ op = 92) (h82 : ¬ op = 82) (h93 : ¬ op = 93) (h83 : ¬ op = 83) (h94 : ¬ op = 94) (a b : Nat) (w : World) : Calls Try.prog 22 #[.int .i64 op, .int .u32 (a : Int), .int .u32 (b : Int)] w fun e w' => e = .returned (.tuple #[.int .u32 0, .bool false]) ∧ w' = w := by
  go_enter Try.func22, Try.ntmps22
  go_wp2
  go_ret2
  exact ⟨rfl, rfl⟩
end Go.Proofs.Ytcpaddnigembkaa
