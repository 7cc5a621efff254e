/- The document's call Do of layer 5 comes to the same plain numbers as the program's. -/
import Derived.Test.YtgaihgniommhiaaBw
namespace Go.Proofs.Ytgaihgniommhiaa
open Go.RowKit
set_option linter.unusedVariables false
set_option linter.unusedSimpArgs false
/-- a call that tells a word and leaves what was there -/
def Tells (f : Nat) (args : Array Value) (W : World) (v : Nat) : Prop := ∀ w, Below W.heap.size W w → Calls Try.prog f args w fun e w' => e = .returned (.int .u64 (v : Int)) ∧ Below W.heap.size W w'
theorem tells_of (f : Nat) (args : Array Value) (W : World) (v u : Nat) (hv : v = u) (h : ∀ w, Calls Try.prog f args w fun e w' => e = .returned (.int .u64 (v : Int)) ∧ Below w.heap.size w w') : Tells f args W u := by
  subst hv
  exact fun w hw => (h w).mono fun e w' ⟨he, hb⟩ => ⟨he, hw.trans (hb.mono hw.size)⟩
theorem tells_left (a n : Nat) (ha : a < 18446744073709551616) (hn : n < 64) (W : World) : Tells 19 #[.int .u64 (a : Int), .int .i64 (n : Int), .int .i64 64] W (a * 2 ^ n % 18446744073709551616) :=
  tells_of _ _ _ _ _ (left_eq a n 64) fun w => left_any a n 64 ha hn (by omega) w
theorem tells_left32 (a n : Nat) (ha : a < 18446744073709551616) (hn : n < 64) (W : World) : Tells 19 #[.int .u64 (a : Int), .int .i64 (n : Int), .int .i64 32] W (a % 4294967296 * 2 ^ n % 4294967296) :=
  tells_of _ _ _ _ _ (by rw [left_eq, Nat.mod_mul_mod]) fun w => left_any a n 32 ha hn (by omega) w
theorem tells_right (a n : Nat) (ha : a < 18446744073709551616) (hn : n < 64) (W : World) : Tells 20 #[.int .u64 (a : Int), .int .i64 (n : Int), .int .i64 64, .bool false] W (a / 2 ^ n) :=
  tells_of _ _ _ _ _ (by rw [right_eq, Nat.mod_eq_of_lt (show a < 2 ^ 64 from ha)]) fun w => right_no a n 64 ha hn (by omega) w
theorem tells_right32 (a n : Nat) (ha : a < 18446744073709551616) (hn : n < 64) (W : World) : Tells 20 #[.int .u64 (a : Int), .int .i64 (n : Int), .int .i64 32, .bool false] W (a % 4294967296 / 2 ^ n) :=
  tells_of _ _ _ _ _ (right_eq a n 32) fun w => right_no a n 32 ha hn (by omega) w
theorem tells_sra (a n : Nat) (ha : a < 18446744073709551616) (hn : n < 64) (W : World) : Tells 20 #[.int .u64 (a : Int), .int .i64 (n : Int), .int .i64 64, .bool true] W (sraN a n) :=
  tells_of _ _ _ _ _ (rsg64 a n ha hn) fun w => right_sg a n 64 ha hn (by omega) w
theorem tells_sra32 (a n : Nat) (ha : a < 18446744073709551616) (hn : n < 32) (W : World) : Tells 20 #[.int .u64 (a : Int), .int .i64 (n : Int), .int .i64 32, .bool true] W (sra32N (a % 4294967296) n) :=
  tells_of _ _ _ _ _ (rsg32 a n hn) fun w => right_sg a n 32 ha (by omega) (by omega) w
theorem tells_and (a b : Nat) (ha : a < 18446744073709551616) (hb : b < 18446744073709551616) (W : World) : Tells 23 #[.int .u64 (a : Int), .int .u64 (b : Int), .int .i64 0] W (a &&& b) :=
  tells_of _ _ _ _ _ (and_eq a b ha hb) fun w => bw_0 a b ha hb w
theorem tells_or (a b : Nat) (ha : a < 18446744073709551616) (hb : b < 18446744073709551616) (W : World) : Tells 23 #[.int .u64 (a : Int), .int .u64 (b : Int), .int .i64 1] W (a ||| b) :=
  tells_of _ _ _ _ _ (or_eq a b ha hb) fun w => bw_1 a b ha hb w
theorem tells_xor (a b : Nat) (ha : a < 18446744073709551616) (hb : b < 18446744073709551616) (W : World) : Tells 23 #[.int .u64 (a : Int), .int .u64 (b : Int), .int .i64 2] W (a ^^^ b) :=
  tells_of _ _ _ _ _ (xor_eq a b ha hb) fun w => bw_2 a b ha hb w
theorem tells_sext (x : Nat) (hx : x < 18446744073709551616) (W : World) : Tells 24 #[.int .u64 (x : Int), .int .i64 32] W (sextA x 32) := fun w hw => rsext_all x 32 hx W w hw
theorem not_num (b : Nat) (hb : b < 18446744073709551616) : bits BinOp.xor IntKind.u64 IntKind.u64.max (b : Int) = ((18446744073709551615 - b : Nat) : Int) := by
  have h := bits_xor_u64_nat 18446744073709551615 b (by decide) hb
  have e : 18446744073709551615 ^^^ b = 18446744073709551615 - b := by
    apply Nat.eq_of_testBit_eq
    intro j
    rw [Nat.testBit_xor, show (18446744073709551615 : Nat) = 2 ^ 64 - 1 from by decide, Nat.testBit_two_pow_sub_one, show 2 ^ 64 - 1 - b = 2 ^ 64 - (b + 1) from by omega, Nat.testBit_two_pow_sub_succ (show b < 2 ^ 64 from hb)]
    by_cases h : j < 64
    · simp [h]
    · rw [testBit_lt64 b j 64 hb h]; simp [h]
  rw [e] at h
  exact h
theorem rdo_31 (a b : Nat) (ha : a < 18446744073709551616) (hb : b < 18446744073709551616) (W w : World) (hw : Below W.heap.size W w) : Calls Try.prog 11 #[.int .i64 31, .int .u64 (a : Int), .int .u64 (b : Int)] w fun e w' => e = .returned (.tuple #[.int .u64 (((a + b) % 18446744073709551616 : Nat) : Int), .bool true]) ∧ Below W.heap.size W w' := by
  obtain ⟨n, hnn⟩ : ∃ n, b % 64 = n := ⟨_, rfl⟩
  obtain ⟨m, hmm⟩ : ∃ m, b % 32 = m := ⟨_, rfl⟩
  have hn : (b : Int) % 64 = n := by omega
  have hm : (b : Int) % 32 = m := by omega
  have hn64 : n < 64 := by omega
  have hm32 : m < 32 := by omega
  have HV : Hid _ := wrap_u64 ((a : Int) + b)
  go_enter Try.func11, Try.ntmps11
  go_wp2
  go_ret2
  exact ⟨ret_two (by first | omega | (rw [HV.out]; omega)) rfl, by assumption⟩
theorem rdo_22 (a b : Nat) (ha : a < 18446744073709551616) (hb : b < 18446744073709551616) (W w : World) (hw : Below W.heap.size W w) : Calls Try.prog 11 #[.int .i64 22, .int .u64 (a : Int), .int .u64 (b : Int)] w fun e w' => e = .returned (.tuple #[.int .u64 (((a + b) % 18446744073709551616 : Nat) : Int), .bool true]) ∧ Below W.heap.size W w' := by
  obtain ⟨n, hnn⟩ : ∃ n, b % 64 = n := ⟨_, rfl⟩
  obtain ⟨m, hmm⟩ : ∃ m, b % 32 = m := ⟨_, rfl⟩
  have hn : (b : Int) % 64 = n := by omega
  have hm : (b : Int) % 32 = m := by omega
  have hn64 : n < 64 := by omega
  have hm32 : m < 32 := by omega
  have HV : Hid _ := wrap_u64 ((a : Int) + b)
  go_enter Try.func11, Try.ntmps11
  go_wp2
  go_ret2
  exact ⟨ret_two (by first | omega | (rw [HV.out]; omega)) rfl, by assumption⟩
theorem rdo_32 (a b : Nat) (ha : a < 18446744073709551616) (hb : b < 18446744073709551616) (W w : World) (hw : Below W.heap.size W w) : Calls Try.prog 11 #[.int .i64 32, .int .u64 (a : Int), .int .u64 (b : Int)] w fun e w' => e = .returned (.tuple #[.int .u64 (((a + 18446744073709551616 - b) % 18446744073709551616 : Nat) : Int), .bool true]) ∧ Below W.heap.size W w' := by
  obtain ⟨n, hnn⟩ : ∃ n, b % 64 = n := ⟨_, rfl⟩
  obtain ⟨m, hmm⟩ : ∃ m, b % 32 = m := ⟨_, rfl⟩
  have hn : (b : Int) % 64 = n := by omega
  have hm : (b : Int) % 32 = m := by omega
  have hn64 : n < 64 := by omega
  have hm32 : m < 32 := by omega
  have HX : Hid _ := not_num b hb
  go_enter Try.func11, Try.ntmps11
  go_wp2
  go_ret2
  exact ⟨ret_two (by simp only [wrap_u64]; rw [HX.out]; omega) rfl, by assumption⟩
theorem rdo_33 (a b : Nat) (ha : a < 18446744073709551616) (hb : b < 18446744073709551616) (W w : World) (hw : Below W.heap.size W w) : Calls Try.prog 11 #[.int .i64 33, .int .u64 (a : Int), .int .u64 (b : Int)] w fun e w' => e = .returned (.tuple #[.int .u64 ((a * 2 ^ (b % 64) % 18446744073709551616 : Nat) : Int), .bool true]) ∧ Below W.heap.size W w' := by
  obtain ⟨n, hnn⟩ : ∃ n, b % 64 = n := ⟨_, rfl⟩
  obtain ⟨m, hmm⟩ : ∃ m, b % 32 = m := ⟨_, rfl⟩
  have hn : (b : Int) % 64 = n := by omega
  have hm : (b : Int) % 32 = m := by omega
  have hn64 : n < 64 := by omega
  have hm32 : m < 32 := by omega
  rw [hnn]
  have HT : Tells _ _ _ _ := tells_left a n ha hn64 W
  generalize a * 2 ^ n % 18446744073709551616 = v at *
  go_enter Try.func11, Try.ntmps11
  go_wp2_with (first | (go_at_call 19; refine (HT _ (by assumption)).mono ?_; rintro e w' ⟨rfl, hw2⟩))
  go_ret2
  exact ⟨rfl, by assumption⟩
theorem rdo_28 (a b : Nat) (ha : a < 18446744073709551616) (hb : b < 18446744073709551616) (W w : World) (hw : Below W.heap.size W w) : Calls Try.prog 11 #[.int .i64 28, .int .u64 (a : Int), .int .u64 (b : Int)] w fun e w' => e = .returned (.tuple #[.int .u64 ((a * 2 ^ (b % 64) % 18446744073709551616 : Nat) : Int), .bool true]) ∧ Below W.heap.size W w' := by
  obtain ⟨n, hnn⟩ : ∃ n, b % 64 = n := ⟨_, rfl⟩
  obtain ⟨m, hmm⟩ : ∃ m, b % 32 = m := ⟨_, rfl⟩
  have hn : (b : Int) % 64 = n := by omega
  have hm : (b : Int) % 32 = m := by omega
  have hn64 : n < 64 := by omega
  have hm32 : m < 32 := by omega
  rw [hnn]
  have HT : Tells _ _ _ _ := tells_left a n ha hn64 W
  generalize a * 2 ^ n % 18446744073709551616 = v at *
  go_enter Try.func11, Try.ntmps11
  go_wp2_with (first | (go_at_call 19; refine (HT _ (by assumption)).mono ?_; rintro e w' ⟨rfl, hw2⟩))
  go_ret2
  exact ⟨rfl, by assumption⟩
theorem rdo_37 (a b : Nat) (ha : a < 18446744073709551616) (hb : b < 18446744073709551616) (W w : World) (hw : Below W.heap.size W w) : Calls Try.prog 11 #[.int .i64 37, .int .u64 (a : Int), .int .u64 (b : Int)] w fun e w' => e = .returned (.tuple #[.int .u64 ((a / 2 ^ (b % 64) : Nat) : Int), .bool true]) ∧ Below W.heap.size W w' := by
  obtain ⟨n, hnn⟩ : ∃ n, b % 64 = n := ⟨_, rfl⟩
  obtain ⟨m, hmm⟩ : ∃ m, b % 32 = m := ⟨_, rfl⟩
  have hn : (b : Int) % 64 = n := by omega
  have hm : (b : Int) % 32 = m := by omega
  have hn64 : n < 64 := by omega
  have hm32 : m < 32 := by omega
  rw [hnn]
  have HT : Tells _ _ _ _ := tells_right a n ha hn64 W
  generalize a / 2 ^ n = v at *
  go_enter Try.func11, Try.ntmps11
  go_wp2_with (first | (go_at_call 20; refine (HT _ (by assumption)).mono ?_; rintro e w' ⟨rfl, hw2⟩))
  go_ret2
  exact ⟨rfl, by assumption⟩
theorem rdo_29 (a b : Nat) (ha : a < 18446744073709551616) (hb : b < 18446744073709551616) (W w : World) (hw : Below W.heap.size W w) : Calls Try.prog 11 #[.int .i64 29, .int .u64 (a : Int), .int .u64 (b : Int)] w fun e w' => e = .returned (.tuple #[.int .u64 ((a / 2 ^ (b % 64) : Nat) : Int), .bool true]) ∧ Below W.heap.size W w' := by
  obtain ⟨n, hnn⟩ : ∃ n, b % 64 = n := ⟨_, rfl⟩
  obtain ⟨m, hmm⟩ : ∃ m, b % 32 = m := ⟨_, rfl⟩
  have hn : (b : Int) % 64 = n := by omega
  have hm : (b : Int) % 32 = m := by omega
  have hn64 : n < 64 := by omega
  have hm32 : m < 32 := by omega
  rw [hnn]
  have HT : Tells _ _ _ _ := tells_right a n ha hn64 W
  generalize a / 2 ^ n = v at *
  go_enter Try.func11, Try.ntmps11
  go_wp2_with (first | (go_at_call 20; refine (HT _ (by assumption)).mono ?_; rintro e w' ⟨rfl, hw2⟩))
  go_ret2
  exact ⟨rfl, by assumption⟩
theorem rdo_38 (a b : Nat) (ha : a < 18446744073709551616) (hb : b < 18446744073709551616) (W w : World) (hw : Below W.heap.size W w) : Calls Try.prog 11 #[.int .i64 38, .int .u64 (a : Int), .int .u64 (b : Int)] w fun e w' => e = .returned (.tuple #[.int .u64 ((sraN a (b % 64) : Nat) : Int), .bool true]) ∧ Below W.heap.size W w' := by
  obtain ⟨n, hnn⟩ : ∃ n, b % 64 = n := ⟨_, rfl⟩
  obtain ⟨m, hmm⟩ : ∃ m, b % 32 = m := ⟨_, rfl⟩
  have hn : (b : Int) % 64 = n := by omega
  have hm : (b : Int) % 32 = m := by omega
  have hn64 : n < 64 := by omega
  have hm32 : m < 32 := by omega
  rw [hnn]
  have HT : Tells _ _ _ _ := tells_sra a n ha hn64 W
  generalize sraN a n = v at *
  go_enter Try.func11, Try.ntmps11
  go_wp2_with (first | (go_at_call 20; refine (HT _ (by assumption)).mono ?_; rintro e w' ⟨rfl, hw2⟩))
  go_ret2
  exact ⟨rfl, by assumption⟩
theorem rdo_30 (a b : Nat) (ha : a < 18446744073709551616) (hb : b < 18446744073709551616) (W w : World) (hw : Below W.heap.size W w) : Calls Try.prog 11 #[.int .i64 30, .int .u64 (a : Int), .int .u64 (b : Int)] w fun e w' => e = .returned (.tuple #[.int .u64 ((sraN a (b % 64) : Nat) : Int), .bool true]) ∧ Below W.heap.size W w' := by
  obtain ⟨n, hnn⟩ : ∃ n, b % 64 = n := ⟨_, rfl⟩
  obtain ⟨m, hmm⟩ : ∃ m, b % 32 = m := ⟨_, rfl⟩
  have hn : (b : Int) % 64 = n := by omega
  have hm : (b : Int) % 32 = m := by omega
  have hn64 : n < 64 := by omega
  have hm32 : m < 32 := by omega
  rw [hnn]
  have HT : Tells _ _ _ _ := tells_sra a n ha hn64 W
  generalize sraN a n = v at *
  go_enter Try.func11, Try.ntmps11
  go_wp2_with (first | (go_at_call 20; refine (HT _ (by assumption)).mono ?_; rintro e w' ⟨rfl, hw2⟩))
  go_ret2
  exact ⟨rfl, by assumption⟩
theorem rdo_34 (a b : Nat) (ha : a < 18446744073709551616) (hb : b < 18446744073709551616) (W w : World) (hw : Below W.heap.size W w) : Calls Try.prog 11 #[.int .i64 34, .int .u64 (a : Int), .int .u64 (b : Int)] w fun e w' => e = .returned (.tuple #[.int .u64 ((flagN (decide (numI a < numI b)) : Nat) : Int), .bool true]) ∧ Below W.heap.size W w' := by
  obtain ⟨n, hnn⟩ : ∃ n, b % 64 = n := ⟨_, rfl⟩
  obtain ⟨m, hmm⟩ : ∃ m, b % 32 = m := ⟨_, rfl⟩
  have hn : (b : Int) % 64 = n := by omega
  have hm : (b : Int) % 32 = m := by omega
  have hn64 : n < 64 := by omega
  have hm32 : m < 32 := by omega
  have HL : ∀ w, Below W.heap.size W w → Calls Try.prog 22 #[.int .u64 (a : Int), .int .u64 (b : Int)] w fun e w' => e = .returned (.bool (decide (numI a < numI b))) ∧ Below W.heap.size W w' := fun w hw => less_any a b ha hb W w hw
  generalize decide (numI a < numI b) = lb at *
  go_enter Try.func11, Try.ntmps11
  go_wp2_with (first | (go_at_call 22; refine (HL _ (by assumption)).mono ?_; rintro e w' ⟨rfl, hw2⟩) | (go_at_call 21; refine (flag_any _ _).mono ?_; rintro e w' ⟨rfl, rfl⟩))
  go_ret2
  exact ⟨rfl, by assumption⟩
theorem rdo_23 (a b : Nat) (ha : a < 18446744073709551616) (hb : b < 18446744073709551616) (W w : World) (hw : Below W.heap.size W w) : Calls Try.prog 11 #[.int .i64 23, .int .u64 (a : Int), .int .u64 (b : Int)] w fun e w' => e = .returned (.tuple #[.int .u64 ((flagN (decide (numI a < numI b)) : Nat) : Int), .bool true]) ∧ Below W.heap.size W w' := by
  obtain ⟨n, hnn⟩ : ∃ n, b % 64 = n := ⟨_, rfl⟩
  obtain ⟨m, hmm⟩ : ∃ m, b % 32 = m := ⟨_, rfl⟩
  have hn : (b : Int) % 64 = n := by omega
  have hm : (b : Int) % 32 = m := by omega
  have hn64 : n < 64 := by omega
  have hm32 : m < 32 := by omega
  have HL : ∀ w, Below W.heap.size W w → Calls Try.prog 22 #[.int .u64 (a : Int), .int .u64 (b : Int)] w fun e w' => e = .returned (.bool (decide (numI a < numI b))) ∧ Below W.heap.size W w' := fun w hw => less_any a b ha hb W w hw
  generalize decide (numI a < numI b) = lb at *
  go_enter Try.func11, Try.ntmps11
  go_wp2_with (first | (go_at_call 22; refine (HL _ (by assumption)).mono ?_; rintro e w' ⟨rfl, hw2⟩) | (go_at_call 21; refine (flag_any _ _).mono ?_; rintro e w' ⟨rfl, rfl⟩))
  go_ret2
  exact ⟨rfl, by assumption⟩
theorem rdo_35 (a b : Nat) (ha : a < 18446744073709551616) (hb : b < 18446744073709551616) (W w : World) (hw : Below W.heap.size W w) : Calls Try.prog 11 #[.int .i64 35, .int .u64 (a : Int), .int .u64 (b : Int)] w fun e w' => e = .returned (.tuple #[.int .u64 ((flagN (decide (a < b)) : Nat) : Int), .bool true]) ∧ Below W.heap.size W w' := by
  obtain ⟨n, hnn⟩ : ∃ n, b % 64 = n := ⟨_, rfl⟩
  obtain ⟨m, hmm⟩ : ∃ m, b % 32 = m := ⟨_, rfl⟩
  have hn : (b : Int) % 64 = n := by omega
  have hm : (b : Int) % 32 = m := by omega
  have hn64 : n < 64 := by omega
  have hm32 : m < 32 := by omega
  go_enter Try.func11, Try.ntmps11
  go_wp2_with (first | (go_at_call 21; refine (flag_any _ _).mono ?_; rintro e w' ⟨rfl, rfl⟩))
  go_ret2
  exact ⟨ret_two (by simp) rfl, by assumption⟩
theorem rdo_24 (a b : Nat) (ha : a < 18446744073709551616) (hb : b < 18446744073709551616) (W w : World) (hw : Below W.heap.size W w) : Calls Try.prog 11 #[.int .i64 24, .int .u64 (a : Int), .int .u64 (b : Int)] w fun e w' => e = .returned (.tuple #[.int .u64 ((flagN (decide (a < b)) : Nat) : Int), .bool true]) ∧ Below W.heap.size W w' := by
  obtain ⟨n, hnn⟩ : ∃ n, b % 64 = n := ⟨_, rfl⟩
  obtain ⟨m, hmm⟩ : ∃ m, b % 32 = m := ⟨_, rfl⟩
  have hn : (b : Int) % 64 = n := by omega
  have hm : (b : Int) % 32 = m := by omega
  have hn64 : n < 64 := by omega
  have hm32 : m < 32 := by omega
  go_enter Try.func11, Try.ntmps11
  go_wp2_with (first | (go_at_call 21; refine (flag_any _ _).mono ?_; rintro e w' ⟨rfl, rfl⟩))
  go_ret2
  exact ⟨ret_two (by simp) rfl, by assumption⟩
theorem rdo_40 (a b : Nat) (ha : a < 18446744073709551616) (hb : b < 18446744073709551616) (W w : World) (hw : Below W.heap.size W w) : Calls Try.prog 11 #[.int .i64 40, .int .u64 (a : Int), .int .u64 (b : Int)] w fun e w' => e = .returned (.tuple #[.int .u64 ((a &&& b : Nat) : Int), .bool true]) ∧ Below W.heap.size W w' := by
  obtain ⟨n, hnn⟩ : ∃ n, b % 64 = n := ⟨_, rfl⟩
  obtain ⟨m, hmm⟩ : ∃ m, b % 32 = m := ⟨_, rfl⟩
  have hn : (b : Int) % 64 = n := by omega
  have hm : (b : Int) % 32 = m := by omega
  have hn64 : n < 64 := by omega
  have hm32 : m < 32 := by omega
  have HT : Tells _ _ _ _ := tells_and a b ha hb W
  generalize a &&& b = v at *
  go_enter Try.func11, Try.ntmps11
  go_wp2_with (first | (go_at_call 23; refine (HT _ (by assumption)).mono ?_; rintro e w' ⟨rfl, hw2⟩))
  go_ret2
  exact ⟨rfl, by assumption⟩
theorem rdo_27 (a b : Nat) (ha : a < 18446744073709551616) (hb : b < 18446744073709551616) (W w : World) (hw : Below W.heap.size W w) : Calls Try.prog 11 #[.int .i64 27, .int .u64 (a : Int), .int .u64 (b : Int)] w fun e w' => e = .returned (.tuple #[.int .u64 ((a &&& b : Nat) : Int), .bool true]) ∧ Below W.heap.size W w' := by
  obtain ⟨n, hnn⟩ : ∃ n, b % 64 = n := ⟨_, rfl⟩
  obtain ⟨m, hmm⟩ : ∃ m, b % 32 = m := ⟨_, rfl⟩
  have hn : (b : Int) % 64 = n := by omega
  have hm : (b : Int) % 32 = m := by omega
  have hn64 : n < 64 := by omega
  have hm32 : m < 32 := by omega
  have HT : Tells _ _ _ _ := tells_and a b ha hb W
  generalize a &&& b = v at *
  go_enter Try.func11, Try.ntmps11
  go_wp2_with (first | (go_at_call 23; refine (HT _ (by assumption)).mono ?_; rintro e w' ⟨rfl, hw2⟩))
  go_ret2
  exact ⟨rfl, by assumption⟩
theorem rdo_39 (a b : Nat) (ha : a < 18446744073709551616) (hb : b < 18446744073709551616) (W w : World) (hw : Below W.heap.size W w) : Calls Try.prog 11 #[.int .i64 39, .int .u64 (a : Int), .int .u64 (b : Int)] w fun e w' => e = .returned (.tuple #[.int .u64 ((a ||| b : Nat) : Int), .bool true]) ∧ Below W.heap.size W w' := by
  obtain ⟨n, hnn⟩ : ∃ n, b % 64 = n := ⟨_, rfl⟩
  obtain ⟨m, hmm⟩ : ∃ m, b % 32 = m := ⟨_, rfl⟩
  have hn : (b : Int) % 64 = n := by omega
  have hm : (b : Int) % 32 = m := by omega
  have hn64 : n < 64 := by omega
  have hm32 : m < 32 := by omega
  have HT : Tells _ _ _ _ := tells_or a b ha hb W
  generalize a ||| b = v at *
  go_enter Try.func11, Try.ntmps11
  go_wp2_with (first | (go_at_call 23; refine (HT _ (by assumption)).mono ?_; rintro e w' ⟨rfl, hw2⟩))
  go_ret2
  exact ⟨rfl, by assumption⟩
theorem rdo_26 (a b : Nat) (ha : a < 18446744073709551616) (hb : b < 18446744073709551616) (W w : World) (hw : Below W.heap.size W w) : Calls Try.prog 11 #[.int .i64 26, .int .u64 (a : Int), .int .u64 (b : Int)] w fun e w' => e = .returned (.tuple #[.int .u64 ((a ||| b : Nat) : Int), .bool true]) ∧ Below W.heap.size W w' := by
  obtain ⟨n, hnn⟩ : ∃ n, b % 64 = n := ⟨_, rfl⟩
  obtain ⟨m, hmm⟩ : ∃ m, b % 32 = m := ⟨_, rfl⟩
  have hn : (b : Int) % 64 = n := by omega
  have hm : (b : Int) % 32 = m := by omega
  have hn64 : n < 64 := by omega
  have hm32 : m < 32 := by omega
  have HT : Tells _ _ _ _ := tells_or a b ha hb W
  generalize a ||| b = v at *
  go_enter Try.func11, Try.ntmps11
  go_wp2_with (first | (go_at_call 23; refine (HT _ (by assumption)).mono ?_; rintro e w' ⟨rfl, hw2⟩))
  go_ret2
  exact ⟨rfl, by assumption⟩
theorem rdo_36 (a b : Nat) (ha : a < 18446744073709551616) (hb : b < 18446744073709551616) (W w : World) (hw : Below W.heap.size W w) : Calls Try.prog 11 #[.int .i64 36, .int .u64 (a : Int), .int .u64 (b : Int)] w fun e w' => e = .returned (.tuple #[.int .u64 ((a ^^^ b : Nat) : Int), .bool true]) ∧ Below W.heap.size W w' := by
  obtain ⟨n, hnn⟩ : ∃ n, b % 64 = n := ⟨_, rfl⟩
  obtain ⟨m, hmm⟩ : ∃ m, b % 32 = m := ⟨_, rfl⟩
  have hn : (b : Int) % 64 = n := by omega
  have hm : (b : Int) % 32 = m := by omega
  have hn64 : n < 64 := by omega
  have hm32 : m < 32 := by omega
  have HT : Tells _ _ _ _ := tells_xor a b ha hb W
  generalize a ^^^ b = v at *
  go_enter Try.func11, Try.ntmps11
  go_wp2_with (first | (go_at_call 23; refine (HT _ (by assumption)).mono ?_; rintro e w' ⟨rfl, hw2⟩))
  go_ret2
  exact ⟨rfl, by assumption⟩
theorem rdo_25 (a b : Nat) (ha : a < 18446744073709551616) (hb : b < 18446744073709551616) (W w : World) (hw : Below W.heap.size W w) : Calls Try.prog 11 #[.int .i64 25, .int .u64 (a : Int), .int .u64 (b : Int)] w fun e w' => e = .returned (.tuple #[.int .u64 ((a ^^^ b : Nat) : Int), .bool true]) ∧ Below W.heap.size W w' := by
  obtain ⟨n, hnn⟩ : ∃ n, b % 64 = n := ⟨_, rfl⟩
  obtain ⟨m, hmm⟩ : ∃ m, b % 32 = m := ⟨_, rfl⟩
  have hn : (b : Int) % 64 = n := by omega
  have hm : (b : Int) % 32 = m := by omega
  have hn64 : n < 64 := by omega
  have hm32 : m < 32 := by omega
  have HT : Tells _ _ _ _ := tells_xor a b ha hb W
  generalize a ^^^ b = v at *
  go_enter Try.func11, Try.ntmps11
  go_wp2_with (first | (go_at_call 23; refine (HT _ (by assumption)).mono ?_; rintro e w' ⟨rfl, hw2⟩))
  go_ret2
  exact ⟨rfl, by assumption⟩
theorem rdo_45 (a b : Nat) (ha : a < 18446744073709551616) (hb : b < 18446744073709551616) (W w : World) (hw : Below W.heap.size W w) : Calls Try.prog 11 #[.int .i64 45, .int .u64 (a : Int), .int .u64 (b : Int)] w fun e w' => e = .returned (.tuple #[.int .u64 ((sextA (((a % 4294967296) + (b % 4294967296)) % 4294967296) 32 : Nat) : Int), .bool true]) ∧ Below W.heap.size W w' := by
  obtain ⟨n, hnn⟩ : ∃ n, b % 64 = n := ⟨_, rfl⟩
  obtain ⟨m, hmm⟩ : ∃ m, b % 32 = m := ⟨_, rfl⟩
  have hn : (b : Int) % 64 = n := by omega
  have hm : (b : Int) % 32 = m := by omega
  have hn64 : n < 64 := by omega
  have hm32 : m < 32 := by omega
  obtain ⟨la, hla⟩ : ∃ la, a % 4294967296 = la := ⟨_, rfl⟩
  obtain ⟨lb, hlb⟩ : ∃ lb, b % 4294967296 = lb := ⟨_, rfl⟩
  rw [hla, hlb]
  have ea : (a : Int) % 4294967296 = la := by omega
  have eb : (b : Int) % 4294967296 = lb := by omega
  have hla2 : la < 4294967296 := by omega
  have hlb2 : lb < 4294967296 := by omega
  have es : ((la : Int) + lb) % 4294967296 = (((la + lb) % 4294967296 : Nat) : Int) := by omega
  have hs : (la + lb) % 4294967296 < 18446744073709551616 := by omega
  generalize (la + lb) % 4294967296 = s at *
  have HT : Tells _ _ _ _ := tells_sext s hs W
  clear hla hlb hnn hmm hs
  go_enter Try.func11, Try.ntmps11
  go_wp2_with (first | (go_at_call 24; refine (HT _ (by assumption)).mono ?_; rintro e w' ⟨rfl, hw2⟩))
  go_ret2
  exact ⟨rfl, by assumption⟩
theorem rdo_41 (a b : Nat) (ha : a < 18446744073709551616) (hb : b < 18446744073709551616) (W w : World) (hw : Below W.heap.size W w) : Calls Try.prog 11 #[.int .i64 41, .int .u64 (a : Int), .int .u64 (b : Int)] w fun e w' => e = .returned (.tuple #[.int .u64 ((sextA (((a % 4294967296) + (b % 4294967296)) % 4294967296) 32 : Nat) : Int), .bool true]) ∧ Below W.heap.size W w' := by
  obtain ⟨n, hnn⟩ : ∃ n, b % 64 = n := ⟨_, rfl⟩
  obtain ⟨m, hmm⟩ : ∃ m, b % 32 = m := ⟨_, rfl⟩
  have hn : (b : Int) % 64 = n := by omega
  have hm : (b : Int) % 32 = m := by omega
  have hn64 : n < 64 := by omega
  have hm32 : m < 32 := by omega
  obtain ⟨la, hla⟩ : ∃ la, a % 4294967296 = la := ⟨_, rfl⟩
  obtain ⟨lb, hlb⟩ : ∃ lb, b % 4294967296 = lb := ⟨_, rfl⟩
  rw [hla, hlb]
  have ea : (a : Int) % 4294967296 = la := by omega
  have eb : (b : Int) % 4294967296 = lb := by omega
  have hla2 : la < 4294967296 := by omega
  have hlb2 : lb < 4294967296 := by omega
  have es : ((la : Int) + lb) % 4294967296 = (((la + lb) % 4294967296 : Nat) : Int) := by omega
  have hs : (la + lb) % 4294967296 < 18446744073709551616 := by omega
  generalize (la + lb) % 4294967296 = s at *
  have HT : Tells _ _ _ _ := tells_sext s hs W
  clear hla hlb hnn hmm hs
  go_enter Try.func11, Try.ntmps11
  go_wp2_with (first | (go_at_call 24; refine (HT _ (by assumption)).mono ?_; rintro e w' ⟨rfl, hw2⟩))
  go_ret2
  exact ⟨rfl, by assumption⟩
theorem rdo_46 (a b : Nat) (ha : a < 18446744073709551616) (hb : b < 18446744073709551616) (W w : World) (hw : Below W.heap.size W w) : Calls Try.prog 11 #[.int .i64 46, .int .u64 (a : Int), .int .u64 (b : Int)] w fun e w' => e = .returned (.tuple #[.int .u64 ((sextA (((a % 4294967296) + 4294967296 - (b % 4294967296)) % 4294967296) 32 : Nat) : Int), .bool true]) ∧ Below W.heap.size W w' := by
  obtain ⟨n, hnn⟩ : ∃ n, b % 64 = n := ⟨_, rfl⟩
  obtain ⟨m, hmm⟩ : ∃ m, b % 32 = m := ⟨_, rfl⟩
  have hn : (b : Int) % 64 = n := by omega
  have hm : (b : Int) % 32 = m := by omega
  have hn64 : n < 64 := by omega
  have hm32 : m < 32 := by omega
  obtain ⟨la, hla⟩ : ∃ la, a % 4294967296 = la := ⟨_, rfl⟩
  obtain ⟨lb, hlb⟩ : ∃ lb, b % 4294967296 = lb := ⟨_, rfl⟩
  rw [hla, hlb]
  have ea : (a : Int) % 4294967296 = la := by omega
  have eb : (b : Int) % 4294967296 = lb := by omega
  have hla2 : la < 4294967296 := by omega
  have hlb2 : lb < 4294967296 := by omega
  have es : ((la : Int) + 4294967296 - lb) % 4294967296 = (((la + 4294967296 - lb) % 4294967296 : Nat) : Int) := by omega
  have hs : (la + 4294967296 - lb) % 4294967296 < 18446744073709551616 := by omega
  generalize (la + 4294967296 - lb) % 4294967296 = s at *
  have HT : Tells _ _ _ _ := tells_sext s hs W
  clear hla hlb hnn hmm hs
  go_enter Try.func11, Try.ntmps11
  go_wp2_with (first | (go_at_call 24; refine (HT _ (by assumption)).mono ?_; rintro e w' ⟨rfl, hw2⟩))
  go_ret2
  exact ⟨rfl, by assumption⟩
theorem rdo_47 (a b : Nat) (ha : a < 18446744073709551616) (hb : b < 18446744073709551616) (W w : World) (hw : Below W.heap.size W w) : Calls Try.prog 11 #[.int .i64 47, .int .u64 (a : Int), .int .u64 (b : Int)] w fun e w' => e = .returned (.tuple #[.int .u64 ((sextA ((a % 4294967296) * 2 ^ ((b % 4294967296) % 32) % 4294967296) 32 : Nat) : Int), .bool true]) ∧ Below W.heap.size W w' := by
  obtain ⟨n, hnn⟩ : ∃ n, b % 64 = n := ⟨_, rfl⟩
  obtain ⟨m, hmm⟩ : ∃ m, b % 32 = m := ⟨_, rfl⟩
  have hn : (b : Int) % 64 = n := by omega
  have hm : (b : Int) % 32 = m := by omega
  have hn64 : n < 64 := by omega
  have hm32 : m < 32 := by omega
  rw [show b % 4294967296 % 32 = m from by omega]
  have HT : Tells _ _ _ _ := tells_left32 a m ha (by omega) W
  have hs : a % 4294967296 * 2 ^ m % 4294967296 < 18446744073709551616 := Nat.lt_trans (Nat.mod_lt _ (by decide)) (by decide)
  generalize a % 4294967296 * 2 ^ m % 4294967296 = s at *
  have HT2 : Tells _ _ _ _ := tells_sext s hs W
  clear hnn hmm hs
  go_enter Try.func11, Try.ntmps11
  go_wp2_with (first | (go_at_call 19; refine (HT _ (by assumption)).mono ?_; rintro e w' ⟨rfl, hw2⟩) | (go_at_call 24; refine (HT2 _ (by assumption)).mono ?_; rintro e w' ⟨rfl, hw2⟩))
  go_ret2
  exact ⟨rfl, by assumption⟩
theorem rdo_42 (a b : Nat) (ha : a < 18446744073709551616) (hb : b < 18446744073709551616) (W w : World) (hw : Below W.heap.size W w) : Calls Try.prog 11 #[.int .i64 42, .int .u64 (a : Int), .int .u64 (b : Int)] w fun e w' => e = .returned (.tuple #[.int .u64 ((sextA ((a % 4294967296) * 2 ^ ((b % 4294967296) % 32) % 4294967296) 32 : Nat) : Int), .bool true]) ∧ Below W.heap.size W w' := by
  obtain ⟨n, hnn⟩ : ∃ n, b % 64 = n := ⟨_, rfl⟩
  obtain ⟨m, hmm⟩ : ∃ m, b % 32 = m := ⟨_, rfl⟩
  have hn : (b : Int) % 64 = n := by omega
  have hm : (b : Int) % 32 = m := by omega
  have hn64 : n < 64 := by omega
  have hm32 : m < 32 := by omega
  rw [show b % 4294967296 % 32 = m from by omega]
  have HT : Tells _ _ _ _ := tells_left32 a m ha (by omega) W
  have hs : a % 4294967296 * 2 ^ m % 4294967296 < 18446744073709551616 := Nat.lt_trans (Nat.mod_lt _ (by decide)) (by decide)
  generalize a % 4294967296 * 2 ^ m % 4294967296 = s at *
  have HT2 : Tells _ _ _ _ := tells_sext s hs W
  clear hnn hmm hs
  go_enter Try.func11, Try.ntmps11
  go_wp2_with (first | (go_at_call 19; refine (HT _ (by assumption)).mono ?_; rintro e w' ⟨rfl, hw2⟩) | (go_at_call 24; refine (HT2 _ (by assumption)).mono ?_; rintro e w' ⟨rfl, hw2⟩))
  go_ret2
  exact ⟨rfl, by assumption⟩
theorem rdo_48 (a b : Nat) (ha : a < 18446744073709551616) (hb : b < 18446744073709551616) (W w : World) (hw : Below W.heap.size W w) : Calls Try.prog 11 #[.int .i64 48, .int .u64 (a : Int), .int .u64 (b : Int)] w fun e w' => e = .returned (.tuple #[.int .u64 ((sextA ((a % 4294967296) / 2 ^ ((b % 4294967296) % 32)) 32 : Nat) : Int), .bool true]) ∧ Below W.heap.size W w' := by
  obtain ⟨n, hnn⟩ : ∃ n, b % 64 = n := ⟨_, rfl⟩
  obtain ⟨m, hmm⟩ : ∃ m, b % 32 = m := ⟨_, rfl⟩
  have hn : (b : Int) % 64 = n := by omega
  have hm : (b : Int) % 32 = m := by omega
  have hn64 : n < 64 := by omega
  have hm32 : m < 32 := by omega
  rw [show b % 4294967296 % 32 = m from by omega]
  have HT : Tells _ _ _ _ := tells_right32 a m ha (by omega) W
  have hs : a % 4294967296 / 2 ^ m < 18446744073709551616 := Nat.lt_of_le_of_lt (Nat.div_le_self _ _) (Nat.lt_trans (Nat.mod_lt _ (by decide)) (by decide))
  generalize a % 4294967296 / 2 ^ m = s at *
  have HT2 : Tells _ _ _ _ := tells_sext s hs W
  clear hnn hmm hs
  go_enter Try.func11, Try.ntmps11
  go_wp2_with (first | (go_at_call 20; refine (HT _ (by assumption)).mono ?_; rintro e w' ⟨rfl, hw2⟩) | (go_at_call 24; refine (HT2 _ (by assumption)).mono ?_; rintro e w' ⟨rfl, hw2⟩))
  go_ret2
  exact ⟨rfl, by assumption⟩
theorem rdo_43 (a b : Nat) (ha : a < 18446744073709551616) (hb : b < 18446744073709551616) (W w : World) (hw : Below W.heap.size W w) : Calls Try.prog 11 #[.int .i64 43, .int .u64 (a : Int), .int .u64 (b : Int)] w fun e w' => e = .returned (.tuple #[.int .u64 ((sextA ((a % 4294967296) / 2 ^ ((b % 4294967296) % 32)) 32 : Nat) : Int), .bool true]) ∧ Below W.heap.size W w' := by
  obtain ⟨n, hnn⟩ : ∃ n, b % 64 = n := ⟨_, rfl⟩
  obtain ⟨m, hmm⟩ : ∃ m, b % 32 = m := ⟨_, rfl⟩
  have hn : (b : Int) % 64 = n := by omega
  have hm : (b : Int) % 32 = m := by omega
  have hn64 : n < 64 := by omega
  have hm32 : m < 32 := by omega
  rw [show b % 4294967296 % 32 = m from by omega]
  have HT : Tells _ _ _ _ := tells_right32 a m ha (by omega) W
  have hs : a % 4294967296 / 2 ^ m < 18446744073709551616 := Nat.lt_of_le_of_lt (Nat.div_le_self _ _) (Nat.lt_trans (Nat.mod_lt _ (by decide)) (by decide))
  generalize a % 4294967296 / 2 ^ m = s at *
  have HT2 : Tells _ _ _ _ := tells_sext s hs W
  clear hnn hmm hs
  go_enter Try.func11, Try.ntmps11
  go_wp2_with (first | (go_at_call 20; refine (HT _ (by assumption)).mono ?_; rintro e w' ⟨rfl, hw2⟩) | (go_at_call 24; refine (HT2 _ (by assumption)).mono ?_; rintro e w' ⟨rfl, hw2⟩))
  go_ret2
  exact ⟨rfl, by assumption⟩
theorem rdo_49 (a b : Nat) (ha : a < 18446744073709551616) (hb : b < 18446744073709551616) (W w : World) (hw : Below W.heap.size W w) : Calls Try.prog 11 #[.int .i64 49, .int .u64 (a : Int), .int .u64 (b : Int)] w fun e w' => e = .returned (.tuple #[.int .u64 ((sextA (sra32N (a % 4294967296) ((b % 4294967296) % 32)) 32 : Nat) : Int), .bool true]) ∧ Below W.heap.size W w' := by
  obtain ⟨n, hnn⟩ : ∃ n, b % 64 = n := ⟨_, rfl⟩
  obtain ⟨m, hmm⟩ : ∃ m, b % 32 = m := ⟨_, rfl⟩
  have hn : (b : Int) % 64 = n := by omega
  have hm : (b : Int) % 32 = m := by omega
  have hn64 : n < 64 := by omega
  have hm32 : m < 32 := by omega
  rw [show b % 4294967296 % 32 = m from by omega]
  have HT : Tells _ _ _ _ := tells_sra32 a m ha hm32 W
  have hs : sra32N (a % 4294967296) m < 18446744073709551616 := Nat.lt_trans (sra32N_lt _ _ (Nat.mod_lt _ (by decide)) hm32) (by decide)
  generalize sra32N (a % 4294967296) m = s at *
  have HT2 : Tells _ _ _ _ := tells_sext s hs W
  clear hnn hmm hs
  go_enter Try.func11, Try.ntmps11
  go_wp2_with (first | (go_at_call 20; refine (HT _ (by assumption)).mono ?_; rintro e w' ⟨rfl, hw2⟩) | (go_at_call 24; refine (HT2 _ (by assumption)).mono ?_; rintro e w' ⟨rfl, hw2⟩))
  go_ret2
  exact ⟨rfl, by assumption⟩
theorem rdo_44 (a b : Nat) (ha : a < 18446744073709551616) (hb : b < 18446744073709551616) (W w : World) (hw : Below W.heap.size W w) : Calls Try.prog 11 #[.int .i64 44, .int .u64 (a : Int), .int .u64 (b : Int)] w fun e w' => e = .returned (.tuple #[.int .u64 ((sextA (sra32N (a % 4294967296) ((b % 4294967296) % 32)) 32 : Nat) : Int), .bool true]) ∧ Below W.heap.size W w' := by
  obtain ⟨n, hnn⟩ : ∃ n, b % 64 = n := ⟨_, rfl⟩
  obtain ⟨m, hmm⟩ : ∃ m, b % 32 = m := ⟨_, rfl⟩
  have hn : (b : Int) % 64 = n := by omega
  have hm : (b : Int) % 32 = m := by omega
  have hn64 : n < 64 := by omega
  have hm32 : m < 32 := by omega
  rw [show b % 4294967296 % 32 = m from by omega]
  have HT : Tells _ _ _ _ := tells_sra32 a m ha hm32 W
  have hs : sra32N (a % 4294967296) m < 18446744073709551616 := Nat.lt_trans (sra32N_lt _ _ (Nat.mod_lt _ (by decide)) hm32) (by decide)
  generalize sra32N (a % 4294967296) m = s at *
  have HT2 : Tells _ _ _ _ := tells_sext s hs W
  clear hnn hmm hs
  go_enter Try.func11, Try.ntmps11
  go_wp2_with (first | (go_at_call 20; refine (HT _ (by assumption)).mono ?_; rintro e w' ⟨rfl, hw2⟩) | (go_at_call 24; refine (HT2 _ (by assumption)).mono ?_; rintro e w' ⟨rfl, hw2⟩))
  go_ret2
  exact ⟨rfl, by assumption⟩
theorem rdo_no (op : Int) (h31 : ¬ op = 31) (h22 : ¬ op = 22) (h32 : ¬ op = 32) (h33 : ¬ op = 33) (h28 : ¬ op = 28) (h37 : ¬ op = 37) (h29 : ¬ op = 29) (h38 : ¬ op = 38) (h30 : ¬ op = 30) (h34 : ¬ op = 34) (h23 : ¬ op = 23) (h35 : ¬ op = 35) (h24 : ¬ op = 24) (h36 : ¬ op = 36) (h25 : ¬ op = 25) (h39 : ¬ op = 39) (h26 : ¬ op = 26) (h40 : ¬ op = 40) (h27 : ¬ op = 27) (h45 : ¬ op = 45) (h41 : ¬ op = 41) (h46 : ¬ op = 46) (h47 : ¬ op = 47) (h42 : ¬ op = 42) (h48 : ¬ op = 48) (h43 : ¬ op = 43) (h49 : ¬ op = 49) (h44 : ¬ op = 44) (a b : Nat) (ha : a < 18446744073709551616) (hb : b < 18446744073709551616) (W w : World) (hw : Below W.heap.size W w) : Calls Try.prog 11 #[.int .i64 op, .int .u64 (a : Int), .int .u64 (b : Int)] w fun e w' => e = .returned (.tuple #[.int .u64 0, .bool false]) ∧ Below W.heap.size W w' := by
  obtain ⟨n, hnn⟩ : ∃ n, b % 64 = n := ⟨_, rfl⟩
  obtain ⟨m, hmm⟩ : ∃ m, b % 32 = m := ⟨_, rfl⟩
  have hn : (b : Int) % 64 = n := by omega
  have hm : (b : Int) % 32 = m := by omega
  have hn64 : n < 64 := by omega
  have hm32 : m < 32 := by omega
  go_enter Try.func11, Try.ntmps11
  go_wp2
  go_ret2
  exact ⟨rfl, hw⟩
theorem rdo_any (op : Int) (a b : Nat) (ha : a < 18446744073709551616) (hb : b < 18446744073709551616) (W w : World) (hw : Below W.heap.size W w) : Calls Try.prog 11 #[.int .i64 op, .int .u64 (a : Int), .int .u64 (b : Int)] w fun e w' => e = .returned (.tuple #[.int .u64 ((doV op a b : Nat) : Int), .bool (doOk op)]) ∧ Below W.heap.size W w' := by
  by_cases h31 : op = 31
  · subst h31
    rw [doV_31, doOk_31]; exact rdo_31 a b ha hb W w hw
  by_cases h22 : op = 22
  · subst h22
    rw [doV_22, doOk_22]; exact rdo_22 a b ha hb W w hw
  by_cases h32 : op = 32
  · subst h32
    rw [doV_32, doOk_32]; exact rdo_32 a b ha hb W w hw
  by_cases h33 : op = 33
  · subst h33
    rw [doV_33, doOk_33]; exact rdo_33 a b ha hb W w hw
  by_cases h28 : op = 28
  · subst h28
    rw [doV_28, doOk_28]; exact rdo_28 a b ha hb W w hw
  by_cases h37 : op = 37
  · subst h37
    rw [doV_37, doOk_37]; exact rdo_37 a b ha hb W w hw
  by_cases h29 : op = 29
  · subst h29
    rw [doV_29, doOk_29]; exact rdo_29 a b ha hb W w hw
  by_cases h38 : op = 38
  · subst h38
    rw [doV_38, doOk_38]; exact rdo_38 a b ha hb W w hw
  by_cases h30 : op = 30
  · subst h30
    rw [doV_30, doOk_30]; exact rdo_30 a b ha hb W w hw
  by_cases h34 : op = 34
  · subst h34
    rw [doV_34, doOk_34]; exact rdo_34 a b ha hb W w hw
  by_cases h23 : op = 23
  · subst h23
    rw [doV_23, doOk_23]; exact rdo_23 a b ha hb W w hw
  by_cases h35 : op = 35
  · subst h35
    rw [doV_35, doOk_35]; exact rdo_35 a b ha hb W w hw
  by_cases h24 : op = 24
  · subst h24
    rw [doV_24, doOk_24]; exact rdo_24 a b ha hb W w hw
  by_cases h36 : op = 36
  · subst h36
    rw [doV_36, doOk_36]; exact rdo_36 a b ha hb W w hw
  by_cases h25 : op = 25
  · subst h25
    rw [doV_25, doOk_25]; exact rdo_25 a b ha hb W w hw
  by_cases h39 : op = 39
  · subst h39
    rw [doV_39, doOk_39]; exact rdo_39 a b ha hb W w hw
  by_cases h26 : op = 26
  · subst h26
    rw [doV_26, doOk_26]; exact rdo_26 a b ha hb W w hw
  by_cases h40 : op = 40
  · subst h40
    rw [doV_40, doOk_40]; exact rdo_40 a b ha hb W w hw
  by_cases h27 : op = 27
  · subst h27
    rw [doV_27, doOk_27]; exact rdo_27 a b ha hb W w hw
  by_cases h45 : op = 45
  · subst h45
    rw [doV_45, doOk_45]; exact rdo_45 a b ha hb W w hw
  by_cases h41 : op = 41
  · subst h41
    rw [doV_41, doOk_41]; exact rdo_41 a b ha hb W w hw
  by_cases h46 : op = 46
  · subst h46
    rw [doV_46, doOk_46]; exact rdo_46 a b ha hb W w hw
  by_cases h47 : op = 47
  · subst h47
    rw [doV_47, doOk_47]; exact rdo_47 a b ha hb W w hw
  by_cases h42 : op = 42
  · subst h42
    rw [doV_42, doOk_42]; exact rdo_42 a b ha hb W w hw
  by_cases h48 : op = 48
  · subst h48
    rw [doV_48, doOk_48]; exact rdo_48 a b ha hb W w hw
  by_cases h43 : op = 43
  · subst h43
    rw [doV_43, doOk_43]; exact rdo_43 a b ha hb W w hw
  by_cases h49 : op = 49
  · subst h49
    rw [doV_49, doOk_49]; exact rdo_49 a b ha hb W w hw
  by_cases h44 : op = 44
  · subst h44
    rw [doV_44, doOk_44]; exact rdo_44 a b ha hb W w hw
  rw [doV_no op h31 h22 h32 h33 h28 h37 h29 h38 h30 h34 h23 h35 h24 h36 h25 h39 h26 h40 h27 h45 h41 h46 h47 h42 h48 h43 h49 h44, doOk_no op h31 h22 h32 h33 h28 h37 h29 h38 h30 h34 h23 h35 h24 h36 h25 h39 h26 h40 h27 h45 h41 h46 h47 h42 h48 h43 h49 h44]; exact rdo_no op h31 h22 h32 h33 h28 h37 h29 h38 h30 h34 h23 h35 h24 h36 h25 h39 h26 h40 h27 h45 h41 h46 h47 h42 h48 h43 h49 h44 a b ha hb W w hw
theorem does_core (op : Int) (a b : Nat) (ha : a < 18446744073709551616) (hb : b < 18446744073709551616) (W w : World) (hw : Below W.heap.size W w) : Calls Try.prog 3 #[.int .i64 op, .int .u64 (a : Int), .int .u64 (b : Int)] w fun e w' => e = .returned (.bool true) ∧ Below W.heap.size W w' := by
  go_enter Try.func3, Try.ntmps3
  go_wp2_with (first | (go_at_call 9; refine (awake_any W _ (by assumption)).mono ?_; rintro e w' ⟨rfl, hw2⟩) | (go_at_call 10; refine (do_any op a b ha hb _).mono ?_; rintro e w' ⟨rfl, rfl⟩) | (go_at_call 11; refine (rdo_any op a b ha hb W _ (by assumption)).mono ?_; rintro e w' ⟨rfl, hw3⟩))
  go_ret
  exact ⟨ret_bool (by first | rfl | simp), by assumption⟩
theorem does_walk (W : World) (a0 : Int) (w0 : (Lit.int .i64 a0).wf = true) (a1 : Int) (w1 : (Lit.int .u64 a1).wf = true) (a2 : Int) (w2 : (Lit.int .u64 a2).wf = true) :
    Calls Try.prog 3 #[.int .i64 a0, .int .u64 a1, .int .u64 a2] W fun e w' => e = .returned (.bool true) ∧ Below W.heap.size W w' := by
  have b1 := bounds_u64 w1
  have b2 := bounds_u64 w2
  obtain ⟨x, rfl⟩ : ∃ x : Nat, a1 = x := ⟨a1.toNat, by omega⟩
  obtain ⟨y, rfl⟩ : ∃ y : Nat, a2 = y := ⟨a2.toNat, by omega⟩
  exact does_core a0 x y (by omega) (by omega) W W (Below.refl _ _)
end Go.Proofs.Ytgaihgniommhiaa
