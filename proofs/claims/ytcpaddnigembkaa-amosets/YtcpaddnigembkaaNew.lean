/- The calls New, Old, Reserves, Conditional of layer 7 and the law's awake. -/
import Derived.Test.YtcpaddnigembkaaPrg
namespace Go.Proofs.Ytcpaddnigembkaa
open Go.RowKit
set_option linter.unusedVariables false
set_option linter.unusedSimpArgs false
def newV (op : Int) (a b : Nat) : Nat := if op = 75 then (b % 4294967296) else if op = 76 then (((a % 4294967296) + (b % 4294967296)) % 4294967296) else if op = 77 then ((a % 4294967296) ^^^ (b % 4294967296)) else if op = 78 then ((a % 4294967296) &&& (b % 4294967296)) else if op = 79 then ((a % 4294967296) ||| (b % 4294967296)) else if op = 80 then (min32 (a % 4294967296) (b % 4294967296)) else if op = 81 then (max32 (a % 4294967296) (b % 4294967296)) else if op = 82 then (min (a % 4294967296) (b % 4294967296)) else if op = 83 then (max (a % 4294967296) (b % 4294967296)) else if op = 86 then b else if op = 87 then ((a + b) % 18446744073709551616) else if op = 88 then (a ^^^ b) else if op = 89 then (a &&& b) else if op = 90 then (a ||| b) else if op = 91 then (minI a b) else if op = 92 then (maxI a b) else if op = 93 then (min a b) else if op = 94 then (max a b) else 0
def newOk (op : Int) : Bool := decide (75 ≤ op ∧ op ≤ 83 ∨ 86 ≤ op ∧ op ≤ 94)
theorem newV_75 (a b : Nat) : newV 75 a b = (b % 4294967296) := rfl
theorem newV_76 (a b : Nat) : newV 76 a b = (((a % 4294967296) + (b % 4294967296)) % 4294967296) := rfl
theorem newV_77 (a b : Nat) : newV 77 a b = ((a % 4294967296) ^^^ (b % 4294967296)) := rfl
theorem newV_78 (a b : Nat) : newV 78 a b = ((a % 4294967296) &&& (b % 4294967296)) := rfl
theorem newV_79 (a b : Nat) : newV 79 a b = ((a % 4294967296) ||| (b % 4294967296)) := rfl
theorem newV_80 (a b : Nat) : newV 80 a b = (min32 (a % 4294967296) (b % 4294967296)) := rfl
theorem newV_81 (a b : Nat) : newV 81 a b = (max32 (a % 4294967296) (b % 4294967296)) := rfl
theorem newV_82 (a b : Nat) : newV 82 a b = (min (a % 4294967296) (b % 4294967296)) := rfl
theorem newV_83 (a b : Nat) : newV 83 a b = (max (a % 4294967296) (b % 4294967296)) := rfl
theorem newV_86 (a b : Nat) : newV 86 a b = b := rfl
theorem newV_87 (a b : Nat) : newV 87 a b = ((a + b) % 18446744073709551616) := rfl
theorem newV_88 (a b : Nat) : newV 88 a b = (a ^^^ b) := rfl
theorem newV_89 (a b : Nat) : newV 89 a b = (a &&& b) := rfl
theorem newV_90 (a b : Nat) : newV 90 a b = (a ||| b) := rfl
theorem newV_91 (a b : Nat) : newV 91 a b = (minI a b) := rfl
theorem newV_92 (a b : Nat) : newV 92 a b = (maxI a b) := rfl
theorem newV_93 (a b : Nat) : newV 93 a b = (min a b) := rfl
theorem newV_94 (a b : Nat) : newV 94 a b = (max a b) := rfl
theorem newV_no (op : Int) (h75 : ¬ op = 75) (h76 : ¬ op = 76) (h77 : ¬ op = 77) (h78 : ¬ op = 78) (h79 : ¬ op = 79) (h80 : ¬ op = 80) (h81 : ¬ op = 81) (h82 : ¬ op = 82) (h83 : ¬ op = 83) (h86 : ¬ op = 86) (h87 : ¬ op = 87) (h88 : ¬ op = 88) (h89 : ¬ op = 89) (h90 : ¬ op = 90) (h91 : ¬ op = 91) (h92 : ¬ op = 92) (h93 : ¬ op = 93) (h94 : ¬ op = 94) (a b : Nat) : newV op a b = 0 := by
  unfold newV
  rw [if_neg h75, if_neg h76, if_neg h77, if_neg h78, if_neg h79, if_neg h80, if_neg h81, if_neg h82, if_neg h83, if_neg h86, if_neg h87, if_neg h88, if_neg h89, if_neg h90, if_neg h91, if_neg h92, if_neg h93, if_neg h94]
theorem newOk_no (op : Int) (h75 : ¬ op = 75) (h76 : ¬ op = 76) (h77 : ¬ op = 77) (h78 : ¬ op = 78) (h79 : ¬ op = 79) (h80 : ¬ op = 80) (h81 : ¬ op = 81) (h82 : ¬ op = 82) (h83 : ¬ op = 83) (h86 : ¬ op = 86) (h87 : ¬ op = 87) (h88 : ¬ op = 88) (h89 : ¬ op = 89) (h90 : ¬ op = 90) (h91 : ¬ op = 91) (h92 : ¬ op = 92) (h93 : ¬ op = 93) (h94 : ¬ op = 94) : newOk op = false := by unfold newOk; simp; omega
theorem lt_32 (v : Nat) (h : v < 2 ^ 32) : v < 4294967296 := h
theorem min32_lt (a b : Nat) (ha : a < 4294967296) (hb : b < 4294967296) : min32 a b < 4294967296 := by unfold min32; split <;> omega
theorem max32_lt (a b : Nat) (ha : a < 4294967296) (hb : b < 4294967296) : max32 a b < 4294967296 := by unfold max32; split <;> omega
theorem new_86 (a b : Nat) (ha : a < 18446744073709551616) (hb : b < 18446744073709551616) (w : World) : Calls Try.prog 9 #[.int .i64 86, .int .u64 (a : Int), .int .u64 (b : Int)] w fun e w' => e = .returned (.tuple #[.int .u64 (b : Int), .bool true]) ∧ w' = w := by
  have h14 : ∀ w, Calls Try.prog 14 #[.int .i64 86] w fun e w' => e = .returned (.bool true) ∧ w' = w := fun w => wide_any 86 w
  have hm : ∀ w, Calls Try.prog 21 #[.int .i64 86, .int .u64 (a : Int), .int .u64 (b : Int)] w fun e w' => e = .returned (.tuple #[.int .u64 (b : Int), .bool true]) ∧ w' = w := fun w => made_86 a b ha hb w
  go_enter Try.func9, Try.ntmps9
  go_wp2_with (first | (go_at_call 14; refine (h14 _).mono ?_; rintro e w' ⟨rfl, rfl⟩) | (go_at_call 21; refine (hm _).mono ?_; rintro e w' ⟨rfl, rfl⟩))
  go_ret2
  exact ⟨rfl, rfl⟩
theorem new_75 (a b : Nat) (ha : a < 18446744073709551616) (hb : b < 18446744073709551616) (w : World) : Calls Try.prog 9 #[.int .i64 75, .int .u64 (a : Int), .int .u64 (b : Int)] w fun e w' => e = .returned (.tuple #[.int .u64 (((b % 4294967296) : Nat) : Int), .bool true]) ∧ w' = w := by
  have h14 : ∀ w, Calls Try.prog 14 #[.int .i64 75] w fun e w' => e = .returned (.bool false) ∧ w' = w := fun w => wide_any 75 w
  obtain ⟨x, hxx⟩ : ∃ x, a % 4294967296 = x := ⟨_, rfl⟩
  obtain ⟨y, hyy⟩ : ∃ y, b % 4294967296 = y := ⟨_, rfl⟩
  have hxa : (a : Int) % 4294967296 = x := by omega
  have hyb : (b : Int) % 4294967296 = y := by omega
  have hx : x < 4294967296 := by omega
  have hy : y < 4294967296 := by omega
  rw [hyy]
  have hlt : y < 4294967296 := hy
  have hm : ∀ w, Calls Try.prog 22 #[.int .i64 75, .int .u32 (x : Int), .int .u32 (y : Int)] w fun e w' => e = .returned (.tuple #[.int .u32 ((y : Nat) : Int), .bool true]) ∧ w' = w := fun w => made_75 x y hx hy w
  clear hxx hyy
  go_enter Try.func9, Try.ntmps9
  go_wp2_with (first | (go_at_call 14; refine (h14 _).mono ?_; rintro e w' ⟨rfl, rfl⟩) | (go_at_call 22; refine (hm _).mono ?_; rintro e w' ⟨rfl, rfl⟩))
  go_ret2
  exact ⟨ret_two (by first | rfl | omega | (simp; omega)) rfl, rfl⟩
theorem new_87 (a b : Nat) (ha : a < 18446744073709551616) (hb : b < 18446744073709551616) (w : World) : Calls Try.prog 9 #[.int .i64 87, .int .u64 (a : Int), .int .u64 (b : Int)] w fun e w' => e = .returned (.tuple #[.int .u64 ((((a + b) % 18446744073709551616) : Nat) : Int), .bool true]) ∧ w' = w := by
  have h14 : ∀ w, Calls Try.prog 14 #[.int .i64 87] w fun e w' => e = .returned (.bool true) ∧ w' = w := fun w => wide_any 87 w
  have hm : ∀ w, Calls Try.prog 21 #[.int .i64 87, .int .u64 (a : Int), .int .u64 (b : Int)] w fun e w' => e = .returned (.tuple #[.int .u64 ((((a + b) % 18446744073709551616) : Nat) : Int), .bool true]) ∧ w' = w := fun w => made_87 a b ha hb w
  generalize ((((a + b) % 18446744073709551616) : Nat) : Int) = v at *
  go_enter Try.func9, Try.ntmps9
  go_wp2_with (first | (go_at_call 14; refine (h14 _).mono ?_; rintro e w' ⟨rfl, rfl⟩) | (go_at_call 21; refine (hm _).mono ?_; rintro e w' ⟨rfl, rfl⟩))
  go_ret2
  exact ⟨rfl, rfl⟩
theorem new_76 (a b : Nat) (ha : a < 18446744073709551616) (hb : b < 18446744073709551616) (w : World) : Calls Try.prog 9 #[.int .i64 76, .int .u64 (a : Int), .int .u64 (b : Int)] w fun e w' => e = .returned (.tuple #[.int .u64 (((((a % 4294967296) + (b % 4294967296)) % 4294967296) : Nat) : Int), .bool true]) ∧ w' = w := by
  have h14 : ∀ w, Calls Try.prog 14 #[.int .i64 76] w fun e w' => e = .returned (.bool false) ∧ w' = w := fun w => wide_any 76 w
  obtain ⟨x, hxx⟩ : ∃ x, a % 4294967296 = x := ⟨_, rfl⟩
  obtain ⟨y, hyy⟩ : ∃ y, b % 4294967296 = y := ⟨_, rfl⟩
  have hxa : (a : Int) % 4294967296 = x := by omega
  have hyb : (b : Int) % 4294967296 = y := by omega
  have hx : x < 4294967296 := by omega
  have hy : y < 4294967296 := by omega
  rw [hxx, hyy]
  have hlt : ((x + y) % 4294967296) < 4294967296 := Nat.mod_lt _ (by decide)
  have hm : ∀ w, Calls Try.prog 22 #[.int .i64 76, .int .u32 (x : Int), .int .u32 (y : Int)] w fun e w' => e = .returned (.tuple #[.int .u32 ((((x + y) % 4294967296) : Nat) : Int), .bool true]) ∧ w' = w := fun w => made_76 x y hx hy w
  generalize ((x + y) % 4294967296) = v at *
  clear hxx hyy
  go_enter Try.func9, Try.ntmps9
  go_wp2_with (first | (go_at_call 14; refine (h14 _).mono ?_; rintro e w' ⟨rfl, rfl⟩) | (go_at_call 22; refine (hm _).mono ?_; rintro e w' ⟨rfl, rfl⟩))
  go_ret2
  exact ⟨ret_two (by first | rfl | omega | (simp; omega)) rfl, rfl⟩
theorem new_88 (a b : Nat) (ha : a < 18446744073709551616) (hb : b < 18446744073709551616) (w : World) : Calls Try.prog 9 #[.int .i64 88, .int .u64 (a : Int), .int .u64 (b : Int)] w fun e w' => e = .returned (.tuple #[.int .u64 (((a ^^^ b) : Nat) : Int), .bool true]) ∧ w' = w := by
  have h14 : ∀ w, Calls Try.prog 14 #[.int .i64 88] w fun e w' => e = .returned (.bool true) ∧ w' = w := fun w => wide_any 88 w
  have hm : ∀ w, Calls Try.prog 21 #[.int .i64 88, .int .u64 (a : Int), .int .u64 (b : Int)] w fun e w' => e = .returned (.tuple #[.int .u64 (((a ^^^ b) : Nat) : Int), .bool true]) ∧ w' = w := fun w => made_88 a b ha hb w
  generalize (((a ^^^ b) : Nat) : Int) = v at *
  go_enter Try.func9, Try.ntmps9
  go_wp2_with (first | (go_at_call 14; refine (h14 _).mono ?_; rintro e w' ⟨rfl, rfl⟩) | (go_at_call 21; refine (hm _).mono ?_; rintro e w' ⟨rfl, rfl⟩))
  go_ret2
  exact ⟨rfl, rfl⟩
theorem new_77 (a b : Nat) (ha : a < 18446744073709551616) (hb : b < 18446744073709551616) (w : World) : Calls Try.prog 9 #[.int .i64 77, .int .u64 (a : Int), .int .u64 (b : Int)] w fun e w' => e = .returned (.tuple #[.int .u64 ((((a % 4294967296) ^^^ (b % 4294967296)) : Nat) : Int), .bool true]) ∧ w' = w := by
  have h14 : ∀ w, Calls Try.prog 14 #[.int .i64 77] w fun e w' => e = .returned (.bool false) ∧ w' = w := fun w => wide_any 77 w
  obtain ⟨x, hxx⟩ : ∃ x, a % 4294967296 = x := ⟨_, rfl⟩
  obtain ⟨y, hyy⟩ : ∃ y, b % 4294967296 = y := ⟨_, rfl⟩
  have hxa : (a : Int) % 4294967296 = x := by omega
  have hyb : (b : Int) % 4294967296 = y := by omega
  have hx : x < 4294967296 := by omega
  have hy : y < 4294967296 := by omega
  rw [hxx, hyy]
  have hlt : (x ^^^ y) < 4294967296 := lt_32 _ (Nat.xor_lt_two_pow hx hy)
  have hm : ∀ w, Calls Try.prog 22 #[.int .i64 77, .int .u32 (x : Int), .int .u32 (y : Int)] w fun e w' => e = .returned (.tuple #[.int .u32 (((x ^^^ y) : Nat) : Int), .bool true]) ∧ w' = w := fun w => made_77 x y hx hy w
  generalize (x ^^^ y) = v at *
  clear hxx hyy
  go_enter Try.func9, Try.ntmps9
  go_wp2_with (first | (go_at_call 14; refine (h14 _).mono ?_; rintro e w' ⟨rfl, rfl⟩) | (go_at_call 22; refine (hm _).mono ?_; rintro e w' ⟨rfl, rfl⟩))
  go_ret2
  exact ⟨ret_two (by first | rfl | omega | (simp; omega)) rfl, rfl⟩
theorem new_89 (a b : Nat) (ha : a < 18446744073709551616) (hb : b < 18446744073709551616) (w : World) : Calls Try.prog 9 #[.int .i64 89, .int .u64 (a : Int), .int .u64 (b : Int)] w fun e w' => e = .returned (.tuple #[.int .u64 (((a &&& b) : Nat) : Int), .bool true]) ∧ w' = w := by
  have h14 : ∀ w, Calls Try.prog 14 #[.int .i64 89] w fun e w' => e = .returned (.bool true) ∧ w' = w := fun w => wide_any 89 w
  have hm : ∀ w, Calls Try.prog 21 #[.int .i64 89, .int .u64 (a : Int), .int .u64 (b : Int)] w fun e w' => e = .returned (.tuple #[.int .u64 (((a &&& b) : Nat) : Int), .bool true]) ∧ w' = w := fun w => made_89 a b ha hb w
  generalize (((a &&& b) : Nat) : Int) = v at *
  go_enter Try.func9, Try.ntmps9
  go_wp2_with (first | (go_at_call 14; refine (h14 _).mono ?_; rintro e w' ⟨rfl, rfl⟩) | (go_at_call 21; refine (hm _).mono ?_; rintro e w' ⟨rfl, rfl⟩))
  go_ret2
  exact ⟨rfl, rfl⟩
theorem new_78 (a b : Nat) (ha : a < 18446744073709551616) (hb : b < 18446744073709551616) (w : World) : Calls Try.prog 9 #[.int .i64 78, .int .u64 (a : Int), .int .u64 (b : Int)] w fun e w' => e = .returned (.tuple #[.int .u64 ((((a % 4294967296) &&& (b % 4294967296)) : Nat) : Int), .bool true]) ∧ w' = w := by
  have h14 : ∀ w, Calls Try.prog 14 #[.int .i64 78] w fun e w' => e = .returned (.bool false) ∧ w' = w := fun w => wide_any 78 w
  obtain ⟨x, hxx⟩ : ∃ x, a % 4294967296 = x := ⟨_, rfl⟩
  obtain ⟨y, hyy⟩ : ∃ y, b % 4294967296 = y := ⟨_, rfl⟩
  have hxa : (a : Int) % 4294967296 = x := by omega
  have hyb : (b : Int) % 4294967296 = y := by omega
  have hx : x < 4294967296 := by omega
  have hy : y < 4294967296 := by omega
  rw [hxx, hyy]
  have hlt : (x &&& y) < 4294967296 := lt_32 _ (Nat.and_lt_two_pow _ hy)
  have hm : ∀ w, Calls Try.prog 22 #[.int .i64 78, .int .u32 (x : Int), .int .u32 (y : Int)] w fun e w' => e = .returned (.tuple #[.int .u32 (((x &&& y) : Nat) : Int), .bool true]) ∧ w' = w := fun w => made_78 x y hx hy w
  generalize (x &&& y) = v at *
  clear hxx hyy
  go_enter Try.func9, Try.ntmps9
  go_wp2_with (first | (go_at_call 14; refine (h14 _).mono ?_; rintro e w' ⟨rfl, rfl⟩) | (go_at_call 22; refine (hm _).mono ?_; rintro e w' ⟨rfl, rfl⟩))
  go_ret2
  exact ⟨ret_two (by first | rfl | omega | (simp; omega)) rfl, rfl⟩
theorem new_90 (a b : Nat) (ha : a < 18446744073709551616) (hb : b < 18446744073709551616) (w : World) : Calls Try.prog 9 #[.int .i64 90, .int .u64 (a : Int), .int .u64 (b : Int)] w fun e w' => e = .returned (.tuple #[.int .u64 (((a ||| b) : Nat) : Int), .bool true]) ∧ w' = w := by
  have h14 : ∀ w, Calls Try.prog 14 #[.int .i64 90] w fun e w' => e = .returned (.bool true) ∧ w' = w := fun w => wide_any 90 w
  have hm : ∀ w, Calls Try.prog 21 #[.int .i64 90, .int .u64 (a : Int), .int .u64 (b : Int)] w fun e w' => e = .returned (.tuple #[.int .u64 (((a ||| b) : Nat) : Int), .bool true]) ∧ w' = w := fun w => made_90 a b ha hb w
  generalize (((a ||| b) : Nat) : Int) = v at *
  go_enter Try.func9, Try.ntmps9
  go_wp2_with (first | (go_at_call 14; refine (h14 _).mono ?_; rintro e w' ⟨rfl, rfl⟩) | (go_at_call 21; refine (hm _).mono ?_; rintro e w' ⟨rfl, rfl⟩))
  go_ret2
  exact ⟨rfl, rfl⟩
theorem new_79 (a b : Nat) (ha : a < 18446744073709551616) (hb : b < 18446744073709551616) (w : World) : Calls Try.prog 9 #[.int .i64 79, .int .u64 (a : Int), .int .u64 (b : Int)] w fun e w' => e = .returned (.tuple #[.int .u64 ((((a % 4294967296) ||| (b % 4294967296)) : Nat) : Int), .bool true]) ∧ w' = w := by
  have h14 : ∀ w, Calls Try.prog 14 #[.int .i64 79] w fun e w' => e = .returned (.bool false) ∧ w' = w := fun w => wide_any 79 w
  obtain ⟨x, hxx⟩ : ∃ x, a % 4294967296 = x := ⟨_, rfl⟩
  obtain ⟨y, hyy⟩ : ∃ y, b % 4294967296 = y := ⟨_, rfl⟩
  have hxa : (a : Int) % 4294967296 = x := by omega
  have hyb : (b : Int) % 4294967296 = y := by omega
  have hx : x < 4294967296 := by omega
  have hy : y < 4294967296 := by omega
  rw [hxx, hyy]
  have hlt : (x ||| y) < 4294967296 := lt_32 _ (Nat.or_lt_two_pow hx hy)
  have hm : ∀ w, Calls Try.prog 22 #[.int .i64 79, .int .u32 (x : Int), .int .u32 (y : Int)] w fun e w' => e = .returned (.tuple #[.int .u32 (((x ||| y) : Nat) : Int), .bool true]) ∧ w' = w := fun w => made_79 x y hx hy w
  generalize (x ||| y) = v at *
  clear hxx hyy
  go_enter Try.func9, Try.ntmps9
  go_wp2_with (first | (go_at_call 14; refine (h14 _).mono ?_; rintro e w' ⟨rfl, rfl⟩) | (go_at_call 22; refine (hm _).mono ?_; rintro e w' ⟨rfl, rfl⟩))
  go_ret2
  exact ⟨ret_two (by first | rfl | omega | (simp; omega)) rfl, rfl⟩
theorem new_91 (a b : Nat) (ha : a < 18446744073709551616) (hb : b < 18446744073709551616) (w : World) : Calls Try.prog 9 #[.int .i64 91, .int .u64 (a : Int), .int .u64 (b : Int)] w fun e w' => e = .returned (.tuple #[.int .u64 (((minI a b) : Nat) : Int), .bool true]) ∧ w' = w := by
  have h14 : ∀ w, Calls Try.prog 14 #[.int .i64 91] w fun e w' => e = .returned (.bool true) ∧ w' = w := fun w => wide_any 91 w
  have hm : ∀ w, Calls Try.prog 21 #[.int .i64 91, .int .u64 (a : Int), .int .u64 (b : Int)] w fun e w' => e = .returned (.tuple #[.int .u64 (((minI a b) : Nat) : Int), .bool true]) ∧ w' = w := fun w => made_91 a b ha hb w
  generalize (((minI a b) : Nat) : Int) = v at *
  go_enter Try.func9, Try.ntmps9
  go_wp2_with (first | (go_at_call 14; refine (h14 _).mono ?_; rintro e w' ⟨rfl, rfl⟩) | (go_at_call 21; refine (hm _).mono ?_; rintro e w' ⟨rfl, rfl⟩))
  go_ret2
  exact ⟨rfl, rfl⟩
theorem new_80 (a b : Nat) (ha : a < 18446744073709551616) (hb : b < 18446744073709551616) (w : World) : Calls Try.prog 9 #[.int .i64 80, .int .u64 (a : Int), .int .u64 (b : Int)] w fun e w' => e = .returned (.tuple #[.int .u64 (((min32 (a % 4294967296) (b % 4294967296)) : Nat) : Int), .bool true]) ∧ w' = w := by
  have h14 : ∀ w, Calls Try.prog 14 #[.int .i64 80] w fun e w' => e = .returned (.bool false) ∧ w' = w := fun w => wide_any 80 w
  obtain ⟨x, hxx⟩ : ∃ x, a % 4294967296 = x := ⟨_, rfl⟩
  obtain ⟨y, hyy⟩ : ∃ y, b % 4294967296 = y := ⟨_, rfl⟩
  have hxa : (a : Int) % 4294967296 = x := by omega
  have hyb : (b : Int) % 4294967296 = y := by omega
  have hx : x < 4294967296 := by omega
  have hy : y < 4294967296 := by omega
  rw [hxx, hyy]
  have hlt : (min32 x y) < 4294967296 := min32_lt _ _ hx hy
  have hm : ∀ w, Calls Try.prog 22 #[.int .i64 80, .int .u32 (x : Int), .int .u32 (y : Int)] w fun e w' => e = .returned (.tuple #[.int .u32 (((min32 x y) : Nat) : Int), .bool true]) ∧ w' = w := fun w => made_80 x y hx hy w
  generalize (min32 x y) = v at *
  clear hxx hyy
  go_enter Try.func9, Try.ntmps9
  go_wp2_with (first | (go_at_call 14; refine (h14 _).mono ?_; rintro e w' ⟨rfl, rfl⟩) | (go_at_call 22; refine (hm _).mono ?_; rintro e w' ⟨rfl, rfl⟩))
  go_ret2
  exact ⟨ret_two (by first | rfl | omega | (simp; omega)) rfl, rfl⟩
theorem new_92 (a b : Nat) (ha : a < 18446744073709551616) (hb : b < 18446744073709551616) (w : World) : Calls Try.prog 9 #[.int .i64 92, .int .u64 (a : Int), .int .u64 (b : Int)] w fun e w' => e = .returned (.tuple #[.int .u64 (((maxI a b) : Nat) : Int), .bool true]) ∧ w' = w := by
  have h14 : ∀ w, Calls Try.prog 14 #[.int .i64 92] w fun e w' => e = .returned (.bool true) ∧ w' = w := fun w => wide_any 92 w
  have hm : ∀ w, Calls Try.prog 21 #[.int .i64 92, .int .u64 (a : Int), .int .u64 (b : Int)] w fun e w' => e = .returned (.tuple #[.int .u64 (((maxI a b) : Nat) : Int), .bool true]) ∧ w' = w := fun w => made_92 a b ha hb w
  generalize (((maxI a b) : Nat) : Int) = v at *
  go_enter Try.func9, Try.ntmps9
  go_wp2_with (first | (go_at_call 14; refine (h14 _).mono ?_; rintro e w' ⟨rfl, rfl⟩) | (go_at_call 21; refine (hm _).mono ?_; rintro e w' ⟨rfl, rfl⟩))
  go_ret2
  exact ⟨rfl, rfl⟩
theorem new_81 (a b : Nat) (ha : a < 18446744073709551616) (hb : b < 18446744073709551616) (w : World) : Calls Try.prog 9 #[.int .i64 81, .int .u64 (a : Int), .int .u64 (b : Int)] w fun e w' => e = .returned (.tuple #[.int .u64 (((max32 (a % 4294967296) (b % 4294967296)) : Nat) : Int), .bool true]) ∧ w' = w := by
  have h14 : ∀ w, Calls Try.prog 14 #[.int .i64 81] w fun e w' => e = .returned (.bool false) ∧ w' = w := fun w => wide_any 81 w
  obtain ⟨x, hxx⟩ : ∃ x, a % 4294967296 = x := ⟨_, rfl⟩
  obtain ⟨y, hyy⟩ : ∃ y, b % 4294967296 = y := ⟨_, rfl⟩
  have hxa : (a : Int) % 4294967296 = x := by omega
  have hyb : (b : Int) % 4294967296 = y := by omega
  have hx : x < 4294967296 := by omega
  have hy : y < 4294967296 := by omega
  rw [hxx, hyy]
  have hlt : (max32 x y) < 4294967296 := max32_lt _ _ hx hy
  have hm : ∀ w, Calls Try.prog 22 #[.int .i64 81, .int .u32 (x : Int), .int .u32 (y : Int)] w fun e w' => e = .returned (.tuple #[.int .u32 (((max32 x y) : Nat) : Int), .bool true]) ∧ w' = w := fun w => made_81 x y hx hy w
  generalize (max32 x y) = v at *
  clear hxx hyy
  go_enter Try.func9, Try.ntmps9
  go_wp2_with (first | (go_at_call 14; refine (h14 _).mono ?_; rintro e w' ⟨rfl, rfl⟩) | (go_at_call 22; refine (hm _).mono ?_; rintro e w' ⟨rfl, rfl⟩))
  go_ret2
  exact ⟨ret_two (by first | rfl | omega | (simp; omega)) rfl, rfl⟩
theorem new_93 (a b : Nat) (ha : a < 18446744073709551616) (hb : b < 18446744073709551616) (w : World) : Calls Try.prog 9 #[.int .i64 93, .int .u64 (a : Int), .int .u64 (b : Int)] w fun e w' => e = .returned (.tuple #[.int .u64 (((min a b) : Nat) : Int), .bool true]) ∧ w' = w := by
  have h14 : ∀ w, Calls Try.prog 14 #[.int .i64 93] w fun e w' => e = .returned (.bool true) ∧ w' = w := fun w => wide_any 93 w
  have hm : ∀ w, Calls Try.prog 21 #[.int .i64 93, .int .u64 (a : Int), .int .u64 (b : Int)] w fun e w' => e = .returned (.tuple #[.int .u64 (((min a b) : Nat) : Int), .bool true]) ∧ w' = w := fun w => made_93 a b ha hb w
  generalize (((min a b) : Nat) : Int) = v at *
  go_enter Try.func9, Try.ntmps9
  go_wp2_with (first | (go_at_call 14; refine (h14 _).mono ?_; rintro e w' ⟨rfl, rfl⟩) | (go_at_call 21; refine (hm _).mono ?_; rintro e w' ⟨rfl, rfl⟩))
  go_ret2
  exact ⟨rfl, rfl⟩
theorem new_82 (a b : Nat) (ha : a < 18446744073709551616) (hb : b < 18446744073709551616) (w : World) : Calls Try.prog 9 #[.int .i64 82, .int .u64 (a : Int), .int .u64 (b : Int)] w fun e w' => e = .returned (.tuple #[.int .u64 (((min (a % 4294967296) (b % 4294967296)) : Nat) : Int), .bool true]) ∧ w' = w := by
  have h14 : ∀ w, Calls Try.prog 14 #[.int .i64 82] w fun e w' => e = .returned (.bool false) ∧ w' = w := fun w => wide_any 82 w
  obtain ⟨x, hxx⟩ : ∃ x, a % 4294967296 = x := ⟨_, rfl⟩
  obtain ⟨y, hyy⟩ : ∃ y, b % 4294967296 = y := ⟨_, rfl⟩
  have hxa : (a : Int) % 4294967296 = x := by omega
  have hyb : (b : Int) % 4294967296 = y := by omega
  have hx : x < 4294967296 := by omega
  have hy : y < 4294967296 := by omega
  rw [hxx, hyy]
  have hlt : (min x y) < 4294967296 := by omega
  have hm : ∀ w, Calls Try.prog 22 #[.int .i64 82, .int .u32 (x : Int), .int .u32 (y : Int)] w fun e w' => e = .returned (.tuple #[.int .u32 (((min x y) : Nat) : Int), .bool true]) ∧ w' = w := fun w => made_82 x y hx hy w
  generalize (min x y) = v at *
  clear hxx hyy
  go_enter Try.func9, Try.ntmps9
  go_wp2_with (first | (go_at_call 14; refine (h14 _).mono ?_; rintro e w' ⟨rfl, rfl⟩) | (go_at_call 22; refine (hm _).mono ?_; rintro e w' ⟨rfl, rfl⟩))
  go_ret2
  exact ⟨ret_two (by first | rfl | omega | (simp; omega)) rfl, rfl⟩
theorem new_94 (a b : Nat) (ha : a < 18446744073709551616) (hb : b < 18446744073709551616) (w : World) : Calls Try.prog 9 #[.int .i64 94, .int .u64 (a : Int), .int .u64 (b : Int)] w fun e w' => e = .returned (.tuple #[.int .u64 (((max a b) : Nat) : Int), .bool true]) ∧ w' = w := by
  have h14 : ∀ w, Calls Try.prog 14 #[.int .i64 94] w fun e w' => e = .returned (.bool true) ∧ w' = w := fun w => wide_any 94 w
  have hm : ∀ w, Calls Try.prog 21 #[.int .i64 94, .int .u64 (a : Int), .int .u64 (b : Int)] w fun e w' => e = .returned (.tuple #[.int .u64 (((max a b) : Nat) : Int), .bool true]) ∧ w' = w := fun w => made_94 a b ha hb w
  generalize (((max a b) : Nat) : Int) = v at *
  go_enter Try.func9, Try.ntmps9
  go_wp2_with (first | (go_at_call 14; refine (h14 _).mono ?_; rintro e w' ⟨rfl, rfl⟩) | (go_at_call 21; refine (hm _).mono ?_; rintro e w' ⟨rfl, rfl⟩))
  go_ret2
  exact ⟨rfl, rfl⟩
theorem new_83 (a b : Nat) (ha : a < 18446744073709551616) (hb : b < 18446744073709551616) (w : World) : Calls Try.prog 9 #[.int .i64 83, .int .u64 (a : Int), .int .u64 (b : Int)] w fun e w' => e = .returned (.tuple #[.int .u64 (((max (a % 4294967296) (b % 4294967296)) : Nat) : Int), .bool true]) ∧ w' = w := by
  have h14 : ∀ w, Calls Try.prog 14 #[.int .i64 83] w fun e w' => e = .returned (.bool false) ∧ w' = w := fun w => wide_any 83 w
  obtain ⟨x, hxx⟩ : ∃ x, a % 4294967296 = x := ⟨_, rfl⟩
  obtain ⟨y, hyy⟩ : ∃ y, b % 4294967296 = y := ⟨_, rfl⟩
  have hxa : (a : Int) % 4294967296 = x := by omega
  have hyb : (b : Int) % 4294967296 = y := by omega
  have hx : x < 4294967296 := by omega
  have hy : y < 4294967296 := by omega
  rw [hxx, hyy]
  have hlt : (max x y) < 4294967296 := by omega
  have hm : ∀ w, Calls Try.prog 22 #[.int .i64 83, .int .u32 (x : Int), .int .u32 (y : Int)] w fun e w' => e = .returned (.tuple #[.int .u32 (((max x y) : Nat) : Int), .bool true]) ∧ w' = w := fun w => made_83 x y hx hy w
  generalize (max x y) = v at *
  clear hxx hyy
  go_enter Try.func9, Try.ntmps9
  go_wp2_with (first | (go_at_call 14; refine (h14 _).mono ?_; rintro e w' ⟨rfl, rfl⟩) | (go_at_call 22; refine (hm _).mono ?_; rintro e w' ⟨rfl, rfl⟩))
  go_ret2
  exact ⟨ret_two (by first | rfl | omega | (simp; omega)) rfl, rfl⟩
theorem new_no (op : Int) (h75 : ¬ op = 75) (h76 : ¬ op = 76) (h77 : ¬ op = 77) (h78 : ¬ op = 78) (h79 : ¬ op = 79) (h80 : ¬ op = 80) (h81 : ¬ op = 81) (h82 : ¬ op = 82) (h83 : ¬ op = 83) (h86 : ¬ op = 86) (h87 : ¬ op = 87) (h88 : ¬ op = 88) (h89 : ¬ op = 89) (h90 : ¬ op = 90) (h91 : ¬ op = 91) (h92 : ¬ op = 92) (h93 : ¬ op = 93) (h94 : ¬ op = 94) (a b : Nat) (ha : a < 18446744073709551616) (hb : b < 18446744073709551616) (w : World) : Calls Try.prog 9 #[.int .i64 op, .int .u64 (a : Int), .int .u64 (b : Int)] w fun e w' => e = .returned (.tuple #[.int .u64 0, .bool false]) ∧ w' = w := by
  have h14 : ∀ w, Calls Try.prog 14 #[.int .i64 op] w fun e w' => e = .returned (.bool (wideB op)) ∧ w' = w := fun w => wide_any op w
  obtain ⟨x, hxx⟩ : ∃ x, a % 4294967296 = x := ⟨_, rfl⟩
  obtain ⟨y, hyy⟩ : ∃ y, b % 4294967296 = y := ⟨_, rfl⟩
  have hxa : (a : Int) % 4294967296 = x := by omega
  have hyb : (b : Int) % 4294967296 = y := by omega
  have hm : ∀ w, Calls Try.prog 22 #[.int .i64 op, .int .u32 (x : Int), .int .u32 (y : Int)] w fun e w' => e = .returned (.tuple #[.int .u32 0, .bool false]) ∧ w' = w := fun w => made_no_u32 op h75 h86 h76 h87 h77 h88 h78 h89 h79 h90 h80 h91 h81 h92 h82 h93 h83 h94 x y w
  have hm2 : ∀ w, Calls Try.prog 21 #[.int .i64 op, .int .u64 (a : Int), .int .u64 (b : Int)] w fun e w' => e = .returned (.tuple #[.int .u64 0, .bool false]) ∧ w' = w := fun w => made_no_u64 op h75 h86 h76 h87 h77 h88 h78 h89 h79 h90 h80 h91 h81 h92 h82 h93 h83 h94 a b w
  clear hxx hyy h75 h86 h76 h87 h77 h88 h78 h89 h79 h90 h80 h91 h81 h92 h82 h93 h83 h94
  cases hw : wideB op <;> rw [hw] at h14 <;> clear hw
  · go_enter Try.func9, Try.ntmps9
    go_wp2_with (first | (go_at_call 14; refine (h14 _).mono ?_; rintro e w' ⟨rfl, rfl⟩) | (go_at_call 22; refine (hm _).mono ?_; rintro e w' ⟨rfl, rfl⟩))
    go_ret2
    exact ⟨rfl, rfl⟩
  · go_enter Try.func9, Try.ntmps9
    go_wp2_with (first | (go_at_call 14; refine (h14 _).mono ?_; rintro e w' ⟨rfl, rfl⟩) | (go_at_call 21; refine (hm2 _).mono ?_; rintro e w' ⟨rfl, rfl⟩))
    go_ret2
    exact ⟨rfl, rfl⟩
theorem new_any (op : Int) (a b : Nat) (ha : a < 18446744073709551616) (hb : b < 18446744073709551616) (w : World) : Calls Try.prog 9 #[.int .i64 op, .int .u64 (a : Int), .int .u64 (b : Int)] w fun e w' => e = .returned (.tuple #[.int .u64 ((newV op a b : Nat) : Int), .bool (newOk op)]) ∧ w' = w := by
  by_cases h75 : op = 75
  · subst h75
    rw [newV_75, show newOk 75 = true from rfl]; exact new_75 a b ha hb w
  by_cases h76 : op = 76
  · subst h76
    rw [newV_76, show newOk 76 = true from rfl]; exact new_76 a b ha hb w
  by_cases h77 : op = 77
  · subst h77
    rw [newV_77, show newOk 77 = true from rfl]; exact new_77 a b ha hb w
  by_cases h78 : op = 78
  · subst h78
    rw [newV_78, show newOk 78 = true from rfl]; exact new_78 a b ha hb w
  by_cases h79 : op = 79
  · subst h79
    rw [newV_79, show newOk 79 = true from rfl]; exact new_79 a b ha hb w
  by_cases h80 : op = 80
  · subst h80
    rw [newV_80, show newOk 80 = true from rfl]; exact new_80 a b ha hb w
  by_cases h81 : op = 81
  · subst h81
    rw [newV_81, show newOk 81 = true from rfl]; exact new_81 a b ha hb w
  by_cases h82 : op = 82
  · subst h82
    rw [newV_82, show newOk 82 = true from rfl]; exact new_82 a b ha hb w
  by_cases h83 : op = 83
  · subst h83
    rw [newV_83, show newOk 83 = true from rfl]; exact new_83 a b ha hb w
  by_cases h86 : op = 86
  · subst h86
    rw [newV_86, show newOk 86 = true from rfl]; exact new_86 a b ha hb w
  by_cases h87 : op = 87
  · subst h87
    rw [newV_87, show newOk 87 = true from rfl]; exact new_87 a b ha hb w
  by_cases h88 : op = 88
  · subst h88
    rw [newV_88, show newOk 88 = true from rfl]; exact new_88 a b ha hb w
  by_cases h89 : op = 89
  · subst h89
    rw [newV_89, show newOk 89 = true from rfl]; exact new_89 a b ha hb w
  by_cases h90 : op = 90
  · subst h90
    rw [newV_90, show newOk 90 = true from rfl]; exact new_90 a b ha hb w
  by_cases h91 : op = 91
  · subst h91
    rw [newV_91, show newOk 91 = true from rfl]; exact new_91 a b ha hb w
  by_cases h92 : op = 92
  · subst h92
    rw [newV_92, show newOk 92 = true from rfl]; exact new_92 a b ha hb w
  by_cases h93 : op = 93
  · subst h93
    rw [newV_93, show newOk 93 = true from rfl]; exact new_93 a b ha hb w
  by_cases h94 : op = 94
  · subst h94
    rw [newV_94, show newOk 94 = true from rfl]; exact new_94 a b ha hb w
  rw [newV_no op h75 h76 h77 h78 h79 h80 h81 h82 h83 h86 h87 h88 h89 h90 h91 h92 h93 h94, newOk_no op h75 h76 h77 h78 h79 h80 h81 h82 h83 h86 h87 h88 h89 h90 h91 h92 h93 h94]; exact new_no op h75 h76 h77 h78 h79 h80 h81 h82 h83 h86 h87 h88 h89 h90 h91 h92 h93 h94 a b ha hb w
def oldV (op : Int) (a : Nat) : Nat := if wideB op then a else sextA a 32
theorem old_any (op : Int) (a : Nat) (ha : a < 18446744073709551616) (w : World) : Calls Try.prog 11 #[.int .i64 op, .int .u64 (a : Int)] w fun e w' => e = .returned (.int .u64 ((oldV op a : Nat) : Int)) ∧ w' = w := by
  have h14 : ∀ w, Calls Try.prog 14 #[.int .i64 op] w fun e w' => e = .returned (.bool (wideB op)) ∧ w' = w := fun w => wide_any op w
  have hs : ∀ w, Calls Try.prog 27 #[.int .u64 (a : Int)] w fun e w' => e = .returned (.int .u64 ((sextA a 32 : Nat) : Int)) ∧ w' = w := fun w => sext32_any a ha w
  unfold oldV
  cases hw : wideB op <;> rw [hw] at h14 <;> clear hw
  · generalize sextA a 32 = v at *
    go_enter Try.func11, Try.ntmps11
    go_wp2_with (first | (go_at_call 14; refine (h14 _).mono ?_; rintro e w' ⟨rfl, rfl⟩) | (go_at_call 27; refine (hs _).mono ?_; rintro e w' ⟨rfl, rfl⟩))
    go_ret
    exact ⟨rfl, rfl⟩
  · go_enter Try.func11, Try.ntmps11
    go_wp2_with (first | (go_at_call 14; refine (h14 _).mono ?_; rintro e w' ⟨rfl, rfl⟩))
    go_ret
    exact ⟨rfl, rfl⟩
theorem reserves_any (op : Int) (w : World) : Calls Try.prog 15 #[.int .i64 op] w fun e w' => e = .returned (.bool (decide (op = 73 ∨ op = 84))) ∧ w' = w := by
  go_enter Try.func15, Try.ntmps15
  go_wp2
  all_goals
    go_ret
    exact ⟨ret_bool (by first | (simp [*]; done) | (rw [eq_comm]; simp [*]; done) | (simp_all; done) | (rw [Bool.eq_iff_iff]; simp)), rfl⟩
theorem cond_any (op : Int) (w : World) : Calls Try.prog 16 #[.int .i64 op] w fun e w' => e = .returned (.bool (decide (op = 74 ∨ op = 85))) ∧ w' = w := by
  go_enter Try.func16, Try.ntmps16
  go_wp2
  all_goals
    go_ret
    exact ⟨ret_bool (by first | (simp [*]; done) | (rw [eq_comm]; simp [*]; done) | (simp_all; done) | (rw [Bool.eq_iff_iff]; simp)), rfl⟩
theorem awake_any (w : World) : Calls Try.prog 8 #[] w fun e w' => e = .returned (.bool true) ∧ w' = w := by
  have hn : ∀ w, Calls Try.prog 9 #[.int .i64 76, .int .u64 4294967295, .int .u64 1] w fun e w' => e = .returned (.tuple #[.int .u64 0, .bool true]) ∧ w' = w := fun w => new_any 76 4294967295 1 (by decide) (by decide) w
  have ho : ∀ w, Calls Try.prog 11 #[.int .i64 76, .int .u64 4294967295] w fun e w' => e = .returned (.int .u64 18446744073709551615) ∧ w' = w := fun w => by
    have h := old_any 76 4294967295 (by decide) w
    rw [show oldV 76 4294967295 = 18446744073709551615 from by decide +kernel] at h
    exact h
  have h14 : ∀ w, Calls Try.prog 14 #[.int .i64 84] w fun e w' => e = .returned (.bool true) ∧ w' = w := fun w => wide_any 84 w
  go_enter Try.func8, Try.ntmps8
  go_wp2_with (first | (go_at_call 9; refine (hn _).mono ?_; rintro e w' ⟨rfl, rfl⟩) | (go_at_call 11; refine (ho _).mono ?_; rintro e w' ⟨rfl, rfl⟩) | (go_at_call 14; refine (h14 _).mono ?_; rintro e w' ⟨rfl, rfl⟩))
  go_ret
  exact ⟨rfl, rfl⟩
end Go.Proofs.Ytcpaddnigembkaa
