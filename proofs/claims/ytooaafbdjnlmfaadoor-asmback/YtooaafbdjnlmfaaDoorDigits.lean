/- Digits: what a digit is worth, products and sums of words, and the call parseDigits of layer 1. -/
import Derived.Test.YtooaafbdjnlmfaaDoorShelf
import Derived.WalkKit
import Derived.WalkSpells
import Derived.WalkLawsBesides
import Derived.OpenShut
import Derived.Outline
import Derived.Laws.MathBits
import Derived.Laws.Externs
namespace Go.Proofs.YtooaafbdjnlmfaaDoor
open Go.RowKit
theorem ret_tup {a b c d : Value} (h : a = c) (k : b = d) : Ending.returned (.tuple #[a, b]) = .returned (.tuple #[c, d]) := by rw [h, k]
/-- what a sign is worth as a digit; 16: it is none -/
def dg (c : Nat) : Nat := if 48 ≤ c ∧ c ≤ 57 then c - 48 else if 97 ≤ c ∧ c ≤ 102 then c - 87 else 16
theorem dg_le (c : Nat) : dg c ≤ 16 := by unfold dg; split <;> (try split) <;> omega
theorem digit_any (c : Nat) (hc : c ≤ 255) (w : World) : Calls Tryd.prog 91 #[.int .u8 (c : Int)] w fun e w' => e = .returned (.int .u64 (dg c : Nat)) ∧ w' = w := by
  have HD : Hid (dg c = if 48 ≤ c ∧ c ≤ 57 then c - 48 else if 97 ≤ c ∧ c ≤ 102 then c - 87 else 16) := rfl
  generalize dg c = d at *
  go_enter Tryd.func91, Tryd.ntmps91
  go_wp2
  all_goals
    go_ret
    refine ⟨?_, rfl⟩
    have := HD.out
    split at this
    · subst this; simp; try omega
    · split at this
      · subst this; simp; try omega
      · subst this; simp; try omega
theorem mul_lo (x y : Nat) : IntKind.u64.wrap ((x : Int) * y) = ((x * y % 18446744073709551616 : Nat) : Int) := by
  rw [IntKind.wrap_u64]; simp
theorem and_ten : bits BinOp.and IntKind.u64 10 4294967295 = 10 := by rw [and_low32 _ (by omega) (by omega)]; decide
theorem and_16 : bits BinOp.and IntKind.u64 16 4294967295 = 16 := by rw [and_low32 _ (by omega) (by omega)]; decide
set_option maxHeartbeats 400000 in
theorem mul_ten (x : Nat) (hx : x < 18446744073709551616) (w : World) : Calls Tryd.prog 92 #[.int .u64 (x : Int), .int .u64 10] w fun e w' => e = .returned (.tuple #[.int .u64 ((x * 10 / 18446744073709551616 : Nat) : Int), .int .u64 ((x * 10 % 18446744073709551616 : Nat) : Int)]) ∧ w' = w := by
  have hm := and_low32 x (by omega) (by omega)
  have h10 := and_ten
  have hm2 := and_low32 ((x : Int) / 4294967296 * 10 + (x : Int) % 4294967296 * 10 / 4294967296) (by omega) (by omega)
  have H1 : Hid (((x : Int) / 4294967296 * 10 + (x : Int) % 4294967296 * 10 / 4294967296) / 4294967296 + ((x : Int) / 4294967296 * 10 + (x : Int) % 4294967296 * 10 / 4294967296) % 4294967296 / 4294967296 = ((x * 10 / 18446744073709551616 : Nat) : Int)) := by
    show _ = _
    omega
  have H2 : Hid _ := mul_lo x 10
  generalize ((x * 10 / 18446744073709551616 : Nat) : Int) = p at *
  generalize ((x * 10 % 18446744073709551616 : Nat) : Int) = q at *
  go_enter Tryd.func92, Tryd.ntmps92
  go_wp2
  go_ret2
  refine ⟨?_, rfl⟩
  rw [← H1.out, ← H2.out]
  rfl
set_option maxHeartbeats 400000 in
theorem mul_16 (x : Nat) (hx : x < 18446744073709551616) (w : World) : Calls Tryd.prog 92 #[.int .u64 (x : Int), .int .u64 16] w fun e w' => e = .returned (.tuple #[.int .u64 ((x * 16 / 18446744073709551616 : Nat) : Int), .int .u64 ((x * 16 % 18446744073709551616 : Nat) : Int)]) ∧ w' = w := by
  have hm := and_low32 x (by omega) (by omega)
  have h10 := and_16
  have hm2 := and_low32 ((x : Int) / 4294967296 * 16 + (x : Int) % 4294967296 * 16 / 4294967296) (by omega) (by omega)
  have H1 : Hid (((x : Int) / 4294967296 * 16 + (x : Int) % 4294967296 * 16 / 4294967296) / 4294967296 + ((x : Int) / 4294967296 * 16 + (x : Int) % 4294967296 * 16 / 4294967296) % 4294967296 / 4294967296 = ((x * 16 / 18446744073709551616 : Nat) : Int)) := by
    show _ = _
    omega
  have H2 : Hid _ := mul_lo x 16
  generalize ((x * 16 / 18446744073709551616 : Nat) : Int) = p at *
  generalize ((x * 16 % 18446744073709551616 : Nat) : Int) = q at *
  go_enter Tryd.func92, Tryd.ntmps92
  go_wp2
  go_ret2
  refine ⟨?_, rfl⟩
  rw [← H1.out, ← H2.out]
  rfl
theorem add64_run (x y : Int) (hx : 0 ≤ x) (hy : 0 ≤ y) (w : World) : (callFunc 93 #[.int .u64 x, .int .u64 y, .int .u64 0]).run Tryd.prog w =
      .ok (.value (.tuple #[.int .u64 ((x + y) % 18446744073709551616), .int .u64 ((x + y) / 18446744073709551616)])) w := by
  rw [run_callFunc_extern Tryd.func93 (by kernel_rfl) (by kernel_rfl) (by kernel_rfl) (e := add64Entry) (by kernel_rfl), run_add64 x y 0 hx hy (by omega) (by omega)]
  simp [Result.andThen]
end Go.Proofs.YtooaafbdjnlmfaaDoor
