/- The document's small calls of layer 3: Known, Imm, in, part. -/
import Derived.Test.YtooaafbdjnlmfaaDoorIn
import Derived.Deep.RegionHeld3
import Derived.Handy
namespace Go.Proofs.YtooaafbdjnlmfaaDoor
open Go.RowKit
set_option linter.unusedVariables false
set_option linter.unusedSimpArgs false
set_option maxRecDepth 100000 in
theorem known_yes (op : Int) (h0 : 1 ≤ op) (h1 : op ≤ 98) (w : World) : Calls Tryd.prog 13 #[.int .i64 op] w fun e w' => e = .returned (.bool true) ∧ w' = w := by
  go_enter Tryd.func13, Tryd.ntmps13
  go_wp2
  go_ret
  exact ⟨by first | (simp; done) | (simp; omega), rfl⟩
set_option maxRecDepth 100000 in
theorem known_no (op : Int) (h : ¬ (1 ≤ op ∧ op ≤ 98)) (w : World) : Calls Tryd.prog 13 #[.int .i64 op] w fun e w' => e = .returned (.bool false) ∧ w' = w := by
  by_cases h0 : 1 ≤ op
  · have h1 : 98 < op := by omega
    clear h
    go_enter Tryd.func13, Tryd.ntmps13
    go_wp2
    go_ret
    exact ⟨by first | (simp; done) | (simp; omega), rfl⟩
  · clear h
    go_enter Tryd.func13, Tryd.ntmps13
    go_wp2
    go_ret
    exact ⟨rfl, rfl⟩
/-- the document's least and greatest number of a form of its own, what divides it, and whether it has one -/
def docSpan (f : Nat) : (Int × Int × Int) × Bool := if f = 1 then ((-2147483648, 2147479552, 4096), true) else if f = 2 then ((-1048576, 1048574, 2), true) else if f = 4 then ((-4096, 4094, 2), true) else if f = 3 ∨ f = 5 ∨ f = 6 then ((-2048, 2047, 1), true) else if f = 7 then ((0, 63, 1), true) else if f = 8 ∨ f = 13 then ((0, 31, 1), true) else if f = 10 then ((0, 4095, 1), true) else ((0, 0, 1), false)
set_option maxRecDepth 100000 in
theorem dimm_any (f : Nat) (hf : f < 17) (w : World) : Calls Tryd.prog 19 #[.int .i64 (f : Nat)] w fun e w' => e = .returned (.tuple #[.int .i64 (docSpan f).1.1, .int .i64 (docSpan f).1.2.1, .int .i64 (docSpan f).1.2.2, .bool (docSpan f).2]) ∧ w' = w := by
  have h : f = 0 ∨ f = 1 ∨ f = 2 ∨ f = 3 ∨ f = 4 ∨ f = 5 ∨ f = 6 ∨ f = 7 ∨ f = 8 ∨ f = 9 ∨ f = 10 ∨ f = 11 ∨ f = 12 ∨ f = 13 ∨ f = 14 ∨ f = 15 ∨ f = 16 := by omega
  rcases h with rfl | rfl | rfl | rfl | rfl | rfl | rfl | rfl | rfl | rfl | rfl | rfl | rfl | rfl | rfl | rfl | rfl <;>
  (go_enter Tryd.func19, Tryd.ntmps19
   go_wp2
   go_returns
   exact ⟨rfl, rfl⟩)
theorem wrap_pow (p : Nat) (h : p ≤ 2147483648) : IntKind.i64.wrap (p : Int) = p := by rw [IntKind.wrap_i64]; omega
theorem shl_i64 (n : Int) (h0 : 0 ≤ n) (h1 : n ≤ 31) : Op.shift BinOp.shl IntKind.i64 1 IntKind.i64 n = pure (.int .i64 ((2 ^ n.toNat : Nat) : Int)) := by
  have hp : 2 ^ n.toNat ≤ 2147483648 := Nat.le_trans (Nat.pow_le_pow_right (by omega) (show n.toNat ≤ 31 by omega)) (by decide)
  have e : (1 : Int) * 2 ^ n.toNat = ((2 ^ n.toNat : Nat) : Int) := by simp
  rw [shift_shl_any _ _ _ _ h0, show min n.toNat IntKind.i64.bits = n.toNat from by show min n.toNat 64 = _; omega, e, wrap_pow _ hp]
end Go.Proofs.YtooaafbdjnlmfaaDoor
