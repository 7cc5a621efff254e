/- The document's small calls of layer 3: Known, Imm, in, part. -/
import Derived.Test.YtooaafbdjnlmfaaGreatDoorIn
import Derived.Deep.RegionHeld3
import Derived.Handy
namespace Go.Proofs.YtooaafbdjnlmfaaGreatDoor
open Go.RowKit
set_option linter.unusedVariables false
set_option linter.unusedSimpArgs false
set_option maxRecDepth 100000 in
theorem known_yes (op : Int) (h0 : 1 ≤ op) (h1 : op ≤ 98) (w : World) : Calls Tryz.prog 67 #[.int .i64 op] w fun e w' => e = .returned (.bool true) ∧ w' = w := by
  go_enter Tryz.func67, Tryz.ntmps67
  go_wp2
  go_ret
  exact ⟨by first | (simp; done) | (simp; omega), rfl⟩
set_option maxRecDepth 100000 in
theorem known_no (op : Int) (h : ¬ (1 ≤ op ∧ op ≤ 98)) (w : World) : Calls Tryz.prog 67 #[.int .i64 op] w fun e w' => e = .returned (.bool false) ∧ w' = w := by
  by_cases h0 : 1 ≤ op
  · have h1 : 98 < op := by omega
    clear h
    go_enter Tryz.func67, Tryz.ntmps67
    go_wp2
    go_ret
    exact ⟨by first | (simp; done) | (simp; omega), rfl⟩
  · clear h
    go_enter Tryz.func67, Tryz.ntmps67
    go_wp2
    go_ret
    exact ⟨rfl, rfl⟩
/-- the document's least and greatest number of a form of its own, what divides it, and whether it has one -/
def docSpan (f : Nat) : (Int × Int × Int) × Bool := if f = 1 then ((-2147483648, 2147479552, 4096), true) else if f = 2 then ((-1048576, 1048574, 2), true) else if f = 4 then ((-4096, 4094, 2), true) else if f = 3 ∨ f = 5 ∨ f = 6 then ((-2048, 2047, 1), true) else if f = 7 then ((0, 63, 1), true) else if f = 8 ∨ f = 13 then ((0, 31, 1), true) else if f = 10 then ((0, 4095, 1), true) else ((0, 0, 1), false)
set_option maxRecDepth 100000 in
theorem dimm_any (f : Nat) (hf : f < 17) (w : World) : Calls Tryz.prog 47 #[.int .i64 (f : Nat)] w fun e w' => e = .returned (.tuple #[.int .i64 (docSpan f).1.1, .int .i64 (docSpan f).1.2.1, .int .i64 (docSpan f).1.2.2, .bool (docSpan f).2]) ∧ w' = w := by
  have h : f = 0 ∨ f = 1 ∨ f = 2 ∨ f = 3 ∨ f = 4 ∨ f = 5 ∨ f = 6 ∨ f = 7 ∨ f = 8 ∨ f = 9 ∨ f = 10 ∨ f = 11 ∨ f = 12 ∨ f = 13 ∨ f = 14 ∨ f = 15 ∨ f = 16 := by omega
  rcases h with rfl | rfl | rfl | rfl | rfl | rfl | rfl | rfl | rfl | rfl | rfl | rfl | rfl | rfl | rfl | rfl | rfl <;>
  (go_enter Tryz.func47, Tryz.ntmps47
   go_wp2
   go_returns
   exact ⟨rfl, rfl⟩)
theorem dget_int (x : Nat) (a n : Int) (hx : x < 18446744073709551616) (h0 : 0 ≤ a) (h1 : a ≤ 63) (h2 : 0 ≤ n) (h3 : n ≤ 64) (w : World) :
    Calls Tryz.prog 92 #[.int .u64 (x : Int), .int .i64 a, .int .i64 n] w fun e w' => e = .returned (.int .u64 (getI x a n : Nat)) ∧ Below w.heap.size w w' := by
  obtain ⟨b, rfl⟩ : ∃ b : Nat, a = b := ⟨a.toNat, by omega⟩
  have h := rget_any x b n (min n.toNat (64 - b)) hx (by omega) (by omega) w
  rw [get_eq x b (min n.toNat (64 - b)) n.toNat hx (by omega) rfl] at h
  exact h
theorem wrap_pow (p : Nat) (h : p ≤ 2147483648) : IntKind.i64.wrap (p : Int) = p := by rw [IntKind.wrap_i64]; omega
theorem shl_i64 (n : Int) (h0 : 0 ≤ n) (h1 : n ≤ 31) : Op.shift BinOp.shl IntKind.i64 1 IntKind.i64 n = pure (.int .i64 ((2 ^ n.toNat : Nat) : Int)) := by
  have hp : 2 ^ n.toNat ≤ 2147483648 := Nat.le_trans (Nat.pow_le_pow_right (by omega) (show n.toNat ≤ 31 by omega)) (by decide)
  have e : (1 : Int) * 2 ^ n.toNat = ((2 ^ n.toNat : Nat) : Int) := by simp
  rw [shift_shl_any _ _ _ _ h0, show min n.toNat IntKind.i64.bits = n.toNat from by show min n.toNat 64 = _; omega, e, wrap_pow _ hp]
set_option maxRecDepth 100000 in
set_option maxHeartbeats 400000 in
theorem part_any (v : Int) (U : Nat) (hU : IntKind.u64.wrap v = (U : Int)) (hx : U < 18446744073709551616) (a n t : Int) (h0 : 0 ≤ a) (h1 : a ≤ 63) (h2 : 0 ≤ n) (h3 : n ≤ 20) (h4 : 0 ≤ t) (h5 : t ≤ 31) (w : World) :
    Calls Tryz.prog 88 #[.int .i64 v, .int .i64 a, .int .i64 n, .int .i64 t] w fun e w' => e = .returned (.int .i64 (getI U a n * 2 ^ t.toNat : Nat)) ∧ Below w.heap.size w w' := by
  have hs := shl_i64 t h4 h5
  have hg : getI U a n < 1048576 := Nat.lt_of_lt_of_le (getI_lt U a n) (Nat.le_trans (Nat.pow_le_pow_right (by omega) (show n.toNat ≤ 20 by omega)) (by decide))
  have hp : 2 ^ t.toNat ≤ 2147483648 := Nat.le_trans (Nat.pow_le_pow_right (by omega) (show t.toNat ≤ 31 by omega)) (by decide)
  have HG : Hid _ := fun w => dget_int U a n hx h0 h1 h2 (by omega) w
  generalize hK : 2 ^ t.toNat = K at *
  generalize hG : getI U a n = G at *
  clear hK hG h0 h1 h2 h3 h4 h5
  have hm : G * K < 9223372036854775808 := Nat.lt_of_lt_of_le (Nat.mul_lt_mul_of_lt_of_le hg hp (by omega)) (by decide)
  have hw1 : IntKind.i64.wrap (G : Int) = G := by rw [IntKind.wrap_i64]; omega
  have hw2 : IntKind.i64.wrap ((G * K : Nat) : Int) = ((G * K : Nat) : Int) := by rw [IntKind.wrap_i64]; omega
  have H6 : Hid (IntKind.i64.wrap (IntKind.i64.wrap (G : Int) * (K : Int)) = ((G * K : Nat) : Int)) := (by rw [hw1, show (G : Int) * (K : Int) = ((G * K : Nat) : Int) from by simp, hw2] : IntKind.i64.wrap (IntKind.i64.wrap (G : Int) * (K : Int)) = ((G * K : Nat) : Int))
  clear hw1 hw2 hm hg hp
  go_enter Tryz.func88, Tryz.ntmps88
  go_wp2
  go_region_held3 (fun W => True) (go_keep) (first | (go_at_call 92; refine (HG.out _).mono ?_; rintro e w1 ⟨rfl, hb1⟩; have B1 : Hid _ := hb1; clear hb1))
  go_wp2
  go_ret
  exact ⟨by rw [← H6.out]; rfl, ((Below.refl _ _).drew).trans B1.out⟩
end Go.Proofs.YtooaafbdjnlmfaaGreatDoor
