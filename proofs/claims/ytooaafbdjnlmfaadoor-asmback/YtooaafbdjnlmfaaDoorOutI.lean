/- The program's call immOf of layer 3. -/
import Derived.Test.YtooaafbdjnlmfaaDoorJoin
namespace Go.Proofs.YtooaafbdjnlmfaaDoor
open Go.RowKit
set_option linter.unusedVariables false
set_option linter.unusedSimpArgs false
theorem ojump_or (a b c d : Nat) (ha : a < 2) (hb : b < 1024) (hc : c < 2) (hd : d < 256) :
    bits .or .u64 (bits .or .u64 (bits .or .u64 (IntKind.u64.wrap ((a : Int) * 1048576)) (IntKind.u64.wrap ((b : Int) * 2))) (IntKind.u64.wrap ((c : Int) * 2048))) (IntKind.u64.wrap ((d : Int) * 4096)) = ((a * 1048576 + b * 2 + c * 2048 + d * 4096 : Nat) : Int) := by
  obtain ⟨e1, s1⟩ := or64 _ _ 0x1007fe (wrap_shl a 1048576 2 ha (by decide)) (wrap_shl b 2 1024 hb (by decide)) (Sub.field 1 20 0x100000 ha rfl) (Sub.field 10 1 0x7fe hb rfl) (by decide) (by decide) (by decide) (by decide)
  obtain ⟨e2, s2⟩ := or64 _ _ 0x100ffe e1 (wrap_shl c 2048 2 hc (by decide)) s1 (Sub.field 1 11 0x800 hc rfl) (by decide) (by decide) (by decide) (by decide)
  obtain ⟨e3, s3⟩ := or64 _ _ 0x1ffffe e2 (wrap_shl d 4096 256 hd (by decide)) s2 (Sub.field 8 12 0xff000 hd rfl) (by decide) (by decide) (by decide) (by decide)
  exact e3
theorem obranch_or (a b c d : Nat) (ha : a < 2) (hb : b < 64) (hc : c < 16) (hd : d < 2) :
    bits .or .u64 (bits .or .u64 (bits .or .u64 (IntKind.u64.wrap ((a : Int) * 4096)) (IntKind.u64.wrap ((b : Int) * 32))) (IntKind.u64.wrap ((c : Int) * 2))) (IntKind.u64.wrap ((d : Int) * 2048)) = ((a * 4096 + b * 32 + c * 2 + d * 2048 : Nat) : Int) := by
  obtain ⟨e1, s1⟩ := or64 _ _ 0x17e0 (wrap_shl a 4096 2 ha (by decide)) (wrap_shl b 32 64 hb (by decide)) (Sub.field 1 12 0x1000 ha rfl) (Sub.field 6 5 0x7e0 hb rfl) (by decide) (by decide) (by decide) (by decide)
  obtain ⟨e2, s2⟩ := or64 _ _ 0x17fe e1 (wrap_shl c 2 16 hc (by decide)) s1 (Sub.field 4 1 0x1e hc rfl) (by decide) (by decide) (by decide) (by decide)
  obtain ⟨e3, s3⟩ := or64 _ _ 0x1ffe e2 (wrap_shl d 2048 2 hd (by decide)) s2 (Sub.field 1 11 0x800 hd rfl) (by decide) (by decide) (by decide) (by decide)
  exact e3
theorem ostore_or (a b : Nat) (ha : a < 128) (hb : b < 32) : bits .or .u64 (IntKind.u64.wrap ((a : Int) * 32)) (b : Int) = ((a * 32 + b : Nat) : Int) := by
  obtain ⟨e1, s1⟩ := or64 _ _ 0xfff (wrap_shl a 32 128 ha (by decide)) rfl (Sub.field 7 5 0xfe0 ha rfl) (by have := Sub.field 5 0 0x1f hb rfl; rw [Nat.pow_zero, Nat.mul_one] at this; exact this) (by decide) (by decide) (by decide) (by decide)
  exact e1
theorem oupper (x : Nat) (hx : x < 4294967296) : bits .andNot .u64 (x : Int) 4095 = ((x / 4096 * 4096 : Nat) : Int) := by
  have := u64_andNot_nat x 4095 (by omega) (by omega)
  rw [show (4095 : Int) = ((4095 : Nat) : Int) from rfl, this]
  congr 1
  apply Nat.eq_of_testBit_eq
  intro i
  have h1 : (18446744073709551615 - 4095 : Nat) = (2 ^ 52 - 1) * 2 ^ 12 := by decide
  rw [Nat.testBit_and, h1, ← Nat.shiftLeft_eq, Nat.testBit_shiftLeft, Nat.testBit_two_pow_sub_one, show (4096 : Nat) = 2 ^ 12 from rfl, ← Nat.shiftLeft_eq, Nat.testBit_shiftLeft, ← Nat.shiftRight_eq_div_pow, Nat.testBit_shiftRight]
  by_cases h : 12 ≤ i
  · rw [show 12 + (i - 12) = i from by omega]
    by_cases h2 : i - 12 < 52
    · simp [h, h2]
    · rw [high_bit x i (by omega) (by omega)]; simp
  · simp [h]
/-- the number that stands in a word of a form -/
def immD (f x : Nat) : Int := if f = 1 then wrap64 (sextA (x / 4096 * 4096) 32 : Nat) else if f = 2 then wrap64 (sextA (getI x 31 1 * 1048576 + getI x 21 10 * 2 + getI x 20 1 * 2048 + getI x 12 8 * 4096) 21 : Nat) else if f = 3 then wrap64 (sextA (getI x 20 12) 12 : Nat) else if f = 4 then wrap64 (sextA (getI x 20 12) 12 : Nat) else if f = 5 then wrap64 (sextA (getI x 31 1 * 4096 + getI x 25 6 * 32 + getI x 8 4 * 2 + getI x 7 1 * 2048) 13 : Nat) else if f = 6 then wrap64 (sextA (getI x 25 7 * 32 + getI x 7 5) 12 : Nat) else if f = 7 then ((getI x 20 6 : Nat) : Int) else if f = 8 then ((getI x 20 5 : Nat) : Int) else if f = 10 then ((getI x 20 12 : Nat) : Int) else if f = 13 then ((getI x 15 5 : Nat) : Int) else 0
theorem immD_1 (x : Nat) : immD 1 x = wrap64 (sextA (x / 4096 * 4096) 32 : Nat) := by unfold immD; rw [if_pos rfl]
theorem immD_2 (x : Nat) : immD 2 x = wrap64 (sextA (getI x 31 1 * 1048576 + getI x 21 10 * 2 + getI x 20 1 * 2048 + getI x 12 8 * 4096) 21 : Nat) := by unfold immD; rw [if_neg (show ¬ (2 : Nat) = 1 by decide), if_pos rfl]
theorem immD_3 (x : Nat) : immD 3 x = wrap64 (sextA (getI x 20 12) 12 : Nat) := by unfold immD; rw [if_neg (show ¬ (3 : Nat) = 1 by decide), if_neg (show ¬ (3 : Nat) = 2 by decide), if_pos rfl]
theorem immD_4 (x : Nat) : immD 4 x = wrap64 (sextA (getI x 20 12) 12 : Nat) := by unfold immD; rw [if_neg (show ¬ (4 : Nat) = 1 by decide), if_neg (show ¬ (4 : Nat) = 2 by decide), if_neg (show ¬ (4 : Nat) = 3 by decide), if_pos rfl]
theorem immD_5 (x : Nat) : immD 5 x = wrap64 (sextA (getI x 31 1 * 4096 + getI x 25 6 * 32 + getI x 8 4 * 2 + getI x 7 1 * 2048) 13 : Nat) := by unfold immD; rw [if_neg (show ¬ (5 : Nat) = 1 by decide), if_neg (show ¬ (5 : Nat) = 2 by decide), if_neg (show ¬ (5 : Nat) = 3 by decide), if_neg (show ¬ (5 : Nat) = 4 by decide), if_pos rfl]
theorem immD_6 (x : Nat) : immD 6 x = wrap64 (sextA (getI x 25 7 * 32 + getI x 7 5) 12 : Nat) := by unfold immD; rw [if_neg (show ¬ (6 : Nat) = 1 by decide), if_neg (show ¬ (6 : Nat) = 2 by decide), if_neg (show ¬ (6 : Nat) = 3 by decide), if_neg (show ¬ (6 : Nat) = 4 by decide), if_neg (show ¬ (6 : Nat) = 5 by decide), if_pos rfl]
theorem immD_7 (x : Nat) : immD 7 x = ((getI x 20 6 : Nat) : Int) := by unfold immD; rw [if_neg (show ¬ (7 : Nat) = 1 by decide), if_neg (show ¬ (7 : Nat) = 2 by decide), if_neg (show ¬ (7 : Nat) = 3 by decide), if_neg (show ¬ (7 : Nat) = 4 by decide), if_neg (show ¬ (7 : Nat) = 5 by decide), if_neg (show ¬ (7 : Nat) = 6 by decide), if_pos rfl]
theorem immD_8 (x : Nat) : immD 8 x = ((getI x 20 5 : Nat) : Int) := by unfold immD; rw [if_neg (show ¬ (8 : Nat) = 1 by decide), if_neg (show ¬ (8 : Nat) = 2 by decide), if_neg (show ¬ (8 : Nat) = 3 by decide), if_neg (show ¬ (8 : Nat) = 4 by decide), if_neg (show ¬ (8 : Nat) = 5 by decide), if_neg (show ¬ (8 : Nat) = 6 by decide), if_neg (show ¬ (8 : Nat) = 7 by decide), if_pos rfl]
theorem immD_10 (x : Nat) : immD 10 x = ((getI x 20 12 : Nat) : Int) := by unfold immD; rw [if_neg (show ¬ (10 : Nat) = 1 by decide), if_neg (show ¬ (10 : Nat) = 2 by decide), if_neg (show ¬ (10 : Nat) = 3 by decide), if_neg (show ¬ (10 : Nat) = 4 by decide), if_neg (show ¬ (10 : Nat) = 5 by decide), if_neg (show ¬ (10 : Nat) = 6 by decide), if_neg (show ¬ (10 : Nat) = 7 by decide), if_neg (show ¬ (10 : Nat) = 8 by decide), if_pos rfl]
theorem immD_13 (x : Nat) : immD 13 x = ((getI x 15 5 : Nat) : Int) := by unfold immD; rw [if_neg (show ¬ (13 : Nat) = 1 by decide), if_neg (show ¬ (13 : Nat) = 2 by decide), if_neg (show ¬ (13 : Nat) = 3 by decide), if_neg (show ¬ (13 : Nat) = 4 by decide), if_neg (show ¬ (13 : Nat) = 5 by decide), if_neg (show ¬ (13 : Nat) = 6 by decide), if_neg (show ¬ (13 : Nat) = 7 by decide), if_neg (show ¬ (13 : Nat) = 8 by decide), if_neg (show ¬ (13 : Nat) = 10 by decide), if_pos rfl]
theorem immD_none (f x : Nat) (h : f ≠ 1 ∧ f ≠ 2 ∧ f ≠ 3 ∧ f ≠ 4 ∧ f ≠ 5 ∧ f ≠ 6 ∧ f ≠ 7 ∧ f ≠ 8 ∧ f ≠ 10 ∧ f ≠ 13) : immD f x = 0 := by unfold immD; rw [if_neg h.1, if_neg h.2.1, if_neg h.2.2.1, if_neg h.2.2.2.1, if_neg h.2.2.2.2.1, if_neg h.2.2.2.2.2.1, if_neg h.2.2.2.2.2.2.1, if_neg h.2.2.2.2.2.2.2.1, if_neg h.2.2.2.2.2.2.2.2.1, if_neg h.2.2.2.2.2.2.2.2.2]
theorem wrap64_small (n : Nat) (h : n < 9223372036854775808) : wrap64 (n : Int) = n := by unfold wrap64; omega
theorem ret64 {a b : Int} (h : a = b) : Ending.returned (.int .i64 a) = .returned (.int .i64 b) := by rw [h]
theorem first_below (w : World) (k : Nat) : Below w.heap.size w (w.drewN k) := below_drewN (Below.refl _ _) k
end Go.Proofs.YtooaafbdjnlmfaaDoor
