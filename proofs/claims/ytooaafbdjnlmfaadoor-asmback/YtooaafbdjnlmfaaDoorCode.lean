/- The calls Mask, Get, Sext and Sext32 of layer 1 come to plain numbers, and so do the document's. -/
import Derived.Test.YtooaafbdjnlmfaaDoorBits
import Derived.Laws.Shifts
import Derived.Laws.BitsAllLaws
import Derived.Laws.Bits64b
namespace Go.Proofs.YtooaafbdjnlmfaaDoor
open Go.RowKit
theorem bitAt_one (x i : Nat) : decide (bitAt x i = 1) = x.testBit i := by rw [Nat.testBit_eq_decide_div_mod_eq]; rfl
theorem hiOf_eq (f : Nat → Nat) (m y : Nat) (hf : ∀ j, j < m → f j ≤ 1) (h : ∀ j, y.testBit j = (decide (j < m) && decide (f j = 1))) : hiOf f m 0 = y := by
  apply Nat.eq_of_testBit_eq
  intro j
  rw [h, hiOf_testBit f m 0 j (fun j hj => by simpa using hf j hj)]
  simp
theorem high_bit (x j : Nat) (hx : x < 18446744073709551616) (h : 64 ≤ j) : x.testBit j = false := by
  apply Nat.testBit_lt_two_pow
  have : 2 ^ 64 ≤ 2 ^ j := Nat.pow_le_pow_right (by omega) h
  omega
theorem get_eq (x a m M : Nat) (hx : x < 18446744073709551616) (ha : a ≤ 63) (hm : m = min M (64 - a)) : hiOf (fun i => bitAt x (a + i)) m 0 = x / 2 ^ a % 2 ^ M := by
  apply hiOf_eq _ _ _ (fun _ _ => bitAt_le _ _)
  intro j
  rw [bitAt_one, Nat.testBit_mod_two_pow, ← Nat.shiftRight_eq_div_pow, Nat.testBit_shiftRight]
  by_cases h : j < 64 - a
  · rw [show decide (j < M) = decide (j < m) from by rw [decide_eq_decide]; omega]
  · rw [high_bit x (a + j) hx (by omega)]; simp
/-- what Sext of the code comes to, for a number of bits from 1 to 63 -/
def sextN (x n : Nat) : Nat := if x.testBit (n - 1) then 2 ^ n * (2 ^ (64 - n) - 1) + x % 2 ^ n else x % 2 ^ n
theorem sext_eq (x n : Nat) (h1 : 1 ≤ n) (h2 : n ≤ 63) : hiOf (sextF x n 64) 64 0 = sextN x n := by
  apply hiOf_eq _ _ _ (fun _ _ => sextF_le _ _ _ _)
  intro j
  unfold sextN sextF
  have hr : x % 2 ^ n < 2 ^ n := Nat.mod_lt _ (Nat.two_pow_pos n)
  by_cases hb : x.testBit (n - 1) = true
  · rw [if_pos hb, Nat.testBit_two_pow_mul_add _ hr]
    by_cases hj : j < n
    · rw [if_pos hj, if_neg (by omega), bitAt_one, Nat.testBit_mod_two_pow]
      simp [hj]; omega
    · rw [if_neg hj, Nat.testBit_two_pow_sub_one]
      by_cases h64 : j < 64
      · rw [if_pos (by omega), bitAt_one, hb]; simp [h64]; omega
      · simp [h64]; omega
  · rw [if_neg hb, Nat.testBit_mod_two_pow]
    by_cases hj : j < n
    · rw [if_neg (by omega), bitAt_one]; simp [hj]; omega
    · by_cases h64 : j < 64
      · rw [if_pos (by omega), bitAt_one]; simp [hj, hb]
      · simp [hj, h64]
theorem wrap_u64 (x : Int) : IntKind.u64.wrap x = x % 18446744073709551616 := by simp [IntKind.wrap, IntKind.signed, IntKind.bits]
theorem shl_one (n : Int) (M : Nat) (h : 1 ≤ n) (hM : M = (min n 64).toNat) : Op.shift BinOp.shl IntKind.u64 1 IntKind.i64 n = pure (.int .u64 ((2 ^ M % 18446744073709551616 : Nat) : Int)) := by
  rw [shift_shl_any _ _ _ _ (by omega), show min n.toNat IntKind.u64.bits = M from by rw [hM]; show min n.toNat 64 = _; omega, wrap_u64]
  simp
theorem mask_last (M : Nat) (h1 : 1 ≤ M) (h : M ≤ 64) : IntKind.u64.wrap (((2 ^ M % 18446744073709551616 : Nat) : Int) - 1) = ((2 ^ M - 1 : Nat) : Int) := by
  rw [wrap_u64]
  by_cases e : M = 64
  · subst e; decide
  · have h2 : 2 ^ M ≤ 2 ^ 63 := Nat.pow_le_pow_right (by omega) (by omega)
    have h3 : 2 ^ 1 ≤ 2 ^ M := Nat.pow_le_pow_right (by omega) h1
    generalize 2 ^ M = p at *
    omega
theorem int_shr (x a : Nat) : (x : Int) / 2 ^ a = ((x / 2 ^ a : Nat) : Int) := by simp
theorem and_mask (x a M : Nat) (hx : x < 18446744073709551616) (hM : M ≤ 64) : bits .and .u64 ((x : Int) / 2 ^ a) ((2 ^ M - 1 : Nat) : Int) = ((x / 2 ^ a % 2 ^ M : Nat) : Int) := by
  have h1 : x / 2 ^ a < 18446744073709551616 := Nat.lt_of_le_of_lt (Nat.div_le_self _ _) hx
  have h2 : 2 ^ M ≤ 2 ^ 64 := Nat.pow_le_pow_right (by omega) hM
  have h3 : 0 < 2 ^ M := Nat.two_pow_pos M
  rw [int_shr, bits_and_u64_nat _ _ h1 (by omega), Nat.and_two_pow_sub_one_eq_mod]
theorem wrap64_val (y : Nat) (h : y < 18446744073709551616) : wrap64 (y : Int) = if y < 9223372036854775808 then (y : Int) else (y : Int) - 18446744073709551616 := by
  unfold wrap64; split <;> omega
theorem sext_num (x n : Nat) (h1 : 1 ≤ n) (h2 : n ≤ 63) : IntKind.u64.wrap (wrap64 (IntKind.u64.wrap ((x : Int) * 2 ^ (64 - n))) / 2 ^ (64 - n)) = ((sextN x n : Nat) : Int) := by
  have e1 : IntKind.u64.wrap ((x : Int) * 2 ^ (64 - n)) = (((x % 2 ^ n) * 2 ^ (64 - n) : Nat) : Int) := by
    rw [wrap_u64, ← Nat.mul_mod_mul_right, ← Nat.pow_add, show n + (64 - n) = 64 from by omega]
    simp
  rw [e1]
  have hpq : 2 ^ n * 2 ^ (64 - n) = 18446744073709551616 := by rw [← Nat.pow_add, show n + (64 - n) = 64 from by omega]
  have hp2 : 2 ^ n = 2 * 2 ^ (n - 1) := by rw [← Nat.pow_succ', show (n - 1).succ = n from by omega]
  have hr : x % 2 ^ n < 2 ^ n := Nat.mod_lt _ (Nat.two_pow_pos n)
  have hq : 0 < 2 ^ (64 - n) := Nat.two_pow_pos _
  have ht : x.testBit (n - 1) = decide (2 ^ (n - 1) ≤ x % 2 ^ n) := by
    have : (x % 2 ^ n).testBit (n - 1) = x.testBit (n - 1) := by rw [Nat.testBit_mod_two_pow]; simp; omega
    rw [← this, Nat.testBit_eq_decide_div_mod_eq, decide_eq_decide]
    have hpos : 0 < 2 ^ (n - 1) := Nat.two_pow_pos _
    constructor
    · intro h
      refine Nat.le_of_not_lt fun hl => ?_
      rw [Nat.div_eq_of_lt hl] at h
      simp at h
    · intro h
      have : x % 2 ^ n / 2 ^ (n - 1) = 1 := by
        apply Nat.div_eq_of_lt_le
        · omega
        · rw [hp2] at hr ⊢; omega
      rw [this]
  have ep : ((2 : Int) ^ (64 - n)) = ((2 ^ (64 - n) : Nat) : Int) := by simp
  rw [ep]
  have hm : x % 2 ^ n * 2 ^ (64 - n) < 18446744073709551616 := by rw [← hpq]; exact Nat.mul_lt_mul_of_pos_right hr hq
  rw [wrap64_val _ hm]
  unfold sextN
  have hh : 2 ^ (n - 1) * 2 ^ (64 - n) = 9223372036854775808 := by
    rw [hp2] at hpq; rw [Nat.mul_assoc] at hpq; omega
  have hmul : 2 ^ n * (2 ^ (64 - n) - 1) = 18446744073709551616 - 2 ^ n := by rw [Nat.mul_sub, hpq]; simp
  rw [ht, hmul]
  generalize 2 ^ (64 - n) = q at *
  generalize x % 2 ^ n = r at *
  generalize 2 ^ (n - 1) = h at *
  generalize 2 ^ n = p at *
  by_cases hc : h ≤ r
  · have hle : h * q ≤ r * q := Nat.mul_le_mul_right q hc
    rw [if_neg (by omega), if_pos (by simpa using hc)]
    have : ((r * q : Nat) : Int) - 18446744073709551616 = ((r : Int) - p) * q := by
      rw [Int.sub_mul]; have := congrArg (fun z : Nat => (z : Int)) hpq; simp at this; omega
    rw [this, Int.mul_ediv_cancel _ (by omega), wrap_u64]
    have : p ≤ 18446744073709551616 := by rw [← hpq]; exact Nat.le_mul_of_pos_right p hq
    omega
  · have hlt : r * q < h * q := Nat.mul_lt_mul_of_pos_right (by omega) hq
    rw [if_pos (by omega), if_neg (by simpa using hc)]
    have : ((r * q : Nat) : Int) = (r : Int) * q := by simp
    rw [this, Int.mul_ediv_cancel _ (by omega), wrap_u64]
    have : r ≤ r * q := Nat.le_mul_of_pos_right r hq
    omega
/-- the low bits of a word with their sign -/
def sextA (x : Nat) (n : Int) : Nat := if n < 1 then 0 else if 63 < n then x else sextN x n.toNat
theorem sextA_lo (x : Nat) (n : Int) (h : n < 1) : sextA x n = 0 := by unfold sextA; rw [if_pos h]
theorem sextA_hi (x : Nat) (n : Int) (h : 63 < n) : sextA x n = x := by unfold sextA; rw [if_neg (by omega), if_pos h]
theorem sextA_in (x n : Nat) (h1 : 1 ≤ n) (h2 : n ≤ 63) : sextA x n = sextN x n := by unfold sextA; rw [if_neg (by omega), if_neg (by omega), Int.toNat_natCast]
end Go.Proofs.YtooaafbdjnlmfaaDoor
