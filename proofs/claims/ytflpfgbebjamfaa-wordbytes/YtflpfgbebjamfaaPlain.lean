/- Plain numbers: what the document reckons bit by bit is what is reckoned by shifts and masks. -/
import Derived.Test.YtflpfgbebjamfaaRef
namespace Go.Proofs.Ytflpfgbebjamfaa
open Go.RowKit
theorem bitAt_one (x i : Nat) : decide (bitAt x i = 1) = x.testBit i := by rw [Nat.testBit_eq_decide_div_mod_eq]; rfl
theorem hiOf_eq (f : Nat → Nat) (m y : Nat) (hf : ∀ j, j < m → f j ≤ 1) (h : ∀ j, y.testBit j = (decide (j < m) && decide (f j = 1))) : hiOf f m 0 = y := by
  apply Nat.eq_of_testBit_eq
  intro j
  rw [h, hiOf_testBit f m 0 j (fun j hj => by simpa using hf j hj)]
  simp
theorem mask_eq (m : Nat) : hiOf (fun _ => 1) m 0 = 2 ^ m - 1 :=
  hiOf_eq _ _ _ (fun _ _ => Nat.le_refl _) (fun j => by rw [Nat.testBit_two_pow_sub_one]; simp)
theorem high_bit (x j : Nat) (hx : x < 18446744073709551616) (h : 64 ≤ j) : x.testBit j = false := by
  apply Nat.testBit_lt_two_pow
  have : 2 ^ 64 ≤ 2 ^ j := Nat.pow_le_pow_right (by omega) h
  omega
theorem get_eq (x a m M : Nat) (hx : x < 18446744073709551616) (ha : a ≤ 63) (hm : m = min M (64 - a)) : hiOf (fun i => bitAt x (a + i)) m 0 = x / 2 ^ a % 2 ^ M := by
  apply hiOf_eq _ _ _ (fun _ _ => bitAt_le _ _)
  intro j
  rw [bitAt_one, Nat.testBit_mod_two_pow, ← Nat.shiftRight_eq_div_pow, Nat.testBit_shiftRight]
  by_cases h : j < 64 - a
  · rw [show decide (j < M) = decide (j < m) from by rw [decide_eq_decide]; omega]
  · rw [high_bit x (a + j) hx (by omega)]; simp
/-- what Put of the code comes to -/
def putN (x a M v : Nat) : Nat := x &&& (18446744073709551615 - (2 ^ M - 1) * 2 ^ a % 18446744073709551616) ||| (v * 2 ^ a % 18446744073709551616) &&& ((2 ^ M - 1) * 2 ^ a % 18446744073709551616)
theorem put_eq (x a m M v : Nat) (ha : a ≤ 63) (hm : m = min M (64 - a)) : hiOf (putF x v a m) 64 0 = putN x a M v := by
  apply hiOf_eq _ _ _ (fun _ _ => putF_le _ _ _ _ _)
  intro j
  have e64 : (18446744073709551616 : Nat) = 2 ^ 64 := by decide
  have hole : ∀ i, ((2 ^ M - 1) * 2 ^ a % 18446744073709551616).testBit i = (decide (i < 64) && (decide (a ≤ i) && decide (i - a < M))) := by
    intro i
    rw [e64, Nat.testBit_mod_two_pow, ← Nat.shiftLeft_eq, Nat.testBit_shiftLeft, Nat.testBit_two_pow_sub_one]
  have hl : (2 ^ M - 1) * 2 ^ a % 18446744073709551616 < 2 ^ 64 := by rw [← e64]; exact Nat.mod_lt _ (by decide)
  have hc : (18446744073709551615 - (2 ^ M - 1) * 2 ^ a % 18446744073709551616).testBit j = (decide (j < 64) && !((2 ^ M - 1) * 2 ^ a % 18446744073709551616).testBit j) := by
    rw [← Nat.testBit_two_pow_sub_succ hl]
    congr 1
    omega
  have hv : (v * 2 ^ a % 18446744073709551616).testBit j = (decide (j < 64) && (decide (a ≤ j) && v.testBit (j - a))) := by
    rw [e64, Nat.testBit_mod_two_pow, ← Nat.shiftLeft_eq, Nat.testBit_shiftLeft]
  unfold putN
  rw [Nat.testBit_or, Nat.testBit_and, Nat.testBit_and, hc, hv, hole]
  by_cases h64 : j < 64
  · unfold putF
    by_cases h1 : a ≤ j
    · by_cases h2 : j - a < M
      · rw [if_pos ⟨h1, by omega⟩, bitAt_one]; simp [h64, h1, h2]
      · rw [if_neg (by omega), bitAt_one]; simp [h64, h1, h2]
    · rw [if_neg (by omega), bitAt_one]; simp [h64, h1]
  · simp [h64]
theorem putN_lt (x a M v : Nat) (hx : x < 18446744073709551616) : putN x a M v < 18446744073709551616 := by
  have h1 : x &&& (18446744073709551615 - (2 ^ M - 1) * 2 ^ a % 18446744073709551616) < 2 ^ 64 := Nat.lt_of_le_of_lt Nat.and_le_left hx
  have h2 : (v * 2 ^ a % 18446744073709551616) &&& ((2 ^ M - 1) * 2 ^ a % 18446744073709551616) < 2 ^ 64 := Nat.lt_of_le_of_lt Nat.and_le_left (Nat.mod_lt _ (by decide))
  exact Nat.or_lt_two_pow h1 h2
/-- what Sext of the code comes to, for a number of bits from 1 to 63 -/
def sextN (x n : Nat) : Nat := if x.testBit (n - 1) then 2 ^ n * (2 ^ (64 - n) - 1) + x % 2 ^ n else x % 2 ^ n
theorem sext_eq (x n : Nat) (h1 : 1 ≤ n) (h2 : n ≤ 63) : hiOf (sextF x n 64) 64 0 = sextN x n := by
  apply hiOf_eq _ _ _ (fun _ _ => sextF_le _ _ _ _)
  intro j
  unfold sextN sextF
  have hr : x % 2 ^ n < 2 ^ n := Nat.mod_lt _ (Nat.two_pow_pos n)
  by_cases hb : x.testBit (n - 1) = true
  · rw [if_pos hb, Nat.testBit_two_pow_mul_add _ hr]
    by_cases hj : j < n
    · rw [if_pos hj, if_neg (by omega), bitAt_one, Nat.testBit_mod_two_pow]
      simp [hj]; omega
    · rw [if_neg hj, Nat.testBit_two_pow_sub_one]
      by_cases h64 : j < 64
      · rw [if_pos (by omega), bitAt_one, hb]; simp [h64]; omega
      · simp [h64]; omega
  · rw [if_neg hb, Nat.testBit_mod_two_pow]
    by_cases hj : j < n
    · rw [if_neg (by omega), bitAt_one]; simp [hj]; omega
    · by_cases h64 : j < 64
      · rw [if_pos (by omega), bitAt_one]; simp [hj, hb]
      · simp [hj, h64]
end Go.Proofs.Ytflpfgbebjamfaa
