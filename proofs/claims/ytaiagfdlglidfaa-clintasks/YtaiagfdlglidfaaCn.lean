/- Plain numbers of layer 11: which accesses there may be, what is told, what is kept behind a store; byte by byte and whole is the same. -/
import Derived.Test.YtaiagfdlglidfaaBx
namespace Go.Proofs.Ytaiagfdlglidfaa
open Go.RowKit
set_option linter.unusedVariables false
set_option linter.unusedSimpArgs false
/-- may there be such an access? -/
def mayB (a : Nat) (n : Int) : Bool := decide ((n = 4 ∨ n = 8) ∧ (a : Int) % n = 0 ∧ (a : Int) + n ≤ 65536)
theorem mayB_k {a : Nat} {n : Int} (h : mayB a n = true) : ∃ k : Nat, n = k ∧ (k = 4 ∨ k = 8) ∧ a % k = 0 ∧ a % 8 + k ≤ 8 ∧ a + k ≤ 65536 := by
  unfold mayB at h
  rw [decide_eq_true_eq] at h
  obtain ⟨rfl | rfl, h1, h2⟩ := h
  · exact ⟨4, rfl, .inl rfl, by omega, by omega, by omega⟩
  · exact ⟨8, rfl, .inr rfl, by omega, by omega, by omega⟩
/-- 1 of true -/
def flN (b : Bool) : Nat := if b then 1 else 0
theorem flN_le (b : Bool) : flN b ≤ 1 := by cases b <;> decide
/-- what n bytes at a place hold -/
def loadR (s : Bool) (c t a : Nat) (n : Int) : Nat :=
  if mayB a n = false then 0 else if a = 0 then flN s else if a - a % 8 = 16384 then E.getN c (a % 8 * 8 : Nat) (8 * n) else if a - a % 8 = 49144 then E.getN t (a % 8 * 8 : Nat) (8 * n) else 0
/-- what is kept behind a store: the software interrupt -/
def softR (s : Bool) (a n v : Nat) : Bool := if a = 0 ∧ 0 < n then v % 2 == 1 else s
/-- a word at a place of eight bytes behind a store -/
def wordR (c b a n v : Nat) : Nat := if a - a % 8 = b then E.putA c (a % 8 * 8 : Nat) (8 * n : Nat) v else c
theorem wordR_lt (c b a n v : Nat) (hc : c < 18446744073709551616) : wordR c b a n v < 18446744073709551616 := by
  unfold wordR; split
  · exact E.putA_lt _ _ _ _ hc
  · exact hc
/-- the word of the interrupts that are held up -/
def linesR (s : Bool) (c t : Nat) : Nat := 8 * flN s + 128 * flN (decide (c ≤ t))
/-- the byte at a place -/
def byteR (s : Bool) (c t a : Nat) : Nat := if 16384 ≤ a ∧ a < 16392 then byteAt c (a - 16384) else if 49144 ≤ a ∧ a < 49152 then byteAt t (a - 49144) else if a = 0 then flN s else 0
theorem byteR_le (s : Bool) (c t a : Nat) : byteR s c t a ≤ 255 := by
  unfold byteR
  have := byteAt_le c (a - 16384)
  have := byteAt_le t (a - 49144)
  have := flN_le s
  split <;> (try split) <;> (try split) <;> omega
theorem h256_congr (f g : Nat → Nat) : ∀ (m i : Nat), (∀ j, j < m → f (i + j) = g (i + j)) → h256 f m i = h256 g m i
  | 0, _, _ => rfl
  | m + 1, i, h => by
    rw [h256, h256, h256_congr f g m (i + 1) (fun j hj => by have := h (j + 1) (by omega); rwa [show i + 1 + j = i + (j + 1) from by omega])]
    have := h 0 (by omega)
    simp at this
    rw [this]
theorem h256_shift (x o : Nat) (m : Nat) : h256 (fun i => byteAt x (o + i)) m 0 = x / 256 ^ o % 256 ^ m := by
  rw [← h256_byteAt (x / 256 ^ o) m]
  apply h256_congr
  intro j _
  unfold byteAt
  rw [Nat.zero_add, Nat.pow_add, Nat.div_div_eq_div_mul]
theorem h256_zero (m i : Nat) : h256 (fun _ => 0) m i = 0 := by
  induction m generalizing i with
  | zero => rfl
  | succ m ih => rw [h256, ih]
theorem get_bytes (x o k : Nat) (ho : o + k ≤ 8) (hk : 0 < k) : h256 (fun i => byteAt x (o + i)) k 0 = E.getN x (o * 8 : Nat) (8 * (k : Int)) := by
  rw [h256_shift, E.getN_in _ _ _ (by omega), pow_256, pow_256, show (min (8 * (k : Int)) 64).toNat = 8 * k from by omega, Nat.mul_comm o 8]
/-- byte by byte the same is told -/
theorem load_bytes (s : Bool) (c t a k : Nat) (h : mayB a k = true) : h256 (fun i => byteR s c t (a + i)) k 0 = loadR s c t a k := by
  obtain ⟨k', hk', hk, hm, ho, he⟩ := mayB_k h
  obtain rfl : k = k' := by omega
  have hk0 : 0 < k := by omega
  unfold loadR
  rw [if_neg (by simp [h])]
  by_cases h0 : a = 0
  · subst h0
    rw [if_pos rfl]
    have : h256 (fun i => byteR s c t (0 + i)) k 0 = h256 (fun i => if i = 0 then flN s else 0) k 0 := by
      apply h256_congr
      intro j hj
      simp only [Nat.zero_add]
      unfold byteR
      rw [if_neg (by omega), if_neg (by omega)]
    rw [this]
    obtain ⟨m, rfl⟩ : ∃ m, k = m + 1 := ⟨k - 1, by omega⟩
    rw [h256, h256_congr _ (fun _ => 0) m (0 + 1) (fun j hj => by rw [if_neg (by omega)]), h256_zero]
    simp
  rw [if_neg h0]
  by_cases h1 : a - a % 8 = 16384
  · rw [if_pos h1, ← get_bytes _ _ _ ho hk0]
    apply h256_congr
    intro j hj
    simp only [Nat.zero_add]
    unfold byteR
    rw [if_pos (by omega), show a + j - 16384 = a % 8 + j from by omega]
  rw [if_neg h1]
  by_cases h2 : a - a % 8 = 49144
  · rw [if_pos h2, ← get_bytes _ _ _ ho hk0]
    apply h256_congr
    intro j hj
    simp only [Nat.zero_add]
    unfold byteR
    rw [if_neg (by omega), if_pos (by omega), show a + j - 49144 = a % 8 + j from by omega]
  rw [if_neg h2]
  refine (h256_congr _ (fun _ => 0) k 0 ?_).trans (h256_zero k 0)
  intro j hj
  simp only [Nat.zero_add]
  unfold byteR
  rw [if_neg (by omega), if_neg (by omega), if_neg (by omega)]
theorem testBit_putN (x a M v j : Nat) (ha : a ≤ 63) (hM : a + M ≤ 64) : (E.putN x a M v).testBit j = (decide (j < 64) && if a ≤ j ∧ j < a + M then v.testBit (j - a) else x.testBit j) := by
  rw [← E.put_eq x a M M v ha (by omega), E.hiOf_testBit _ _ _ _ (fun _ _ => E.putF_le _ _ _ _ _), Nat.zero_add]
  unfold E.putF
  split <;> rw [E.bitAt_one]
theorem put_zero (x a v : Nat) (hx : x < 18446744073709551616) (ha : a ≤ 63) : E.putA x a 0 v = x := by
  rw [E.putA_in _ _ _ _ ha]
  apply Nat.eq_of_testBit_eq
  intro j
  rw [show (min (0 : Int) 64).toNat = 0 from by decide, testBit_putN _ _ _ _ _ ha (by omega), if_neg (by omega)]
  by_cases hj : j < 64
  · simp [hj]
  · rw [E.high_bit x j hx (by omega)]; simp
theorem testBit_byte (v i j : Nat) : (byteAt v i).testBit j = (decide (j < 8) && v.testBit (8 * i + j)) := by
  unfold byteAt
  rw [pow_256, show (256 : Nat) = 2 ^ 8 from rfl, Nat.testBit_mod_two_pow, ← Nat.shiftRight_eq_div_pow, Nat.testBit_shiftRight]
theorem put_more (x o i v : Nat) (h : o + (i + 1) ≤ 8) : E.putA (E.putA x (o * 8 : Nat) (8 * i : Nat) v) ((o + i) * 8 : Nat) 8 (byteAt v i) = E.putA x (o * 8 : Nat) (8 * (i + 1) : Nat) v := by
  rw [E.putA_in _ _ _ _ (by omega), E.putA_in _ _ _ _ (by omega), E.putA_in _ _ _ _ (by omega)]
  rw [show (min ((8 * i : Nat) : Int) 64).toNat = 8 * i from by omega, show (min ((8 * (i + 1) : Nat) : Int) 64).toNat = 8 * (i + 1) from by omega, show (min (8 : Int) 64).toNat = 8 from by decide]
  apply Nat.eq_of_testBit_eq
  intro j
  rw [testBit_putN _ _ _ _ _ (by omega) (by omega), testBit_putN _ _ _ _ _ (by omega) (by omega), testBit_putN _ _ _ _ _ (by omega) (by omega)]
  by_cases hj : j < 64
  · simp only [hj, decide_true, Bool.true_and]
    by_cases h1 : (o + i) * 8 ≤ j ∧ j < (o + i) * 8 + 8
    · rw [if_pos h1, if_pos (by omega), testBit_byte, show decide (j - (o + i) * 8 < 8) = true from by simp; omega, Bool.true_and, show 8 * i + (j - (o + i) * 8) = j - o * 8 from by omega]
    · rw [if_neg h1]
      by_cases h2 : o * 8 ≤ j ∧ j < o * 8 + 8 * i
      · rw [if_pos h2, if_pos (by omega)]
      · rw [if_neg h2, if_neg (by omega)]
  · simp [hj]
theorem byte_odd (v : Nat) : byteAt v 0 % 2 = v % 2 := by unfold byteAt; omega
theorem lines_or (s : Bool) (c t : Nat) : bits .or .u64 (flN s * 8 : Nat) (flN (decide (c ≤ t)) * 128 : Nat) = ((linesR s c t : Nat) : Int) := by
  unfold linesR
  cases s <;> cases decide (c ≤ t) <;> decide +kernel
theorem linesR_lt (s : Bool) (c t : Nat) : linesR s c t ≤ 136 := by
  unfold linesR; have := flN_le s; have := flN_le (decide (c ≤ t)); omega
end Go.Proofs.Ytaiagfdlglidfaa
