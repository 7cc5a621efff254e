/- Numbers of layer 9: bits of the status, causes, places; what is kept behind a trap. -/
import Derived.Test.YtdljceeoofhfnaaDoorBq
namespace Go.Proofs.YtdljceeoofhfnaaDoor
open Go.RowKit Go.Maps
set_option linter.unusedVariables false
set_option linter.unusedSimpArgs false
set_option maxRecDepth 100000
def flN (b : Bool) : Nat := if b then 1 else 0
theorem flN_le (b : Bool) : flN b ≤ 1 := by cases b <;> decide
def bitB (s : Nat) (j : Int) : Bool := ((getN s j 1 : Int) == 1)
def isB (K : Nat → Nat) (j : Int) : Bool := bitB (K 0) j
def setK (K : Nat → Nat) (j : Int) (b : Bool) : Nat → Nat := upd K 0 (putA (K 0) j 1 (flN b))
def keepK (K : Nat → Nat) (v : Nat) : Nat → Nat := upd K 0 (putA (K 0) 11 2 v)
theorem setK_ok {K : Nat → Nat} (h : Ok K) (j : Int) (b : Bool) : Ok (setK K j b) := h.upd _ _ (putA_lt _ _ _ _ (h _))
theorem keepK_ok {K : Nat → Nat} (h : Ok K) (v : Nat) : Ok (keepK K v) := h.upd _ _ (putA_lt _ _ _ _ (h _))
def lowN (x : Nat) : Nat := x - x % 4
theorem lowN_lt (x : Nat) (hx : x < 18446744073709551616) : lowN x < 18446744073709551616 := by unfold lowN; omega
theorem and_low (x : Nat) (hx : x < 18446744073709551616) : x &&& 18446744073709551612 = lowN x := by
  unfold lowN
  rw [show x - x % 4 = x / 2 ^ 2 * 2 ^ 2 from by omega]
  apply Nat.eq_of_testBit_eq
  intro i
  rw [Nat.testBit_and, Nat.testBit_mul_two_pow, Nat.testBit_div_two_pow, show (18446744073709551612 : Nat) = 2 ^ 64 - (3 + 1) from rfl, Nat.testBit_two_pow_sub_succ (show 3 < 2 ^ 64 by decide), show (3 : Nat) = 2 ^ 2 - 1 from rfl, Nat.testBit_two_pow_sub_one]
  by_cases h2 : 2 ≤ i
  · rw [show i - 2 + 2 = i from by omega]
    by_cases h : i < 64
    · have h3 : ¬ i < 2 := by omega
      simp [h, h2, h3]
    · have : x.testBit i = false := Nat.testBit_lt_two_pow (Nat.lt_of_lt_of_le (show x < 2 ^ 64 from hx) (Nat.pow_le_pow_right (by omega) (by omega)))
      simp [this]
  · have h3 : i < 2 := by omega
    simp [h2, h3]
theorem andNot_low (x : Nat) (hx : x < 18446744073709551616) : bits .andNot .u64 (x : Int) 3 = ((lowN x : Nat) : Int) := by
  have h := u64_andNot_nat x 3 hx (by decide)
  rw [show 18446744073709551615 - 3 = 18446744073709551612 from rfl, and_low x hx] at h
  exact h
def causeN (c : Nat) (i : Bool) : Nat := if i then c + 9223372036854775808 else c
theorem causeN_lt (c : Nat) (i : Bool) (h : c < 64) : causeN c i < 18446744073709551616 := by unfold causeN; split <;> omega
theorem or_top (c : Nat) (h : c < 64) : bits .or .u64 (c : Int) 9223372036854775808 = ((c + 9223372036854775808 : Nat) : Int) := by
  have e := bits_or_u64_nat c 9223372036854775808 (by omega) (by decide)
  rw [show c ||| 9223372036854775808 = c + 9223372036854775808 from by
    have := Nat.two_pow_add_eq_or_of_lt (show c < 2 ^ 63 by omega) 1
    rw [Nat.mul_one] at this
    rw [Nat.or_comm, ← this, Nat.add_comm]] at e
  exact e
def placeN (x c : Nat) (i : Bool) : Nat := if i && bitB x 0 then (lowN x + 4 * c) % 18446744073709551616 else lowN x
theorem placeN_lt (x c : Nat) (i : Bool) (hx : x < 18446744073709551616) : placeN x c i < 18446744073709551616 := by
  unfold placeN; split
  · exact Nat.mod_lt _ (by decide)
  · exact lowN_lt x hx
def delB (m : Int) (K : Nat → Nat) (c : Nat) (i : Bool) : Bool := decide (m < 3) && bitB (if i then K 4 else K 3) c
/-- what is laid aside of a trap, for the supervisor, for the machine -/
def tellS (K : Nat → Nat) (c v : Nat) (i : Bool) (pc : Nat) : Nat → Nat := upd (upd (upd K 16 (causeN c i)) 15 (lowN pc)) 17 v
def tellM (K : Nat → Nat) (c v : Nat) (i : Bool) (pc : Nat) : Nat → Nat := upd (upd (upd K 10 (causeN c i)) 9 (lowN pc)) 11 v
def markS (K : Nat → Nat) (m : Int) : Nat → Nat := setK (setK (setK K 5 (isB K 1)) 1 false) 8 (m == 1)
def markM (K : Nat → Nat) (m : Nat) : Nat → Nat := keepK (setK (setK K 7 (isB K 3)) 3 false) m
theorem tellS_ok {K : Nat → Nat} (hK : Ok K) (c v : Nat) (i : Bool) (pc : Nat) (hc : c < 64) (hv : v < 18446744073709551616) (hp : pc < 18446744073709551616) : Ok (tellS K c v i pc) := ((hK.upd _ _ (causeN_lt c i hc)).upd _ _ (lowN_lt pc hp)).upd _ _ hv
theorem tellM_ok {K : Nat → Nat} (hK : Ok K) (c v : Nat) (i : Bool) (pc : Nat) (hc : c < 64) (hv : v < 18446744073709551616) (hp : pc < 18446744073709551616) : Ok (tellM K c v i pc) := ((hK.upd _ _ (causeN_lt c i hc)).upd _ _ (lowN_lt pc hp)).upd _ _ hv
theorem markS_ok {K : Nat → Nat} (hK : Ok K) (m : Int) : Ok (markS K m) := setK_ok (setK_ok (setK_ok hK _ _) _ _) _ _
theorem markM_ok {K : Nat → Nat} (hK : Ok K) (m : Nat) : Ok (markM K m) := keepK_ok (setK_ok (setK_ok hK _ _) _ _) _
/-- a bit behind a put -/
theorem bitAt_put (s j n v i : Nat) (hj : j + n ≤ 64) (hn : 0 < n) (hi : i < 64) : bitAt (putA s j n v) i = if j ≤ i ∧ i < j + n then bitAt v (i - j) else bitAt s i := by
  rw [putA_in s j n v (by omega), show (min (n : Int) 64).toNat = n from by omega, ← put_eq s j n n v (by omega) (by omega), bitAt_hiOf _ _ hi (fun _ _ => putF_le _ _ _ _ _)]
  rfl
theorem getN_one (s i : Nat) (hi : i < 64) : getN s i 1 = bitAt s i := by
  rw [getN_in s i 1 (by omega)]; rfl
theorem bitB_at (s i : Nat) (hi : i < 64) : bitB s i = (bitAt s i == 1) := by
  unfold bitB
  rw [getN_one s i hi]
  cases h : (bitAt s i == 1)
  · simp at h ⊢; omega
  · simp at h ⊢; omega
theorem bitAt_fl (b : Bool) : bitAt (flN b) 0 = flN b := by cases b <;> decide
theorem flN_one (b : Bool) : (flN b == 1) = b := by cases b <;> decide
theorem isB_set (K : Nat → Nat) (j i : Nat) (b : Bool) (hj : j < 64) (hi : i < 64) : isB (setK K j b) i = if i = j then b else isB K i := by
  unfold isB setK
  rw [upd_at, bitB_at _ i hi, show (1 : Int) = ((1 : Nat) : Int) from rfl, bitAt_put (K 0) j 1 (flN b) i (by omega) (by omega) hi, bitB_at _ i hi]
  by_cases h : i = j
  · subst h
    rw [if_pos (by omega), if_pos rfl, Nat.sub_self, bitAt_fl, flN_one]
  · rw [if_neg (by omega), if_neg h]
theorem isB_keep (K : Nat → Nat) (v i : Nat) (hi : i < 64) (h : i < 11 ∨ 12 < i) : isB (keepK K v) i = isB K i := by
  unfold isB keepK
  rw [upd_at, bitB_at _ i hi, show (11 : Int) = ((11 : Nat) : Int) from rfl, show (2 : Int) = ((2 : Nat) : Int) from rfl, bitAt_put (K 0) 11 2 v i (by omega) (by omega) hi, bitB_at _ i hi, if_neg (by omega)]
theorem prev_keep (K : Nat → Nat) (v : Nat) (hv : v ≤ 3) : getN (keepK K v 0) 11 2 = v := by
  unfold keepK; rw [upd_at]; exact get_keep _ _ hv
theorem set_far (K : Nat → Nat) (j : Int) (b : Bool) (p : Nat) (h : p ≠ 0) : setK K j b p = K p := upd_ne _ _ _ _ h
theorem keep_far (K : Nat → Nat) (v p : Nat) (h : p ≠ 0) : keepK K v p = K p := upd_ne _ _ _ _ h
theorem get2_le (s : Nat) : getN s 11 2 ≤ 3 := by
  rw [show (11 : Int) = ((11 : Nat) : Int) from rfl, getN_in s 11 2 (by omega), show (min (2 : Int) 64).toNat = 2 from by decide]
  omega
theorem bit0_mod (x : Nat) : bitB x 0 = (x % 2 == 1) := by
  have h := bitB_at x 0 (by omega)
  rw [show ((0 : Nat) : Int) = 0 from rfl] at h
  rw [h]
  unfold bitAt
  rw [Nat.pow_zero, Nat.div_one]
end Go.Proofs.YtdljceeoofhfnaaDoor
