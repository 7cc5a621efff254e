/- The program's calls partsOf and immOf of layer 3. -/
import Derived.Test.YtooaafbdjnlmfaaDoorJoin
import Derived.Handy
namespace Go.Proofs.YtooaafbdjnlmfaaDoor
open Go.RowKit
set_option linter.unusedVariables false
set_option linter.unusedSimpArgs false
theorem i64_and_nat (a b : Nat) (ha : a < 9223372036854775808) (hb : b < 9223372036854775808) : bits .and .i64 (a : Int) (b : Int) = ((a &&& b : Nat) : Int) := by
  have hx : a &&& b ≤ a := Nat.and_le_left
  have h1 : (BitVec.ofInt 64 (a : Int)).toNat = a := by
    rw [BitVec.ofInt_natCast, BitVec.toNat_ofNat]; exact Nat.mod_eq_of_lt (by omega)
  have h2 : (BitVec.ofInt 64 (b : Int)).toNat = b := by
    rw [BitVec.ofInt_natCast, BitVec.toNat_ofNat]; exact Nat.mod_eq_of_lt (by omega)
  show IntKind.i64.wrap ((BitVec.ofInt 64 (a : Int) &&& BitVec.ofInt 64 (b : Int)).toNat : Int) = _
  rw [BitVec.toNat_and, h1, h2, IntKind.wrap_i64]
  omega
/-- a part of a form, as it stands in a word -/
def dP (f p k m x : Nat) : Nat := if partsT.getD f 0 &&& p = 0 then 0 else x / k % m
theorem and_most (f x k : Nat) (p last : Int) (P b L m : Nat) (hP : p = (P : Nat)) (hL : last = (L : Nat)) (hm : m = 2 ^ b) (hLb : L = 2 ^ b - 1) (hb : b ≤ 12) (hx : x < 4294967296) : bits .and .i64 ((x : Int) / (k : Nat)) (mostI f p last) = ((dP f P k m x : Nat) : Int) := by
  subst hP hL hm hLb
  have hk : x / k ≤ x := Nat.div_le_self _ _
  have h2 : 2 ^ b ≤ 2 ^ 12 := Nat.pow_le_pow_right (by omega) hb
  rw [show ((x : Int) / (k : Nat)) = ((x / k : Nat) : Int) from by simp]
  unfold mostI mostN dP
  rw [Int.toNat_natCast]
  by_cases hp : partsT.getD f 0 &&& P = 0
  · rw [if_pos hp, if_pos hp, show (0 : Int) = ((0 : Nat) : Int) from rfl, i64_and_nat _ _ (by omega) (by omega), Nat.and_zero]
  · rw [if_neg hp, if_neg hp, i64_and_nat _ _ (by omega) (by omega), Nat.and_two_pow_sub_one_eq_mod]
theorem bit_one (x k : Nat) (hx : x < 4294967296) : (bits .and .u32 ((x : Int) / (k : Nat)) 1 == 1) = (x / k % 2 == 1) := by
  have hk : x / k ≤ x := Nat.div_le_self _ _
  have := u32_and_nat (x / k) 1 (by omega) (by omega)
  rw [show ((x : Int) / (k : Nat)) = ((x / k : Nat) : Int) from by simp, show (1 : Int) = ((1 : Nat) : Int) from rfl, this, Nat.and_one_is_mod, Bool.eq_iff_iff]
  simp
  omega
/-- are Aq and Rl there, and true? -/
def dB (f k x : Nat) : Bool := decide (partsT.getD f 0 &&& 16 ≠ 0) && (x / k % 2 == 1)
theorem ret_instr {a a' b b' c c' d d' : Int} {q q' r r' : Bool} (h1 : a = a') (h2 : b = b') (h3 : c = c') (h4 : d = d') (h5 : q = q') (h6 : r = r') : Ending.returned (.agg #[.int .i64 0, .int .i64 a, .int .i64 b, .int .i64 c, .int .i64 0, .int .i64 d, .bool q, .bool r]) = .returned (.agg (instrC 0 a' b' c' 0 d' q' r')) := by
  subst h1 h2 h3 h4 h5 h6; rfl
end Go.Proofs.YtooaafbdjnlmfaaDoor
