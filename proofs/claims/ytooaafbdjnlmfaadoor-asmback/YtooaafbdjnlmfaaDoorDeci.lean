/- The calls Dec of layer 1 and of the document's answer write a number by its decimal digits. -/
import Derived.Test.YtooaafbdjnlmfaaDoorHexa
import Derived.Test.YtooaafbdjnlmfaaDoorShelf
import Derived.Lib.ItoaMem
import Derived.Lib.ItoaLen
namespace Go.Proofs.YtooaafbdjnlmfaaDoor
open Go.RowKit Go.Deep
/-- a number's decimal text -/
def decS (n : Int) : ByteArray := ⟨(Lib.itoa n).toArray⟩
theorem decS_pos (x : Nat) (hx : x < 18446744073709551616) : decS (x : Int) = ⟨(dtext 10 20 x).toArray⟩ := by
  unfold decS
  rw [Lib.itoa_nonneg, dtext_dec 19 x (by omega)]
theorem decS_neg (x : Nat) (h1 : 1 ≤ x) (hx : x < 18446744073709551616) : decS (-(x : Int)) = ⟨#[45]⟩ ++ ⟨(dtext 10 20 x).toArray⟩ := by
  unfold decS
  rw [Lib.itoa_neg x h1, dtext_dec 19 x (by omega)]
  apply ByteArray.ext
  rw [ByteArray.data_append]
  simp
theorem not_nat (v : Nat) (h : v < 18446744073709551616) : 18446744073709551615 ^^^ v = 18446744073709551615 - v := by
  apply Nat.eq_of_testBit_eq
  intro j
  have e : (18446744073709551615 : Nat) = 2 ^ 64 - 1 := by decide
  have e2 : 18446744073709551615 - v = 2 ^ 64 - (v + 1) := by omega
  rw [Nat.testBit_xor, e2, Nat.testBit_two_pow_sub_succ (by omega), e, Nat.testBit_two_pow_sub_one]
  by_cases hj : j < 64
  · simp [hj]
  · have : v.testBit j = false := by
      apply Nat.testBit_lt_two_pow
      have : 2 ^ 64 ≤ 2 ^ j := Nat.pow_le_pow_right (by omega) (by omega)
      omega
    simp [hj, this]
theorem neg_steps (m : Nat) (h : m < 9223372036854775808) : IntKind.u64.wrap (-((m : Int) + 1)) = ((18446744073709551615 - m : Nat) : Int) ∧ bits BinOp.xor IntKind.u64 IntKind.u64.max ((18446744073709551615 - m : Nat) : Int) = (m : Int) := by
  have e : IntKind.u64.max = ((18446744073709551615 : Nat) : Int) := by decide
  constructor
  · rw [IntKind.wrap_u64]; omega
  · rw [e, bits_xor_u64_nat _ _ (by omega) (by omega), not_nat _ (by omega)]; omega
theorem below_grow (w : World) (k : Nat) (os : Array Obj) : Below w.heap.size w (Sort.grow (w.drewN k) os) :=
  ⟨rfl, rfl, rfl, by simp [Sort.grow], fun i hi => by
    show (w.heap ++ os)[i]? = w.heap[i]?
    rw [Array.getElem?_append_left hi]⟩
theorem dec_any (n : Int) (h0 : -9223372036854775808 ≤ n) (h1 : n ≤ 9223372036854775807) (w : World) (ht : Lib.TabIs Tryd.prog w "internal/strconv.uint64pow10" .u64 Lib.pow10Tab) :
    Calls Tryd.prog 53 #[.int .i64 n] w fun e w' => e = .returned (.string (decS n)) ∧ Below w.heap.size w w' := by
  have hc : Calls Tryd.prog 67 #[.int .i64 n, .int .i64 10] w fun e w' => e = .returned (.string (decS n)) ∧ Below w.heap.size w w' :=
    (Tryd.strconv_FormatInt_10 n h0 h1 w ht).mono fun e w' ⟨he, k, os, hw⟩ => ⟨he, by rw [hw]; exact below_grow w k os⟩
  generalize decS n = T at *
  clear ht
  go_enter Tryd.func53, Tryd.ntmps53
  go_wp2_with (go_at_call 67; refine hc.mono ?_; rintro e w' ⟨rfl, hb⟩)
  go_ret
  exact ⟨rfl, hb⟩
end Go.Proofs.YtooaafbdjnlmfaaDoor
