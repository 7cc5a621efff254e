/- The program's calls partsIn and immIn of layer 3. -/
import Derived.Test.YtooaafbdjnlmfaaDoorSubs
namespace Go.Proofs.YtooaafbdjnlmfaaDoor
open Go.RowKit
set_option linter.unusedVariables false
set_option linter.unusedSimpArgs false
def getI (x : Nat) (a n : Int) : Nat := x / 2 ^ a.toNat % 2 ^ n.toNat
theorem getI_lt (x : Nat) (a n : Int) : getI x a n < 2 ^ n.toNat := Nat.mod_lt _ (Nat.two_pow_pos _)
theorem wrap_shl (a k m : Nat) (ha : a < m) (hm : m * k ≤ 18446744073709551616) : IntKind.u64.wrap ((a : Int) * (k : Nat)) = ((a * k : Nat) : Int) := by
  rw [wrap_u64]
  have : a * k < 18446744073709551616 := by
    rcases Nat.eq_zero_or_pos k with rfl | hk
    · omega
    · exact Nat.lt_of_lt_of_le (Nat.mul_lt_mul_of_pos_right ha hk) hm
  rw [show ((a : Int) * (k : Nat)) = ((a * k : Nat) : Int) from by simp]
  omega
theorem jump_or (a b c d : Nat) (ha : a < 2) (hb : b < 1024) (hc : c < 2) (hd : d < 256) :
    bits .or .u64 (bits .or .u64 (bits .or .u64 (IntKind.u64.wrap ((a : Int) * 2147483648)) (IntKind.u64.wrap ((b : Int) * 2097152))) (IntKind.u64.wrap ((c : Int) * 1048576))) (IntKind.u64.wrap ((d : Int) * 4096)) % 4294967296 = ((a * 2147483648 + b * 2097152 + c * 1048576 + d * 4096 : Nat) : Int) := by
  obtain ⟨e1, s1⟩ := or64 _ _ 0xffe00000 (wrap_shl a 2147483648 2 ha (by decide)) (wrap_shl b 2097152 1024 hb (by decide)) (Sub.field 1 31 0x80000000 ha rfl) (Sub.field 10 21 0x7fe00000 hb rfl) (by decide) (by decide) (by decide) (by decide)
  obtain ⟨e2, s2⟩ := or64 _ _ 0xfff00000 e1 (wrap_shl c 1048576 2 hc (by decide)) s1 (Sub.field 1 20 0x100000 hc rfl) (by decide) (by decide) (by decide) (by decide)
  obtain ⟨e3, s3⟩ := or64 _ _ 0xfffff000 e2 (wrap_shl d 4096 256 hd (by decide)) s2 (Sub.field 8 12 0xff000 hd rfl) (by decide) (by decide) (by decide) (by decide)
  have l := s3.le
  refine (congrArg (fun z : Int => z % 4294967296) e3).trans ?_
  show ((_ : Nat) : Int) % 4294967296 = _
  omega
theorem branch_or (a b c d : Nat) (ha : a < 2) (hb : b < 64) (hc : c < 16) (hd : d < 2) :
    bits .or .u64 (bits .or .u64 (bits .or .u64 (IntKind.u64.wrap ((a : Int) * 2147483648)) (IntKind.u64.wrap ((b : Int) * 33554432))) (IntKind.u64.wrap ((c : Int) * 256))) (IntKind.u64.wrap ((d : Int) * 128)) % 4294967296 = ((a * 2147483648 + b * 33554432 + c * 256 + d * 128 : Nat) : Int) := by
  obtain ⟨e1, s1⟩ := or64 _ _ 0xfe000000 (wrap_shl a 2147483648 2 ha (by decide)) (wrap_shl b 33554432 64 hb (by decide)) (Sub.field 1 31 0x80000000 ha rfl) (Sub.field 6 25 0x7e000000 hb rfl) (by decide) (by decide) (by decide) (by decide)
  obtain ⟨e2, s2⟩ := or64 _ _ 0xfe000f00 e1 (wrap_shl c 256 16 hc (by decide)) s1 (Sub.field 4 8 0xf00 hc rfl) (by decide) (by decide) (by decide) (by decide)
  obtain ⟨e3, s3⟩ := or64 _ _ 0xfe000f80 e2 (wrap_shl d 128 2 hd (by decide)) s2 (Sub.field 1 7 0x80 hd rfl) (by decide) (by decide) (by decide) (by decide)
  have l := s3.le
  refine (congrArg (fun z : Int => z % 4294967296) e3).trans ?_
  show ((_ : Nat) : Int) % 4294967296 = _
  omega
theorem store_or (a b : Nat) (ha : a < 128) (hb : b < 32) :
    bits .or .u64 (IntKind.u64.wrap ((a : Int) * 33554432)) (IntKind.u64.wrap ((b : Int) * 128)) % 4294967296 = ((a * 33554432 + b * 128 : Nat) : Int) := by
  obtain ⟨e1, s1⟩ := or64 _ _ 0xfe000f80 (wrap_shl a 33554432 128 ha (by decide)) (wrap_shl b 128 32 hb (by decide)) (Sub.field 7 25 0xfe000000 ha rfl) (Sub.field 5 7 0xf80 hb rfl) (by decide) (by decide) (by decide) (by decide)
  have l := s1.le
  refine (congrArg (fun z : Int => z % 4294967296) e1).trans ?_
  show ((_ : Nat) : Int) % 4294967296 = _
  omega
/-- the number of a form, as the program puts it into a word -/
def immP (f U : Nat) : Nat := match f with
  | 1 => U % 4294967296
  | 2 => getI U 20 1 * 2147483648 + getI U 1 10 * 2097152 + getI U 11 1 * 1048576 + getI U 12 8 * 4096
  | 5 => getI U 12 1 * 2147483648 + getI U 5 6 * 33554432 + getI U 1 4 * 256 + getI U 11 1 * 128
  | 6 => getI U 5 7 * 33554432 + getI U 0 5 * 128
  | 13 => U * 32768 % 4294967296
  | _ => U * 1048576 % 4294967296
theorem wrap20 (U : Nat) : IntKind.u64.wrap ((U : Int) * 1048576) % 4294967296 = ((U * 1048576 % 4294967296 : Nat) : Int) := by rw [wrap_u64]; omega
theorem wrap15 (U : Nat) : IntKind.u64.wrap ((U : Int) * 32768) % 4294967296 = ((U * 32768 % 4294967296 : Nat) : Int) := by rw [wrap_u64]; omega
theorem low32 (U : Nat) : ((U : Int) % 4294967296) = ((U % 4294967296 : Nat) : Int) := by omega
theorem ret32 {a : Int} {b : Nat} (h : a = (b : Nat)) : Ending.returned (.int .u32 a) = .returned (.int .u32 ((b : Nat) : Int)) := by rw [h]
end Go.Proofs.YtooaafbdjnlmfaaDoor
