/- The program's calls partsIn and immIn of layer 3. -/
import Derived.Test.YtooaafbdjnlmfaaGreatDoorQRight
namespace Go.Proofs.YtooaafbdjnlmfaaGreatDoor
open Go.RowKit
set_option linter.unusedVariables false
set_option linter.unusedSimpArgs false
set_option maxRecDepth 100000 in
set_option maxHeartbeats 300000 in
theorem partsIn_any (op imm : Int) (rd rs1 rs2 csr : Nat) (aq rl : Bool) (w : World) :
    Calls Tryz.prog 58 #[.agg (instrC op rd rs1 rs2 imm csr aq rl)] w fun e w' => e = .returned (.int .u32 (partsRaw rd rs1 rs2 csr aq rl)) ∧ Below w.heap.size w w' := by
  have B : Hid _ := (Below.refl w.heap.size w).alloc (Nat.le_refl _) (.cells (instrC op rd rs1 rs2 imm csr aq rl) 23)
  cases aq <;> cases rl <;> simp only [partsRaw, orIf, if_true, Bool.false_eq_true, if_false] <;>
  (go_enter Tryz.func58, Tryz.ntmps58
   go_wp2
   go_ret
   exact ⟨rfl, B.out⟩)
def getI (x : Nat) (a n : Int) : Nat := x / 2 ^ a.toNat % 2 ^ n.toNat
theorem getI_lt (x : Nat) (a n : Int) : getI x a n < 2 ^ n.toNat := Nat.mod_lt _ (Nat.two_pow_pos _)
theorem get_int (x : Nat) (a n : Int) (hx : x < 18446744073709551616) (h0 : 0 ≤ a) (h1 : a ≤ 63) (h2 : 0 ≤ n) (h3 : n ≤ 64) (w : World) :
    Calls Tryz.prog 96 #[.int .u64 (x : Int), .int .i64 a, .int .i64 n] w fun e w' => e = .returned (.int .u64 (getI x a n : Nat)) ∧ ∃ k, w' = w.drewN k := by
  obtain ⟨b, rfl⟩ : ∃ b : Nat, a = b := ⟨a.toNat, by omega⟩
  exact get_any x b n n.toNat hx (by omega) (by omega) w
theorem wrap_shl (a k m : Nat) (ha : a < m) (hm : m * k ≤ 18446744073709551616) : IntKind.u64.wrap ((a : Int) * (k : Nat)) = ((a * k : Nat) : Int) := by
  rw [wrap_u64]
  have : a * k < 18446744073709551616 := by
    rcases Nat.eq_zero_or_pos k with rfl | hk
    · omega
    · exact Nat.lt_of_lt_of_le (Nat.mul_lt_mul_of_pos_right ha hk) hm
  rw [show ((a : Int) * (k : Nat)) = ((a * k : Nat) : Int) from by simp]
  omega
theorem jump_or (a b c d : Nat) (ha : a < 2) (hb : b < 1024) (hc : c < 2) (hd : d < 256) :
    bits .or .u64 (bits .or .u64 (bits .or .u64 (IntKind.u64.wrap ((a : Int) * 2147483648)) (IntKind.u64.wrap ((b : Int) * 2097152))) (IntKind.u64.wrap ((c : Int) * 1048576))) (IntKind.u64.wrap ((d : Int) * 4096)) % 4294967296 = ((a * 2147483648 + b * 2097152 + c * 1048576 + d * 4096 : Nat) : Int) := by
  obtain ⟨e1, s1⟩ := or64 _ _ 0xffe00000 (wrap_shl a 2147483648 2 ha (by decide)) (wrap_shl b 2097152 1024 hb (by decide)) (Sub.field 1 31 0x80000000 ha rfl) (Sub.field 10 21 0x7fe00000 hb rfl) (by decide) (by decide) (by decide) (by decide)
  obtain ⟨e2, s2⟩ := or64 _ _ 0xfff00000 e1 (wrap_shl c 1048576 2 hc (by decide)) s1 (Sub.field 1 20 0x100000 hc rfl) (by decide) (by decide) (by decide) (by decide)
  obtain ⟨e3, s3⟩ := or64 _ _ 0xfffff000 e2 (wrap_shl d 4096 256 hd (by decide)) s2 (Sub.field 8 12 0xff000 hd rfl) (by decide) (by decide) (by decide) (by decide)
  have l := s3.le
  refine (congrArg (fun z : Int => z % 4294967296) e3).trans ?_
  show ((_ : Nat) : Int) % 4294967296 = _
  omega
theorem branch_or (a b c d : Nat) (ha : a < 2) (hb : b < 64) (hc : c < 16) (hd : d < 2) :
    bits .or .u64 (bits .or .u64 (bits .or .u64 (IntKind.u64.wrap ((a : Int) * 2147483648)) (IntKind.u64.wrap ((b : Int) * 33554432))) (IntKind.u64.wrap ((c : Int) * 256))) (IntKind.u64.wrap ((d : Int) * 128)) % 4294967296 = ((a * 2147483648 + b * 33554432 + c * 256 + d * 128 : Nat) : Int) := by
  obtain ⟨e1, s1⟩ := or64 _ _ 0xfe000000 (wrap_shl a 2147483648 2 ha (by decide)) (wrap_shl b 33554432 64 hb (by decide)) (Sub.field 1 31 0x80000000 ha rfl) (Sub.field 6 25 0x7e000000 hb rfl) (by decide) (by decide) (by decide) (by decide)
  obtain ⟨e2, s2⟩ := or64 _ _ 0xfe000f00 e1 (wrap_shl c 256 16 hc (by decide)) s1 (Sub.field 4 8 0xf00 hc rfl) (by decide) (by decide) (by decide) (by decide)
  obtain ⟨e3, s3⟩ := or64 _ _ 0xfe000f80 e2 (wrap_shl d 128 2 hd (by decide)) s2 (Sub.field 1 7 0x80 hd rfl) (by decide) (by decide) (by decide) (by decide)
  have l := s3.le
  refine (congrArg (fun z : Int => z % 4294967296) e3).trans ?_
  show ((_ : Nat) : Int) % 4294967296 = _
  omega
theorem store_or (a b : Nat) (ha : a < 128) (hb : b < 32) :
    bits .or .u64 (IntKind.u64.wrap ((a : Int) * 33554432)) (IntKind.u64.wrap ((b : Int) * 128)) % 4294967296 = ((a * 33554432 + b * 128 : Nat) : Int) := by
  obtain ⟨e1, s1⟩ := or64 _ _ 0xfe000f80 (wrap_shl a 33554432 128 ha (by decide)) (wrap_shl b 128 32 hb (by decide)) (Sub.field 7 25 0xfe000000 ha rfl) (Sub.field 5 7 0xf80 hb rfl) (by decide) (by decide) (by decide) (by decide)
  have l := s1.le
  refine (congrArg (fun z : Int => z % 4294967296) e1).trans ?_
  show ((_ : Nat) : Int) % 4294967296 = _
  omega
/-- the number of a form, as the program puts it into a word -/
def immP (f U : Nat) : Nat := match f with
  | 1 => U % 4294967296
  | 2 => getI U 20 1 * 2147483648 + getI U 1 10 * 2097152 + getI U 11 1 * 1048576 + getI U 12 8 * 4096
  | 5 => getI U 12 1 * 2147483648 + getI U 5 6 * 33554432 + getI U 1 4 * 256 + getI U 11 1 * 128
  | 6 => getI U 5 7 * 33554432 + getI U 0 5 * 128
  | 13 => U * 32768 % 4294967296
  | _ => U * 1048576 % 4294967296
theorem wrap20 (U : Nat) : IntKind.u64.wrap ((U : Int) * 1048576) % 4294967296 = ((U * 1048576 % 4294967296 : Nat) : Int) := by rw [wrap_u64]; omega
theorem wrap15 (U : Nat) : IntKind.u64.wrap ((U : Int) * 32768) % 4294967296 = ((U * 32768 % 4294967296 : Nat) : Int) := by rw [wrap_u64]; omega
theorem low32 (U : Nat) : ((U : Int) % 4294967296) = ((U % 4294967296 : Nat) : Int) := by omega
theorem ret32 {a : Int} {b : Nat} (h : a = (b : Nat)) : Ending.returned (.int .u32 a) = .returned (.int .u32 ((b : Nat) : Int)) := by rw [h]
set_option maxRecDepth 100000 in
set_option maxHeartbeats 400000 in
theorem immIn_jump (imm : Int) (U : Nat) (hU : IntKind.u64.wrap imm = (U : Int)) (hx : U < 18446744073709551616) (w : World) :
    Calls Tryz.prog 59 #[.int .u8 2, .int .i64 imm] w fun e w' => e = .returned (.int .u32 (immP 2 U : Nat)) ∧ Below w.heap.size w w' := by
  go_enter Tryz.func59, Tryz.ntmps59
  go_wp2_with (go_at_call 96; refine (get_int U _ _ hx (by decide) (by decide) (by decide) (by decide) _).mono ?_; rintro e w' ⟨rfl, k, rfl⟩)
  go_ret
  exact ⟨ret32 (jump_or _ _ _ _ (getI_lt U 20 1) (getI_lt U 1 10) (getI_lt U 11 1) (getI_lt U 12 8)), below_drewN (Below.refl _ _) _⟩
set_option maxRecDepth 100000 in
set_option maxHeartbeats 400000 in
theorem immIn_branch (imm : Int) (U : Nat) (hU : IntKind.u64.wrap imm = (U : Int)) (hx : U < 18446744073709551616) (w : World) :
    Calls Tryz.prog 59 #[.int .u8 5, .int .i64 imm] w fun e w' => e = .returned (.int .u32 (immP 5 U : Nat)) ∧ Below w.heap.size w w' := by
  go_enter Tryz.func59, Tryz.ntmps59
  go_wp2_with (go_at_call 96; refine (get_int U _ _ hx (by decide) (by decide) (by decide) (by decide) _).mono ?_; rintro e w' ⟨rfl, k, rfl⟩)
  go_ret
  exact ⟨ret32 (branch_or _ _ _ _ (getI_lt U 12 1) (getI_lt U 5 6) (getI_lt U 1 4) (getI_lt U 11 1)), below_drewN (Below.refl _ _) _⟩
set_option maxRecDepth 100000 in
set_option maxHeartbeats 400000 in
theorem immIn_store (imm : Int) (U : Nat) (hU : IntKind.u64.wrap imm = (U : Int)) (hx : U < 18446744073709551616) (w : World) :
    Calls Tryz.prog 59 #[.int .u8 6, .int .i64 imm] w fun e w' => e = .returned (.int .u32 (immP 6 U : Nat)) ∧ Below w.heap.size w w' := by
  go_enter Tryz.func59, Tryz.ntmps59
  go_wp2_with (go_at_call 96; refine (get_int U _ _ hx (by decide) (by decide) (by decide) (by decide) _).mono ?_; rintro e w' ⟨rfl, k, rfl⟩)
  go_ret
  exact ⟨ret32 (store_or _ _ (getI_lt U 5 7) (getI_lt U 0 5)), below_drewN (Below.refl _ _) _⟩
set_option maxRecDepth 100000 in
set_option maxHeartbeats 1000000 in
theorem immIn_any (f : Nat) (hf : f < 17) (imm : Int) (U : Nat) (hU : IntKind.u64.wrap imm = (U : Int)) (hx : U < 18446744073709551616) (w : World) :
    Calls Tryz.prog 59 #[.int .u8 (f : Nat), .int .i64 imm] w fun e w' => e = .returned (.int .u32 (immP f U : Nat)) ∧ Below w.heap.size w w' := by
  have h : f = 2 ∨ f = 5 ∨ f = 6 ∨ f = 1 ∨ f = 13 ∨ f = 0 ∨ f = 3 ∨ f = 4 ∨ f = 7 ∨ f = 8 ∨ f = 9 ∨ f = 10 ∨ f = 11 ∨ f = 12 ∨ f = 14 ∨ f = 15 ∨ f = 16 := by omega
  rcases h with rfl | rfl | rfl | h
  · exact immIn_jump imm U hU hx w
  · exact immIn_branch imm U hU hx w
  · exact immIn_store imm U hU hx w
  rcases h with rfl | rfl | h
  · go_enter Tryz.func59, Tryz.ntmps59
    go_wp2
    go_ret
    exact ⟨ret32 (low32 U), Below.refl _ _⟩
  · go_enter Tryz.func59, Tryz.ntmps59
    go_wp2
    go_ret
    exact ⟨ret32 (wrap15 U), Below.refl _ _⟩
  rcases h with rfl | rfl | rfl | rfl | rfl | rfl | rfl | rfl | rfl | rfl | rfl | rfl <;>
  (go_enter Tryz.func59, Tryz.ntmps59
   go_wp2
   go_ret
   exact ⟨ret32 (wrap20 U), Below.refl _ _⟩)
end Go.Proofs.YtooaafbdjnlmfaaGreatDoor
