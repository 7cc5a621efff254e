/- The program's calls partsOf and immOf of layer 3. -/
import Derived.Test.YtooaafbdjnlmfaaGreatDoorQEnc
import Derived.Handy
namespace Go.Proofs.YtooaafbdjnlmfaaGreatDoor
open Go.RowKit
set_option linter.unusedVariables false
set_option linter.unusedSimpArgs false
theorem i64_and_nat (a b : Nat) (ha : a < 9223372036854775808) (hb : b < 9223372036854775808) : bits .and .i64 (a : Int) (b : Int) = ((a &&& b : Nat) : Int) := by
  have hx : a &&& b ≤ a := Nat.and_le_left
  have h1 : (BitVec.ofInt 64 (a : Int)).toNat = a := by
    rw [BitVec.ofInt_natCast, BitVec.toNat_ofNat]; exact Nat.mod_eq_of_lt (by omega)
  have h2 : (BitVec.ofInt 64 (b : Int)).toNat = b := by
    rw [BitVec.ofInt_natCast, BitVec.toNat_ofNat]; exact Nat.mod_eq_of_lt (by omega)
  show IntKind.i64.wrap ((BitVec.ofInt 64 (a : Int) &&& BitVec.ofInt 64 (b : Int)).toNat : Int) = _
  rw [BitVec.toNat_and, h1, h2, IntKind.wrap_i64]
  omega
/-- a part of a form, as it stands in a word -/
def dP (f p k m x : Nat) : Nat := if partsT.getD f 0 &&& p = 0 then 0 else x / k % m
theorem and_most (f x k : Nat) (p last : Int) (P b L m : Nat) (hP : p = (P : Nat)) (hL : last = (L : Nat)) (hm : m = 2 ^ b) (hLb : L = 2 ^ b - 1) (hb : b ≤ 12) (hx : x < 4294967296) : bits .and .i64 ((x : Int) / (k : Nat)) (mostI f p last) = ((dP f P k m x : Nat) : Int) := by
  subst hP hL hm hLb
  have hk : x / k ≤ x := Nat.div_le_self _ _
  have h2 : 2 ^ b ≤ 2 ^ 12 := Nat.pow_le_pow_right (by omega) hb
  rw [show ((x : Int) / (k : Nat)) = ((x / k : Nat) : Int) from by simp]
  unfold mostI mostN dP
  rw [Int.toNat_natCast]
  by_cases hp : partsT.getD f 0 &&& P = 0
  · rw [if_pos hp, if_pos hp, show (0 : Int) = ((0 : Nat) : Int) from rfl, i64_and_nat _ _ (by omega) (by omega), Nat.and_zero]
  · rw [if_neg hp, if_neg hp, i64_and_nat _ _ (by omega) (by omega), Nat.and_two_pow_sub_one_eq_mod]
theorem bit_one (x k : Nat) (hx : x < 4294967296) : (bits .and .u32 ((x : Int) / (k : Nat)) 1 == 1) = (x / k % 2 == 1) := by
  have hk : x / k ≤ x := Nat.div_le_self _ _
  have := u32_and_nat (x / k) 1 (by omega) (by omega)
  rw [show ((x : Int) / (k : Nat)) = ((x / k : Nat) : Int) from by simp, show (1 : Int) = ((1 : Nat) : Int) from rfl, this, Nat.and_one_is_mod, Bool.eq_iff_iff]
  simp
  omega
/-- are Aq and Rl there, and true? -/
def dB (f k x : Nat) : Bool := decide (partsT.getD f 0 &&& 16 ≠ 0) && (x / k % 2 == 1)
theorem ret_instr {a a' b b' c c' d d' : Int} {q q' r r' : Bool} (h1 : a = a') (h2 : b = b') (h3 : c = c') (h4 : d = d') (h5 : q = q') (h6 : r = r') : Ending.returned (.agg #[.int .i64 0, .int .i64 a, .int .i64 b, .int .i64 c, .int .i64 0, .int .i64 d, .bool q, .bool r]) = .returned (.agg (instrC 0 a' b' c' 0 d' q' r')) := by
  subst h1 h2 h3 h4 h5 h6; rfl
set_option maxRecDepth 100000 in
set_option maxHeartbeats 400000 in
theorem partsOf_any (f : Nat) (hf : f < 17) (x : Nat) (hx : x < 4294967296) (w : World) (ht : Tabs w) :
    Calls Tryz.prog 53 #[.int .u8 (f : Nat), .int .u32 (x : Nat)] w fun e w' => e = .returned (.agg (instrC 0 (dP f 1 128 32 x : Nat) (dP f 2 32768 32 x : Nat) (dP f 4 1048576 32 x : Nat) 0 (dP f 8 1048576 4096 x : Nat) (dB f 67108864 x) (dB f 33554432 x))) ∧ Below w.heap.size w w' := by
  have T : Hid (Tabs (w.alloc (.cells (instrC 0 0 0 0 0 0 false false) 23))) := ht.below ((Below.refl _ _).alloc (Nat.le_refl _) _)
  have hp := T.out.2.2.2.1 f hf
  have hq := u8_and_nat (partsT.getD f 0) 16 (parts_lt f hf) (by omega)
  rw [show ((16 : Nat) : Int) = 16 from rfl] at hq
  have A : Hid (_ ∧ _ ∧ _ ∧ _) := ⟨and_most f x 128 1 31 1 5 31 32 rfl rfl rfl rfl (by decide) hx, and_most f x 32768 2 31 2 5 31 32 rfl rfl rfl rfl (by decide) hx, and_most f x 1048576 4 31 4 5 31 32 rfl rfl rfl rfl (by decide) hx, and_most f x 1048576 8 4095 8 12 4095 4096 rfl rfl rfl rfl (by decide) hx⟩
  rcases parts16 f hf with hn | hn
  · have hd : ∀ k, dB f k x = false := fun k => by unfold dB; rw [hn]; rfl
    rw [hd, hd]
    rw [hn] at hq
    generalize ((partsT.getD f 0 : Nat) : Int) = pp at *
    clear ht hn hd
    go_enter Tryz.func53, Tryz.ntmps53
    go_wp2_with (go_at_call 93; refine (most_int _ _ _ hf (by decide) (by decide) _ (by exact T.out)).mono ?_; rintro e w' ⟨rfl, hw⟩; rw [hw]; clear hw)
    go_returns
    exact ⟨ret_instr A.out.1 A.out.2.1 A.out.2.2.1 A.out.2.2.2 rfl rfl, (Below.refl _ _).alloc (Nat.le_refl _) _⟩
  · have hd : ∀ k, dB f k x = (x / k % 2 == 1) := fun k => by unfold dB; rw [hn]; rfl
    rw [hd, hd]
    rw [hn] at hq
    generalize ((partsT.getD f 0 : Nat) : Int) = pp at *
    clear ht hn hd
    go_enter Tryz.func53, Tryz.ntmps53
    go_wp2_with (go_at_call 93; refine (most_int _ _ _ hf (by decide) (by decide) _ (by exact T.out)).mono ?_; rintro e w' ⟨rfl, hw⟩; rw [hw]; clear hw)
    go_returns
    exact ⟨ret_instr A.out.1 A.out.2.1 A.out.2.2.1 A.out.2.2.2 (bit_one x 67108864 hx) (bit_one x 33554432 hx), (Below.refl _ _).alloc (Nat.le_refl _) _⟩
end Go.Proofs.YtooaafbdjnlmfaaGreatDoor

namespace Go.Proofs.YtooaafbdjnlmfaaGreatDoor
open Go.RowKit
set_option linter.unusedVariables false
set_option linter.unusedSimpArgs false
set_option maxRecDepth 100000 in
theorem signed_any (x : Nat) (n : Int) (hx : x < 18446744073709551616) (w : World) :
    Calls Tryz.prog 95 #[.int .u64 (x : Int), .int .i64 n] w fun e w' => e = .returned (.int .i64 (wrap64 (sextA x n : Nat))) ∧ w' = w := by
  go_enter Tryz.func95, Tryz.ntmps95
  go_wp2_with (go_at_call 118; refine (sext_any _ _ hx _).mono ?_; rintro e w' ⟨rfl, rfl⟩)
  go_ret
  exact ⟨rfl, rfl⟩
theorem ojump_or (a b c d : Nat) (ha : a < 2) (hb : b < 1024) (hc : c < 2) (hd : d < 256) :
    bits .or .u64 (bits .or .u64 (bits .or .u64 (IntKind.u64.wrap ((a : Int) * 1048576)) (IntKind.u64.wrap ((b : Int) * 2))) (IntKind.u64.wrap ((c : Int) * 2048))) (IntKind.u64.wrap ((d : Int) * 4096)) = ((a * 1048576 + b * 2 + c * 2048 + d * 4096 : Nat) : Int) := by
  obtain ⟨e1, s1⟩ := or64 _ _ 0x1007fe (wrap_shl a 1048576 2 ha (by decide)) (wrap_shl b 2 1024 hb (by decide)) (Sub.field 1 20 0x100000 ha rfl) (Sub.field 10 1 0x7fe hb rfl) (by decide) (by decide) (by decide) (by decide)
  obtain ⟨e2, s2⟩ := or64 _ _ 0x100ffe e1 (wrap_shl c 2048 2 hc (by decide)) s1 (Sub.field 1 11 0x800 hc rfl) (by decide) (by decide) (by decide) (by decide)
  obtain ⟨e3, s3⟩ := or64 _ _ 0x1ffffe e2 (wrap_shl d 4096 256 hd (by decide)) s2 (Sub.field 8 12 0xff000 hd rfl) (by decide) (by decide) (by decide) (by decide)
  exact e3
theorem obranch_or (a b c d : Nat) (ha : a < 2) (hb : b < 64) (hc : c < 16) (hd : d < 2) :
    bits .or .u64 (bits .or .u64 (bits .or .u64 (IntKind.u64.wrap ((a : Int) * 4096)) (IntKind.u64.wrap ((b : Int) * 32))) (IntKind.u64.wrap ((c : Int) * 2))) (IntKind.u64.wrap ((d : Int) * 2048)) = ((a * 4096 + b * 32 + c * 2 + d * 2048 : Nat) : Int) := by
  obtain ⟨e1, s1⟩ := or64 _ _ 0x17e0 (wrap_shl a 4096 2 ha (by decide)) (wrap_shl b 32 64 hb (by decide)) (Sub.field 1 12 0x1000 ha rfl) (Sub.field 6 5 0x7e0 hb rfl) (by decide) (by decide) (by decide) (by decide)
  obtain ⟨e2, s2⟩ := or64 _ _ 0x17fe e1 (wrap_shl c 2 16 hc (by decide)) s1 (Sub.field 4 1 0x1e hc rfl) (by decide) (by decide) (by decide) (by decide)
  obtain ⟨e3, s3⟩ := or64 _ _ 0x1ffe e2 (wrap_shl d 2048 2 hd (by decide)) s2 (Sub.field 1 11 0x800 hd rfl) (by decide) (by decide) (by decide) (by decide)
  exact e3
theorem ostore_or (a b : Nat) (ha : a < 128) (hb : b < 32) : bits .or .u64 (IntKind.u64.wrap ((a : Int) * 32)) (b : Int) = ((a * 32 + b : Nat) : Int) := by
  obtain ⟨e1, s1⟩ := or64 _ _ 0xfff (wrap_shl a 32 128 ha (by decide)) rfl (Sub.field 7 5 0xfe0 ha rfl) (by have := Sub.field 5 0 0x1f hb rfl; rw [Nat.pow_zero, Nat.mul_one] at this; exact this) (by decide) (by decide) (by decide) (by decide)
  exact e1
theorem oupper (x : Nat) (hx : x < 4294967296) : bits .andNot .u64 (x : Int) 4095 = ((x / 4096 * 4096 : Nat) : Int) := by
  have := u64_andNot_nat x 4095 (by omega) (by omega)
  rw [show (4095 : Int) = ((4095 : Nat) : Int) from rfl, this]
  congr 1
  apply Nat.eq_of_testBit_eq
  intro i
  have h1 : (18446744073709551615 - 4095 : Nat) = (2 ^ 52 - 1) * 2 ^ 12 := by decide
  rw [Nat.testBit_and, h1, ← Nat.shiftLeft_eq, Nat.testBit_shiftLeft, Nat.testBit_two_pow_sub_one, show (4096 : Nat) = 2 ^ 12 from rfl, ← Nat.shiftLeft_eq, Nat.testBit_shiftLeft, ← Nat.shiftRight_eq_div_pow, Nat.testBit_shiftRight]
  by_cases h : 12 ≤ i
  · rw [show 12 + (i - 12) = i from by omega]
    by_cases h2 : i - 12 < 52
    · simp [h, h2]
    · rw [high_bit x i (by omega) (by omega)]; simp
  · simp [h]
/-- the number that stands in a word of a form -/
def immD (f x : Nat) : Int := if f = 1 then wrap64 (sextA (x / 4096 * 4096) 32 : Nat) else if f = 2 then wrap64 (sextA (getI x 31 1 * 1048576 + getI x 21 10 * 2 + getI x 20 1 * 2048 + getI x 12 8 * 4096) 21 : Nat) else if f = 3 then wrap64 (sextA (getI x 20 12) 12 : Nat) else if f = 4 then wrap64 (sextA (getI x 20 12) 12 : Nat) else if f = 5 then wrap64 (sextA (getI x 31 1 * 4096 + getI x 25 6 * 32 + getI x 8 4 * 2 + getI x 7 1 * 2048) 13 : Nat) else if f = 6 then wrap64 (sextA (getI x 25 7 * 32 + getI x 7 5) 12 : Nat) else if f = 7 then ((getI x 20 6 : Nat) : Int) else if f = 8 then ((getI x 20 5 : Nat) : Int) else if f = 10 then ((getI x 20 12 : Nat) : Int) else if f = 13 then ((getI x 15 5 : Nat) : Int) else 0
theorem immD_1 (x : Nat) : immD 1 x = wrap64 (sextA (x / 4096 * 4096) 32 : Nat) := by unfold immD; rw [if_pos rfl]
theorem immD_2 (x : Nat) : immD 2 x = wrap64 (sextA (getI x 31 1 * 1048576 + getI x 21 10 * 2 + getI x 20 1 * 2048 + getI x 12 8 * 4096) 21 : Nat) := by unfold immD; rw [if_neg (show ¬ (2 : Nat) = 1 by decide), if_pos rfl]
theorem immD_3 (x : Nat) : immD 3 x = wrap64 (sextA (getI x 20 12) 12 : Nat) := by unfold immD; rw [if_neg (show ¬ (3 : Nat) = 1 by decide), if_neg (show ¬ (3 : Nat) = 2 by decide), if_pos rfl]
theorem immD_4 (x : Nat) : immD 4 x = wrap64 (sextA (getI x 20 12) 12 : Nat) := by unfold immD; rw [if_neg (show ¬ (4 : Nat) = 1 by decide), if_neg (show ¬ (4 : Nat) = 2 by decide), if_neg (show ¬ (4 : Nat) = 3 by decide), if_pos rfl]
theorem immD_5 (x : Nat) : immD 5 x = wrap64 (sextA (getI x 31 1 * 4096 + getI x 25 6 * 32 + getI x 8 4 * 2 + getI x 7 1 * 2048) 13 : Nat) := by unfold immD; rw [if_neg (show ¬ (5 : Nat) = 1 by decide), if_neg (show ¬ (5 : Nat) = 2 by decide), if_neg (show ¬ (5 : Nat) = 3 by decide), if_neg (show ¬ (5 : Nat) = 4 by decide), if_pos rfl]
theorem immD_6 (x : Nat) : immD 6 x = wrap64 (sextA (getI x 25 7 * 32 + getI x 7 5) 12 : Nat) := by unfold immD; rw [if_neg (show ¬ (6 : Nat) = 1 by decide), if_neg (show ¬ (6 : Nat) = 2 by decide), if_neg (show ¬ (6 : Nat) = 3 by decide), if_neg (show ¬ (6 : Nat) = 4 by decide), if_neg (show ¬ (6 : Nat) = 5 by decide), if_pos rfl]
theorem immD_7 (x : Nat) : immD 7 x = ((getI x 20 6 : Nat) : Int) := by unfold immD; rw [if_neg (show ¬ (7 : Nat) = 1 by decide), if_neg (show ¬ (7 : Nat) = 2 by decide), if_neg (show ¬ (7 : Nat) = 3 by decide), if_neg (show ¬ (7 : Nat) = 4 by decide), if_neg (show ¬ (7 : Nat) = 5 by decide), if_neg (show ¬ (7 : Nat) = 6 by decide), if_pos rfl]
theorem immD_8 (x : Nat) : immD 8 x = ((getI x 20 5 : Nat) : Int) := by unfold immD; rw [if_neg (show ¬ (8 : Nat) = 1 by decide), if_neg (show ¬ (8 : Nat) = 2 by decide), if_neg (show ¬ (8 : Nat) = 3 by decide), if_neg (show ¬ (8 : Nat) = 4 by decide), if_neg (show ¬ (8 : Nat) = 5 by decide), if_neg (show ¬ (8 : Nat) = 6 by decide), if_neg (show ¬ (8 : Nat) = 7 by decide), if_pos rfl]
theorem immD_10 (x : Nat) : immD 10 x = ((getI x 20 12 : Nat) : Int) := by unfold immD; rw [if_neg (show ¬ (10 : Nat) = 1 by decide), if_neg (show ¬ (10 : Nat) = 2 by decide), if_neg (show ¬ (10 : Nat) = 3 by decide), if_neg (show ¬ (10 : Nat) = 4 by decide), if_neg (show ¬ (10 : Nat) = 5 by decide), if_neg (show ¬ (10 : Nat) = 6 by decide), if_neg (show ¬ (10 : Nat) = 7 by decide), if_neg (show ¬ (10 : Nat) = 8 by decide), if_pos rfl]
theorem immD_13 (x : Nat) : immD 13 x = ((getI x 15 5 : Nat) : Int) := by unfold immD; rw [if_neg (show ¬ (13 : Nat) = 1 by decide), if_neg (show ¬ (13 : Nat) = 2 by decide), if_neg (show ¬ (13 : Nat) = 3 by decide), if_neg (show ¬ (13 : Nat) = 4 by decide), if_neg (show ¬ (13 : Nat) = 5 by decide), if_neg (show ¬ (13 : Nat) = 6 by decide), if_neg (show ¬ (13 : Nat) = 7 by decide), if_neg (show ¬ (13 : Nat) = 8 by decide), if_neg (show ¬ (13 : Nat) = 10 by decide), if_pos rfl]
theorem immD_none (f x : Nat) (h : f ≠ 1 ∧ f ≠ 2 ∧ f ≠ 3 ∧ f ≠ 4 ∧ f ≠ 5 ∧ f ≠ 6 ∧ f ≠ 7 ∧ f ≠ 8 ∧ f ≠ 10 ∧ f ≠ 13) : immD f x = 0 := by unfold immD; rw [if_neg h.1, if_neg h.2.1, if_neg h.2.2.1, if_neg h.2.2.2.1, if_neg h.2.2.2.2.1, if_neg h.2.2.2.2.2.1, if_neg h.2.2.2.2.2.2.1, if_neg h.2.2.2.2.2.2.2.1, if_neg h.2.2.2.2.2.2.2.2.1, if_neg h.2.2.2.2.2.2.2.2.2]
theorem wrap64_small (n : Nat) (h : n < 9223372036854775808) : wrap64 (n : Int) = n := by unfold wrap64; omega
theorem ret64 {a b : Int} (h : a = b) : Ending.returned (.int .i64 a) = .returned (.int .i64 b) := by rw [h]
theorem first_below (w : World) (k : Nat) : Below w.heap.size w (w.drewN k) := below_drewN (Below.refl _ _) k
set_option maxRecDepth 100000 in
set_option maxHeartbeats 400000 in
theorem immOf_jump (x : Nat) (hx : x < 4294967296) (w : World) :
    Calls Tryz.prog 54 #[.int .u8 2, .int .u32 (x : Nat)] w fun e w' => e = .returned (.int .i64 (immD 2 x)) ∧ Below w.heap.size w w' := by
  have hx2 : x < 18446744073709551616 := by omega
  have HO : Hid (_ ∧ _) := ⟨ojump_or _ _ _ _ (getI_lt x 31 1) (getI_lt x 21 10) (getI_lt x 20 1) (getI_lt x 12 8), (show getI x 31 1 * 1048576 + getI x 21 10 * 2 + getI x 20 1 * 2048 + getI x 12 8 * 4096 < 18446744073709551616 from by have h1 := (getI_lt x 31 1); have h2 := (getI_lt x 21 10); have h3 := (getI_lt x 20 1); have h4 := (getI_lt x 12 8); simp at h1 h2 h3 h4; omega)⟩
  obtain ⟨v, hv⟩ : ∃ v, immD 2 x = v := ⟨_, rfl⟩
  rw [hv]
  have HI : Hid (wrap64 (sextA (getI x 31 1 * 1048576 + getI x 21 10 * 2 + getI x 20 1 * 2048 + getI x 12 8 * 4096) 21 : Nat) = v) := (immD_2 x).symm.trans hv
  clear hv
  go_enter Tryz.func54, Tryz.ntmps54
  go_wp2_with (first | (go_at_call 96; refine (get_int x _ _ hx2 (by decide) (by decide) (by decide) (by decide) _).mono ?_; rintro e w' ⟨rfl, k, rfl⟩) | (go_at_call 95; rw [HO.out.1]; refine (signed_any _ _ HO.out.2 _).mono ?_; rintro e w' ⟨rfl, hw⟩; rw [hw]; clear hw))
  go_ret
  exact ⟨ret64 HI.out, first_below _ _⟩
set_option maxRecDepth 100000 in
set_option maxHeartbeats 400000 in
theorem immOf_branch (x : Nat) (hx : x < 4294967296) (w : World) :
    Calls Tryz.prog 54 #[.int .u8 5, .int .u32 (x : Nat)] w fun e w' => e = .returned (.int .i64 (immD 5 x)) ∧ Below w.heap.size w w' := by
  have hx2 : x < 18446744073709551616 := by omega
  have HO : Hid (_ ∧ _) := ⟨obranch_or _ _ _ _ (getI_lt x 31 1) (getI_lt x 25 6) (getI_lt x 8 4) (getI_lt x 7 1), (show getI x 31 1 * 4096 + getI x 25 6 * 32 + getI x 8 4 * 2 + getI x 7 1 * 2048 < 18446744073709551616 from by have h1 := (getI_lt x 31 1); have h2 := (getI_lt x 25 6); have h3 := (getI_lt x 8 4); have h4 := (getI_lt x 7 1); simp at h1 h2 h3 h4; omega)⟩
  obtain ⟨v, hv⟩ : ∃ v, immD 5 x = v := ⟨_, rfl⟩
  rw [hv]
  have HI : Hid (wrap64 (sextA (getI x 31 1 * 4096 + getI x 25 6 * 32 + getI x 8 4 * 2 + getI x 7 1 * 2048) 13 : Nat) = v) := (immD_5 x).symm.trans hv
  clear hv
  go_enter Tryz.func54, Tryz.ntmps54
  go_wp2_with (first | (go_at_call 96; refine (get_int x _ _ hx2 (by decide) (by decide) (by decide) (by decide) _).mono ?_; rintro e w' ⟨rfl, k, rfl⟩) | (go_at_call 95; rw [HO.out.1]; refine (signed_any _ _ HO.out.2 _).mono ?_; rintro e w' ⟨rfl, hw⟩; rw [hw]; clear hw))
  go_ret
  exact ⟨ret64 HI.out, first_below _ _⟩
set_option maxRecDepth 100000 in
set_option maxHeartbeats 400000 in
theorem immOf_store (x : Nat) (hx : x < 4294967296) (w : World) :
    Calls Tryz.prog 54 #[.int .u8 6, .int .u32 (x : Nat)] w fun e w' => e = .returned (.int .i64 (immD 6 x)) ∧ Below w.heap.size w w' := by
  have hx2 : x < 18446744073709551616 := by omega
  have HO : Hid (_ ∧ _) := ⟨ostore_or _ _ (getI_lt x 25 7) (getI_lt x 7 5), (show getI x 25 7 * 32 + getI x 7 5 < 18446744073709551616 from by have h1 := (getI_lt x 25 7); have h2 := (getI_lt x 7 5); simp at h1 h2; omega)⟩
  obtain ⟨v, hv⟩ : ∃ v, immD 6 x = v := ⟨_, rfl⟩
  rw [hv]
  have HI : Hid (wrap64 (sextA (getI x 25 7 * 32 + getI x 7 5) 12 : Nat) = v) := (immD_6 x).symm.trans hv
  clear hv
  go_enter Tryz.func54, Tryz.ntmps54
  go_wp2_with (first | (go_at_call 96; refine (get_int x _ _ hx2 (by decide) (by decide) (by decide) (by decide) _).mono ?_; rintro e w' ⟨rfl, k, rfl⟩) | (go_at_call 95; rw [HO.out.1]; refine (signed_any _ _ HO.out.2 _).mono ?_; rintro e w' ⟨rfl, hw⟩; rw [hw]; clear hw))
  go_ret
  exact ⟨ret64 HI.out, first_below _ _⟩
set_option maxRecDepth 100000 in
set_option maxHeartbeats 400000 in
theorem immOf_num3 (x : Nat) (hx : x < 4294967296) (w : World) :
    Calls Tryz.prog 54 #[.int .u8 3, .int .u32 (x : Nat)] w fun e w' => e = .returned (.int .i64 (immD 3 x)) ∧ Below w.heap.size w w' := by
  have hx2 : x < 18446744073709551616 := by omega
  have HO : Hid (getI x 20 12 < 18446744073709551616) := (show getI x 20 12 < 18446744073709551616 from by have h1 := (getI_lt x 20 12); simp at h1; omega)
  obtain ⟨v, hv⟩ : ∃ v, immD 3 x = v := ⟨_, rfl⟩
  rw [hv]
  have HI : Hid (wrap64 (sextA (getI x 20 12) 12 : Nat) = v) := (immD_3 x).symm.trans hv
  clear hv
  go_enter Tryz.func54, Tryz.ntmps54
  go_wp2_with (first | (go_at_call 96; refine (get_int x _ _ hx2 (by decide) (by decide) (by decide) (by decide) _).mono ?_; rintro e w' ⟨rfl, k, rfl⟩) | (go_at_call 95; refine (signed_any _ _ HO.out _).mono ?_; rintro e w' ⟨rfl, hw⟩; rw [hw]; clear hw))
  go_ret
  exact ⟨ret64 HI.out, first_below _ _⟩
set_option maxRecDepth 100000 in
set_option maxHeartbeats 400000 in
theorem immOf_num4 (x : Nat) (hx : x < 4294967296) (w : World) :
    Calls Tryz.prog 54 #[.int .u8 4, .int .u32 (x : Nat)] w fun e w' => e = .returned (.int .i64 (immD 4 x)) ∧ Below w.heap.size w w' := by
  have hx2 : x < 18446744073709551616 := by omega
  have HO : Hid (getI x 20 12 < 18446744073709551616) := (show getI x 20 12 < 18446744073709551616 from by have h1 := (getI_lt x 20 12); simp at h1; omega)
  obtain ⟨v, hv⟩ : ∃ v, immD 4 x = v := ⟨_, rfl⟩
  rw [hv]
  have HI : Hid (wrap64 (sextA (getI x 20 12) 12 : Nat) = v) := (immD_4 x).symm.trans hv
  clear hv
  go_enter Tryz.func54, Tryz.ntmps54
  go_wp2_with (first | (go_at_call 96; refine (get_int x _ _ hx2 (by decide) (by decide) (by decide) (by decide) _).mono ?_; rintro e w' ⟨rfl, k, rfl⟩) | (go_at_call 95; refine (signed_any _ _ HO.out _).mono ?_; rintro e w' ⟨rfl, hw⟩; rw [hw]; clear hw))
  go_ret
  exact ⟨ret64 HI.out, first_below _ _⟩
set_option maxRecDepth 100000 in
set_option maxHeartbeats 400000 in
theorem immOf_low7 (x : Nat) (hx : x < 4294967296) (w : World) :
    Calls Tryz.prog 54 #[.int .u8 7, .int .u32 (x : Nat)] w fun e w' => e = .returned (.int .i64 (immD 7 x)) ∧ Below w.heap.size w w' := by
  have hx2 : x < 18446744073709551616 := by omega
  have hs : getI x 20 6 < 4096 := by have h1 := (getI_lt x 20 6); simp at h1; omega
  obtain ⟨v, hv⟩ : ∃ v, immD 7 x = v := ⟨_, rfl⟩
  rw [hv]
  have HI : Hid (((getI x 20 6 : Nat) : Int) = v) := (immD_7 x).symm.trans hv
  clear hv
  go_enter Tryz.func54, Tryz.ntmps54
  go_wp2_with (first | (go_at_call 96; refine (get_int x _ _ hx2 (by decide) (by decide) (by decide) (by decide) _).mono ?_; rintro e w' ⟨rfl, k, rfl⟩))
  go_ret
  exact ⟨ret64 HI.out, first_below _ _⟩
set_option maxRecDepth 100000 in
set_option maxHeartbeats 400000 in
theorem immOf_low8 (x : Nat) (hx : x < 4294967296) (w : World) :
    Calls Tryz.prog 54 #[.int .u8 8, .int .u32 (x : Nat)] w fun e w' => e = .returned (.int .i64 (immD 8 x)) ∧ Below w.heap.size w w' := by
  have hx2 : x < 18446744073709551616 := by omega
  have hs : getI x 20 5 < 4096 := by have h1 := (getI_lt x 20 5); simp at h1; omega
  obtain ⟨v, hv⟩ : ∃ v, immD 8 x = v := ⟨_, rfl⟩
  rw [hv]
  have HI : Hid (((getI x 20 5 : Nat) : Int) = v) := (immD_8 x).symm.trans hv
  clear hv
  go_enter Tryz.func54, Tryz.ntmps54
  go_wp2_with (first | (go_at_call 96; refine (get_int x _ _ hx2 (by decide) (by decide) (by decide) (by decide) _).mono ?_; rintro e w' ⟨rfl, k, rfl⟩))
  go_ret
  exact ⟨ret64 HI.out, first_below _ _⟩
set_option maxRecDepth 100000 in
set_option maxHeartbeats 400000 in
theorem immOf_low10 (x : Nat) (hx : x < 4294967296) (w : World) :
    Calls Tryz.prog 54 #[.int .u8 10, .int .u32 (x : Nat)] w fun e w' => e = .returned (.int .i64 (immD 10 x)) ∧ Below w.heap.size w w' := by
  have hx2 : x < 18446744073709551616 := by omega
  have hs : getI x 20 12 < 4096 := by have h1 := (getI_lt x 20 12); simp at h1; omega
  obtain ⟨v, hv⟩ : ∃ v, immD 10 x = v := ⟨_, rfl⟩
  rw [hv]
  have HI : Hid (((getI x 20 12 : Nat) : Int) = v) := (immD_10 x).symm.trans hv
  clear hv
  go_enter Tryz.func54, Tryz.ntmps54
  go_wp2_with (first | (go_at_call 96; refine (get_int x _ _ hx2 (by decide) (by decide) (by decide) (by decide) _).mono ?_; rintro e w' ⟨rfl, k, rfl⟩))
  go_ret
  exact ⟨ret64 HI.out, first_below _ _⟩
set_option maxRecDepth 100000 in
set_option maxHeartbeats 400000 in
theorem immOf_low13 (x : Nat) (hx : x < 4294967296) (w : World) :
    Calls Tryz.prog 54 #[.int .u8 13, .int .u32 (x : Nat)] w fun e w' => e = .returned (.int .i64 (immD 13 x)) ∧ Below w.heap.size w w' := by
  have hx2 : x < 18446744073709551616 := by omega
  have hs : getI x 15 5 < 4096 := by have h1 := (getI_lt x 15 5); simp at h1; omega
  obtain ⟨v, hv⟩ : ∃ v, immD 13 x = v := ⟨_, rfl⟩
  rw [hv]
  have HI : Hid (((getI x 15 5 : Nat) : Int) = v) := (immD_13 x).symm.trans hv
  clear hv
  go_enter Tryz.func54, Tryz.ntmps54
  go_wp2_with (first | (go_at_call 96; refine (get_int x _ _ hx2 (by decide) (by decide) (by decide) (by decide) _).mono ?_; rintro e w' ⟨rfl, k, rfl⟩))
  go_ret
  exact ⟨ret64 HI.out, first_below _ _⟩
set_option maxRecDepth 100000 in
set_option maxHeartbeats 400000 in
theorem immOf_upper (x : Nat) (hx : x < 4294967296) (w : World) :
    Calls Tryz.prog 54 #[.int .u8 1, .int .u32 (x : Nat)] w fun e w' => e = .returned (.int .i64 (immD 1 x)) ∧ Below w.heap.size w w' := by
  have HO : Hid (_ ∧ _) := ⟨oupper x hx, (show x / 4096 * 4096 < 18446744073709551616 by omega)⟩
  obtain ⟨v, hv⟩ : ∃ v, immD 1 x = v := ⟨_, rfl⟩
  rw [hv]
  have HI : Hid (wrap64 (sextA (x / 4096 * 4096) 32 : Nat) = v) := (immD_1 x).symm.trans hv
  clear hv
  go_enter Tryz.func54, Tryz.ntmps54
  go_wp2_with (first | (go_at_call 94; rw [HO.out.1]; refine (sext32_any _ HO.out.2 _).mono ?_; rintro e w' ⟨rfl, hw⟩; rw [hw]; clear hw))
  go_ret
  exact ⟨ret64 HI.out, Below.refl _ _⟩
set_option maxRecDepth 100000 in
set_option maxHeartbeats 400000 in
theorem immOf_any (f : Nat) (hf : f < 17) (x : Nat) (hx : x < 4294967296) (w : World) :
    Calls Tryz.prog 54 #[.int .u8 (f : Nat), .int .u32 (x : Nat)] w fun e w' => e = .returned (.int .i64 (immD f x)) ∧ Below w.heap.size w w' := by
  have h : f = 1 ∨ f = 2 ∨ f = 3 ∨ f = 4 ∨ f = 5 ∨ f = 6 ∨ f = 7 ∨ f = 8 ∨ f = 10 ∨ f = 13 ∨ f = 0 ∨ f = 9 ∨ f = 11 ∨ f = 12 ∨ f = 14 ∨ f = 15 ∨ f = 16 := by omega
  rcases h with rfl | rfl | rfl | rfl | rfl | rfl | rfl | rfl | rfl | rfl | h
  · exact immOf_upper x hx w
  · exact immOf_jump x hx w
  · exact immOf_num3 x hx w
  · exact immOf_num4 x hx w
  · exact immOf_branch x hx w
  · exact immOf_store x hx w
  · exact immOf_low7 x hx w
  · exact immOf_low8 x hx w
  · exact immOf_low10 x hx w
  · exact immOf_low13 x hx w
  rcases h with rfl | rfl | rfl | rfl | rfl | rfl | rfl <;>
  (rw [immD_none _ x (by decide)]
   obtain ⟨v, hv⟩ : ∃ v, (0 : Int) = v := ⟨_, rfl⟩
   have HI : Hid ((0 : Int) = v) := hv
   rw [hv]
   clear hv
   go_enter Tryz.func54, Tryz.ntmps54
   go_wp2
   go_ret
   exact ⟨ret64 HI.out, Below.refl _ _⟩)
end Go.Proofs.YtooaafbdjnlmfaaGreatDoor

namespace Go.Proofs.YtooaafbdjnlmfaaGreatDoor
open Go.RowKit
set_option linter.unusedVariables false
set_option linter.unusedSimpArgs false
/-- has a word the bits that tell an operation? -/
def hit (x op : Nat) : Bool := (x &&& fixedT.getD (formsT.getD op 0) 0) == wordsT.getD op 0
/-- what Decode tells of a word and an operation -/
def decC (x o : Nat) : Array Value := instrC (o : Nat) (dP (formsT.getD o 0) 1 128 32 x : Nat) (dP (formsT.getD o 0) 2 32768 32 x : Nat) (dP (formsT.getD o 0) 4 1048576 32 x : Nat) (immD (formsT.getD o 0) x) (dP (formsT.getD o 0) 8 1048576 4096 x : Nat) (dB (formsT.getD o 0) 67108864 x) (dB (formsT.getD o 0) 33554432 x)
theorem fixed_lt : ∀ f, f < 17 → fixedT.getD f 0 < 4294967296 := by decide +kernel
theorem round_facts (x k : Nat) (hx : x < 4294967296) (hk : k < 99) (w : World) (t : TabsD w) (b : Bool) (hb : hit x k = b) : ∃ f q v : Nat, f < 17 ∧ f = formsT.getD k 0 ∧ w.cell? ⟨0, k, none⟩ = some (.int .u8 (f : Nat)) ∧ w.cell? ⟨1, f, none⟩ = some (.int .u32 (q : Nat)) ∧ w.cell? ⟨2, k, none⟩ = some (.int .u32 (v : Nat)) ∧ (bits .and .u32 (x : Int) (q : Int) == (v : Int)) = b := by
  have hf := forms_lt k hk
  refine ⟨_, _, _, hf, rfl, t.2.2.2.1 k hk, t.1 _ hf, t.2.1 k hk, ?_⟩
  rw [u32_and_nat x _ hx (fixed_lt _ hf), ← hb]
  unfold hit
  rw [Bool.eq_iff_iff]
  simp
  omega
theorem box8_frozen {w : World} {b : Nat} {x0 x1 x2 x3 x4 x5 x6 x7 : Value} {t : TypeId} (h : w.heap[b]? = some (.cells #[x0, x1, x2, x3, x4, x5, x6, x7] t (0, 0))) (i : Nat) : w.frozen? ⟨b, i, none⟩ = false := by
  simp only [World.frozen?, h]
  simp
set_option maxRecDepth 100000 in
set_option maxHeartbeats 1000000 in
theorem decode_hit (x o : Nat) (hx : x < 4294967296) (h1 : 1 ≤ o) (h2 : o < 99) (hh : hit x o = true) (hno : ∀ j, 1 ≤ j → j < o → hit x j = false) (w : World) (ht : TabsD w) :
    Calls Tryz.prog 23 #[.int .u32 (x : Nat)] w fun e w' => e = .returned (.tuple #[.agg (decC x o), .int .i64 0]) ∧ Below w.heap.size w w' := by
  have S : Hid (_ ∧ _ ∧ _) := ⟨ht.below ((Below.refl _ _).alloc (Nat.le_refl _) (.cells (instrC 0 0 0 0 0 0 false false) 23)), heap_alloc_new w (.cells (instrC 0 0 0 0 0 0 false false) 23), (Below.refl w.heap.size w).alloc (Nat.le_refl _) (.cells (instrC 0 0 0 0 0 0 false false) 23)⟩
  have HN : Hid _ := hno
  have HH : Hid _ := hh
  clear ht hno hh
  go_enter Tryz.func23, Tryz.ntmps23
  go_wp2
  go_loopw [4] (fun i wr => ∃ k : Nat, 1 ≤ k ∧ k ≤ o ∧ i = .int .i64 k ∧ TabsD wr ∧ wr.heap[w.heap.size]? = some (.cells (instrC 0 0 0 0 0 0 false false) 23 (0, 0)) ∧ Below w.heap.size w wr) (fun i _ => 99 - (intOf i).toNat)
  case atStart => exact ⟨1, by omega, by omega, rfl, S.out⟩
  case round =>
    obtain ⟨k, hk1, hk2, rfl, t, hz, hb⟩ := hrel
    clear S
    have C : Hid (_ ∧ _ ∧ _) := ⟨t, hz, hb⟩
    have hki : (k : Int) ≤ 98 := by omega
    have hkj : (k : Int) < 99 := by omega
    by_cases hko : k < o
    · obtain ⟨f, q, v, hf, hff, g1, g2, g3, g4⟩ := round_facts x k hx (by omega) wr t false (HN.out k hk1 hko)
      clear t hz hb hff
      go_wp2
      go_quiet (fail)
      go_wp2
      go_roundw
      case rel => exact ⟨k + 1, by omega, by omega, by go_num, TabsD.below C.out.1 (below_drewN (Below.refl _ _) _), C.out.2.1, below_drewN C.out.2.2 _⟩
      case measure => simp [intOf]; omega
    · obtain rfl : k = o := by omega
      obtain ⟨f, q, v, hf, hff, g1, g2, g3, g4⟩ := round_facts x k hx (by omega) wr t true HH.out
      have HF : Hid _ := hff
      clear t hz hb hff
      go_wp2
      go_quiet (fail)
      go_wp2_with (first | (go_at_call 53; refine (partsOf_any f hf x hx _ (by exact C.out.1.2.2)).mono ?_; rintro e w1 ⟨rfl, hb1⟩; have x1 := below_box (by exact C.out.2.1) hb1; have l1 : w.heap.size < w1.heap.size := (Array.getElem?_eq_some_iff.1 x1).1; have B1 : Hid (_ ∧ _ ∧ _) := ⟨hb1, x1, l1⟩; clear hb1 x1))
      refine (immOf_any f hf x hx _).mono ?_
      rintro e w2 ⟨rfl, hb2⟩
      have x2 := below_box (heap_alloc_new _ _) hb2
      have x3 := below_box ((heap_alloc_old w1 _ l1).trans B1.out.2.1) hb2
      obtain ⟨p0, p1, p2, p3, p4, p5, p6, p7⟩ := box8_facts x2
      obtain ⟨q0, q1, q2, q3, q4, q5, q6, q7⟩ := box8_facts x3
      have r := box8_frozen x2
      have r0 := r 0
      have r4 := r 4
      have z := box8_frozen x3
      have z0 := z 0
      have z1 := z 1
      have z2 := z 2
      have z3 := z 3
      have z4 := z 4
      have z5 := z 5
      have z6 := z 6
      have z7 := z 7
      have hne : w.heap.size ≠ w1.heap.size := Nat.ne_of_lt l1
      have hne' : w1.heap.size ≠ w.heap.size := Nat.ne_of_gt l1
      have B2 : Hid (_ ∧ _ ∧ _) := ⟨hb2, x2, x3⟩
      clear hb2 x2 x3 r z
      go_wp2
      have hd : decC x k = instrC (k : Nat) (dP f 1 128 32 x : Nat) (dP f 2 32768 32 x : Nat) (dP f 4 1048576 32 x : Nat) (immD f x) (dP f 8 1048576 4096 x : Nat) (dB f 67108864 x) (dB f 33554432 x) := by unfold decC; rw [← HF.out]
      have b1 : Below w.heap.size w w1 := (below_drewN C.out.2.2 _).trans (B1.out.1.mono C.out.2.2.size)
      have b2 : Below w.heap.size w w2 := (b1.alloc b1.size _).trans (B2.out.1.mono (by have := b1.size; simp; omega))
      rw [hd]
      clear hd
      refine bodyPost_ret (v := .tuple #[.agg (instrC (k : Nat) (dP f 1 128 32 x : Nat) (dP f 2 32768 32 x : Nat) (dP f 4 1048576 32 x : Nat) (immD f x) (dP f 8 1048576 4096 x : Nat) (dB f 67108864 x) (dB f 33554432 x)), .int .i64 0]) (by simp [results, Tryz.results14, go_sem, q0, q1, q2, q3, q4, q5, q6, q7, hne, hne']) rfl ⟨rfl, ?_⟩
      iterate 10 (refine Below.setCell ?_ (by first | exact Nat.le_refl _ | exact Nat.le_of_lt l1) _)
      exact b2
set_option maxRecDepth 100000 in
set_option maxHeartbeats 1000000 in
theorem decode_none (x : Nat) (hx : x < 4294967296) (hno : ∀ j, 1 ≤ j → j < 99 → hit x j = false) (w : World) (ht : TabsD w) :
    Calls Tryz.prog 23 #[.int .u32 (x : Nat)] w fun e w' => e = .returned (.tuple #[.agg (instrC 0 0 0 0 0 0 false false), .int .i64 31]) ∧ Below w.heap.size w w' := by
  have S : Hid (_ ∧ _ ∧ _) := ⟨ht.below ((Below.refl _ _).alloc (Nat.le_refl _) (.cells (instrC 0 0 0 0 0 0 false false) 23)), heap_alloc_new w (.cells (instrC 0 0 0 0 0 0 false false) 23), (Below.refl w.heap.size w).alloc (Nat.le_refl _) (.cells (instrC 0 0 0 0 0 0 false false) 23)⟩
  have HN : Hid _ := hno
  clear ht hno
  go_enter Tryz.func23, Tryz.ntmps23
  go_wp2
  go_loopw [4] (fun i wr => ∃ k : Nat, 1 ≤ k ∧ k ≤ 99 ∧ i = .int .i64 k ∧ TabsD wr ∧ wr.heap[w.heap.size]? = some (.cells (instrC 0 0 0 0 0 0 false false) 23 (0, 0)) ∧ Below w.heap.size w wr) (fun i _ => 99 - (intOf i).toNat)
  case atStart => exact ⟨1, by omega, by omega, rfl, S.out⟩
  case round =>
    obtain ⟨k, hk1, hk2, rfl, t, hz, hb⟩ := hrel
    clear S
    have C : Hid (_ ∧ _ ∧ _) := ⟨t, hz, hb⟩
    by_cases hko : k < 99
    · have hki : (k : Int) ≤ 98 := by omega
      have hkj : (k : Int) < 99 := by omega
      obtain ⟨f, q, v, hf, hff, g1, g2, g3, g4⟩ := round_facts x k hx (by omega) wr t false (HN.out k hk1 hko)
      clear t hz hb hff
      go_wp2
      go_quiet (fail)
      go_wp2
      go_roundw
      case rel => exact ⟨k + 1, by omega, by omega, by go_num, TabsD.below C.out.1 (below_drewN (Below.refl _ _) _), C.out.2.1, below_drewN C.out.2.2 _⟩
      case measure => simp [intOf]; omega
    · have hki : ¬ (k : Int) ≤ 98 := by omega
      obtain ⟨q0, q1, q2, q3, q4, q5, q6, q7⟩ := box8_facts hz
      have z := box8_frozen hz
      have z0 := z 0
      have z1 := z 1
      have z2 := z 2
      have z3 := z 3
      have z4 := z 4
      have z5 := z 5
      have z6 := z 6
      have z7 := z 7
      clear t hz hb z
      go_wp2
      refine bodyPost_ret (v := .tuple #[.agg (instrC 0 0 0 0 0 0 false false), .int .i64 31]) (by simp [results, Tryz.results14, go_sem, q0, q1, q2, q3, q4, q5, q6, q7]) rfl ⟨rfl, ?_⟩
      iterate 8 (refine Below.setCell ?_ (by exact Nat.le_refl _) _)
      exact C.out.2.2
end Go.Proofs.YtooaafbdjnlmfaaGreatDoor
