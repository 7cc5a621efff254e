/- The program's calls partsOf and immOf of layer 3. -/
import Derived.Test.YtooaafbdjnlmfaaGreatDoorJoin
import Derived.Handy
namespace Go.Proofs.YtooaafbdjnlmfaaGreatDoor
open Go.RowKit
set_option linter.unusedVariables false
set_option linter.unusedSimpArgs false
theorem i64_and_nat (a b : Nat) (ha : a < 9223372036854775808) (hb : b < 9223372036854775808) : bits .and .i64 (a : Int) (b : Int) = ((a &&& b : Nat) : Int) := by
  have hx : a &&& b ≤ a := Nat.and_le_left
  have h1 : (BitVec.ofInt 64 (a : Int)).toNat = a := by
    rw [BitVec.ofInt_natCast, BitVec.toNat_ofNat]; exact Nat.mod_eq_of_lt (by omega)
  have h2 : (BitVec.ofInt 64 (b : Int)).toNat = b := by
    rw [BitVec.ofInt_natCast, BitVec.toNat_ofNat]; exact Nat.mod_eq_of_lt (by omega)
  show IntKind.i64.wrap ((BitVec.ofInt 64 (a : Int) &&& BitVec.ofInt 64 (b : Int)).toNat : Int) = _
  rw [BitVec.toNat_and, h1, h2, IntKind.wrap_i64]
  omega
/-- a part of a form, as it stands in a word -/
def dP (f p k m x : Nat) : Nat := if partsT.getD f 0 &&& p = 0 then 0 else x / k % m
theorem and_most (f x k : Nat) (p last : Int) (P b L m : Nat) (hP : p = (P : Nat)) (hL : last = (L : Nat)) (hm : m = 2 ^ b) (hLb : L = 2 ^ b - 1) (hb : b ≤ 12) (hx : x < 4294967296) : bits .and .i64 ((x : Int) / (k : Nat)) (mostI f p last) = ((dP f P k m x : Nat) : Int) := by
  subst hP hL hm hLb
  have hk : x / k ≤ x := Nat.div_le_self _ _
  have h2 : 2 ^ b ≤ 2 ^ 12 := Nat.pow_le_pow_right (by omega) hb
  rw [show ((x : Int) / (k : Nat)) = ((x / k : Nat) : Int) from by simp]
  unfold mostI mostN dP
  rw [Int.toNat_natCast]
  by_cases hp : partsT.getD f 0 &&& P = 0
  · rw [if_pos hp, if_pos hp, show (0 : Int) = ((0 : Nat) : Int) from rfl, i64_and_nat _ _ (by omega) (by omega), Nat.and_zero]
  · rw [if_neg hp, if_neg hp, i64_and_nat _ _ (by omega) (by omega), Nat.and_two_pow_sub_one_eq_mod]
theorem bit_one (x k : Nat) (hx : x < 4294967296) : (bits .and .u32 ((x : Int) / (k : Nat)) 1 == 1) = (x / k % 2 == 1) := by
  have hk : x / k ≤ x := Nat.div_le_self _ _
  have := u32_and_nat (x / k) 1 (by omega) (by omega)
  rw [show ((x : Int) / (k : Nat)) = ((x / k : Nat) : Int) from by simp, show (1 : Int) = ((1 : Nat) : Int) from rfl, this, Nat.and_one_is_mod, Bool.eq_iff_iff]
  simp
  omega
/-- are Aq and Rl there, and true? -/
def dB (f k x : Nat) : Bool := decide (partsT.getD f 0 &&& 16 ≠ 0) && (x / k % 2 == 1)
theorem ret_instr {a a' b b' c c' d d' : Int} {q q' r r' : Bool} (h1 : a = a') (h2 : b = b') (h3 : c = c') (h4 : d = d') (h5 : q = q') (h6 : r = r') : Ending.returned (.agg #[.int .i64 0, .int .i64 a, .int .i64 b, .int .i64 c, .int .i64 0, .int .i64 d, .bool q, .bool r]) = .returned (.agg (instrC 0 a' b' c' 0 d' q' r')) := by
  subst h1 h2 h3 h4 h5 h6; rfl
set_option maxRecDepth 100000 in
set_option maxHeartbeats 400000 in
theorem partsOf_any (f : Nat) (hf : f < 17) (x : Nat) (hx : x < 4294967296) (w : World) (ht : Tabs w) :
    Calls Tryz.prog 53 #[.int .u8 (f : Nat), .int .u32 (x : Nat)] w fun e w' => e = .returned (.agg (instrC 0 (dP f 1 128 32 x : Nat) (dP f 2 32768 32 x : Nat) (dP f 4 1048576 32 x : Nat) 0 (dP f 8 1048576 4096 x : Nat) (dB f 67108864 x) (dB f 33554432 x))) ∧ Below w.heap.size w w' := by
  have T : Hid (Tabs (w.alloc (.cells (instrC 0 0 0 0 0 0 false false) 23))) := ht.below ((Below.refl _ _).alloc (Nat.le_refl _) _)
  have hp := T.out.2.2.2.1 f hf
  have hq := u8_and_nat (partsT.getD f 0) 16 (parts_lt f hf) (by omega)
  rw [show ((16 : Nat) : Int) = 16 from rfl] at hq
  have A : Hid (_ ∧ _ ∧ _ ∧ _) := ⟨and_most f x 128 1 31 1 5 31 32 rfl rfl rfl rfl (by decide) hx, and_most f x 32768 2 31 2 5 31 32 rfl rfl rfl rfl (by decide) hx, and_most f x 1048576 4 31 4 5 31 32 rfl rfl rfl rfl (by decide) hx, and_most f x 1048576 8 4095 8 12 4095 4096 rfl rfl rfl rfl (by decide) hx⟩
  rcases parts16 f hf with hn | hn
  · have hd : ∀ k, dB f k x = false := fun k => by unfold dB; rw [hn]; rfl
    rw [hd, hd]
    rw [hn] at hq
    generalize ((partsT.getD f 0 : Nat) : Int) = pp at *
    clear ht hn hd
    go_enter Tryz.func53, Tryz.ntmps53
    go_wp2_with (go_at_call 93; refine (most_int _ _ _ hf (by decide) (by decide) _ (by exact T.out)).mono ?_; rintro e w' ⟨rfl, hw⟩; rw [hw]; clear hw)
    go_returns
    exact ⟨ret_instr A.out.1 A.out.2.1 A.out.2.2.1 A.out.2.2.2 rfl rfl, (Below.refl _ _).alloc (Nat.le_refl _) _⟩
  · have hd : ∀ k, dB f k x = (x / k % 2 == 1) := fun k => by unfold dB; rw [hn]; rfl
    rw [hd, hd]
    rw [hn] at hq
    generalize ((partsT.getD f 0 : Nat) : Int) = pp at *
    clear ht hn hd
    go_enter Tryz.func53, Tryz.ntmps53
    go_wp2_with (go_at_call 93; refine (most_int _ _ _ hf (by decide) (by decide) _ (by exact T.out)).mono ?_; rintro e w' ⟨rfl, hw⟩; rw [hw]; clear hw)
    go_returns
    exact ⟨ret_instr A.out.1 A.out.2.1 A.out.2.2.1 A.out.2.2.2 (bit_one x 67108864 hx) (bit_one x 33554432 hx), (Below.refl _ _).alloc (Nat.le_refl _) _⟩
end Go.Proofs.YtooaafbdjnlmfaaGreatDoor
