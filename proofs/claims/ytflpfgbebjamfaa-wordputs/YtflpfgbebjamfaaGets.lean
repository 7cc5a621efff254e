/- The statement on Mask, Get and Bit of layer 1 returns true for every input. -/
import Derived.Test.YtflpfgbebjamfaaCode
namespace Go.Proofs.Ytflpfgbebjamfaa
open Go.RowKit
/-- n bits of a word from a place on -/
def getN (x : Nat) (a n : Int) : Nat := if 0 ≤ a ∧ a ≤ 63 then x / 2 ^ a.toNat % 2 ^ (min n 64).toNat else 0
theorem getN_in (x a : Nat) (n : Int) (ha : a ≤ 63) : getN x a n = x / 2 ^ a % 2 ^ (min n 64).toNat := by
  unfold getN; rw [if_pos (by omega), Int.toNat_natCast]
theorem getN_out (x : Nat) (a n : Int) (h : a < 0 ∨ 63 < a) : getN x a n = 0 := by unfold getN; rw [if_neg (by omega)]
theorem place_nat (a : Int) (h : ¬ (a < 0 ∨ 63 < a)) : ∃ b : Nat, b ≤ 63 ∧ a = b := ⟨a.toNat, by omega, by omega⟩
theorem get_all (x : Nat) (a n : Int) (hx : x < 18446744073709551616) (W w : World) (hb : Below W.heap.size W w) :
    Calls Try.prog 9 #[.int .u64 (x : Int), .int .i64 a, .int .i64 n] w fun e w' => e = .returned (.int .u64 (getN x a n : Nat)) ∧ Below W.heap.size W w' := by
  by_cases h : a < 0 ∨ 63 < a
  · rw [getN_out x a n h]
    exact (get_out x a n h w).mono fun e w' ⟨he, hw⟩ => ⟨he, by rw [hw]; exact hb⟩
  · obtain ⟨b, hb63, rfl⟩ := place_nat a h
    rw [getN_in x b n hb63]
    exact (get_any x b n _ hx hb63 rfl w).mono fun e w' ⟨he, k, hw⟩ => ⟨he, by rw [hw]; exact below_drewN hb k⟩
theorem rget_all (x : Nat) (a n : Int) (hx : x < 18446744073709551616) (W w : World) (hb : Below W.heap.size W w) :
    Calls Try.prog 10 #[.int .u64 (x : Int), .int .i64 a, .int .i64 n] w fun e w' => e = .returned (.int .u64 (getN x a n : Nat)) ∧ Below W.heap.size W w' := by
  by_cases h : a < 0 ∨ 63 < a
  · rw [getN_out x a n h]
    exact (rget_out x a n h w).mono fun e w' ⟨he, hw⟩ => ⟨he, by rw [hw]; exact hb⟩
  · obtain ⟨b, hb63, rfl⟩ := place_nat a h
    rw [getN_in x b n hb63, ← get_eq x b (min (min n 64).toNat (64 - b)) _ hx hb63 rfl]
    exact (rget_any x b n _ hx hb63 (by omega) w).mono fun e w' ⟨he, hw⟩ => ⟨he, hb.trans (hw.mono hb.size)⟩
theorem rmask_all (n : Int) (W w : World) (hb : Below W.heap.size W w) :
    Calls Try.prog 12 #[.int .i64 n] w fun e w' => e = .returned (.int .u64 ((2 ^ (min n 64).toNat - 1 : Nat) : Int)) ∧ Below W.heap.size W w' := by
  rw [← mask_eq]
  exact (rmask_any n _ rfl w).mono fun e w' ⟨he, hw⟩ => ⟨he, hb.trans (hw.mono hb.size)⟩
theorem bit_all (x : Nat) (a : Int) (hx : x < 18446744073709551616) (W w : World) (hb : Below W.heap.size W w) :
    Calls Try.prog 13 #[.int .u64 (x : Int), .int .i64 a] w fun e w' => e = .returned (.bool ((getN x a 1 : Int) == 1)) ∧ Below W.heap.size W w' := by
  go_enter Try.func13, Try.ntmps13
  go_wp2_with (go_at_call 9; refine (get_all _ _ _ hx W _ (by assumption)).mono ?_; rintro e w' ⟨rfl, hb'⟩)
  go_ret
  exact ⟨rfl, by assumption⟩
set_option maxHeartbeats 400000 in
theorem gets_core (x : Nat) (a n : Int) (hx : x < 18446744073709551616) (W w : World) (hb : Below W.heap.size W w) :
    Calls Try.prog 3 #[.int .u64 (x : Int), .int .i64 a, .int .i64 n] w fun e w' => e = .returned (.bool true) ∧ Below W.heap.size W w' := by
  go_enter Try.func3, Try.ntmps3
  go_wp2_with (first | (go_at_call 8; refine (awake_any _).mono ?_; rintro e w' ⟨rfl, rfl⟩) | (go_at_call 9; refine (get_all _ _ _ hx W _ (by assumption)).mono ?_; rintro e w' ⟨rfl, hb'⟩) | (go_at_call 10; refine (rget_all _ _ _ hx W _ (by assumption)).mono ?_; rintro e w' ⟨rfl, hb'⟩) | (go_at_call 11; refine (mask_any _ _ rfl _).mono ?_; rintro e w' ⟨rfl, rfl⟩) | (go_at_call 12; refine (rmask_all _ W _ (by assumption)).mono ?_; rintro e w' ⟨rfl, hb'⟩) | (go_at_call 13; refine (bit_all _ _ hx W _ (by assumption)).mono ?_; rintro e w' ⟨rfl, hb'⟩))
  go_ret
  exact ⟨by simp, by assumption⟩
theorem gets_walk (a0 : Int) (w0 : (Lit.int .u64 a0).wf = true) (a1 : Int) (_w1 : (Lit.int .i64 a1).wf = true) (a2 : Int) (_w2 : (Lit.int .i64 a2).wf = true) (w : World) :
    Calls Try.prog 3 #[.int .u64 a0, .int .i64 a1, .int .i64 a2] w fun e w' => e = .returned (.bool true) ∧ Below w.heap.size w w' := by
  have b0 := bounds_u64 w0
  obtain ⟨x, rfl⟩ : ∃ x : Nat, a0 = x := ⟨a0.toNat, by omega⟩
  exact gets_core x a1 a2 (by omega) w w (Below.refl _ _)
end Go.Proofs.Ytflpfgbebjamfaa
