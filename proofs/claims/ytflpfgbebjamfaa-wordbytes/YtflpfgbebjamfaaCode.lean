/- The calls Mask, Get, Bit, Put, Sext and Sext32 of layer 1 come to plain numbers. -/
import Derived.Test.YtflpfgbebjamfaaPlain
import Derived.Laws.Shifts
import Derived.Laws.BitsAllLaws
import Derived.Laws.Bits64b
namespace Go.Proofs.Ytflpfgbebjamfaa
open Go.RowKit
theorem wrap_u64 (x : Int) : IntKind.u64.wrap x = x % 18446744073709551616 := by simp [IntKind.wrap, IntKind.signed, IntKind.bits]
theorem shl_one (n : Int) (M : Nat) (h : 1 ≤ n) (hM : M = (min n 64).toNat) : Op.shift BinOp.shl IntKind.u64 1 IntKind.i64 n = pure (.int .u64 ((2 ^ M % 18446744073709551616 : Nat) : Int)) := by
  rw [shift_shl_any _ _ _ _ (by omega), show min n.toNat IntKind.u64.bits = M from by rw [hM]; show min n.toNat 64 = _; omega, wrap_u64]
  simp
theorem mask_last (M : Nat) (h1 : 1 ≤ M) (h : M ≤ 64) : IntKind.u64.wrap (((2 ^ M % 18446744073709551616 : Nat) : Int) - 1) = ((2 ^ M - 1 : Nat) : Int) := by
  rw [wrap_u64]
  by_cases e : M = 64
  · subst e; decide
  · have h2 : 2 ^ M ≤ 2 ^ 63 := Nat.pow_le_pow_right (by omega) (by omega)
    have h3 : 2 ^ 1 ≤ 2 ^ M := Nat.pow_le_pow_right (by omega) h1
    generalize 2 ^ M = p at *
    omega
set_option maxHeartbeats 400000 in
theorem mask_any (n : Int) (M : Nat) (hM : M = (min n 64).toNat) (w : World) :
    Calls Try.prog 11 #[.int .i64 n] w fun e w' => e = .returned (.int .u64 ((2 ^ M - 1 : Nat) : Int)) ∧ w' = w := by
  by_cases h : n < 1
  · obtain rfl : M = 0 := by omega
    go_enter Try.func11, Try.ntmps11
    go_wp2
    go_ret
    exact ⟨rfl, rfl⟩
  · have hs := shl_one n M (by omega) hM
    have HL : Hid _ := mask_last M (by omega) (by omega)
    clear hM
    generalize hP : ((2 ^ M % 18446744073709551616 : Nat) : Int) = p at *
    clear hP
    go_enter Try.func11, Try.ntmps11
    go_wp2
    go_ret
    exact ⟨by rw [← HL.out]; rfl, rfl⟩
theorem place_in (a : Int) (h0 : 0 ≤ a) (h1 : a ≤ 63) (w : World) : Calls Try.prog 25 #[.int .i64 a] w fun e w' => e = .returned (.bool true) ∧ w' = w := by
  go_enter Try.func25, Try.ntmps25
  go_wp2
  go_ret
  exact ⟨by simp; omega, rfl⟩
theorem place_out (a : Int) (h : a < 0 ∨ 63 < a) (w : World) : Calls Try.prog 25 #[.int .i64 a] w fun e w' => e = .returned (.bool false) ∧ w' = w := by
  rcases h with h | h
  · go_enter Try.func25, Try.ntmps25
    go_wp2
    go_ret
    exact ⟨rfl, rfl⟩
  · go_enter Try.func25, Try.ntmps25
    go_wp2
    go_ret
    exact ⟨by simp; omega, rfl⟩
theorem get_out (x : Nat) (a n : Int) (h : a < 0 ∨ 63 < a) (w : World) :
    Calls Try.prog 9 #[.int .u64 (x : Int), .int .i64 a, .int .i64 n] w fun e w' => e = .returned (.int .u64 0) ∧ w' = w := by
  have hp : ∀ w, Calls Try.prog 25 #[.int .i64 a] w fun e w' => e = .returned (.bool false) ∧ w' = w := fun w => place_out a h w
  clear h
  go_enter Try.func9, Try.ntmps9
  go_wp2_with (go_at_call 25; refine (hp _).mono ?_; rintro e w' ⟨rfl, rfl⟩)
  go_ret
  exact ⟨rfl, rfl⟩
theorem int_shr (x a : Nat) : (x : Int) / 2 ^ a = ((x / 2 ^ a : Nat) : Int) := by simp
theorem and_mask (x a M : Nat) (hx : x < 18446744073709551616) (hM : M ≤ 64) : bits .and .u64 ((x : Int) / 2 ^ a) ((2 ^ M - 1 : Nat) : Int) = ((x / 2 ^ a % 2 ^ M : Nat) : Int) := by
  have h1 : x / 2 ^ a < 18446744073709551616 := Nat.lt_of_le_of_lt (Nat.div_le_self _ _) hx
  have h2 : 2 ^ M ≤ 2 ^ 64 := Nat.pow_le_pow_right (by omega) hM
  have h3 : 0 < 2 ^ M := Nat.two_pow_pos M
  rw [int_shr, bits_and_u64_nat _ _ h1 (by omega), Nat.and_two_pow_sub_one_eq_mod]
set_option maxHeartbeats 400000 in
theorem get_any (x a : Nat) (n : Int) (M : Nat) (hx : x < 18446744073709551616) (ha : a ≤ 63) (hM : M = (min n 64).toNat) (w : World) :
    Calls Try.prog 9 #[.int .u64 (x : Int), .int .i64 (a : Int), .int .i64 n] w fun e w' => e = .returned (.int .u64 ((x / 2 ^ a % 2 ^ M : Nat) : Int)) ∧ ∃ k, w' = w.drewN k := by
  have ha2 := and_mask x a M hx (by omega)
  have HM : Hid (M = (min n 64).toNat) := hM
  clear hM
  generalize hQ : ((x / 2 ^ a % 2 ^ M : Nat) : Int) = q at *
  have hmk : ∀ w, Calls Try.prog 11 #[.int .i64 n] w fun e w' => e = .returned (.int .u64 ((2 ^ M - 1 : Nat) : Int)) ∧ w' = w := fun w => mask_any n M HM.out w
  generalize hP : ((2 ^ M - 1 : Nat) : Int) = p at *
  clear hQ hP
  go_enter Try.func9, Try.ntmps9
  go_wp2_with (go_at_call 25; refine (place_in _ (by omega) (by omega) _).mono ?_; rintro e w' ⟨rfl, rfl⟩)
  go_quiet ((go_at_call 11; exact Calls.quiet_of_same (hmk _)))
  go_wp2
  go_ret
  exact ⟨rfl, _, rfl⟩
end Go.Proofs.Ytflpfgbebjamfaa
