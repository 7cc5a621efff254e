/- The call Lowest of layer 1 tells the lowest bit of a word, by the table of the library's TrailingZeros64. -/
import Derived.Test.YtpedollliahldaaDoorPlain
import Derived.Lib.TrailingZeros
namespace Go.Proofs.YtpedollliahldaaDoor
open Go.RowKit
set_option linter.unusedVariables false
set_option maxRecDepth 100000
/-- the library's table lies where its variable is -/
def TabLies (w : World) : Prop := ∀ i, i < 64 → w.cell? ⟨0, i, none⟩ = some (.int .u8 ((Lib.deBruijn64tab.getD i 0 : Nat) : Int))
theorem low_key (x c : Nat) (hx : x < 18446744073709551616) (h0 : x ≠ 0) (h : x &&& (2 ^ 64 - x) = 2 ^ c) :
    IntKind.u64.wrap (bits .and .u64 (x : Int) (IntKind.u64.wrap (-(x : Int))) * 285870213051353865) = ((2 ^ c * 285870213051353865 % 18446744073709551616 : Nat) : Int) := by
  have e : IntKind.u64.wrap (-(x : Int)) = ((2 ^ 64 - x : Nat) : Int) := by rw [wrap_u64]; omega
  rw [e, bits_and_u64_nat _ _ hx (by omega), h, wrap_u64]
  simp
set_option maxHeartbeats 400000 in
theorem tz_any (x : Nat) (hx : x < 18446744073709551616) (h0 : x ≠ 0) (w : World) (ht : TabLies w) :
    Calls Tryd.prog 42 #[.int .u64 (x : Int)] w fun e w' => e = .returned (.int .i64 (Lib.ctz 64 x : Nat)) ∧ w' = w := by
  obtain ⟨hlow, hk⟩ := Lib.lowest_bit 64 x h0 hx
  obtain ⟨hi, htab⟩ := Lib.deBruijn64_at _ hk
  have hcell := ht _ hi
  rw [htab] at hcell
  have hkey := low_key x _ hx h0 hlow
  clear ht htab hlow
  generalize Lib.ctz 64 x = c at *
  generalize 2 ^ c * 285870213051353865 % 18446744073709551616 = q at *
  have hx0 : ((x : Int) == 0) = false := by simp; omega
  clear h0
  go_enter Tryd.func42, Tryd.ntmps42
  go_wp2
  go_ret
  exact ⟨rfl, rfl⟩
/-- the lowest bit among the m highest that is 1, or -1 -/
def lowM (x : Nat) : Nat → Int
  | 0 => -1
  | m + 1 => if bitAt x (63 - m) = 1 then ((63 - m : Nat) : Int) else lowM x m
theorem lowM_zero : ∀ m, lowM 0 m = -1
  | 0 => rfl
  | m + 1 => by rw [lowM, if_neg (by simp [bitAt]), lowM_zero m]
theorem lowM_at (x c : Nat) (hc : c < 64) (h1 : bitAt x c = 1) (h0 : ∀ i, i < c → bitAt x i = 0) : ∀ m, 64 - c ≤ m → m ≤ 64 → lowM x m = c
  | 0, h, _ => by omega
  | m + 1, h, h2 => by
    by_cases e : m = 63 - c
    · subst e
      rw [lowM, show 63 - (63 - c) = c from by omega, if_pos h1]
    · rw [lowM, if_neg (by rw [h0 (63 - m) (by omega)]; omega), lowM_at x c hc h1 h0 m (by omega) (by omega)]
theorem ctz_bits (x : Nat) (hx : x < 18446744073709551616) (h0 : x ≠ 0) : Lib.ctz 64 x < 64 ∧ bitAt x (Lib.ctz 64 x) = 1 ∧ ∀ i, i < Lib.ctz 64 x → bitAt x i = 0 := by
  have e : Lib.ctz 64 x = Lib.ctzFrom 64 x := by unfold Lib.ctz; rw [if_neg h0]
  obtain ⟨m, hm, hl⟩ := Lib.ctzFrom_spec 64 x (by omega) hx
  rw [← e] at hm hl
  generalize Lib.ctz 64 x = c at *
  refine ⟨hl, ?_, ?_⟩
  · unfold bitAt
    rw [hm, Nat.mul_div_cancel_left _ (Nat.two_pow_pos c)]
    omega
  · intro i hi
    unfold bitAt
    rw [hm, show c = i + ((c - i - 1) + 1) from by omega, Nat.pow_add, Nat.mul_assoc, Nat.mul_div_cancel_left _ (Nat.two_pow_pos i), Nat.pow_succ, Nat.mul_right_comm, Nat.mul_mod_left]
theorem lowM_ctz (x : Nat) (hx : x < 18446744073709551616) (h0 : x ≠ 0) : lowM x 64 = (Lib.ctz 64 x : Nat) := by
  obtain ⟨h1, h2, h3⟩ := ctz_bits x hx h0
  exact lowM_at x _ h1 h2 h3 64 (by omega) (by omega)
theorem lowest_any (x : Nat) (hx : x < 18446744073709551616) (w : World) (ht : TabLies w) :
    Calls Tryd.prog 33 #[.int .u64 (x : Int)] w fun e w' => e = .returned (.int .i64 (lowM x 64)) ∧ w' = w := by
  by_cases h0 : x = 0
  · subst h0
    rw [lowM_zero]
    go_enter Tryd.func33, Tryd.ntmps33
    go_wp2
    go_ret
    exact ⟨rfl, rfl⟩
  · rw [lowM_ctz x hx h0]
    have hc : ∀ (w : World), TabLies w → Calls Tryd.prog 42 #[.int .u64 (x : Int)] w fun e w' => e = .returned (.int .i64 (Lib.ctz 64 x : Nat)) ∧ w' = w := fun w h => tz_any x hx h0 w h
    generalize ((Lib.ctz 64 x : Nat) : Int) = c at *
    have hx0 : ((x : Int) == 0) = false := by simp; omega
    clear h0
    go_enter Tryd.func33, Tryd.ntmps33
    go_wp2_with (go_at_call 42; refine (hc _ ht).mono ?_; rintro e w' ⟨rfl, rfl⟩)
    go_ret
    exact ⟨rfl, rfl⟩
end Go.Proofs.YtpedollliahldaaDoor
