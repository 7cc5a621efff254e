/- The statement on Sext and Sext32 of layer 1 returns true for every input. -/
import Derived.Test.YtflpfgbebjamfaaCode
namespace Go.Proofs.Ytflpfgbebjamfaa
open Go.RowKit
theorem wrap64_val (y : Nat) (h : y < 18446744073709551616) : wrap64 (y : Int) = if y < 9223372036854775808 then (y : Int) else (y : Int) - 18446744073709551616 := by
  unfold wrap64; split <;> omega
theorem sext_num (x n : Nat) (h1 : 1 ≤ n) (h2 : n ≤ 63) : IntKind.u64.wrap (wrap64 (IntKind.u64.wrap ((x : Int) * 2 ^ (64 - n))) / 2 ^ (64 - n)) = ((sextN x n : Nat) : Int) := by
  have e1 : IntKind.u64.wrap ((x : Int) * 2 ^ (64 - n)) = (((x % 2 ^ n) * 2 ^ (64 - n) : Nat) : Int) := by
    rw [wrap_u64, ← Nat.mul_mod_mul_right, ← Nat.pow_add, show n + (64 - n) = 64 from by omega]
    simp
  rw [e1]
  have hpq : 2 ^ n * 2 ^ (64 - n) = 18446744073709551616 := by rw [← Nat.pow_add, show n + (64 - n) = 64 from by omega]
  have hp2 : 2 ^ n = 2 * 2 ^ (n - 1) := by rw [← Nat.pow_succ', show (n - 1).succ = n from by omega]
  have hr : x % 2 ^ n < 2 ^ n := Nat.mod_lt _ (Nat.two_pow_pos n)
  have hq : 0 < 2 ^ (64 - n) := Nat.two_pow_pos _
  have ht : x.testBit (n - 1) = decide (2 ^ (n - 1) ≤ x % 2 ^ n) := by
    have : (x % 2 ^ n).testBit (n - 1) = x.testBit (n - 1) := by rw [Nat.testBit_mod_two_pow]; simp; omega
    rw [← this, Nat.testBit_eq_decide_div_mod_eq, decide_eq_decide]
    have hpos : 0 < 2 ^ (n - 1) := Nat.two_pow_pos _
    constructor
    · intro h
      refine Nat.le_of_not_lt fun hl => ?_
      rw [Nat.div_eq_of_lt hl] at h
      simp at h
    · intro h
      have : x % 2 ^ n / 2 ^ (n - 1) = 1 := by
        apply Nat.div_eq_of_lt_le
        · omega
        · rw [hp2] at hr ⊢; omega
      rw [this]
  have ep : ((2 : Int) ^ (64 - n)) = ((2 ^ (64 - n) : Nat) : Int) := by simp
  rw [ep]
  have hm : x % 2 ^ n * 2 ^ (64 - n) < 18446744073709551616 := by rw [← hpq]; exact Nat.mul_lt_mul_of_pos_right hr hq
  rw [wrap64_val _ hm]
  unfold sextN
  have hh : 2 ^ (n - 1) * 2 ^ (64 - n) = 9223372036854775808 := by
    rw [hp2] at hpq; rw [Nat.mul_assoc] at hpq; omega
  have hmul : 2 ^ n * (2 ^ (64 - n) - 1) = 18446744073709551616 - 2 ^ n := by rw [Nat.mul_sub, hpq]; simp
  rw [ht, hmul]
  generalize 2 ^ (64 - n) = q at *
  generalize x % 2 ^ n = r at *
  generalize 2 ^ (n - 1) = h at *
  generalize 2 ^ n = p at *
  by_cases hc : h ≤ r
  · have hle : h * q ≤ r * q := Nat.mul_le_mul_right q hc
    rw [if_neg (by omega), if_pos (by simpa using hc)]
    have : ((r * q : Nat) : Int) - 18446744073709551616 = ((r : Int) - p) * q := by
      rw [Int.sub_mul]; have := congrArg (fun z : Nat => (z : Int)) hpq; simp at this; omega
    rw [this, Int.mul_ediv_cancel _ (by omega), wrap_u64]
    have : p ≤ 18446744073709551616 := by rw [← hpq]; exact Nat.le_mul_of_pos_right p hq
    omega
  · have hlt : r * q < h * q := Nat.mul_lt_mul_of_pos_right (by omega) hq
    rw [if_pos (by omega), if_neg (by simpa using hc)]
    have : ((r * q : Nat) : Int) = (r : Int) * q := by simp
    rw [this, Int.mul_ediv_cancel _ (by omega), wrap_u64]
    have : r ≤ r * q := Nat.le_mul_of_pos_right r hq
    omega
/-- the low bits of a word with their sign -/
def sextA (x : Nat) (n : Int) : Nat := if n < 1 then 0 else if 63 < n then x else sextN x n.toNat
theorem sextA_lo (x : Nat) (n : Int) (h : n < 1) : sextA x n = 0 := by unfold sextA; rw [if_pos h]
theorem sextA_hi (x : Nat) (n : Int) (h : 63 < n) : sextA x n = x := by unfold sextA; rw [if_neg (by omega), if_pos h]
theorem sextA_in (x n : Nat) (h1 : 1 ≤ n) (h2 : n ≤ 63) : sextA x n = sextN x n := by unfold sextA; rw [if_neg (by omega), if_neg (by omega), Int.toNat_natCast]
theorem sext_any (x : Nat) (n : Int) (_hx : x < 18446744073709551616) (w : World) :
    Calls Try.prog 16 #[.int .u64 (x : Int), .int .i64 n] w fun e w' => e = .returned (.int .u64 (sextA x n : Nat)) ∧ w' = w := by
  by_cases h1 : n < 1
  · rw [sextA_lo x n h1]
    go_enter Try.func16, Try.ntmps16
    go_wp2
    go_ret
    exact ⟨rfl, rfl⟩
  by_cases h2 : 63 < n
  · rw [sextA_hi x n h2]
    go_enter Try.func16, Try.ntmps16
    go_wp2
    go_ret
    exact ⟨rfl, rfl⟩
  obtain ⟨m, rfl⟩ : ∃ m : Nat, n = m := ⟨n.toNat, by omega⟩
  have hk : (64 - (m : Int)).toNat = 64 - m := by omega
  have HN : Hid _ := sext_num x m (by omega) (by omega)
  rw [sextA_in x m (by omega) (by omega)]
  generalize hS : ((sextN x m : Nat) : Int) = s at *
  clear hS
  go_enter Try.func16, Try.ntmps16
  go_wp2
  go_ret
  refine ⟨?_, rfl⟩
  rw [← HN.out]
  rfl
theorem sext32_any (x : Nat) (hx : x < 18446744073709551616) (w : World) :
    Calls Try.prog 18 #[.int .u64 (x : Int)] w fun e w' => e = .returned (.int .u64 (sextA x 32 : Nat)) ∧ w' = w := by
  go_enter Try.func18, Try.ntmps18
  go_wp2_with (go_at_call 16; refine (sext_any _ _ hx _).mono ?_; rintro e w' ⟨rfl, rfl⟩)
  go_ret
  exact ⟨rfl, rfl⟩
theorem rsext_all (x : Nat) (n : Int) (hx : x < 18446744073709551616) (W w : World) (hb : Below W.heap.size W w) :
    Calls Try.prog 17 #[.int .u64 (x : Int), .int .i64 n] w fun e w' => e = .returned (.int .u64 (sextA x n : Nat)) ∧ Below W.heap.size W w' := by
  by_cases h1 : n < 1
  · rw [sextA_lo x n h1]
    go_enter Try.func17, Try.ntmps17
    go_wp2
    go_ret
    exact ⟨rfl, hb⟩
  by_cases h2 : 63 < n
  · rw [sextA_hi x n h2]
    go_enter Try.func17, Try.ntmps17
    go_wp2
    go_ret
    exact ⟨rfl, hb⟩
  obtain ⟨m, rfl⟩ : ∃ m : Nat, n = m := ⟨n.toNat, by omega⟩
  rw [sextA_in x m (by omega) (by omega), ← sext_eq x m (by omega) (by omega)]
  exact (rsext_any x m hx (by omega) (by omega) w).mono fun e w' ⟨he, hw⟩ => ⟨he, hb.trans (hw.mono hb.size)⟩
theorem signs_core (x : Nat) (n : Int) (hx : x < 18446744073709551616) (W w : World) (hb : Below W.heap.size W w) :
    Calls Try.prog 5 #[.int .u64 (x : Int), .int .i64 n] w fun e w' => e = .returned (.bool true) ∧ Below W.heap.size W w' := by
  go_enter Try.func5, Try.ntmps5
  go_wp2_with (first | (go_at_call 8; refine (awake_any _).mono ?_; rintro e w' ⟨rfl, rfl⟩) | (go_at_call 16; refine (sext_any _ _ hx _).mono ?_; rintro e w' ⟨rfl, rfl⟩) | (go_at_call 17; refine (rsext_all _ _ hx W _ (by assumption)).mono ?_; rintro e w' ⟨rfl, hb'⟩) | (go_at_call 18; refine (sext32_any _ hx _).mono ?_; rintro e w' ⟨rfl, rfl⟩))
  go_ret
  exact ⟨by simp, by assumption⟩
theorem signs_walk (a0 : Int) (w0 : (Lit.int .u64 a0).wf = true) (a1 : Int) (_w1 : (Lit.int .i64 a1).wf = true) (w : World) :
    Calls Try.prog 5 #[.int .u64 a0, .int .i64 a1] w fun e w' => e = .returned (.bool true) ∧ Below w.heap.size w w' := by
  have b0 := bounds_u64 w0
  obtain ⟨x, rfl⟩ : ∃ x : Nat, a0 = x := ⟨a0.toNat, by omega⟩
  exact signs_core x a1 (by omega) w w (Below.refl _ _)
end Go.Proofs.Ytflpfgbebjamfaa
