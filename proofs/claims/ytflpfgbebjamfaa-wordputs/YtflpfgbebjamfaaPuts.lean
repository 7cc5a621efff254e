/- The statement on Put of layer 1 returns true for every input. -/
import Derived.Test.YtflpfgbebjamfaaGets
import Derived.Test.YtflpfgbebjamfaaPairs
namespace Go.Proofs.Ytflpfgbebjamfaa
open Go.RowKit
theorem shl_nat (y a : Nat) : IntKind.u64.wrap ((y : Int) * 2 ^ a) = ((y * 2 ^ a % 18446744073709551616 : Nat) : Int) := by rw [wrap_u64]; simp
theorem put_num (x a M v : Nat) (hx : x < 18446744073709551616) :
    bits .or .u64 (bits .andNot .u64 (x : Int) (IntKind.u64.wrap (((2 ^ M - 1 : Nat) : Int) * 2 ^ a))) (bits .and .u64 (IntKind.u64.wrap ((v : Int) * 2 ^ a)) (IntKind.u64.wrap (((2 ^ M - 1 : Nat) : Int) * 2 ^ a))) = ((putN x a M v : Nat) : Int) := by
  rw [shl_nat, shl_nat, u64_andNot_nat _ _ hx (Nat.mod_lt _ (by decide)), bits_and_u64_nat _ _ (Nat.mod_lt _ (by decide)) (Nat.mod_lt _ (by decide)), bits_or_u64_nat _ _ (Nat.lt_of_le_of_lt Nat.and_le_left hx) (Nat.lt_of_le_of_lt Nat.and_le_left (Nat.mod_lt _ (by decide)))]
  rfl
/-- a word with n bits of another one from a place on -/
def putA (x : Nat) (a n : Int) (v : Nat) : Nat := if 0 ≤ a ∧ a ≤ 63 then putN x a.toNat (min n 64).toNat v else x
theorem putA_in (x a : Nat) (n : Int) (v : Nat) (ha : a ≤ 63) : putA x a n v = putN x a (min n 64).toNat v := by unfold putA; rw [if_pos (by omega), Int.toNat_natCast]
theorem putA_out (x : Nat) (a n : Int) (v : Nat) (h : a < 0 ∨ 63 < a) : putA x a n v = x := by unfold putA; rw [if_neg (by omega)]
theorem putA_lt (x : Nat) (a n : Int) (v : Nat) (hx : x < 18446744073709551616) : putA x a n v < 18446744073709551616 := by
  unfold putA; split
  · exact putN_lt _ _ _ _ hx
  · exact hx
set_option maxHeartbeats 400000 in
theorem put_any (x : Nat) (a n : Int) (v : Nat) (hx : x < 18446744073709551616) (w : World) :
    Calls Try.prog 14 #[.int .u64 (x : Int), .int .i64 a, .int .i64 n, .int .u64 (v : Int)] w fun e w' => e = .returned (.int .u64 (putA x a n v : Nat)) ∧ w' = w := by
  by_cases h : a < 0 ∨ 63 < a
  · have hp : ∀ w, Calls Try.prog 25 #[.int .i64 a] w fun e w' => e = .returned (.bool false) ∧ w' = w := fun w => place_out a h w
    rw [putA_out x a n v h]
    clear h
    go_enter Try.func14, Try.ntmps14
    go_wp2_with (go_at_call 25; refine (hp _).mono ?_; rintro e w' ⟨rfl, rfl⟩)
    go_ret
    exact ⟨rfl, rfl⟩
  · obtain ⟨b, hb63, rfl⟩ := place_nat a h
    rw [putA_in x b n v hb63]
    have HN : Hid _ := put_num x b (min n 64).toNat v hx
    have hmk : ∀ w, Calls Try.prog 11 #[.int .i64 n] w fun e w' => e = .returned (.int .u64 ((2 ^ (min n 64).toNat - 1 : Nat) : Int)) ∧ w' = w := fun w => mask_any n _ rfl w
    generalize ((putN x b (min n 64).toNat v : Nat) : Int) = s at *
    generalize ((2 ^ (min n 64).toNat - 1 : Nat) : Int) = p at *
    clear h
    go_enter Try.func14, Try.ntmps14
    go_wp2_with (first | (go_at_call 25; refine (place_in _ (by omega) (by omega) _).mono ?_; rintro e w' ⟨rfl, rfl⟩) | (go_at_call 11; refine (hmk _).mono ?_; rintro e w' ⟨rfl, rfl⟩))
    go_ret
    refine ⟨?_, rfl⟩
    rw [← HN.out]
    rfl
theorem rput_all (x : Nat) (a n : Int) (v : Nat) (hx : x < 18446744073709551616) (hv : v < 18446744073709551616) (W w : World) (hb : Below W.heap.size W w) :
    Calls Try.prog 15 #[.int .u64 (x : Int), .int .i64 a, .int .i64 n, .int .u64 (v : Int)] w fun e w' => e = .returned (.int .u64 (putA x a n v : Nat)) ∧ Below W.heap.size W w' := by
  by_cases h : a < 0 ∨ 63 < a
  · rw [putA_out x a n v h]
    exact (rput_out x v a n h w).mono fun e w' ⟨he, hw⟩ => ⟨he, by rw [hw]; exact hb⟩
  · obtain ⟨b, hb63, rfl⟩ := place_nat a h
    rw [putA_in x b n v hb63, ← put_eq x b (min (min n 64).toNat (64 - b)) _ v hb63 rfl]
    exact (rput_any x b n v _ hx hv hb63 (by omega) w).mono fun e w' ⟨he, hw⟩ => ⟨he, hb.trans (hw.mono hb.size)⟩
/-- what was put is told -/
theorem get_put (x a M v : Nat) (hM : M + a ≤ 64) : putN x a M v / 2 ^ a % 2 ^ M = v % 2 ^ M := by
  apply Nat.eq_of_testBit_eq
  intro j
  rw [Nat.testBit_mod_two_pow, Nat.testBit_mod_two_pow, ← Nat.shiftRight_eq_div_pow, Nat.testBit_shiftRight]
  by_cases hj : j < M
  · rw [← put_eq x a M M v (by omega) (by omega), hiOf_testBit _ _ _ _ (fun _ _ => putF_le _ _ _ _ _)]
    have : putF x v a M (0 + (a + j)) = bitAt v j := by unfold putF; rw [if_pos (by omega)]; congr 1; omega
    have h64 : a + j < 64 := by omega
    rw [this, bitAt_one]
    simp [h64]
  · simp [hj]
theorem getN_put (x : Nat) (a n : Int) (v : Nat) (h0 : 0 ≤ a) (h1 : a ≤ 63) (h3 : n ≤ 64 - a) : getN (putA x a n v) a n = getN v 0 n := by
  obtain ⟨b, rfl⟩ : ∃ b : Nat, a = b := ⟨a.toNat, by omega⟩
  rw [getN_in _ b n (by omega), putA_in x b n v (by omega), get_put x b _ v (by omega)]
  have := getN_in v 0 n (by omega)
  simp at this
  rw [this]
set_option maxHeartbeats 1000000 in
theorem puts_core (x v : Nat) (a n : Int) (hx : x < 18446744073709551616) (hv : v < 18446744073709551616) (W w : World) (hb : Below W.heap.size W w) :
    Calls Try.prog 4 #[.int .u64 (x : Int), .int .u64 (v : Int), .agg #[.int .i64 a, .int .i64 n]] w fun e w' => e = .returned (.bool true) ∧ Below W.heap.size W w' := by
  have hy := putA_lt x a n v hx
  go_enter Try.func4, Try.ntmps4
  go_wp2_with (first | (go_at_call 8; refine (awake_any _).mono ?_; rintro e w' ⟨rfl, rfl⟩))
  go_quiet (fail)
  have hb2 : Below W.heap.size W ((w.alloc (.cells #[.int .i64 a, .int .i64 n] 28)).drewN nq) := below_drewN (hb.alloc hb.size _) nq
  clear hb
  go_wp2_with (first | (go_at_call 14; refine (put_any _ _ _ _ hx _).mono ?_; rintro e w1 ⟨rfl, rfl⟩) | (go_at_call 15; refine (rput_all _ _ _ _ hx hv W _ (by assumption)).mono ?_; rintro e w1 ⟨rfl, hb'⟩) | (go_at_call 9; refine (get_all _ _ _ hy W _ (by assumption)).mono ?_; rintro e w1 ⟨rfl, hb'⟩) | (go_at_call 10; refine (rget_all _ _ _ hv W _ (by assumption)).mono ?_; rintro e w1 ⟨rfl, hb'⟩))
  · have hg := getN_put x a n v (by assumption) (by assumption) (by assumption)
    go_ret
    exact ⟨by simp [hg], by assumption⟩
  all_goals (go_ret; exact ⟨by simp; try omega, by assumption⟩)
theorem puts_walk (a0 : Int) (w0 : (Lit.int .u64 a0).wf = true) (a1 : Int) (w1 : (Lit.int .u64 a1).wf = true) (a b : Int) (_w2 : (Lit.int .i64 a).wf = true) (_w3 : (Lit.int .i64 b).wf = true) (w : World) :
    Calls Try.prog 4 #[.int .u64 a0, .int .u64 a1, .agg #[.int .i64 a, .int .i64 b]] w fun e w' => e = .returned (.bool true) ∧ Below w.heap.size w w' := by
  have b0 := bounds_u64 w0
  have b1 := bounds_u64 w1
  obtain ⟨x, rfl⟩ : ∃ x : Nat, a0 = x := ⟨a0.toNat, by omega⟩
  obtain ⟨v, rfl⟩ : ∃ x : Nat, a1 = x := ⟨a1.toNat, by omega⟩
  exact puts_core x v a b (by omega) (by omega) w w (Below.refl _ _)
end Go.Proofs.Ytflpfgbebjamfaa
