/- Plain numbers of layer 1: what is put into a word bit by bit. -/
import Derived.Test.YtpedollliahldaaDoorBits
import Derived.Laws.Shifts
import Derived.Laws.BitsAllLaws
import Derived.Laws.Bits64b
namespace Go.Proofs.YtpedollliahldaaDoor
open Go.RowKit
set_option linter.unusedVariables false
set_option maxRecDepth 100000
/-- one store into a row of the call's own -/
theorem rowOf_set (f : Nat → Nat) (n j b : Nat) : (rowOf f n).set j (Value.int .i64 (b : Int)) = rowOf (fun i => if i = j then b else f i) n := by
  apply List.ext_getElem?
  intro i
  simp only [rowOf, List.getElem?_set, List.getElem?_map, List.length_map, List.length_range]
  by_cases h : i < n
  · by_cases e : j = i
    · subst e; simp [h]
    · simp [h, e]; rw [if_neg (fun h' => e h'.symm)]
  · by_cases e : j = i
    · subst e; simp [h]
    · simp [h, e]
/-- the bits of a word behind a piece of another one that was put into it -/
def putF (x v a m : Nat) (j : Nat) : Nat := if a ≤ j ∧ j < a + m then bitAt v (j - a) else bitAt x j
theorem putF_le (x v a m j : Nat) : putF x v a m j ≤ 1 := by unfold putF; split <;> exact bitAt_le _ _
theorem putF_zero (x v a : Nat) : putF x v a 0 = bitAt x := by funext j; simp [putF]; omega
theorem putF_succ (x v a m : Nat) : putF x v a (m + 1) = fun i => if i = a + m then bitAt v m else putF x v a m i := by
  funext i
  simp only [putF]
  by_cases h : i = a + m
  · subst h; simp
  · simp only [h, if_false]
    by_cases h2 : a ≤ i ∧ i < a + m
    · rw [if_pos h2, if_pos (by omega)]
    · rw [if_neg h2, if_neg (by omega)]
theorem below_grownBy {w w' : World} (h : Below w.heap.size w w') (row : Option Nat) : w.grownBy w' row := ⟨h.os, h.tape, h.output, h.size, fun k hk _ => h.block k hk⟩
theorem bitAt_one (x i : Nat) : decide (bitAt x i = 1) = x.testBit i := by rw [Nat.testBit_eq_decide_div_mod_eq]; rfl
theorem hiOf_eq (f : Nat → Nat) (m y : Nat) (hf : ∀ j, j < m → f j ≤ 1) (h : ∀ j, y.testBit j = (decide (j < m) && decide (f j = 1))) : hiOf f m 0 = y := by
  apply Nat.eq_of_testBit_eq
  intro j
  rw [h, hiOf_testBit f m 0 j (fun j hj => by simpa using hf j hj)]
  simp
/-- what Put of the code comes to -/
def putN (x a M v : Nat) : Nat := x &&& (18446744073709551615 - (2 ^ M - 1) * 2 ^ a % 18446744073709551616) ||| (v * 2 ^ a % 18446744073709551616) &&& ((2 ^ M - 1) * 2 ^ a % 18446744073709551616)
theorem put_eq (x a m M v : Nat) (ha : a ≤ 63) (hm : m = min M (64 - a)) : hiOf (putF x v a m) 64 0 = putN x a M v := by
  apply hiOf_eq _ _ _ (fun _ _ => putF_le _ _ _ _ _)
  intro j
  have e64 : (18446744073709551616 : Nat) = 2 ^ 64 := by decide
  have hole : ∀ i, ((2 ^ M - 1) * 2 ^ a % 18446744073709551616).testBit i = (decide (i < 64) && (decide (a ≤ i) && decide (i - a < M))) := by
    intro i
    rw [e64, Nat.testBit_mod_two_pow, ← Nat.shiftLeft_eq, Nat.testBit_shiftLeft, Nat.testBit_two_pow_sub_one]
  have hl : (2 ^ M - 1) * 2 ^ a % 18446744073709551616 < 2 ^ 64 := by rw [← e64]; exact Nat.mod_lt _ (by decide)
  have hc : (18446744073709551615 - (2 ^ M - 1) * 2 ^ a % 18446744073709551616).testBit j = (decide (j < 64) && !((2 ^ M - 1) * 2 ^ a % 18446744073709551616).testBit j) := by
    rw [← Nat.testBit_two_pow_sub_succ hl]
    congr 1
    omega
  have hv : (v * 2 ^ a % 18446744073709551616).testBit j = (decide (j < 64) && (decide (a ≤ j) && v.testBit (j - a))) := by
    rw [e64, Nat.testBit_mod_two_pow, ← Nat.shiftLeft_eq, Nat.testBit_shiftLeft]
  unfold putN
  rw [Nat.testBit_or, Nat.testBit_and, Nat.testBit_and, hc, hv, hole]
  by_cases h64 : j < 64
  · unfold putF
    by_cases h1 : a ≤ j
    · by_cases h2 : j - a < M
      · rw [if_pos ⟨h1, by omega⟩, bitAt_one]; simp [h64, h1, h2]
      · rw [if_neg (by omega), bitAt_one]; simp [h64, h1, h2]
    · rw [if_neg (by omega), bitAt_one]; simp [h64, h1]
  · simp [h64]
theorem putN_lt (x a M v : Nat) (hx : x < 18446744073709551616) : putN x a M v < 18446744073709551616 := by
  have h1 : x &&& (18446744073709551615 - (2 ^ M - 1) * 2 ^ a % 18446744073709551616) < 2 ^ 64 := Nat.lt_of_le_of_lt Nat.and_le_left hx
  have h2 : (v * 2 ^ a % 18446744073709551616) &&& ((2 ^ M - 1) * 2 ^ a % 18446744073709551616) < 2 ^ 64 := Nat.lt_of_le_of_lt Nat.and_le_left (Nat.mod_lt _ (by decide))
  exact Nat.or_lt_two_pow h1 h2
theorem wrap_u64 (x : Int) : IntKind.u64.wrap x = x % 18446744073709551616 := by simp [IntKind.wrap, IntKind.signed, IntKind.bits]
theorem shl_one (n : Int) (M : Nat) (h : 1 ≤ n) (hM : M = (min n 64).toNat) : Op.shift BinOp.shl IntKind.u64 1 IntKind.i64 n = pure (.int .u64 ((2 ^ M % 18446744073709551616 : Nat) : Int)) := by
  rw [shift_shl_any _ _ _ _ (by omega), show min n.toNat IntKind.u64.bits = M from by rw [hM]; show min n.toNat 64 = _; omega, wrap_u64]
  simp
theorem mask_last (M : Nat) (h1 : 1 ≤ M) (h : M ≤ 64) : IntKind.u64.wrap (((2 ^ M % 18446744073709551616 : Nat) : Int) - 1) = ((2 ^ M - 1 : Nat) : Int) := by
  rw [wrap_u64]
  by_cases e : M = 64
  · subst e; decide
  · have h2 : 2 ^ M ≤ 2 ^ 63 := Nat.pow_le_pow_right (by omega) (by omega)
    have h3 : 2 ^ 1 ≤ 2 ^ M := Nat.pow_le_pow_right (by omega) h1
    generalize 2 ^ M = p at *
    omega
set_option maxHeartbeats 400000 in
theorem mask_any (n : Int) (M : Nat) (hM : M = (min n 64).toNat) (w : World) :
    Calls Tryd.prog 45 #[.int .i64 n] w fun e w' => e = .returned (.int .u64 ((2 ^ M - 1 : Nat) : Int)) ∧ w' = w := by
  by_cases h : n < 1
  · obtain rfl : M = 0 := by omega
    go_enter Tryd.func45, Tryd.ntmps45
    go_wp2
    go_ret
    exact ⟨rfl, rfl⟩
  · have hs := shl_one n M (by omega) hM
    have HL : Hid _ := mask_last M (by omega) (by omega)
    clear hM
    generalize hP : ((2 ^ M % 18446744073709551616 : Nat) : Int) = p at *
    clear hP
    go_enter Tryd.func45, Tryd.ntmps45
    go_wp2
    go_ret
    exact ⟨by rw [← HL.out]; rfl, rfl⟩
theorem place_in (a : Int) (h0 : 0 ≤ a) (h1 : a ≤ 63) (w : World) : Calls Tryd.prog 44 #[.int .i64 a] w fun e w' => e = .returned (.bool true) ∧ w' = w := by
  go_enter Tryd.func44, Tryd.ntmps44
  go_wp2
  go_ret
  exact ⟨by simp; omega, rfl⟩
theorem place_out (a : Int) (h : a < 0 ∨ 63 < a) (w : World) : Calls Tryd.prog 44 #[.int .i64 a] w fun e w' => e = .returned (.bool false) ∧ w' = w := by
  rcases h with h | h
  · go_enter Tryd.func44, Tryd.ntmps44
    go_wp2
    go_ret
    exact ⟨rfl, rfl⟩
  · go_enter Tryd.func44, Tryd.ntmps44
    go_wp2
    go_ret
    exact ⟨by simp; omega, rfl⟩
theorem place_nat (a : Int) (h : ¬ (a < 0 ∨ 63 < a)) : ∃ b : Nat, b ≤ 63 ∧ a = b := ⟨a.toNat, by omega, by omega⟩
theorem shl_nat (y a : Nat) : IntKind.u64.wrap ((y : Int) * 2 ^ a) = ((y * 2 ^ a % 18446744073709551616 : Nat) : Int) := by rw [wrap_u64]; simp
theorem put_num (x a M v : Nat) (hx : x < 18446744073709551616) :
    bits .or .u64 (bits .andNot .u64 (x : Int) (IntKind.u64.wrap (((2 ^ M - 1 : Nat) : Int) * 2 ^ a))) (bits .and .u64 (IntKind.u64.wrap ((v : Int) * 2 ^ a)) (IntKind.u64.wrap (((2 ^ M - 1 : Nat) : Int) * 2 ^ a))) = ((putN x a M v : Nat) : Int) := by
  rw [shl_nat, shl_nat, u64_andNot_nat _ _ hx (Nat.mod_lt _ (by decide)), bits_and_u64_nat _ _ (Nat.mod_lt _ (by decide)) (Nat.mod_lt _ (by decide)), bits_or_u64_nat _ _ (Nat.lt_of_le_of_lt Nat.and_le_left hx) (Nat.lt_of_le_of_lt Nat.and_le_left (Nat.mod_lt _ (by decide)))]
  rfl
/-- a word with n bits of another one from a place on -/
def putA (x : Nat) (a n : Int) (v : Nat) : Nat := if 0 ≤ a ∧ a ≤ 63 then putN x a.toNat (min n 64).toNat v else x
theorem putA_in (x a : Nat) (n : Int) (v : Nat) (ha : a ≤ 63) : putA x a n v = putN x a (min n 64).toNat v := by unfold putA; rw [if_pos (by omega), Int.toNat_natCast]
theorem putA_out (x : Nat) (a n : Int) (v : Nat) (h : a < 0 ∨ 63 < a) : putA x a n v = x := by unfold putA; rw [if_neg (by omega)]
theorem putA_lt (x : Nat) (a n : Int) (v : Nat) (hx : x < 18446744073709551616) : putA x a n v < 18446744073709551616 := by
  unfold putA; split
  · exact putN_lt _ _ _ _ hx
  · exact hx
set_option maxHeartbeats 400000 in
theorem put_any (x : Nat) (a n : Int) (v : Nat) (hx : x < 18446744073709551616) (w : World) :
    Calls Tryd.prog 43 #[.int .u64 (x : Int), .int .i64 a, .int .i64 n, .int .u64 (v : Int)] w fun e w' => e = .returned (.int .u64 (putA x a n v : Nat)) ∧ w' = w := by
  by_cases h : a < 0 ∨ 63 < a
  · have hp : ∀ w, Calls Tryd.prog 44 #[.int .i64 a] w fun e w' => e = .returned (.bool false) ∧ w' = w := fun w => place_out a h w
    rw [putA_out x a n v h]
    clear h
    go_enter Tryd.func43, Tryd.ntmps43
    go_wp2_with (go_at_call 44; refine (hp _).mono ?_; rintro e w' ⟨rfl, rfl⟩)
    go_ret
    exact ⟨rfl, rfl⟩
  · obtain ⟨b, hb63, rfl⟩ := place_nat a h
    rw [putA_in x b n v hb63]
    have HN : Hid _ := put_num x b (min n 64).toNat v hx
    have hmk : ∀ w, Calls Tryd.prog 45 #[.int .i64 n] w fun e w' => e = .returned (.int .u64 ((2 ^ (min n 64).toNat - 1 : Nat) : Int)) ∧ w' = w := fun w => mask_any n _ rfl w
    generalize ((putN x b (min n 64).toNat v : Nat) : Int) = s at *
    generalize ((2 ^ (min n 64).toNat - 1 : Nat) : Int) = p at *
    clear h
    go_enter Tryd.func43, Tryd.ntmps43
    go_wp2_with (first | (go_at_call 44; refine (place_in _ (by omega) (by omega) _).mono ?_; rintro e w' ⟨rfl, rfl⟩) | (go_at_call 45; refine (hmk _).mono ?_; rintro e w' ⟨rfl, rfl⟩))
    go_ret
    refine ⟨?_, rfl⟩
    rw [← HN.out]
    rfl
end Go.Proofs.YtpedollliahldaaDoor
