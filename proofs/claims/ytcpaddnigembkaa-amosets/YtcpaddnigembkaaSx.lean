/- The calls Sext and Sext32 of layer 1, the program's, and the document's Sext, come to plain numbers. -/
import Derived.Test.YtcpaddnigembkaaBits
import Derived.Laws.Shifts
import Derived.Laws.BitsAllLaws
import Derived.Laws.Bits64b
namespace Go.Proofs.Ytcpaddnigembkaa
open Go.RowKit
theorem ret_eq {a b : Nat} (h : a = b) : Ending.returned (.int .u64 (a : Int)) = .returned (.int .u64 (b : Int)) := by rw [h]
/-- one store into a row of the call's own -/
theorem rowOf_set (f : Nat → Nat) (n j b : Nat) : (rowOf f n).set j (Value.int .i64 (b : Int)) = rowOf (fun i => if i = j then b else f i) n := by
  apply List.ext_getElem?
  intro i
  simp only [rowOf, List.getElem?_set, List.getElem?_map, List.length_map, List.length_range]
  by_cases h : i < n
  · by_cases e : j = i
    · subst e; simp [h]
    · simp [h, e]; rw [if_neg (fun h' => e h'.symm)]
  · by_cases e : j = i
    · subst e; simp [h]
    · simp [h, e]
/-- the bits of a word with its sign from the bit n - 1 on, till bit k -/
def sextF (x n k : Nat) (j : Nat) : Nat := if n ≤ j ∧ j < k then bitAt x (n - 1) else bitAt x j
theorem sextF_le (x n k j : Nat) : sextF x n k j ≤ 1 := by unfold sextF; split <;> exact bitAt_le _ _
theorem sextF_start (x n : Nat) : sextF x n n = bitAt x := by funext j; simp [sextF]; omega
theorem sextF_succ (x n k : Nat) (h : n ≤ k) : sextF x n (k + 1) = fun i => if i = k then bitAt x (n - 1) else sextF x n k i := by
  funext i
  simp only [sextF]
  by_cases e : i = k
  · subst e; simp [h]
  · simp only [e, if_false]
    by_cases h2 : n ≤ i ∧ i < k
    · rw [if_pos h2, if_pos (by omega)]
    · rw [if_neg h2, if_neg (by omega)]
set_option maxHeartbeats 400000 in
theorem rsext_any (x n : Nat) (hx : x < 18446744073709551616) (h1 : 1 ≤ n) (h2 : n ≤ 63) (w : World) :
    Calls Try.prog 23 #[.int .u64 (x : Int), .int .i64 (n : Int)] w fun e w' => e = .returned (.int .u64 (hiOf (sextF x n 64) 64 0 : Nat)) ∧ Below w.heap.size w w' := by
  go_enter Try.func23, Try.ntmps23
  go_wp2_with (first | (go_at_call 31; refine (bits_any x hx _).mono ?_; rintro e w1 ⟨v1, rfl, hv1, hb1⟩))
  have hv2 := hv1.2
  rcases hv2 with ⟨_, h64⟩ | ⟨g, cap, cur, rfl, hg, hbl, hnc, hcm, _, _⟩
  · omega
  clear hbl
  go_loopw [6] (fun i wr => ∃ k : Nat, n ≤ k ∧ k ≤ 64 ∧ i = .int .i64 k ∧ wr.ownsRow w.heap.size 3 1 (.slice (some ⟨g, 0, none⟩) 64 cap) 64 (rowOf (sextF x n k) 64) ∧ Below w.heap.size w wr)
    (fun i _ => 64 - (intOf i).toNat)
  case atStart => exact ⟨n, Nat.le_refl _, by omega, rfl, by rw [sextF_start]; exact hv1, hb1⟩
  case round =>
    obtain ⟨k, hnk, hk, rfl, hown, hb⟩ := hrel
    by_cases hlt : k < 64
    · have hc : wr.cell? ⟨g, n - 1, none⟩ = some (.int .i64 (bitAt x (n - 1) : Nat)) := by
        rw [hown.cellAt (n - 1) (by omega), rowOf_get _ _ _ (by omega)]
        have : sextF x n k (n - 1) = bitAt x (n - 1) := by unfold sextF; rw [if_neg (by omega)]
        rw [this]
      have hc2 : wr.cell? ⟨g, k, none⟩ = some (.int .i64 (sextF x n k k : Nat)) := by rw [hown.cellAt k (by omega), rowOf_get _ _ _ (by omega)]
      have hfz := hown.frozenAt k
      have hown2 := hown.stored k (.int .i64 (bitAt x (n - 1) : Nat))
      rw [rowOf_set, ← sextF_succ x n k hnk] at hown2
      have hb2 := hb.setCell (p := ⟨g, k, none⟩) hg (.int .i64 (bitAt x (n - 1) : Nat))
      have et : ((n : Int) - 1).toNat = n - 1 := by omega
      have hA : Hid (_ ∧ _) := ⟨hown2, hb2⟩
      clear hown2 hb2 hown hb hv1 hb1
      go_wp2
      go_roundw
      case rel => exact ⟨k + 1, by omega, by omega, by go_num, hA.out.1.1, hA.out.2⟩
      case measure => simp [intOf]; omega
    · obtain rfl : k = 64 := by omega
      go_wp2_with (first | (go_at_call 32; refine (word_any _ _ _ _ (Nat.le_refl _) (fun _ _ => sextF_le _ _ _ _) _ hown).mono ?_; rintro e w' ⟨rfl, rfl⟩))
      go_ret
      exact ⟨rfl, hb⟩
theorem bitAt_one (x i : Nat) : decide (bitAt x i = 1) = x.testBit i := by rw [Nat.testBit_eq_decide_div_mod_eq]; rfl
theorem hiOf_eq (f : Nat → Nat) (m y : Nat) (hf : ∀ j, j < m → f j ≤ 1) (h : ∀ j, y.testBit j = (decide (j < m) && decide (f j = 1))) : hiOf f m 0 = y := by
  apply Nat.eq_of_testBit_eq
  intro j
  rw [h, hiOf_testBit f m 0 j (fun j hj => by simpa using hf j hj)]
  simp
theorem high_bit (x j : Nat) (hx : x < 18446744073709551616) (h : 64 ≤ j) : x.testBit j = false := by
  apply Nat.testBit_lt_two_pow
  have : 2 ^ 64 ≤ 2 ^ j := Nat.pow_le_pow_right (by omega) h
  omega
/-- what Sext of the code comes to, for a number of bits from 1 to 63 -/
def sextN (x n : Nat) : Nat := if x.testBit (n - 1) then 2 ^ n * (2 ^ (64 - n) - 1) + x % 2 ^ n else x % 2 ^ n
theorem sext_eq (x n : Nat) (h1 : 1 ≤ n) (h2 : n ≤ 63) : hiOf (sextF x n 64) 64 0 = sextN x n := by
  apply hiOf_eq _ _ _ (fun _ _ => sextF_le _ _ _ _)
  intro j
  unfold sextN sextF
  have hr : x % 2 ^ n < 2 ^ n := Nat.mod_lt _ (Nat.two_pow_pos n)
  by_cases hb : x.testBit (n - 1) = true
  · rw [if_pos hb, Nat.testBit_two_pow_mul_add _ hr]
    by_cases hj : j < n
    · rw [if_pos hj, if_neg (by omega), bitAt_one, Nat.testBit_mod_two_pow]
      simp [hj]; omega
    · rw [if_neg hj, Nat.testBit_two_pow_sub_one]
      by_cases h64 : j < 64
      · rw [if_pos (by omega), bitAt_one, hb]; simp [h64]; omega
      · simp [h64]; omega
  · rw [if_neg hb, Nat.testBit_mod_two_pow]
    by_cases hj : j < n
    · rw [if_neg (by omega), bitAt_one]; simp [hj]; omega
    · by_cases h64 : j < 64
      · rw [if_pos (by omega), bitAt_one]; simp [hj, hb]
      · simp [hj, h64]

theorem wrap_u64 (x : Int) : IntKind.u64.wrap x = x % 18446744073709551616 := by simp [IntKind.wrap, IntKind.signed, IntKind.bits]
theorem wrap64_val (y : Nat) (h : y < 18446744073709551616) : wrap64 (y : Int) = if y < 9223372036854775808 then (y : Int) else (y : Int) - 18446744073709551616 := by
  unfold wrap64; split <;> omega
theorem sext_num (x n : Nat) (h1 : 1 ≤ n) (h2 : n ≤ 63) : IntKind.u64.wrap (wrap64 (IntKind.u64.wrap ((x : Int) * 2 ^ (64 - n))) / 2 ^ (64 - n)) = ((sextN x n : Nat) : Int) := by
  have e1 : IntKind.u64.wrap ((x : Int) * 2 ^ (64 - n)) = (((x % 2 ^ n) * 2 ^ (64 - n) : Nat) : Int) := by
    rw [wrap_u64, ← Nat.mul_mod_mul_right, ← Nat.pow_add, show n + (64 - n) = 64 from by omega]
    simp
  rw [e1]
  have hpq : 2 ^ n * 2 ^ (64 - n) = 18446744073709551616 := by rw [← Nat.pow_add, show n + (64 - n) = 64 from by omega]
  have hp2 : 2 ^ n = 2 * 2 ^ (n - 1) := by rw [← Nat.pow_succ', show (n - 1).succ = n from by omega]
  have hr : x % 2 ^ n < 2 ^ n := Nat.mod_lt _ (Nat.two_pow_pos n)
  have hq : 0 < 2 ^ (64 - n) := Nat.two_pow_pos _
  have ht : x.testBit (n - 1) = decide (2 ^ (n - 1) ≤ x % 2 ^ n) := by
    have : (x % 2 ^ n).testBit (n - 1) = x.testBit (n - 1) := by rw [Nat.testBit_mod_two_pow]; simp; omega
    rw [← this, Nat.testBit_eq_decide_div_mod_eq, decide_eq_decide]
    have hpos : 0 < 2 ^ (n - 1) := Nat.two_pow_pos _
    constructor
    · intro h
      refine Nat.le_of_not_lt fun hl => ?_
      rw [Nat.div_eq_of_lt hl] at h
      simp at h
    · intro h
      have : x % 2 ^ n / 2 ^ (n - 1) = 1 := by
        apply Nat.div_eq_of_lt_le
        · omega
        · rw [hp2] at hr ⊢; omega
      rw [this]
  have ep : ((2 : Int) ^ (64 - n)) = ((2 ^ (64 - n) : Nat) : Int) := by simp
  rw [ep]
  have hm : x % 2 ^ n * 2 ^ (64 - n) < 18446744073709551616 := by rw [← hpq]; exact Nat.mul_lt_mul_of_pos_right hr hq
  rw [wrap64_val _ hm]
  unfold sextN
  have hh : 2 ^ (n - 1) * 2 ^ (64 - n) = 9223372036854775808 := by
    rw [hp2] at hpq; rw [Nat.mul_assoc] at hpq; omega
  have hmul : 2 ^ n * (2 ^ (64 - n) - 1) = 18446744073709551616 - 2 ^ n := by rw [Nat.mul_sub, hpq]; simp
  rw [ht, hmul]
  generalize 2 ^ (64 - n) = q at *
  generalize x % 2 ^ n = r at *
  generalize 2 ^ (n - 1) = h at *
  generalize 2 ^ n = p at *
  by_cases hc : h ≤ r
  · have hle : h * q ≤ r * q := Nat.mul_le_mul_right q hc
    rw [if_neg (by omega), if_pos (by simpa using hc)]
    have : ((r * q : Nat) : Int) - 18446744073709551616 = ((r : Int) - p) * q := by
      rw [Int.sub_mul]; have := congrArg (fun z : Nat => (z : Int)) hpq; simp at this; omega
    rw [this, Int.mul_ediv_cancel _ (by omega), wrap_u64]
    have : p ≤ 18446744073709551616 := by rw [← hpq]; exact Nat.le_mul_of_pos_right p hq
    omega
  · have hlt : r * q < h * q := Nat.mul_lt_mul_of_pos_right (by omega) hq
    rw [if_pos (by omega), if_neg (by simpa using hc)]
    have : ((r * q : Nat) : Int) = (r : Int) * q := by simp
    rw [this, Int.mul_ediv_cancel _ (by omega), wrap_u64]
    have : r ≤ r * q := Nat.le_mul_of_pos_right r hq
    omega
/-- the low bits of a word with their sign -/
def sextA (x : Nat) (n : Int) : Nat := if n < 1 then 0 else if 63 < n then x else sextN x n.toNat
theorem sextA_lo (x : Nat) (n : Int) (h : n < 1) : sextA x n = 0 := by unfold sextA; rw [if_pos h]
theorem sextA_hi (x : Nat) (n : Int) (h : 63 < n) : sextA x n = x := by unfold sextA; rw [if_neg (by omega), if_pos h]
theorem sextA_in (x n : Nat) (h1 : 1 ≤ n) (h2 : n ≤ 63) : sextA x n = sextN x n := by unfold sextA; rw [if_neg (by omega), if_neg (by omega), Int.toNat_natCast]
theorem sext_any (x : Nat) (n : Int) (_hx : x < 18446744073709551616) (w : World) :
    Calls Try.prog 38 #[.int .u64 (x : Int), .int .i64 n] w fun e w' => e = .returned (.int .u64 (sextA x n : Nat)) ∧ w' = w := by
  by_cases h1 : n < 1
  · rw [sextA_lo x n h1]
    go_enter Try.func38, Try.ntmps38
    go_wp2
    go_ret
    exact ⟨rfl, rfl⟩
  by_cases h2 : 63 < n
  · rw [sextA_hi x n h2]
    go_enter Try.func38, Try.ntmps38
    go_wp2
    go_ret
    exact ⟨rfl, rfl⟩
  obtain ⟨m, rfl⟩ : ∃ m : Nat, n = m := ⟨n.toNat, by omega⟩
  have hk : (64 - (m : Int)).toNat = 64 - m := by omega
  have HN : Hid _ := sext_num x m (by omega) (by omega)
  rw [sextA_in x m (by omega) (by omega)]
  generalize hS : ((sextN x m : Nat) : Int) = s at *
  clear hS
  go_enter Try.func38, Try.ntmps38
  go_wp2
  go_ret
  refine ⟨?_, rfl⟩
  rw [← HN.out]
  rfl
theorem sext32_any (x : Nat) (hx : x < 18446744073709551616) (w : World) :
    Calls Try.prog 27 #[.int .u64 (x : Int)] w fun e w' => e = .returned (.int .u64 (sextA x 32 : Nat)) ∧ w' = w := by
  go_enter Try.func27, Try.ntmps27
  go_wp2_with (go_at_call 38; refine (sext_any _ _ hx _).mono ?_; rintro e w' ⟨rfl, rfl⟩)
  go_ret
  exact ⟨rfl, rfl⟩
theorem rsext_all (x : Nat) (n : Int) (hx : x < 18446744073709551616) (W w : World) (hb : Below W.heap.size W w) :
    Calls Try.prog 23 #[.int .u64 (x : Int), .int .i64 n] w fun e w' => e = .returned (.int .u64 (sextA x n : Nat)) ∧ Below W.heap.size W w' := by
  by_cases h1 : n < 1
  · rw [sextA_lo x n h1]
    go_enter Try.func23, Try.ntmps23
    go_wp2
    go_ret
    exact ⟨rfl, hb⟩
  by_cases h2 : 63 < n
  · rw [sextA_hi x n h2]
    go_enter Try.func23, Try.ntmps23
    go_wp2
    go_ret
    exact ⟨rfl, hb⟩
  obtain ⟨m, rfl⟩ : ∃ m : Nat, n = m := ⟨n.toNat, by omega⟩
  rw [sextA_in x m (by omega) (by omega), ← sext_eq x m (by omega) (by omega)]
  exact (rsext_any x m hx (by omega) (by omega) w).mono fun e w' ⟨he, hw⟩ => ⟨he, hb.trans (hw.mono hb.size)⟩
end Go.Proofs.Ytcpaddnigembkaa
