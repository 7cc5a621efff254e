/- The document's calls flag, turned, Less and bitwise of layer 5, and what its shifts come to as plain numbers. -/
import Derived.Test.YtgaihgniommhiaaDoc
namespace Go.Proofs.Ytgaihgniommhiaa
open Go.RowKit
set_option linter.unusedVariables false
set_option linter.unusedSimpArgs false
theorem testBit_lt64 (y j d : Nat) (hy : y < 2 ^ d) (h : ¬ j < d) : y.testBit j = false := by
  apply Nat.testBit_lt_two_pow
  exact Nat.lt_of_lt_of_le hy (Nat.pow_le_pow_right (by omega) (by omega))
theorem left_eq (a n d : Nat) : hiOf (leftF a n) d 0 = a * 2 ^ n % 2 ^ d := by
  apply hiOf_eq _ _ _ (fun _ _ => leftF_le _ _ _)
  intro j
  rw [Nat.testBit_mod_two_pow, ← Nat.shiftLeft_eq, Nat.testBit_shiftLeft]
  by_cases h : j < n
  · rw [leftF_lo a n j h]; simp; omega
  · rw [leftF_hi a n j h, bitAt_one]; simp [Nat.le_of_not_lt h]
theorem right_eq (a n d : Nat) : hiOf (rightF a n d false) d 0 = a % 2 ^ d / 2 ^ n := by
  apply hiOf_eq _ _ _ (fun _ _ => rightF_le _ _ _ _ _)
  intro j
  rw [← Nat.shiftRight_eq_div_pow, Nat.testBit_shiftRight, Nat.testBit_mod_two_pow]
  by_cases h : j + n < d
  · rw [rightF_in a n d false j h, bitAt_one, Nat.add_comm n j]; simp [h]; omega
  · rw [rightF_no a n d j h]; simp; intro; omega
theorem top_bit (a d : Nat) (hd : 1 ≤ d) (ha : a < 2 ^ d) : a.testBit (d - 1) = decide (¬ a < 2 ^ (d - 1)) := by
  have hp2 : 2 ^ d = 2 * 2 ^ (d - 1) := by rw [← Nat.pow_succ', show (d - 1).succ = d from by omega]
  have hpos : 0 < 2 ^ (d - 1) := Nat.two_pow_pos _
  rw [Nat.testBit_eq_decide_div_mod_eq, decide_eq_decide]
  constructor
  · intro h hl
    rw [Nat.div_eq_of_lt hl] at h
    simp at h
  · intro h
    have : a / 2 ^ (d - 1) = 1 := by
      apply Nat.div_eq_of_lt_le
      · omega
      · rw [hp2] at ha; omega
    rw [this]
theorem rsg_eq (a n d h : Nat) (hd : 1 ≤ d) (hn : n < d) (hh : h = 2 ^ (d - 1)) : hiOf (rightF a n d true) d 0 = if a % 2 ^ d < h then a % 2 ^ d / 2 ^ n else 2 ^ (d - n) * (2 ^ n - 1) + a % 2 ^ d / 2 ^ n := by
  subst hh
  have hr : a % 2 ^ d < 2 ^ d := Nat.mod_lt _ (Nat.two_pow_pos d)
  have ht := top_bit (a % 2 ^ d) d hd hr
  have hq : a % 2 ^ d / 2 ^ n < 2 ^ (d - n) := by
    rw [Nat.div_lt_iff_lt_mul (Nat.two_pow_pos n), ← Nat.pow_add, show d - n + n = d from by omega]; exact hr
  have hbit : ∀ j, (a % 2 ^ d / 2 ^ n).testBit j = (decide (n + j < d) && a.testBit (n + j)) := by
    intro j
    rw [← Nat.shiftRight_eq_div_pow, Nat.testBit_shiftRight, Nat.testBit_mod_two_pow]
  have hd1 : a.testBit (d - 1) = (a % 2 ^ d).testBit (d - 1) := by rw [Nat.testBit_mod_two_pow]; simp; omega
  apply hiOf_eq _ _ _ (fun _ _ => rightF_le _ _ _ _ _)
  intro j
  by_cases hl : a % 2 ^ d < 2 ^ (d - 1)
  · rw [if_pos hl, hbit]
    by_cases h : j + n < d
    · rw [rightF_in a n d true j h, bitAt_one, Nat.add_comm n j]; simp [h]; omega
    · rw [rightF_sg a n d j h, bitAt_one, hd1, ht, Nat.add_comm n j]; simp [h, hl]
  · rw [if_neg hl, Nat.testBit_two_pow_mul_add _ hq]
    by_cases h : j + n < d
    · rw [rightF_in a n d true j h, bitAt_one, if_pos (by omega), hbit, Nat.add_comm n j]; simp [h]; omega
    · rw [rightF_sg a n d j h, bitAt_one, hd1, ht, if_neg (by omega), Nat.testBit_two_pow_sub_one]; simp [hl]; omega
theorem rsg64 (a n : Nat) (ha : a < 18446744073709551616) (hn : n < 64) : hiOf (rightF a n 64 true) 64 0 = sraN a n := by
  rw [rsg_eq a n 64 9223372036854775808 (by omega) hn (by decide), Nat.mod_eq_of_lt (show a < 2 ^ 64 from ha)]; rfl
theorem rsg32 (a n : Nat) (hn : n < 32) : hiOf (rightF a n 32 true) 32 0 = sra32N (a % 4294967296) n := by
  rw [rsg_eq a n 32 2147483648 (by omega) hn (by decide)]; rfl
theorem flag_any (c : Bool) (w : World) : Calls Try.prog 21 #[.bool c] w fun e w' => e = .returned (.int .u64 ((flagN c : Nat) : Int)) ∧ w' = w := by
  cases c
  · go_enter Try.func21, Try.ntmps21
    go_wp2
    go_ret
    exact ⟨rfl, rfl⟩
  · go_enter Try.func21, Try.ntmps21
    go_wp2
    go_ret
    exact ⟨rfl, rfl⟩
def turnF (a i : Nat) : Nat := if i = 63 then 1 - bitAt a 63 else bitAt a i
theorem turnF_le (a i : Nat) : turnF a i ≤ 1 := by unfold turnF; split; omega; exact bitAt_le _ _
def turnN (a : Nat) : Nat := if a < 9223372036854775808 then 9223372036854775808 + a else a - 9223372036854775808
theorem turn_eq (a : Nat) (ha : a < 18446744073709551616) : hiOf (turnF a) 64 0 = turnN a := by
  apply hiOf_eq _ _ _ (fun _ _ => turnF_le _ _)
  intro j
  have e63 : (9223372036854775808 : Nat) = 2 ^ 63 * 1 := by decide
  have hb := bitAt_le a 63
  have ht := top_bit a 64 (by omega) ha
  rw [show 64 - 1 = 63 from rfl, ← bitAt_one, show (2 : Nat) ^ 63 = 9223372036854775808 from by decide] at ht
  unfold turnN turnF
  by_cases hl : a < 9223372036854775808
  · rw [if_pos hl, e63, Nat.testBit_two_pow_mul_add (a := 1) (b := a) (i := 63) (by omega)]
    by_cases hj : j = 63
    · subst hj; simp [hl] at ht ⊢; omega
    · rw [if_neg hj, bitAt_one]
      by_cases h2 : j < 63
      · rw [if_pos h2]; simp; omega
      · rw [if_neg h2, Nat.testBit_lt_two_pow (show 1 < 2 ^ (j - 63) from Nat.one_lt_two_pow (by omega))]; simp; omega
  · rw [if_neg hl]
    by_cases hj : j = 63
    · subst hj
      rw [testBit_lt64 _ 63 63 (by omega) (by omega)]
      simp [hl] at ht ⊢; omega
    · rw [if_neg hj, bitAt_one]
      have e : a = 2 ^ 63 * 1 + (a - 9223372036854775808) := by omega
      have e2 : a.testBit j = (2 ^ 63 * 1 + (a - 9223372036854775808)).testBit j := congrArg (fun z => Nat.testBit z j) e
      rw [e2, Nat.testBit_two_pow_mul_add (a := 1) (b := a - 9223372036854775808) (i := 63) (by omega)]
      by_cases h2 : j < 63
      · rw [if_pos h2]; simp; omega
      · rw [testBit_lt64 _ j 63 (by omega) h2]; simp; omega
theorem turn_less (a b : Nat) (ha : a < 18446744073709551616) (hb : b < 18446744073709551616) : decide (turnN a < turnN b) = decide (numI a < numI b) := by
  rw [decide_eq_decide]; unfold turnN numI; split <;> split <;> omega
theorem turnN_lt (a : Nat) (ha : a < 18446744073709551616) : turnN a < 18446744073709551616 := by unfold turnN; split <;> omega
/-- the bits of a word, in a row that is told -/
theorem bits_sl (x : Nat) (hx : x < 18446744073709551616) (w : World) :
    Calls Try.prog 28 #[.int .u64 (x : Int)] w fun e w' => ∃ g cap, e = .returned (.slice (some ⟨g, 0, none⟩) 64 cap) ∧ w'.ownsRow w.heap.size 3 1 (.slice (some ⟨g, 0, none⟩) 64 cap) 64 (rowOf (bitAt x) 64) ∧ Below w.heap.size w w' ∧ w.heap.size ≤ g ∧ 64 ≤ cap ∧ (∀ j, j < 64 → w'.cell? ⟨g, j, none⟩ = some (.int .i64 (bitAt x j : Nat))) ∧ g < w'.heap.size := by
  refine (bits_any x hx w).mono ?_
  rintro e w1 ⟨v1, rfl, hv1, hb1⟩
  have hv2 := hv1.2
  rcases hv2 with ⟨_, h64⟩ | ⟨g, cap, cur, rfl, hg, hbl, hnc, hcm, _, _⟩
  · omega
  exact ⟨g, cap, rfl, hv1, hb1, hg, hnc, fun j hj => by rw [hv1.cellAt j (by omega)]; exact rowOf_get _ 64 j hj, by have := hv1.lt g rfl; omega⟩
set_option maxHeartbeats 400000 in
theorem turned_any (a : Nat) (ha : a < 18446744073709551616) (W w : World) (hW : Below W.heap.size W w) : Calls Try.prog 30 #[.int .u64 (a : Int)] w fun e w' => e = .returned (.int .u64 ((turnN a : Nat) : Int)) ∧ Below W.heap.size W w' := by
  go_enter Try.func30, Try.ntmps30
  go_wp2_with fail
  refine (bits_sl a ha _).mono ?_
  rintro e w1 ⟨g, cap, rfl, hv1, hb1, hg, hnc, hcs, hgs⟩
  have hc : w1.cell? ⟨g, 63, none⟩ = some (.int .i64 (bitAt a 63 : Nat)) := hcs 63 (by omega)
  have hfz := hv1.frozenAt 63
  have hown2 := hv1.stored 63 (.int .i64 ((1 - bitAt a 63 : Nat) : Int))
  rw [rowOf_set, show (fun i => if i = 63 then 1 - bitAt a 63 else bitAt a i) = turnF a from rfl] at hown2
  have hb2 := hb1.setCell (p := ⟨g, 63, none⟩) hg (.int .i64 ((1 - bitAt a 63 : Nat) : Int))
  have hA : Hid (_ ∧ _) := ⟨hown2, hb2⟩
  have hle := bitAt_le a 63
  have HT : Hid (hiOf (turnF a) 64 0 = turnN a) := turn_eq a ha
  clear hown2 hb2 hv1 hb1 hcs
  rcases (show bitAt a 63 = 0 ∨ bitAt a 63 = 1 from by omega) with hbt | hbt
  · rw [hbt] at hc hA
    go_wp2_with (first | (go_at_call 29; refine (word_any (turnF a) _ _ _ (Nat.le_refl _) (fun _ _ => turnF_le _ _) _ hA.out.1.1).mono ?_; rintro e w' ⟨rfl, rfl⟩))
    go_ret
    refine ⟨?_, hW.trans (hA.out.2.mono hW.size)⟩
    rw [HT.out]
    rfl
  · rw [hbt] at hc hA
    go_wp2_with (first | (go_at_call 29; refine (word_any (turnF a) _ _ _ (Nat.le_refl _) (fun _ _ => turnF_le _ _) _ hA.out.1.1).mono ?_; rintro e w' ⟨rfl, rfl⟩))
    go_ret
    refine ⟨?_, hW.trans (hA.out.2.mono hW.size)⟩
    rw [HT.out]
    rfl
theorem less_any (a b : Nat) (ha : a < 18446744073709551616) (hb : b < 18446744073709551616) (W w : World) (hW : Below W.heap.size W w) : Calls Try.prog 22 #[.int .u64 (a : Int), .int .u64 (b : Int)] w fun e w' => e = .returned (.bool (decide (numI a < numI b))) ∧ Below W.heap.size W w' := by
  have HL : Hid (decide (turnN a < turnN b) = decide (numI a < numI b)) := turn_less a b ha hb
  have h1 : ∀ x : Nat, x < 18446744073709551616 → ∀ w, Below W.heap.size W w → Calls Try.prog 30 #[.int .u64 (x : Int)] w fun e w' => e = .returned (.int .u64 ((turnN x : Nat) : Int)) ∧ Below W.heap.size W w' := fun x hx w hw => turned_any x hx W w hw
  go_enter Try.func22, Try.ntmps22
  go_wp2_with (go_at_call 30; refine (h1 _ (by assumption) _ (by assumption)).mono ?_; rintro e w' ⟨rfl, hb2⟩)
  go_ret
  refine ⟨?_, by assumption⟩
  rw [← HL.out]
  simp
end Go.Proofs.Ytgaihgniommhiaa
