/- The document's calls Less, bitwise and Do of layer 5 (of the operations that layer 7 asks it) come to plain numbers. -/
import Derived.Test.YtcpaddnigembkaaSx
namespace Go.Proofs.Ytcpaddnigembkaa
open Go.RowKit
set_option linter.unusedVariables false
set_option linter.unusedSimpArgs false
theorem ret_two {k : IntKind} {a b : Int} {c d : Bool} (h : a = b) (g : c = d) : Ending.returned (.tuple #[.int k a, .bool c]) = .returned (.tuple #[.int k b, .bool d]) := by rw [h, g]
theorem ret_int {k : IntKind} {a b : Int} (h : a = b) : Ending.returned (.int k a) = .returned (.int k b) := by rw [h]
theorem ret_bool {a b : Bool} (h : a = b) : Ending.returned (.bool a) = .returned (.bool b) := by rw [h]
def numI (a : Nat) : Int := if a < 9223372036854775808 then (a : Int) else (a : Int) - 18446744073709551616
theorem numI_eq (a : Nat) (h : a < 18446744073709551616) : wrap64 (a : Int) = numI a := wrap64_val a h
def num32 (a : Nat) : Int := if a < 2147483648 then (a : Int) else (a : Int) - 4294967296
theorem num32_eq (a : Nat) (h : a < 4294967296) : IntKind.i32.wrap (a : Int) = num32 a := by
  unfold num32; simp [IntKind.wrap, IntKind.signed, IntKind.bits]; split <;> omega
theorem wrap_u32 (x : Int) : IntKind.u32.wrap x = x % 4294967296 := by simp [IntKind.wrap, IntKind.signed, IntKind.bits]
theorem testBit_lt64 (y j d : Nat) (hy : y < 2 ^ d) (h : ¬ j < d) : y.testBit j = false := by
  apply Nat.testBit_lt_two_pow
  exact Nat.lt_of_lt_of_le hy (Nat.pow_le_pow_right (by omega) (by omega))
theorem top_bit (a d : Nat) (hd : 1 ≤ d) (ha : a < 2 ^ d) : a.testBit (d - 1) = decide (¬ a < 2 ^ (d - 1)) := by
  have hp2 : 2 ^ d = 2 * 2 ^ (d - 1) := by rw [← Nat.pow_succ', show (d - 1).succ = d from by omega]
  have hpos : 0 < 2 ^ (d - 1) := Nat.two_pow_pos _
  rw [Nat.testBit_eq_decide_div_mod_eq, decide_eq_decide]
  constructor
  · intro h hl
    rw [Nat.div_eq_of_lt hl] at h
    simp at h
  · intro h
    have : a / 2 ^ (d - 1) = 1 := by
      apply Nat.div_eq_of_lt_le
      · omega
      · rw [hp2] at ha; omega
    rw [this]
def turnF (a i : Nat) : Nat := if i = 63 then 1 - bitAt a 63 else bitAt a i
theorem turnF_le (a i : Nat) : turnF a i ≤ 1 := by unfold turnF; split; omega; exact bitAt_le _ _
def turnN (a : Nat) : Nat := if a < 9223372036854775808 then 9223372036854775808 + a else a - 9223372036854775808
theorem turn_eq (a : Nat) (ha : a < 18446744073709551616) : hiOf (turnF a) 64 0 = turnN a := by
  apply hiOf_eq _ _ _ (fun _ _ => turnF_le _ _)
  intro j
  have e63 : (9223372036854775808 : Nat) = 2 ^ 63 * 1 := by decide
  have hb := bitAt_le a 63
  have ht := top_bit a 64 (by omega) ha
  rw [show 64 - 1 = 63 from rfl, ← bitAt_one, show (2 : Nat) ^ 63 = 9223372036854775808 from by decide] at ht
  unfold turnN turnF
  by_cases hl : a < 9223372036854775808
  · rw [if_pos hl, e63, Nat.testBit_two_pow_mul_add (a := 1) (b := a) (i := 63) (by omega)]
    by_cases hj : j = 63
    · subst hj; simp [hl] at ht ⊢; omega
    · rw [if_neg hj, bitAt_one]
      by_cases h2 : j < 63
      · rw [if_pos h2]; simp; omega
      · rw [if_neg h2, Nat.testBit_lt_two_pow (show 1 < 2 ^ (j - 63) from Nat.one_lt_two_pow (by omega))]; simp; omega
  · rw [if_neg hl]
    by_cases hj : j = 63
    · subst hj
      rw [testBit_lt64 _ 63 63 (by omega) (by omega)]
      simp [hl] at ht ⊢; omega
    · rw [if_neg hj, bitAt_one]
      have e : a = 2 ^ 63 * 1 + (a - 9223372036854775808) := by omega
      have e2 : a.testBit j = (2 ^ 63 * 1 + (a - 9223372036854775808)).testBit j := congrArg (fun z => Nat.testBit z j) e
      rw [e2, Nat.testBit_two_pow_mul_add (a := 1) (b := a - 9223372036854775808) (i := 63) (by omega)]
      by_cases h2 : j < 63
      · rw [if_pos h2]; simp; omega
      · rw [testBit_lt64 _ j 63 (by omega) h2]; simp; omega
theorem turn_less (a b : Nat) (ha : a < 18446744073709551616) (hb : b < 18446744073709551616) : decide (turnN a < turnN b) = decide (numI a < numI b) := by
  rw [decide_eq_decide]; unfold turnN numI; split <;> split <;> omega
theorem turnN_lt (a : Nat) (ha : a < 18446744073709551616) : turnN a < 18446744073709551616 := by unfold turnN; split <;> omega
/-- the bits of a word, in a row that is told -/
theorem bits_sl (x : Nat) (hx : x < 18446744073709551616) (w : World) :
    Calls Try.prog 31 #[.int .u64 (x : Int)] w fun e w' => ∃ g cap, e = .returned (.slice (some ⟨g, 0, none⟩) 64 cap) ∧ w'.ownsRow w.heap.size 3 1 (.slice (some ⟨g, 0, none⟩) 64 cap) 64 (rowOf (bitAt x) 64) ∧ Below w.heap.size w w' ∧ w.heap.size ≤ g ∧ 64 ≤ cap ∧ (∀ j, j < 64 → w'.cell? ⟨g, j, none⟩ = some (.int .i64 (bitAt x j : Nat))) ∧ g < w'.heap.size := by
  refine (bits_any x hx w).mono ?_
  rintro e w1 ⟨v1, rfl, hv1, hb1⟩
  have hv2 := hv1.2
  rcases hv2 with ⟨_, h64⟩ | ⟨g, cap, cur, rfl, hg, hbl, hnc, hcm, _, _⟩
  · omega
  exact ⟨g, cap, rfl, hv1, hb1, hg, hnc, fun j hj => by rw [hv1.cellAt j (by omega)]; exact rowOf_get _ 64 j hj, by have := hv1.lt g rfl; omega⟩
set_option maxHeartbeats 400000 in
theorem turned_any (a : Nat) (ha : a < 18446744073709551616) (W w : World) (hW : Below W.heap.size W w) : Calls Try.prog 33 #[.int .u64 (a : Int)] w fun e w' => e = .returned (.int .u64 ((turnN a : Nat) : Int)) ∧ Below W.heap.size W w' := by
  go_enter Try.func33, Try.ntmps33
  go_wp2_with fail
  refine (bits_sl a ha _).mono ?_
  rintro e w1 ⟨g, cap, rfl, hv1, hb1, hg, hnc, hcs, hgs⟩
  have hc : w1.cell? ⟨g, 63, none⟩ = some (.int .i64 (bitAt a 63 : Nat)) := hcs 63 (by omega)
  have hfz := hv1.frozenAt 63
  have hown2 := hv1.stored 63 (.int .i64 ((1 - bitAt a 63 : Nat) : Int))
  rw [rowOf_set, show (fun i => if i = 63 then 1 - bitAt a 63 else bitAt a i) = turnF a from rfl] at hown2
  have hb2 := hb1.setCell (p := ⟨g, 63, none⟩) hg (.int .i64 ((1 - bitAt a 63 : Nat) : Int))
  have hA : Hid (_ ∧ _) := ⟨hown2, hb2⟩
  have hle := bitAt_le a 63
  have HT : Hid (hiOf (turnF a) 64 0 = turnN a) := turn_eq a ha
  clear hown2 hb2 hv1 hb1 hcs
  rcases (show bitAt a 63 = 0 ∨ bitAt a 63 = 1 from by omega) with hbt | hbt
  · rw [hbt] at hc hA
    go_wp2_with (first | (go_at_call 32; refine (word_any (turnF a) _ _ _ (Nat.le_refl _) (fun _ _ => turnF_le _ _) _ hA.out.1.1).mono ?_; rintro e w' ⟨rfl, rfl⟩))
    go_ret
    refine ⟨?_, hW.trans (hA.out.2.mono hW.size)⟩
    rw [HT.out]
    rfl
  · rw [hbt] at hc hA
    go_wp2_with (first | (go_at_call 32; refine (word_any (turnF a) _ _ _ (Nat.le_refl _) (fun _ _ => turnF_le _ _) _ hA.out.1.1).mono ?_; rintro e w' ⟨rfl, rfl⟩))
    go_ret
    refine ⟨?_, hW.trans (hA.out.2.mono hW.size)⟩
    rw [HT.out]
    rfl
theorem less_any (a b : Nat) (ha : a < 18446744073709551616) (hb : b < 18446744073709551616) (W w : World) (hW : Below W.heap.size W w) : Calls Try.prog 24 #[.int .u64 (a : Int), .int .u64 (b : Int)] w fun e w' => e = .returned (.bool (decide (numI a < numI b))) ∧ Below W.heap.size W w' := by
  have HL : Hid (decide (turnN a < turnN b) = decide (numI a < numI b)) := turn_less a b ha hb
  have h1 : ∀ x : Nat, x < 18446744073709551616 → ∀ w, Below W.heap.size W w → Calls Try.prog 33 #[.int .u64 (x : Int)] w fun e w' => e = .returned (.int .u64 ((turnN x : Nat) : Int)) ∧ Below W.heap.size W w' := fun x hx w hw => turned_any x hx W w hw
  go_enter Try.func24, Try.ntmps24
  go_wp2_with (go_at_call 33; refine (h1 _ (by assumption) _ (by assumption)).mono ?_; rintro e w' ⟨rfl, hb2⟩)
  go_ret
  refine ⟨?_, by assumption⟩
  rw [← HL.out]
  simp
theorem below_grownBy {w w' : World} (h : Below w.heap.size w w') (row : Option Nat) : w.grownBy w' row := ⟨h.os, h.tape, h.output, h.size, fun k hk _ => h.block k hk⟩
def bwF (h a b i : Nat) : Nat := if h = 0 then (bitAt a i + bitAt b i) / 2 else if h = 1 then min (bitAt a i + bitAt b i) 1 else (bitAt a i + bitAt b i) % 2
theorem bwF_le (h a b i : Nat) : bwF h a b i ≤ 1 := by
  have h1 := bitAt_le a i
  have h2 := bitAt_le b i
  unfold bwF; split; omega; split <;> omega
theorem bw_bit (a b j : Nat) (ha : a < 18446744073709551616) (h : ¬ j < 64) : a.testBit j = false := testBit_lt64 a j 64 ha h
theorem bit_num (a j : Nat) : bitAt a j = if a.testBit j then 1 else 0 := by
  have h := bitAt_one a j
  have h1 := bitAt_le a j
  split
  · rename_i e; rw [e] at h; simpa using h
  · rename_i e; simp only [Bool.not_eq_true] at e; rw [e] at h; simp at h; omega
theorem and_eq (a b : Nat) (ha : a < 18446744073709551616) (hb : b < 18446744073709551616) : hiOf (bwF 0 a b) 64 0 = a &&& b := by
  apply hiOf_eq _ _ _ (fun _ _ => bwF_le _ _ _ _)
  intro j
  rw [Nat.testBit_and]
  by_cases h : j < 64
  · unfold bwF; rw [if_pos rfl, bit_num, bit_num]; cases a.testBit j <;> cases b.testBit j <;> simp [h]
  · rw [bw_bit a b j ha h]; simp [h]
theorem or_eq (a b : Nat) (ha : a < 18446744073709551616) (hb : b < 18446744073709551616) : hiOf (bwF 1 a b) 64 0 = a ||| b := by
  apply hiOf_eq _ _ _ (fun _ _ => bwF_le _ _ _ _)
  intro j
  rw [Nat.testBit_or]
  by_cases h : j < 64
  · unfold bwF; rw [if_neg (by decide), if_pos rfl, bit_num, bit_num]; cases a.testBit j <;> cases b.testBit j <;> simp [h]
  · rw [bw_bit a b j ha h, bw_bit b a j hb h]; simp [h]
theorem xor_eq (a b : Nat) (ha : a < 18446744073709551616) (hb : b < 18446744073709551616) : hiOf (bwF 2 a b) 64 0 = a ^^^ b := by
  apply hiOf_eq _ _ _ (fun _ _ => bwF_le _ _ _ _)
  intro j
  rw [Nat.testBit_xor]
  by_cases h : j < 64
  · unfold bwF; rw [if_neg (by decide), if_neg (by decide), bit_num, bit_num]; cases a.testBit j <;> cases b.testBit j <;> simp [h]
  · rw [bw_bit a b j ha h, bw_bit b a j hb h]; simp [h]
set_option maxHeartbeats 800000 in
theorem bw_0 (a b : Nat) (ha : a < 18446744073709551616) (hbb : b < 18446744073709551616) (w : World) : Calls Try.prog 37 #[.int .u64 (a : Int), .int .u64 (b : Int), .int .i64 0] w fun e w' => e = .returned (.int .u64 ((hiOf (bwF 0 a b) 64 0 : Nat) : Int)) ∧ Below w.heap.size w w' := by
  obtain ⟨i0, hi, hz0, hz1, hz2⟩ := info_parts Try.info3
  go_enter Try.func37, Try.ntmps37
  go_wp2_with fail
  refine (bits_sl a ha _).mono ?_
  rintro e w0 ⟨g, cap, rfl, _, hb0, hg, hnc, hcs, hgs⟩
  go_wp2_with fail
  refine (bits_sl b hbb _).mono ?_
  rintro e w1 ⟨g2, cap2, rfl, _, hb1, hg2, hnc2, hcs2, hgs2⟩
  have hcs1 : ∀ j, j < 64 → w1.cell? ⟨g, j, none⟩ = some (.int .i64 (bitAt a j : Nat)) := fun j hj => by rw [hb1.cell (p := ⟨g, j, none⟩) hgs]; exact hcs j hj
  have hgs1 : g < w1.heap.size := by have := hb1.size; omega
  have hb01 : Below w.heap.size w w1 := hb0.trans (hb1.mono hb0.size)
  have HC : Hid (∀ j, j < 64 → w1.cell? ⟨g, j, none⟩ = some (.int .i64 (bitAt a j : Nat))) := hcs1
  have HC2 : Hid (∀ j, j < 64 → w1.cell? ⟨g2, j, none⟩ = some (.int .i64 (bitAt b j : Nat))) := hcs2
  clear hcs hcs1 hcs2 hb0 hb1 hgs
  go_wp2_with fail
  go_loopw [9, 10] (fun v i wr => ∃ k : Nat, k ≤ 64 ∧ i = .int .i64 k ∧ wr.ownsRow w1.heap.size 3 1 v k (rowOf (bwF 0 a b) k) ∧ Below w1.heap.size w1 wr)
    (fun _ i _ => 64 - (intOf i).toNat)
  case atStart => exact ⟨0, by omega, rfl, World.ownsRow_nil _ _ _ _, Below.refl _ _⟩
  case round =>
    obtain ⟨k, hk, rfl, hown, hb⟩ := hrel
    have hr := rowOf_succ (bwF 0 a b) k
    by_cases hlt : k < 64
    · have hlt1 : (k : Int) < 64 := by omega
      have hc : wr.cell? ⟨g, k, none⟩ = some (.int .i64 (bitAt a k : Nat)) := by rw [hb.cell (p := ⟨g, k, none⟩) hgs1]; exact HC.out _ (by omega)
      have hc2 : wr.cell? ⟨g2, k, none⟩ = some (.int .i64 (bitAt b k : Nat)) := by rw [hb.cell (p := ⟨g2, k, none⟩) hgs2]; exact HC2.out _ (by omega)
      rw [show bwF 0 a b k = (bitAt a k + bitAt b k) / 2 from rfl] at hr
      have hp1 := bitAt_le a k
      have hq1 := bitAt_le b k
      generalize bitAt a k = p at *
      generalize bitAt b k = q at *
      obtain ⟨vv, hvv, hmin⟩ : ∃ vv : Int, (((p + q) / 2 : Nat) : Int) = vv ∧ ((p : Int) + q) / 2 = vv := ⟨_, rfl, by omega⟩
      rw [hvv] at hr
      have HR : Hid _ := hr
      clear hr hvv
      go_wp2_with fail
      go_quiet (fail)
      replace hown := hown.kept (below_grownBy (below_drewN (Below.refl wr.heap.size wr) nq) none) (Classical.em _)
      replace hb := below_drewN hb nq
      clear hc hc2
      generalize wr.drewN nq = wz at *
      go_wp2_with (first | (at_builtin; refine wpList_append_own _ rfl _ _ 51 rfl w1.heap.size 3 i0 (.int .i64 0) 1 8 Try.underlying51 hi hz0 hz1 hz2 rfl (by decide) _ _ _ rfl (hown.alloc _) ⟨wz.heap.size, 0, none⟩ 1 1 _ rfl rfl (cell_one_new _ _ _) ?c2 ?c3 ?c4 ?c5 ?_))
      case c2 => first | rfl | (intro u hu; simp at hu; subst hu; rfl)
      case c3 => unfold maxLen; omega
      case c4 => omega
      case c5 => have := hb.size; simp; omega
      · intro v' w2 hown' hgrow _
        have hb2 := grow_step hb hb.size hown hgrow
        have hown2 : w2.ownsRow w1.heap.size 3 1 v' (k + 1) (rowOf (bwF 0 a b) (k + 1)) := by rw [HR.out]; exact hown'
        clear hown' hgrow hown hb
        go_wp2
        go_roundw
        case rel => exact ⟨k + 1, by omega, by go_num, hown2, hb2⟩
        case measure => simp [intOf]; omega
    · obtain rfl : k = 64 := by omega
      have hfin : Below w.heap.size w wr := hb01.trans (hb.mono hb01.size)
      go_wp2_with (first | (go_at_call 32; refine (word_any _ _ _ _ (Nat.le_refl _) (fun _ _ => bwF_le _ _ _ _) _ hown).mono ?_; rintro e w' ⟨rfl, rfl⟩))
      go_ret
      exact ⟨rfl, hfin⟩
set_option maxHeartbeats 800000 in
theorem bw_1 (a b : Nat) (ha : a < 18446744073709551616) (hbb : b < 18446744073709551616) (w : World) : Calls Try.prog 37 #[.int .u64 (a : Int), .int .u64 (b : Int), .int .i64 1] w fun e w' => e = .returned (.int .u64 ((hiOf (bwF 1 a b) 64 0 : Nat) : Int)) ∧ Below w.heap.size w w' := by
  obtain ⟨i0, hi, hz0, hz1, hz2⟩ := info_parts Try.info3
  go_enter Try.func37, Try.ntmps37
  go_wp2_with fail
  refine (bits_sl a ha _).mono ?_
  rintro e w0 ⟨g, cap, rfl, _, hb0, hg, hnc, hcs, hgs⟩
  go_wp2_with fail
  refine (bits_sl b hbb _).mono ?_
  rintro e w1 ⟨g2, cap2, rfl, _, hb1, hg2, hnc2, hcs2, hgs2⟩
  have hcs1 : ∀ j, j < 64 → w1.cell? ⟨g, j, none⟩ = some (.int .i64 (bitAt a j : Nat)) := fun j hj => by rw [hb1.cell (p := ⟨g, j, none⟩) hgs]; exact hcs j hj
  have hgs1 : g < w1.heap.size := by have := hb1.size; omega
  have hb01 : Below w.heap.size w w1 := hb0.trans (hb1.mono hb0.size)
  have HC : Hid (∀ j, j < 64 → w1.cell? ⟨g, j, none⟩ = some (.int .i64 (bitAt a j : Nat))) := hcs1
  have HC2 : Hid (∀ j, j < 64 → w1.cell? ⟨g2, j, none⟩ = some (.int .i64 (bitAt b j : Nat))) := hcs2
  clear hcs hcs1 hcs2 hb0 hb1 hgs
  go_wp2_with fail
  go_loopw [9, 10] (fun v i wr => ∃ k : Nat, k ≤ 64 ∧ i = .int .i64 k ∧ wr.ownsRow w1.heap.size 3 1 v k (rowOf (bwF 1 a b) k) ∧ Below w1.heap.size w1 wr)
    (fun _ i _ => 64 - (intOf i).toNat)
  case atStart => exact ⟨0, by omega, rfl, World.ownsRow_nil _ _ _ _, Below.refl _ _⟩
  case round =>
    obtain ⟨k, hk, rfl, hown, hb⟩ := hrel
    have hr := rowOf_succ (bwF 1 a b) k
    by_cases hlt : k < 64
    · have hlt1 : (k : Int) < 64 := by omega
      have hc : wr.cell? ⟨g, k, none⟩ = some (.int .i64 (bitAt a k : Nat)) := by rw [hb.cell (p := ⟨g, k, none⟩) hgs1]; exact HC.out _ (by omega)
      have hc2 : wr.cell? ⟨g2, k, none⟩ = some (.int .i64 (bitAt b k : Nat)) := by rw [hb.cell (p := ⟨g2, k, none⟩) hgs2]; exact HC2.out _ (by omega)
      rw [show bwF 1 a b k = min (bitAt a k + bitAt b k) 1 from rfl] at hr
      have hp1 := bitAt_le a k
      have hq1 := bitAt_le b k
      generalize bitAt a k = p at *
      generalize bitAt b k = q at *
      obtain ⟨vv, hvv, hmin⟩ : ∃ vv : Int, ((min (p + q) 1 : Nat) : Int) = vv ∧ (if (1 : Int) < (p : Int) + q then (1 : Int) else (p : Int) + q) = vv := ⟨_, rfl, by split <;> omega⟩
      rw [hvv] at hr
      have HR : Hid _ := hr
      clear hr hvv
      go_wp2_with fail
      go_quiet (fail)
      replace hown := hown.kept (below_grownBy (below_drewN (Below.refl wr.heap.size wr) nq) none) (Classical.em _)
      replace hb := below_drewN hb nq
      clear hc hc2
      generalize wr.drewN nq = wz at *
      go_wp2_with (first | (at_builtin; refine wpList_append_own _ rfl _ _ 51 rfl w1.heap.size 3 i0 (.int .i64 0) 1 8 Try.underlying51 hi hz0 hz1 hz2 rfl (by decide) _ _ _ rfl (hown.alloc _) ⟨wz.heap.size, 0, none⟩ 1 1 _ rfl rfl (cell_one_new _ _ _) ?c2 ?c3 ?c4 ?c5 ?_))
      case c2 => first | rfl | (intro u hu; simp at hu; subst hu; rfl)
      case c3 => unfold maxLen; omega
      case c4 => omega
      case c5 => have := hb.size; simp; omega
      · intro v' w2 hown' hgrow _
        have hb2 := grow_step hb hb.size hown hgrow
        have hown2 : w2.ownsRow w1.heap.size 3 1 v' (k + 1) (rowOf (bwF 1 a b) (k + 1)) := by rw [HR.out]; exact hown'
        clear hown' hgrow hown hb
        go_wp2
        go_roundw
        case rel => exact ⟨k + 1, by omega, by go_num, hown2, hb2⟩
        case measure => simp [intOf]; omega
    · obtain rfl : k = 64 := by omega
      have hfin : Below w.heap.size w wr := hb01.trans (hb.mono hb01.size)
      go_wp2_with (first | (go_at_call 32; refine (word_any _ _ _ _ (Nat.le_refl _) (fun _ _ => bwF_le _ _ _ _) _ hown).mono ?_; rintro e w' ⟨rfl, rfl⟩))
      go_ret
      exact ⟨rfl, hfin⟩
set_option maxHeartbeats 800000 in
theorem bw_2 (a b : Nat) (ha : a < 18446744073709551616) (hbb : b < 18446744073709551616) (w : World) : Calls Try.prog 37 #[.int .u64 (a : Int), .int .u64 (b : Int), .int .i64 2] w fun e w' => e = .returned (.int .u64 ((hiOf (bwF 2 a b) 64 0 : Nat) : Int)) ∧ Below w.heap.size w w' := by
  obtain ⟨i0, hi, hz0, hz1, hz2⟩ := info_parts Try.info3
  go_enter Try.func37, Try.ntmps37
  go_wp2_with fail
  refine (bits_sl a ha _).mono ?_
  rintro e w0 ⟨g, cap, rfl, _, hb0, hg, hnc, hcs, hgs⟩
  go_wp2_with fail
  refine (bits_sl b hbb _).mono ?_
  rintro e w1 ⟨g2, cap2, rfl, _, hb1, hg2, hnc2, hcs2, hgs2⟩
  have hcs1 : ∀ j, j < 64 → w1.cell? ⟨g, j, none⟩ = some (.int .i64 (bitAt a j : Nat)) := fun j hj => by rw [hb1.cell (p := ⟨g, j, none⟩) hgs]; exact hcs j hj
  have hgs1 : g < w1.heap.size := by have := hb1.size; omega
  have hb01 : Below w.heap.size w w1 := hb0.trans (hb1.mono hb0.size)
  have HC : Hid (∀ j, j < 64 → w1.cell? ⟨g, j, none⟩ = some (.int .i64 (bitAt a j : Nat))) := hcs1
  have HC2 : Hid (∀ j, j < 64 → w1.cell? ⟨g2, j, none⟩ = some (.int .i64 (bitAt b j : Nat))) := hcs2
  clear hcs hcs1 hcs2 hb0 hb1 hgs
  go_wp2_with fail
  go_loopw [9, 10] (fun v i wr => ∃ k : Nat, k ≤ 64 ∧ i = .int .i64 k ∧ wr.ownsRow w1.heap.size 3 1 v k (rowOf (bwF 2 a b) k) ∧ Below w1.heap.size w1 wr)
    (fun _ i _ => 64 - (intOf i).toNat)
  case atStart => exact ⟨0, by omega, rfl, World.ownsRow_nil _ _ _ _, Below.refl _ _⟩
  case round =>
    obtain ⟨k, hk, rfl, hown, hb⟩ := hrel
    have hr := rowOf_succ (bwF 2 a b) k
    by_cases hlt : k < 64
    · have hlt1 : (k : Int) < 64 := by omega
      have hc : wr.cell? ⟨g, k, none⟩ = some (.int .i64 (bitAt a k : Nat)) := by rw [hb.cell (p := ⟨g, k, none⟩) hgs1]; exact HC.out _ (by omega)
      have hc2 : wr.cell? ⟨g2, k, none⟩ = some (.int .i64 (bitAt b k : Nat)) := by rw [hb.cell (p := ⟨g2, k, none⟩) hgs2]; exact HC2.out _ (by omega)
      rw [show bwF 2 a b k = (bitAt a k + bitAt b k) % 2 from rfl] at hr
      have hp1 := bitAt_le a k
      have hq1 := bitAt_le b k
      generalize bitAt a k = p at *
      generalize bitAt b k = q at *
      obtain ⟨vv, hvv, hmin⟩ : ∃ vv : Int, (((p + q) % 2 : Nat) : Int) = vv ∧ ((p : Int) + q) % 2 = vv := ⟨_, rfl, by omega⟩
      rw [hvv] at hr
      have HR : Hid _ := hr
      clear hr hvv
      go_wp2_with fail
      go_quiet (fail)
      replace hown := hown.kept (below_grownBy (below_drewN (Below.refl wr.heap.size wr) nq) none) (Classical.em _)
      replace hb := below_drewN hb nq
      clear hc hc2
      generalize wr.drewN nq = wz at *
      go_wp2_with (first | (at_builtin; refine wpList_append_own _ rfl _ _ 51 rfl w1.heap.size 3 i0 (.int .i64 0) 1 8 Try.underlying51 hi hz0 hz1 hz2 rfl (by decide) _ _ _ rfl (hown.alloc _) ⟨wz.heap.size, 0, none⟩ 1 1 _ rfl rfl (cell_one_new _ _ _) ?c2 ?c3 ?c4 ?c5 ?_))
      case c2 => first | rfl | (intro u hu; simp at hu; subst hu; rfl)
      case c3 => unfold maxLen; omega
      case c4 => omega
      case c5 => have := hb.size; simp; omega
      · intro v' w2 hown' hgrow _
        have hb2 := grow_step hb hb.size hown hgrow
        have hown2 : w2.ownsRow w1.heap.size 3 1 v' (k + 1) (rowOf (bwF 2 a b) (k + 1)) := by rw [HR.out]; exact hown'
        clear hown' hgrow hown hb
        go_wp2
        go_roundw
        case rel => exact ⟨k + 1, by omega, by go_num, hown2, hb2⟩
        case measure => simp [intOf]; omega
    · obtain rfl : k = 64 := by omega
      have hfin : Below w.heap.size w wr := hb01.trans (hb.mono hb01.size)
      go_wp2_with (first | (go_at_call 32; refine (word_any _ _ _ _ (Nat.le_refl _) (fun _ _ => bwF_le _ _ _ _) _ hown).mono ?_; rintro e w' ⟨rfl, rfl⟩))
      go_ret
      exact ⟨rfl, hfin⟩
/-- a call that tells a word and leaves what was there -/
def Tells (f : Nat) (args : Array Value) (W : World) (v : Nat) : Prop := ∀ w, Below W.heap.size W w → Calls Try.prog f args w fun e w' => e = .returned (.int .u64 (v : Int)) ∧ Below W.heap.size W w'
theorem tells_of (f : Nat) (args : Array Value) (W : World) (v u : Nat) (hv : v = u) (h : ∀ w, Calls Try.prog f args w fun e w' => e = .returned (.int .u64 (v : Int)) ∧ Below w.heap.size w w') : Tells f args W u := by
  subst hv
  exact fun w hw => (h w).mono fun e w' ⟨he, hb⟩ => ⟨he, hw.trans (hb.mono hw.size)⟩
theorem tells_and (a b : Nat) (ha : a < 18446744073709551616) (hb : b < 18446744073709551616) (W : World) : Tells 37 #[.int .u64 (a : Int), .int .u64 (b : Int), .int .i64 0] W (a &&& b) :=
  tells_of _ _ _ _ _ (and_eq a b ha hb) fun w => bw_0 a b ha hb w
theorem tells_or (a b : Nat) (ha : a < 18446744073709551616) (hb : b < 18446744073709551616) (W : World) : Tells 37 #[.int .u64 (a : Int), .int .u64 (b : Int), .int .i64 1] W (a ||| b) :=
  tells_of _ _ _ _ _ (or_eq a b ha hb) fun w => bw_1 a b ha hb w
theorem tells_xor (a b : Nat) (ha : a < 18446744073709551616) (hb : b < 18446744073709551616) (W : World) : Tells 37 #[.int .u64 (a : Int), .int .u64 (b : Int), .int .i64 2] W (a ^^^ b) :=
  tells_of _ _ _ _ _ (xor_eq a b ha hb) fun w => bw_2 a b ha hb w
theorem rdo_40 (a b : Nat) (ha : a < 18446744073709551616) (hb : b < 18446744073709551616) (W w : World) (hw : Below W.heap.size W w) : Calls Try.prog 25 #[.int .i64 40, .int .u64 (a : Int), .int .u64 (b : Int)] w fun e w' => e = .returned (.tuple #[.int .u64 ((a &&& b : Nat) : Int), .bool true]) ∧ Below W.heap.size W w' := by
  obtain ⟨n, hnn⟩ : ∃ n, b % 64 = n := ⟨_, rfl⟩
  obtain ⟨m, hmm⟩ : ∃ m, b % 32 = m := ⟨_, rfl⟩
  have hn : (b : Int) % 64 = n := by omega
  have hm : (b : Int) % 32 = m := by omega
  have hn64 : n < 64 := by omega
  have hm32 : m < 32 := by omega
  have HT : Tells _ _ _ _ := tells_and a b ha hb W
  generalize a &&& b = v at *
  go_enter Try.func25, Try.ntmps25
  go_wp2_with (first | (go_at_call 37; refine (HT _ (by assumption)).mono ?_; rintro e w' ⟨rfl, hw2⟩))
  go_ret2
  exact ⟨rfl, by assumption⟩
theorem rdo_39 (a b : Nat) (ha : a < 18446744073709551616) (hb : b < 18446744073709551616) (W w : World) (hw : Below W.heap.size W w) : Calls Try.prog 25 #[.int .i64 39, .int .u64 (a : Int), .int .u64 (b : Int)] w fun e w' => e = .returned (.tuple #[.int .u64 ((a ||| b : Nat) : Int), .bool true]) ∧ Below W.heap.size W w' := by
  obtain ⟨n, hnn⟩ : ∃ n, b % 64 = n := ⟨_, rfl⟩
  obtain ⟨m, hmm⟩ : ∃ m, b % 32 = m := ⟨_, rfl⟩
  have hn : (b : Int) % 64 = n := by omega
  have hm : (b : Int) % 32 = m := by omega
  have hn64 : n < 64 := by omega
  have hm32 : m < 32 := by omega
  have HT : Tells _ _ _ _ := tells_or a b ha hb W
  generalize a ||| b = v at *
  go_enter Try.func25, Try.ntmps25
  go_wp2_with (first | (go_at_call 37; refine (HT _ (by assumption)).mono ?_; rintro e w' ⟨rfl, hw2⟩))
  go_ret2
  exact ⟨rfl, by assumption⟩
theorem rdo_36 (a b : Nat) (ha : a < 18446744073709551616) (hb : b < 18446744073709551616) (W w : World) (hw : Below W.heap.size W w) : Calls Try.prog 25 #[.int .i64 36, .int .u64 (a : Int), .int .u64 (b : Int)] w fun e w' => e = .returned (.tuple #[.int .u64 ((a ^^^ b : Nat) : Int), .bool true]) ∧ Below W.heap.size W w' := by
  obtain ⟨n, hnn⟩ : ∃ n, b % 64 = n := ⟨_, rfl⟩
  obtain ⟨m, hmm⟩ : ∃ m, b % 32 = m := ⟨_, rfl⟩
  have hn : (b : Int) % 64 = n := by omega
  have hm : (b : Int) % 32 = m := by omega
  have hn64 : n < 64 := by omega
  have hm32 : m < 32 := by omega
  have HT : Tells _ _ _ _ := tells_xor a b ha hb W
  generalize a ^^^ b = v at *
  go_enter Try.func25, Try.ntmps25
  go_wp2_with (first | (go_at_call 37; refine (HT _ (by assumption)).mono ?_; rintro e w' ⟨rfl, hw2⟩))
  go_ret2
  exact ⟨rfl, by assumption⟩
end Go.Proofs.Ytcpaddnigembkaa
