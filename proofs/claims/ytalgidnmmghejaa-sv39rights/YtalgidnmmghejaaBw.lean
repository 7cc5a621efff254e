/- The document's calls And and Or of layer 8 (bitwise of layer 5). -/
import Derived.Test.YtalgidnmmghejaaWd
namespace Go.Proofs.Ytalgidnmmghejaa.E
open Go.RowKit
set_option linter.unusedVariables false
set_option maxRecDepth 100000
set_option linter.unusedSimpArgs false
theorem testBit_lt64 (y j d : Nat) (hy : y < 2 ^ d) (h : ¬ j < d) : y.testBit j = false := by
  apply Nat.testBit_lt_two_pow
  exact Nat.lt_of_lt_of_le hy (Nat.pow_le_pow_right (by omega) (by omega))
/-- the bits of a word, in a row that is told -/
theorem bits_sl (x : Nat) (hx : x < 18446744073709551616) (w : World) :
    Calls Try.prog 47 #[.int .u64 (x : Int)] w fun e w' => ∃ g cap, e = .returned (.slice (some ⟨g, 0, none⟩) 64 cap) ∧ w'.ownsRow w.heap.size 3 1 (.slice (some ⟨g, 0, none⟩) 64 cap) 64 (rowOf (bitAt x) 64) ∧ Below w.heap.size w w' ∧ w.heap.size ≤ g ∧ 64 ≤ cap ∧ (∀ j, j < 64 → w'.cell? ⟨g, j, none⟩ = some (.int .i64 (bitAt x j : Nat))) ∧ g < w'.heap.size := by
  refine (bits_any x hx w).mono ?_
  rintro e w1 ⟨v1, rfl, hv1, hb1⟩
  have hv2 := hv1.2
  rcases hv2 with ⟨_, h64⟩ | ⟨g, cap, cur, rfl, hg, hbl, hnc, hcm, _, _⟩
  · omega
  exact ⟨g, cap, rfl, hv1, hb1, hg, hnc, fun j hj => by rw [hv1.cellAt j (by omega)]; exact rowOf_get _ 64 j hj, by have := hv1.lt g rfl; omega⟩
theorem below_grownBy {w w' : World} (h : Below w.heap.size w w') (row : Option Nat) : w.grownBy w' row := ⟨h.os, h.tape, h.output, h.size, fun k hk _ => h.block k hk⟩
def bwF (h a b i : Nat) : Nat := if h = 0 then (bitAt a i + bitAt b i) / 2 else if h = 1 then min (bitAt a i + bitAt b i) 1 else (bitAt a i + bitAt b i) % 2
theorem bwF_le (h a b i : Nat) : bwF h a b i ≤ 1 := by
  have h1 := bitAt_le a i
  have h2 := bitAt_le b i
  unfold bwF; split; omega; split <;> omega
theorem bw_bit (a b j : Nat) (ha : a < 18446744073709551616) (h : ¬ j < 64) : a.testBit j = false := testBit_lt64 a j 64 ha h
theorem bit_num (a j : Nat) : bitAt a j = if a.testBit j then 1 else 0 := by
  have h := bitAt_one a j
  have h1 := bitAt_le a j
  split
  · rename_i e; rw [e] at h; simpa using h
  · rename_i e; simp only [Bool.not_eq_true] at e; rw [e] at h; simp at h; omega
theorem and_eq (a b : Nat) (ha : a < 18446744073709551616) (hb : b < 18446744073709551616) : hiOf (bwF 0 a b) 64 0 = a &&& b := by
  apply hiOf_eq _ _ _ (fun _ _ => bwF_le _ _ _ _)
  intro j
  rw [Nat.testBit_and]
  by_cases h : j < 64
  · unfold bwF; rw [if_pos rfl, bit_num, bit_num]; cases a.testBit j <;> cases b.testBit j <;> simp [h]
  · rw [bw_bit a b j ha h]; simp [h]
theorem or_eq (a b : Nat) (ha : a < 18446744073709551616) (hb : b < 18446744073709551616) : hiOf (bwF 1 a b) 64 0 = a ||| b := by
  apply hiOf_eq _ _ _ (fun _ _ => bwF_le _ _ _ _)
  intro j
  rw [Nat.testBit_or]
  by_cases h : j < 64
  · unfold bwF; rw [if_neg (by decide), if_pos rfl, bit_num, bit_num]; cases a.testBit j <;> cases b.testBit j <;> simp [h]
  · rw [bw_bit a b j ha h, bw_bit b a j hb h]; simp [h]
set_option maxHeartbeats 800000 in
theorem bw_0 (a b : Nat) (ha : a < 18446744073709551616) (hbb : b < 18446744073709551616) (w : World) : Calls Try.prog 101 #[.int .u64 (a : Int), .int .u64 (b : Int), .int .i64 0] w fun e w' => e = .returned (.int .u64 ((hiOf (bwF 0 a b) 64 0 : Nat) : Int)) ∧ Below w.heap.size w w' := by
  obtain ⟨i0, hi, hz0, hz1, hz2⟩ := info_parts Try.info3
  go_enter Try.func101, Try.ntmps101
  go_wp2_with fail
  refine (bits_sl a ha _).mono ?_
  rintro e w0 ⟨g, cap, rfl, _, hb0, hg, hnc, hcs, hgs⟩
  go_wp2_with fail
  refine (bits_sl b hbb _).mono ?_
  rintro e w1 ⟨g2, cap2, rfl, _, hb1, hg2, hnc2, hcs2, hgs2⟩
  have hcs1 : ∀ j, j < 64 → w1.cell? ⟨g, j, none⟩ = some (.int .i64 (bitAt a j : Nat)) := fun j hj => by rw [hb1.cell (p := ⟨g, j, none⟩) hgs]; exact hcs j hj
  have hgs1 : g < w1.heap.size := by have := hb1.size; omega
  have hb01 : Below w.heap.size w w1 := hb0.trans (hb1.mono hb0.size)
  have HC : Hid (∀ j, j < 64 → w1.cell? ⟨g, j, none⟩ = some (.int .i64 (bitAt a j : Nat))) := hcs1
  have HC2 : Hid (∀ j, j < 64 → w1.cell? ⟨g2, j, none⟩ = some (.int .i64 (bitAt b j : Nat))) := hcs2
  clear hcs hcs1 hcs2 hb0 hb1 hgs
  go_wp2_with fail
  go_loopw [9, 10] (fun v i wr => ∃ k : Nat, k ≤ 64 ∧ i = .int .i64 k ∧ wr.ownsRow w1.heap.size 3 1 v k (rowOf (bwF 0 a b) k) ∧ Below w1.heap.size w1 wr)
    (fun _ i _ => 64 - (intOf i).toNat)
  case atStart => exact ⟨0, by omega, rfl, World.ownsRow_nil _ _ _ _, Below.refl _ _⟩
  case round =>
    obtain ⟨k, hk, rfl, hown, hb⟩ := hrel
    have hr := rowOf_succ (bwF 0 a b) k
    by_cases hlt : k < 64
    · have hlt1 : (k : Int) < 64 := by omega
      have hc : wr.cell? ⟨g, k, none⟩ = some (.int .i64 (bitAt a k : Nat)) := by rw [hb.cell (p := ⟨g, k, none⟩) hgs1]; exact HC.out _ (by omega)
      have hc2 : wr.cell? ⟨g2, k, none⟩ = some (.int .i64 (bitAt b k : Nat)) := by rw [hb.cell (p := ⟨g2, k, none⟩) hgs2]; exact HC2.out _ (by omega)
      rw [show bwF 0 a b k = (bitAt a k + bitAt b k) / 2 from rfl] at hr
      have hp1 := bitAt_le a k
      have hq1 := bitAt_le b k
      generalize bitAt a k = p at *
      generalize bitAt b k = q at *
      obtain ⟨vv, hvv, hmin⟩ : ∃ vv : Int, (((p + q) / 2 : Nat) : Int) = vv ∧ ((p : Int) + q) / 2 = vv := ⟨_, rfl, by omega⟩
      rw [hvv] at hr
      have HR : Hid _ := hr
      clear hr hvv
      go_wp2_with fail
      go_quiet (fail)
      replace hown := hown.kept (below_grownBy (below_drewN (Below.refl wr.heap.size wr) nq) none) (Classical.em _)
      replace hb := below_drewN hb nq
      clear hc hc2
      generalize wr.drewN nq = wz at *
      go_wp2_with (first | (at_builtin; refine wpList_append_own _ rfl _ _ 91 rfl w1.heap.size 3 i0 (.int .i64 0) 1 8 Try.underlying91 hi hz0 hz1 hz2 rfl (by decide) _ _ _ rfl (hown.alloc _) ⟨wz.heap.size, 0, none⟩ 1 1 _ rfl rfl (cell_one_new _ _ _) ?c2 ?c3 ?c4 ?c5 ?_))
      case c2 => first | rfl | (intro u hu; simp at hu; subst hu; rfl)
      case c3 => unfold maxLen; omega
      case c4 => omega
      case c5 => have := hb.size; simp; omega
      · intro v' w2 hown' hgrow _
        have hb2 := grow_step hb hb.size hown hgrow
        have hown2 : w2.ownsRow w1.heap.size 3 1 v' (k + 1) (rowOf (bwF 0 a b) (k + 1)) := by rw [HR.out]; exact hown'
        clear hown' hgrow hown hb
        go_wp2
        go_roundw
        case rel => exact ⟨k + 1, by omega, by go_num, hown2, hb2⟩
        case measure => simp [intOf]; omega
    · obtain rfl : k = 64 := by omega
      have hfin : Below w.heap.size w wr := hb01.trans (hb.mono hb01.size)
      go_wp2_with (first | (go_at_call 48; refine (word_any _ _ _ _ (Nat.le_refl _) (fun _ _ => bwF_le _ _ _ _) _ hown).mono ?_; rintro e w' ⟨rfl, rfl⟩))
      go_ret
      exact ⟨rfl, hfin⟩
set_option maxHeartbeats 800000 in
theorem bw_1 (a b : Nat) (ha : a < 18446744073709551616) (hbb : b < 18446744073709551616) (w : World) : Calls Try.prog 101 #[.int .u64 (a : Int), .int .u64 (b : Int), .int .i64 1] w fun e w' => e = .returned (.int .u64 ((hiOf (bwF 1 a b) 64 0 : Nat) : Int)) ∧ Below w.heap.size w w' := by
  obtain ⟨i0, hi, hz0, hz1, hz2⟩ := info_parts Try.info3
  go_enter Try.func101, Try.ntmps101
  go_wp2_with fail
  refine (bits_sl a ha _).mono ?_
  rintro e w0 ⟨g, cap, rfl, _, hb0, hg, hnc, hcs, hgs⟩
  go_wp2_with fail
  refine (bits_sl b hbb _).mono ?_
  rintro e w1 ⟨g2, cap2, rfl, _, hb1, hg2, hnc2, hcs2, hgs2⟩
  have hcs1 : ∀ j, j < 64 → w1.cell? ⟨g, j, none⟩ = some (.int .i64 (bitAt a j : Nat)) := fun j hj => by rw [hb1.cell (p := ⟨g, j, none⟩) hgs]; exact hcs j hj
  have hgs1 : g < w1.heap.size := by have := hb1.size; omega
  have hb01 : Below w.heap.size w w1 := hb0.trans (hb1.mono hb0.size)
  have HC : Hid (∀ j, j < 64 → w1.cell? ⟨g, j, none⟩ = some (.int .i64 (bitAt a j : Nat))) := hcs1
  have HC2 : Hid (∀ j, j < 64 → w1.cell? ⟨g2, j, none⟩ = some (.int .i64 (bitAt b j : Nat))) := hcs2
  clear hcs hcs1 hcs2 hb0 hb1 hgs
  go_wp2_with fail
  go_loopw [9, 10] (fun v i wr => ∃ k : Nat, k ≤ 64 ∧ i = .int .i64 k ∧ wr.ownsRow w1.heap.size 3 1 v k (rowOf (bwF 1 a b) k) ∧ Below w1.heap.size w1 wr)
    (fun _ i _ => 64 - (intOf i).toNat)
  case atStart => exact ⟨0, by omega, rfl, World.ownsRow_nil _ _ _ _, Below.refl _ _⟩
  case round =>
    obtain ⟨k, hk, rfl, hown, hb⟩ := hrel
    have hr := rowOf_succ (bwF 1 a b) k
    by_cases hlt : k < 64
    · have hlt1 : (k : Int) < 64 := by omega
      have hc : wr.cell? ⟨g, k, none⟩ = some (.int .i64 (bitAt a k : Nat)) := by rw [hb.cell (p := ⟨g, k, none⟩) hgs1]; exact HC.out _ (by omega)
      have hc2 : wr.cell? ⟨g2, k, none⟩ = some (.int .i64 (bitAt b k : Nat)) := by rw [hb.cell (p := ⟨g2, k, none⟩) hgs2]; exact HC2.out _ (by omega)
      rw [show bwF 1 a b k = min (bitAt a k + bitAt b k) 1 from rfl] at hr
      have hp1 := bitAt_le a k
      have hq1 := bitAt_le b k
      generalize bitAt a k = p at *
      generalize bitAt b k = q at *
      obtain ⟨vv, hvv, hmin⟩ : ∃ vv : Int, ((min (p + q) 1 : Nat) : Int) = vv ∧ (if (1 : Int) < (p : Int) + q then (1 : Int) else (p : Int) + q) = vv := ⟨_, rfl, by split <;> omega⟩
      rw [hvv] at hr
      have HR : Hid _ := hr
      clear hr hvv
      go_wp2_with fail
      go_quiet (fail)
      replace hown := hown.kept (below_grownBy (below_drewN (Below.refl wr.heap.size wr) nq) none) (Classical.em _)
      replace hb := below_drewN hb nq
      clear hc hc2
      generalize wr.drewN nq = wz at *
      go_wp2_with (first | (at_builtin; refine wpList_append_own _ rfl _ _ 91 rfl w1.heap.size 3 i0 (.int .i64 0) 1 8 Try.underlying91 hi hz0 hz1 hz2 rfl (by decide) _ _ _ rfl (hown.alloc _) ⟨wz.heap.size, 0, none⟩ 1 1 _ rfl rfl (cell_one_new _ _ _) ?c2 ?c3 ?c4 ?c5 ?_))
      case c2 => first | rfl | (intro u hu; simp at hu; subst hu; rfl)
      case c3 => unfold maxLen; omega
      case c4 => omega
      case c5 => have := hb.size; simp; omega
      · intro v' w2 hown' hgrow _
        have hb2 := grow_step hb hb.size hown hgrow
        have hown2 : w2.ownsRow w1.heap.size 3 1 v' (k + 1) (rowOf (bwF 1 a b) (k + 1)) := by rw [HR.out]; exact hown'
        clear hown' hgrow hown hb
        go_wp2
        go_roundw
        case rel => exact ⟨k + 1, by omega, by go_num, hown2, hb2⟩
        case measure => simp [intOf]; omega
    · obtain rfl : k = 64 := by omega
      have hfin : Below w.heap.size w wr := hb01.trans (hb.mono hb01.size)
      go_wp2_with (first | (go_at_call 48; refine (word_any _ _ _ _ (Nat.le_refl _) (fun _ _ => bwF_le _ _ _ _) _ hown).mono ?_; rintro e w' ⟨rfl, rfl⟩))
      go_ret
      exact ⟨rfl, hfin⟩
theorem bwF_lt (h a b : Nat) : hiOf (bwF h a b) 64 0 < 18446744073709551616 := hiOf_small _ (fun _ _ => bwF_le _ _ _ _)
set_option maxHeartbeats 800000 in
theorem rdo_and (a b : Nat) (ha : a < 18446744073709551616) (hb : b < 18446744073709551616) (w : World) : Calls Try.prog 83 #[.int .i64 40, .int .u64 (a : Int), .int .u64 (b : Int)] w fun e w' => e = .returned (.tuple #[.int .u64 ((a &&& b : Nat) : Int), .bool true]) ∧ Below w.heap.size w w' := by
  have hbw : ∀ w, Calls Try.prog 101 #[.int .u64 (a : Int), .int .u64 (b : Int), .int .i64 0] w fun e w' => e = .returned (.int .u64 ((a &&& b : Nat) : Int)) ∧ Below w.heap.size w w' := fun w => by
    have h := bw_0 a b ha hb w
    rw [and_eq a b ha hb] at h
    exact h
  generalize ((a &&& b : Nat) : Int) = r at *
  go_enter Try.func83, Try.ntmps83
  go_wp2_with fail
  refine (hbw _).mono ?_
  rintro e w1 ⟨rfl, hb1⟩
  go_wp2_with fail
  go_ret2
  exact ⟨rfl, hb1⟩
theorem rand_any (a b : Nat) (ha : a < 18446744073709551616) (hb : b < 18446744073709551616) (w : World) : Calls Try.prog 45 #[.int .u64 (a : Int), .int .u64 (b : Int)] w fun e w' => e = .returned (.int .u64 ((a &&& b : Nat) : Int)) ∧ Below w.heap.size w w' := by
  have h := fun w => rdo_and a b ha hb w
  generalize ((a &&& b : Nat) : Int) = r at *
  go_enter Try.func45, Try.ntmps45
  go_wp2_with fail
  refine (h _).mono ?_
  rintro e w1 ⟨rfl, hb1⟩
  go_wp2_with fail
  go_ret
  exact ⟨rfl, hb1⟩
set_option maxHeartbeats 800000 in
theorem rdo_or (a b : Nat) (ha : a < 18446744073709551616) (hb : b < 18446744073709551616) (w : World) : Calls Try.prog 83 #[.int .i64 39, .int .u64 (a : Int), .int .u64 (b : Int)] w fun e w' => e = .returned (.tuple #[.int .u64 ((a ||| b : Nat) : Int), .bool true]) ∧ Below w.heap.size w w' := by
  have hbw : ∀ w, Calls Try.prog 101 #[.int .u64 (a : Int), .int .u64 (b : Int), .int .i64 1] w fun e w' => e = .returned (.int .u64 ((a ||| b : Nat) : Int)) ∧ Below w.heap.size w w' := fun w => by
    have h := bw_1 a b ha hb w
    rw [or_eq a b ha hb] at h
    exact h
  generalize ((a ||| b : Nat) : Int) = r at *
  go_enter Try.func83, Try.ntmps83
  go_wp2_with fail
  refine (hbw _).mono ?_
  rintro e w1 ⟨rfl, hb1⟩
  go_wp2_with fail
  go_ret2
  exact ⟨rfl, hb1⟩
theorem ror_any (a b : Nat) (ha : a < 18446744073709551616) (hb : b < 18446744073709551616) (w : World) : Calls Try.prog 95 #[.int .u64 (a : Int), .int .u64 (b : Int)] w fun e w' => e = .returned (.int .u64 ((a ||| b : Nat) : Int)) ∧ Below w.heap.size w w' := by
  have h := fun w => rdo_or a b ha hb w
  generalize ((a ||| b : Nat) : Int) = r at *
  go_enter Try.func95, Try.ntmps95
  go_wp2_with fail
  refine (h _).mono ?_
  rintro e w1 ⟨rfl, hb1⟩
  go_wp2_with fail
  go_ret
  exact ⟨rfl, hb1⟩
end Go.Proofs.Ytalgidnmmghejaa.E
