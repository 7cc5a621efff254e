/- The document's calls left and right of layer 5. -/
import Derived.Test.YtgaihgniommhiaaAny
namespace Go.Proofs.Ytgaihgniommhiaa
open Go.RowKit
set_option linter.unusedVariables false
set_option linter.unusedSimpArgs false
def leftF (a n i : Nat) : Nat := if i < n then 0 else bitAt a (i - n)
theorem leftF_le (a n i : Nat) : leftF a n i ≤ 1 := by unfold leftF; split; omega; exact bitAt_le _ _
theorem leftF_lo (a n i : Nat) (h : i < n) : leftF a n i = 0 := by unfold leftF; rw [if_pos h]
theorem leftF_hi (a n i : Nat) (h : ¬ i < n) : leftF a n i = bitAt a (i - n) := by unfold leftF; rw [if_neg h]
def rightF (a n d : Nat) (s : Bool) (i : Nat) : Nat := if i + n < d then bitAt a (i + n) else if s then bitAt a (d - 1) else 0
theorem rightF_le (a n d : Nat) (s : Bool) (i : Nat) : rightF a n d s i ≤ 1 := by unfold rightF; split; exact bitAt_le _ _; split; exact bitAt_le _ _; omega
theorem rightF_in (a n d : Nat) (s : Bool) (i : Nat) (h : i + n < d) : rightF a n d s i = bitAt a (i + n) := by unfold rightF; rw [if_pos h]
theorem rightF_sg (a n d : Nat) (i : Nat) (h : ¬ i + n < d) : rightF a n d true i = bitAt a (d - 1) := by unfold rightF; rw [if_neg h, if_pos rfl]
theorem rightF_no (a n d : Nat) (i : Nat) (h : ¬ i + n < d) : rightF a n d false i = 0 := by unfold rightF; rw [if_neg h, if_neg (by decide)]
set_option maxHeartbeats 400000 in
theorem left_any (a n d : Nat) (ha : a < 18446744073709551616) (hn : n < 64) (hd : d ≤ 64) (w : World) : Calls Try.prog 19 #[.int .u64 (a : Int), .int .i64 (n : Int), .int .i64 (d : Int)] w fun e w' => e = .returned (.int .u64 ((hiOf (leftF a n) d 0 : Nat) : Int)) ∧ Below w.heap.size w w' := by
  obtain ⟨i0, hi, hz0, hz1, hz2⟩ := info_parts Try.info3
  go_enter Try.func19, Try.ntmps19
  go_wp2_with (first | (go_at_call 28; refine (bits_any a ha _).mono ?_; rintro e w1 ⟨v1, rfl, hv1, hb1⟩))
  have hv2 := hv1.2
  rcases hv2 with ⟨_, h64⟩ | ⟨g, cap, cur, rfl, hg, hbl, hnc, hcm, _, _⟩
  · omega
  have hcell : ∀ j, j < 64 → w1.cell? ⟨g, j, none⟩ = some (.int .i64 (bitAt a j : Nat)) := fun j hj => by rw [hv1.cellAt j (by omega)]; exact rowOf_get _ 64 j hj
  have hgs : g < w1.heap.size := by have := hv1.lt g rfl; omega
  have HC : Hid (∀ j, j < 64 → w1.cell? ⟨g, j, none⟩ = some (.int .i64 (bitAt a j : Nat))) := hcell
  clear hbl hv1 hcell
  go_loopw [8, 9] (fun v i wr => ∃ k : Nat, k ≤ d ∧ i = .int .i64 k ∧ wr.ownsRow w1.heap.size 3 1 v k (rowOf (leftF a n) k) ∧ Below w1.heap.size w1 wr)
    (fun _ i _ => 64 - (intOf i).toNat)
  case atStart => exact ⟨0, by omega, rfl, World.ownsRow_nil _ _ _ _, Below.refl _ _⟩
  case round =>
    obtain ⟨k, hk, rfl, hown, hb⟩ := hrel
    have hr := rowOf_succ (leftF a n) k
    by_cases hlt : k < d
    · have hlt1 : (k : Int) < d := by omega
      by_cases hkn : k < n
      · rw [leftF_lo a n k hkn] at hr
        have HR : Hid _ := hr
        clear hr
        have hkn1 : (k : Int) < n := by omega
        go_wp2_with (first | (at_builtin; refine wpList_append_own _ rfl _ _ 43 rfl w1.heap.size 3 i0 (.int .i64 0) 1 8 Try.underlying43 hi hz0 hz1 hz2 rfl (by decide) _ _ _ rfl (hown.alloc _) ⟨wr.heap.size, 0, none⟩ 1 1 _ rfl rfl (cell_one_new _ _ _) ?c2 ?c3 ?c4 ?c5 ?_))
        case c2 => first | rfl | (intro u hu; simp at hu; subst hu; rfl)
        case c3 => unfold maxLen; omega
        case c4 => omega
        case c5 => have := hb.size; simp; omega
        · intro v' w2 hown' hgrow _
          have hb2 := grow_step hb hb.size hown hgrow
          have hown2 : w2.ownsRow w1.heap.size 3 1 v' (k + 1) (rowOf (leftF a n) (k + 1)) := by rw [HR.out]; exact hown'
          clear hown' hgrow hown hb 
          go_wp2
          go_roundw
          case rel => exact ⟨k + 1, by omega, by go_num, hown2, hb2⟩
          case measure => simp [intOf]; omega
      · rw [leftF_hi a n k hkn] at hr
        have HR : Hid _ := hr
        clear hr
        have hkn1 : ¬ (k : Int) < n := by omega
        obtain ⟨j, hj⟩ : ∃ j, k - n = j := ⟨_, rfl⟩
        have hjk : (k : Int) - n = j := by omega
        have hc : wr.cell? ⟨g, j, none⟩ = some (.int .i64 (bitAt a (k - n) : Nat)) := by rw [hj, hb.cell (p := ⟨g, j, none⟩) hgs]; exact HC.out _ (by omega)
        have hj64 : (j : Int) < 64 := by omega
        generalize bitAt a (k - n) = bt at *
        go_wp2_with (first | (at_builtin; refine wpList_append_own _ rfl _ _ 43 rfl w1.heap.size 3 i0 (.int .i64 0) 1 8 Try.underlying43 hi hz0 hz1 hz2 rfl (by decide) _ _ _ rfl (hown.alloc _) ⟨wr.heap.size, 0, none⟩ 1 1 _ rfl rfl (cell_one_new _ _ _) ?c2 ?c3 ?c4 ?c5 ?_))
        case c2 => first | rfl | (intro u hu; simp at hu; subst hu; rfl)
        case c3 => unfold maxLen; omega
        case c4 => omega
        case c5 => have := hb.size; simp; omega
        · intro v' w2 hown' hgrow _
          have hb2 := grow_step hb hb.size hown hgrow
          have hown2 : w2.ownsRow w1.heap.size 3 1 v' (k + 1) (rowOf (leftF a n) (k + 1)) := by rw [HR.out]; exact hown'
          clear hown' hgrow hown hb hc
          go_wp2
          go_roundw
          case rel => exact ⟨k + 1, by omega, by go_num, hown2, hb2⟩
          case measure => simp [intOf]; omega
    · obtain rfl : k = d := by omega
      have hfin : Below w.heap.size w wr := hb1.trans (hb.mono hb1.size)
      go_wp2_with (first | (go_at_call 29; refine (word_any _ _ _ _ hd (fun _ _ => leftF_le _ _ _) _ hown).mono ?_; rintro e w' ⟨rfl, rfl⟩))
      go_ret
      exact ⟨rfl, hfin⟩
set_option maxHeartbeats 400000 in
theorem right_sg (a n d : Nat) (ha : a < 18446744073709551616) (hn : n < 64) (hd : d ≤ 64) (w : World) : Calls Try.prog 20 #[.int .u64 (a : Int), .int .i64 (n : Int), .int .i64 (d : Int), .bool true] w fun e w' => e = .returned (.int .u64 ((hiOf (rightF a n d true) d 0 : Nat) : Int)) ∧ Below w.heap.size w w' := by
  obtain ⟨i0, hi, hz0, hz1, hz2⟩ := info_parts Try.info3
  go_enter Try.func20, Try.ntmps20
  go_wp2_with (first | (go_at_call 28; refine (bits_any a ha _).mono ?_; rintro e w1 ⟨v1, rfl, hv1, hb1⟩))
  have hv2 := hv1.2
  rcases hv2 with ⟨_, h64⟩ | ⟨g, cap, cur, rfl, hg, hbl, hnc, hcm, _, _⟩
  · omega
  have hcell : ∀ j, j < 64 → w1.cell? ⟨g, j, none⟩ = some (.int .i64 (bitAt a j : Nat)) := fun j hj => by rw [hv1.cellAt j (by omega)]; exact rowOf_get _ 64 j hj
  have hgs : g < w1.heap.size := by have := hv1.lt g rfl; omega
  have HC : Hid (∀ j, j < 64 → w1.cell? ⟨g, j, none⟩ = some (.int .i64 (bitAt a j : Nat))) := hcell
  clear hbl hv1 hcell
  go_loopw [10, 11] (fun v i wr => ∃ k : Nat, k ≤ d ∧ i = .int .i64 k ∧ wr.ownsRow w1.heap.size 3 1 v k (rowOf (rightF a n d true) k) ∧ Below w1.heap.size w1 wr)
    (fun _ i _ => 64 - (intOf i).toNat)
  case atStart => exact ⟨0, by omega, rfl, World.ownsRow_nil _ _ _ _, Below.refl _ _⟩
  case round =>
    obtain ⟨k, hk, rfl, hown, hb⟩ := hrel
    have hr := rowOf_succ (rightF a n d true) k
    by_cases hlt : k < d
    · have hlt1 : (k : Int) < d := by omega
      by_cases hkn : k + n < d
      · rw [rightF_in a n d true k hkn] at hr
        have HR : Hid _ := hr
        clear hr
        have hkn1 : (k : Int) + n < d := by omega
        obtain ⟨j, hj⟩ : ∃ j, k + n = j := ⟨_, rfl⟩
        have hjk : ((k : Int) + n).toNat = j := by omega
        have hc : wr.cell? ⟨g, j, none⟩ = some (.int .i64 (bitAt a (k + n) : Nat)) := by rw [hj, hb.cell (p := ⟨g, j, none⟩) hgs]; exact HC.out _ (by omega)
        have hj64 : (k : Int) + n < 64 := by omega
        generalize bitAt a (k + n) = bt at *
        go_wp2_with (first | (at_builtin; refine wpList_append_own _ rfl _ _ 43 rfl w1.heap.size 3 i0 (.int .i64 0) 1 8 Try.underlying43 hi hz0 hz1 hz2 rfl (by decide) _ _ _ rfl (hown.alloc _) ⟨wr.heap.size, 0, none⟩ 1 1 _ rfl rfl (cell_one_new _ _ _) ?c2 ?c3 ?c4 ?c5 ?_))
        case c2 => first | rfl | (intro u hu; simp at hu; subst hu; rfl)
        case c3 => unfold maxLen; omega
        case c4 => omega
        case c5 => have := hb.size; simp; omega
        · intro v' w2 hown' hgrow _
          have hb2 := grow_step hb hb.size hown hgrow
          have hown2 : w2.ownsRow w1.heap.size 3 1 v' (k + 1) (rowOf (rightF a n d true) (k + 1)) := by rw [HR.out]; exact hown'
          clear hown' hgrow hown hb hc
          go_wp2
          go_roundw
          case rel => exact ⟨k + 1, by omega, by go_num, hown2, hb2⟩
          case measure => simp [intOf]; omega
      · rw [rightF_sg a n d k hkn] at hr
        have HR : Hid _ := hr
        clear hr
        have hkn1 : ¬ (k : Int) + n < d := by omega
        obtain ⟨j, hj⟩ : ∃ j, d - 1 = j := ⟨_, rfl⟩
        have hjk : ((d : Int) - 1).toNat = j := by omega
        have hc : wr.cell? ⟨g, j, none⟩ = some (.int .i64 (bitAt a (d - 1) : Nat)) := by rw [hj, hb.cell (p := ⟨g, j, none⟩) hgs]; exact HC.out _ (by omega)
        have hj64 : (d : Int) - 1 < 64 := by omega
        have hj0 : 0 ≤ (d : Int) - 1 := by omega
        generalize bitAt a (d - 1) = bt at *
        go_wp2_with (first | (at_builtin; refine wpList_append_own _ rfl _ _ 43 rfl w1.heap.size 3 i0 (.int .i64 0) 1 8 Try.underlying43 hi hz0 hz1 hz2 rfl (by decide) _ _ _ rfl (hown.alloc _) ⟨wr.heap.size, 0, none⟩ 1 1 _ rfl rfl (cell_one_new _ _ _) ?c2 ?c3 ?c4 ?c5 ?_))
        case c2 => first | rfl | (intro u hu; simp at hu; subst hu; rfl)
        case c3 => unfold maxLen; omega
        case c4 => omega
        case c5 => have := hb.size; simp; omega
        · intro v' w2 hown' hgrow _
          have hb2 := grow_step hb hb.size hown hgrow
          have hown2 : w2.ownsRow w1.heap.size 3 1 v' (k + 1) (rowOf (rightF a n d true) (k + 1)) := by rw [HR.out]; exact hown'
          clear hown' hgrow hown hb hc
          go_wp2
          go_roundw
          case rel => exact ⟨k + 1, by omega, by go_num, hown2, hb2⟩
          case measure => simp [intOf]; omega
    · obtain rfl : k = d := by omega
      have hfin : Below w.heap.size w wr := hb1.trans (hb.mono hb1.size)
      go_wp2_with (first | (go_at_call 29; refine (word_any _ _ _ _ hd (fun _ _ => rightF_le _ _ _ _ _) _ hown).mono ?_; rintro e w' ⟨rfl, rfl⟩))
      go_ret
      exact ⟨rfl, hfin⟩
set_option maxHeartbeats 400000 in
theorem right_no (a n d : Nat) (ha : a < 18446744073709551616) (hn : n < 64) (hd : d ≤ 64) (w : World) : Calls Try.prog 20 #[.int .u64 (a : Int), .int .i64 (n : Int), .int .i64 (d : Int), .bool false] w fun e w' => e = .returned (.int .u64 ((hiOf (rightF a n d false) d 0 : Nat) : Int)) ∧ Below w.heap.size w w' := by
  obtain ⟨i0, hi, hz0, hz1, hz2⟩ := info_parts Try.info3
  go_enter Try.func20, Try.ntmps20
  go_wp2_with (first | (go_at_call 28; refine (bits_any a ha _).mono ?_; rintro e w1 ⟨v1, rfl, hv1, hb1⟩))
  have hv2 := hv1.2
  rcases hv2 with ⟨_, h64⟩ | ⟨g, cap, cur, rfl, hg, hbl, hnc, hcm, _, _⟩
  · omega
  have hcell : ∀ j, j < 64 → w1.cell? ⟨g, j, none⟩ = some (.int .i64 (bitAt a j : Nat)) := fun j hj => by rw [hv1.cellAt j (by omega)]; exact rowOf_get _ 64 j hj
  have hgs : g < w1.heap.size := by have := hv1.lt g rfl; omega
  have HC : Hid (∀ j, j < 64 → w1.cell? ⟨g, j, none⟩ = some (.int .i64 (bitAt a j : Nat))) := hcell
  clear hbl hv1 hcell
  go_loopw [10, 11] (fun v i wr => ∃ k : Nat, k ≤ d ∧ i = .int .i64 k ∧ wr.ownsRow w1.heap.size 3 1 v k (rowOf (rightF a n d false) k) ∧ Below w1.heap.size w1 wr)
    (fun _ i _ => 64 - (intOf i).toNat)
  case atStart => exact ⟨0, by omega, rfl, World.ownsRow_nil _ _ _ _, Below.refl _ _⟩
  case round =>
    obtain ⟨k, hk, rfl, hown, hb⟩ := hrel
    have hr := rowOf_succ (rightF a n d false) k
    by_cases hlt : k < d
    · have hlt1 : (k : Int) < d := by omega
      by_cases hkn : k + n < d
      · rw [rightF_in a n d false k hkn] at hr
        have HR : Hid _ := hr
        clear hr
        have hkn1 : (k : Int) + n < d := by omega
        obtain ⟨j, hj⟩ : ∃ j, k + n = j := ⟨_, rfl⟩
        have hjk : ((k : Int) + n).toNat = j := by omega
        have hc : wr.cell? ⟨g, j, none⟩ = some (.int .i64 (bitAt a (k + n) : Nat)) := by rw [hj, hb.cell (p := ⟨g, j, none⟩) hgs]; exact HC.out _ (by omega)
        have hj64 : (k : Int) + n < 64 := by omega
        generalize bitAt a (k + n) = bt at *
        go_wp2_with (first | (at_builtin; refine wpList_append_own _ rfl _ _ 43 rfl w1.heap.size 3 i0 (.int .i64 0) 1 8 Try.underlying43 hi hz0 hz1 hz2 rfl (by decide) _ _ _ rfl (hown.alloc _) ⟨wr.heap.size, 0, none⟩ 1 1 _ rfl rfl (cell_one_new _ _ _) ?c2 ?c3 ?c4 ?c5 ?_))
        case c2 => first | rfl | (intro u hu; simp at hu; subst hu; rfl)
        case c3 => unfold maxLen; omega
        case c4 => omega
        case c5 => have := hb.size; simp; omega
        · intro v' w2 hown' hgrow _
          have hb2 := grow_step hb hb.size hown hgrow
          have hown2 : w2.ownsRow w1.heap.size 3 1 v' (k + 1) (rowOf (rightF a n d false) (k + 1)) := by rw [HR.out]; exact hown'
          clear hown' hgrow hown hb hc
          go_wp2
          go_roundw
          case rel => exact ⟨k + 1, by omega, by go_num, hown2, hb2⟩
          case measure => simp [intOf]; omega
      · rw [rightF_no a n d k hkn] at hr
        have HR : Hid _ := hr
        clear hr
        have hkn1 : ¬ (k : Int) + n < d := by omega
        go_wp2_with (first | (at_builtin; refine wpList_append_own _ rfl _ _ 43 rfl w1.heap.size 3 i0 (.int .i64 0) 1 8 Try.underlying43 hi hz0 hz1 hz2 rfl (by decide) _ _ _ rfl (hown.alloc _) ⟨wr.heap.size, 0, none⟩ 1 1 _ rfl rfl (cell_one_new _ _ _) ?c2 ?c3 ?c4 ?c5 ?_))
        case c2 => first | rfl | (intro u hu; simp at hu; subst hu; rfl)
        case c3 => unfold maxLen; omega
        case c4 => omega
        case c5 => have := hb.size; simp; omega
        · intro v' w2 hown' hgrow _
          have hb2 := grow_step hb hb.size hown hgrow
          have hown2 : w2.ownsRow w1.heap.size 3 1 v' (k + 1) (rowOf (rightF a n d false) (k + 1)) := by rw [HR.out]; exact hown'
          clear hown' hgrow hown hb 
          go_wp2
          go_roundw
          case rel => exact ⟨k + 1, by omega, by go_num, hown2, hb2⟩
          case measure => simp [intOf]; omega
    · obtain rfl : k = d := by omega
      have hfin : Below w.heap.size w wr := hb1.trans (hb.mono hb1.size)
      go_wp2_with (first | (go_at_call 29; refine (word_any _ _ _ _ hd (fun _ _ => rightF_le _ _ _ _ _) _ hown).mono ?_; rintro e w' ⟨rfl, rfl⟩))
      go_ret
      exact ⟨rfl, hfin⟩
end Go.Proofs.Ytgaihgniommhiaa
