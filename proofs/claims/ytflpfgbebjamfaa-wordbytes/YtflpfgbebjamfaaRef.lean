/- The document's answers of layer 1 that go bit by bit: Mask, Get, Put and Sext come to the numbers of their bits. -/
import Derived.Test.YtflpfgbebjamfaaBits
namespace Go.Proofs.Ytflpfgbebjamfaa
open Go.RowKit
theorem ret_eq {a b : Nat} (h : a = b) : Ending.returned (.int .u64 (a : Int)) = .returned (.int .u64 (b : Int)) := by rw [h]
set_option maxHeartbeats 400000 in
theorem rmask_any (n : Int) (m : Nat) (hm : m = (min n 64).toNat) (w : World) :
    Calls Try.prog 12 #[.int .i64 n] w fun e w' => e = .returned (.int .u64 (hiOf (fun _ => 1) m 0 : Nat)) ∧ Below w.heap.size w w' := by
  obtain ⟨i0, hi, hz0, hz1, hz2⟩ := info_parts Try.info3
  have hm1 : m ≤ 64 := by omega
  obtain ⟨mm, hmin⟩ : ∃ mm, (if 64 < n then (64 : Int) else n) = mm := ⟨_, rfl⟩
  have hmm : m = mm.toNat := by rw [hm, ← hmin]; split <;> omega
  have HM : Hid (m = mm.toNat) := hmm
  clear hm hmm
  go_enter Try.func12, Try.ntmps12
  go_wp2
  go_loopw [3, 4] (fun v i wr => ∃ k : Nat, k ≤ m ∧ i = .int .i64 k ∧ wr.ownsRow w.heap.size 3 1 v k (rowOf (fun _ => 1) k) ∧ Below w.heap.size w wr)
    (fun _ i _ => 64 - (intOf i).toNat)
  case atStart => exact ⟨0, by omega, rfl, World.ownsRow_nil _ _ _ _, Below.refl _ _⟩
  case round =>
    obtain ⟨k, hk, rfl, hown, hb⟩ := hrel
    have HR : Hid _ := rowOf_succ (fun _ => 1) k
    by_cases hlt : k < m
    · have hlt1 : (k : Int) < mm := by have := HM.out; omega
      go_wp2_with (first | (at_builtin; refine wpList_append_own _ rfl _ _ 42 rfl w.heap.size 3 i0 (.int .i64 0) 1 8 Try.underlying42 hi hz0 hz1 hz2 rfl (by decide) _ _ _ rfl (hown.alloc _) ⟨wr.heap.size, 0, none⟩ 1 1 _ rfl rfl (cell_one_new _ _ _) ?c2 ?c3 ?c4 ?c5 ?_))
      case c2 => intro u hu; simp at hu; subst hu; rfl
      case c3 => unfold maxLen; omega
      case c4 => omega
      case c5 => have := hb.size; simp; omega
      · intro v' w1 hown' hgrow _
        have hb1 := grow_step hb hb.size hown hgrow
        have hown2 : w1.ownsRow w.heap.size 3 1 v' (k + 1) (rowOf (fun _ => 1) (k + 1)) := by rw [HR.out]; exact hown'
        clear hown' hgrow hown hb
        go_wp2
        go_roundw
        case rel => exact ⟨k + 1, by omega, by go_num, hown2, hb1⟩
        case measure => simp [intOf]; omega
    · obtain rfl : k = m := by omega
      have hlt1 : ¬ (k : Int) < mm := by have := HM.out; omega
      go_wp2_with (first | (go_at_call 27; refine (word_any (fun _ => 1) _ _ _ hm1 (fun _ _ => Nat.le_refl _) _ hown).mono ?_; rintro e w' ⟨rfl, rfl⟩))
      go_ret
      exact ⟨rfl, hb⟩
set_option maxHeartbeats 400000 in
theorem rget_out (x : Nat) (a n : Int) (h : a < 0 ∨ 63 < a) (w : World) :
    Calls Try.prog 10 #[.int .u64 (x : Int), .int .i64 a, .int .i64 n] w fun e w' => e = .returned (.int .u64 0) ∧ w' = w := by
  rcases h with h | h
  · go_enter Try.func10, Try.ntmps10
    go_wp2_with fail
    go_ret
    exact ⟨rfl, rfl⟩
  · go_enter Try.func10, Try.ntmps10
    go_wp2_with fail
    go_ret
    exact ⟨rfl, rfl⟩
set_option maxHeartbeats 400000 in
theorem rget_any (x a : Nat) (n : Int) (m : Nat) (hx : x < 18446744073709551616) (ha : a ≤ 63) (hm : m = (min (min n 64) (64 - a)).toNat) (w : World) :
    Calls Try.prog 10 #[.int .u64 (x : Int), .int .i64 (a : Int), .int .i64 n] w fun e w' => e = .returned (.int .u64 (hiOf (fun i => bitAt x (a + i)) m 0 : Nat)) ∧ Below w.heap.size w w' := by
  obtain ⟨i0, hi, hz0, hz1, hz2⟩ := info_parts Try.info3
  have hm1 : m ≤ 64 := by omega
  obtain ⟨mm, hmin⟩ : ∃ mm, (if 64 < n then (64 : Int) else n) = mm := ⟨_, rfl⟩
  have hmm : m = (min mm (64 - a)).toNat := by rw [hm, ← hmin]; split <;> omega
  have HM : Hid (m = (min mm (64 - a)).toNat) := hmm
  clear hm hmm
  go_enter Try.func10, Try.ntmps10
  go_wp2_with (first | (go_at_call 26; refine (bits_any x hx _).mono ?_; rintro e w1 ⟨v1, rfl, hv1, hb1⟩))
  have hv2 := hv1.2
  rcases hv2 with ⟨_, h64⟩ | ⟨g, cap, cur, rfl, hg, hbl, hnc, hcm, _, _⟩
  · omega
  have hcell : ∀ j, j < 64 → w1.cell? ⟨g, j, none⟩ = some (.int .i64 (bitAt x j : Nat)) := fun j hj => by rw [hv1.cellAt j (by omega)]; exact rowOf_get _ 64 j hj
  have hgs : g < w1.heap.size := by have := hv1.lt g rfl; omega
  have HC : Hid (∀ j, j < 64 → w1.cell? ⟨g, j, none⟩ = some (.int .i64 (bitAt x j : Nat))) := hcell
  clear hbl hv1 hcell
  go_loopw [8, 9] (fun v i wr => ∃ k : Nat, k ≤ m ∧ i = .int .i64 k ∧ wr.ownsRow w1.heap.size 3 1 v k (rowOf (fun i => bitAt x (a + i)) k) ∧ Below w1.heap.size w1 wr)
    (fun _ i _ => 64 - (intOf i).toNat)
  case atStart => exact ⟨0, by omega, rfl, World.ownsRow_nil _ _ _ _, Below.refl _ _⟩
  case round =>
    obtain ⟨k, hk, rfl, hown, hb⟩ := hrel
    have HR : Hid _ := rowOf_succ (fun i => bitAt x (a + i)) k
    by_cases hlt : k < m
    · have hlt1 : (k : Int) < mm := by have := HM.out; omega
      have hlt2 : (a : Int) + k < 64 := by have := HM.out; omega
      have hc : wr.cell? ⟨g, a + k, none⟩ = some (.int .i64 (bitAt x (a + k) : Nat)) := by rw [hb.cell (p := ⟨g, a + k, none⟩) hgs]; exact HC.out _ (by omega)
      have et : ((a : Int) + k).toNat = a + k := by omega
      have hcap : (a : Int) + k < 64 := hlt2
      go_wp2_with (first | (at_builtin; refine wpList_append_own _ rfl _ _ 42 rfl w1.heap.size 3 i0 (.int .i64 0) 1 8 Try.underlying42 hi hz0 hz1 hz2 rfl (by decide) _ _ _ rfl (hown.alloc _) ⟨wr.heap.size, 0, none⟩ 1 1 _ rfl rfl (cell_one_new _ _ _) ?c2 ?c3 ?c4 ?c5 ?_))
      case c2 => intro u hu; simp at hu; subst hu; rfl
      case c3 => unfold maxLen; omega
      case c4 => omega
      case c5 => have := hb.size; simp; omega
      · intro v' w2 hown' hgrow _
        have hb2 := grow_step hb hb.size hown hgrow
        have hown2 : w2.ownsRow w1.heap.size 3 1 v' (k + 1) (rowOf (fun i => bitAt x (a + i)) (k + 1)) := by rw [HR.out]; exact hown'
        clear hown' hgrow hown hb hc
        go_wp2
        go_roundw
        case rel => exact ⟨k + 1, by omega, by go_num, hown2, hb2⟩
        case measure => simp [intOf]; omega
    · obtain rfl : k = m := by omega
      have hfin : Below w.heap.size w wr := hb1.trans (hb.mono hb1.size)
      by_cases hlt1 : (k : Int) < mm
      · have hlt2 : ¬ (a : Int) + k < 64 := by have := HM.out; omega
        go_wp2_with (first | (go_at_call 27; refine (word_any (fun i => bitAt x (a + i)) _ _ _ hm1 (fun _ _ => bitAt_le _ _) _ hown).mono ?_; rintro e w' ⟨rfl, rfl⟩))
        go_ret
        exact ⟨rfl, hfin⟩
      · go_wp2_with (first | (go_at_call 27; refine (word_any (fun i => bitAt x (a + i)) _ _ _ hm1 (fun _ _ => bitAt_le _ _) _ hown).mono ?_; rintro e w' ⟨rfl, rfl⟩))
        go_ret
        exact ⟨rfl, hfin⟩
/-- one store into a row of the call's own -/
theorem rowOf_set (f : Nat → Nat) (n j b : Nat) : (rowOf f n).set j (Value.int .i64 (b : Int)) = rowOf (fun i => if i = j then b else f i) n := by
  apply List.ext_getElem?
  intro i
  simp only [rowOf, List.getElem?_set, List.getElem?_map, List.length_map, List.length_range]
  by_cases h : i < n
  · by_cases e : j = i
    · subst e; simp [h]
    · simp [h, e]; rw [if_neg (fun h' => e h'.symm)]
  · by_cases e : j = i
    · subst e; simp [h]
    · simp [h, e]
/-- the bits of a word behind a piece of another one that was put into it -/
def putF (x v a m : Nat) (j : Nat) : Nat := if a ≤ j ∧ j < a + m then bitAt v (j - a) else bitAt x j
theorem putF_le (x v a m j : Nat) : putF x v a m j ≤ 1 := by unfold putF; split <;> exact bitAt_le _ _
theorem putF_zero (x v a : Nat) : putF x v a 0 = bitAt x := by funext j; simp [putF]; omega
theorem putF_succ (x v a m : Nat) : putF x v a (m + 1) = fun i => if i = a + m then bitAt v m else putF x v a m i := by
  funext i
  simp only [putF]
  by_cases h : i = a + m
  · subst h; simp
  · simp only [h, if_false]
    by_cases h2 : a ≤ i ∧ i < a + m
    · rw [if_pos h2, if_pos (by omega)]
    · rw [if_neg h2, if_neg (by omega)]
/-- the bits of a word with its sign from the bit n - 1 on, till bit k -/
def sextF (x n k : Nat) (j : Nat) : Nat := if n ≤ j ∧ j < k then bitAt x (n - 1) else bitAt x j
theorem sextF_le (x n k j : Nat) : sextF x n k j ≤ 1 := by unfold sextF; split <;> exact bitAt_le _ _
theorem sextF_start (x n : Nat) : sextF x n n = bitAt x := by funext j; simp [sextF]; omega
theorem sextF_succ (x n k : Nat) (h : n ≤ k) : sextF x n (k + 1) = fun i => if i = k then bitAt x (n - 1) else sextF x n k i := by
  funext i
  simp only [sextF]
  by_cases e : i = k
  · subst e; simp [h]
  · simp only [e, if_false]
    by_cases h2 : n ≤ i ∧ i < k
    · rw [if_pos h2, if_pos (by omega)]
    · rw [if_neg h2, if_neg (by omega)]
set_option maxHeartbeats 400000 in
theorem rsext_any (x n : Nat) (hx : x < 18446744073709551616) (h1 : 1 ≤ n) (h2 : n ≤ 63) (w : World) :
    Calls Try.prog 17 #[.int .u64 (x : Int), .int .i64 (n : Int)] w fun e w' => e = .returned (.int .u64 (hiOf (sextF x n 64) 64 0 : Nat)) ∧ Below w.heap.size w w' := by
  go_enter Try.func17, Try.ntmps17
  go_wp2_with (first | (go_at_call 26; refine (bits_any x hx _).mono ?_; rintro e w1 ⟨v1, rfl, hv1, hb1⟩))
  have hv2 := hv1.2
  rcases hv2 with ⟨_, h64⟩ | ⟨g, cap, cur, rfl, hg, hbl, hnc, hcm, _, _⟩
  · omega
  clear hbl
  go_loopw [6] (fun i wr => ∃ k : Nat, n ≤ k ∧ k ≤ 64 ∧ i = .int .i64 k ∧ wr.ownsRow w.heap.size 3 1 (.slice (some ⟨g, 0, none⟩) 64 cap) 64 (rowOf (sextF x n k) 64) ∧ Below w.heap.size w wr)
    (fun i _ => 64 - (intOf i).toNat)
  case atStart => exact ⟨n, Nat.le_refl _, by omega, rfl, by rw [sextF_start]; exact hv1, hb1⟩
  case round =>
    obtain ⟨k, hnk, hk, rfl, hown, hb⟩ := hrel
    by_cases hlt : k < 64
    · have hc : wr.cell? ⟨g, n - 1, none⟩ = some (.int .i64 (bitAt x (n - 1) : Nat)) := by
        rw [hown.cellAt (n - 1) (by omega), rowOf_get _ _ _ (by omega)]
        have : sextF x n k (n - 1) = bitAt x (n - 1) := by unfold sextF; rw [if_neg (by omega)]
        rw [this]
      have hc2 : wr.cell? ⟨g, k, none⟩ = some (.int .i64 (sextF x n k k : Nat)) := by rw [hown.cellAt k (by omega), rowOf_get _ _ _ (by omega)]
      have hfz := hown.frozenAt k
      have hown2 := hown.stored k (.int .i64 (bitAt x (n - 1) : Nat))
      rw [rowOf_set, ← sextF_succ x n k hnk] at hown2
      have hb2 := hb.setCell (p := ⟨g, k, none⟩) hg (.int .i64 (bitAt x (n - 1) : Nat))
      have et : ((n : Int) - 1).toNat = n - 1 := by omega
      have hA : Hid (_ ∧ _) := ⟨hown2, hb2⟩
      clear hown2 hb2 hown hb hv1 hb1
      go_wp2
      go_roundw
      case rel => exact ⟨k + 1, by omega, by omega, by go_num, hA.out.1.1, hA.out.2⟩
      case measure => simp [intOf]; omega
    · obtain rfl : k = 64 := by omega
      go_wp2_with (first | (go_at_call 27; refine (word_any _ _ _ _ (Nat.le_refl _) (fun _ _ => sextF_le _ _ _ _) _ hown).mono ?_; rintro e w' ⟨rfl, rfl⟩))
      go_ret
      exact ⟨rfl, hb⟩
theorem below_grownBy {w w' : World} (h : Below w.heap.size w w') (row : Option Nat) : w.grownBy w' row := ⟨h.os, h.tape, h.output, h.size, fun k hk _ => h.block k hk⟩
theorem rput_out (x v : Nat) (a n : Int) (h : a < 0 ∨ 63 < a) (w : World) :
    Calls Try.prog 15 #[.int .u64 (x : Int), .int .i64 a, .int .i64 n, .int .u64 (v : Int)] w fun e w' => e = .returned (.int .u64 (x : Int)) ∧ w' = w := by
  rcases h with h | h
  · go_enter Try.func15, Try.ntmps15
    go_wp2_with fail
    go_ret
    exact ⟨rfl, rfl⟩
  · go_enter Try.func15, Try.ntmps15
    go_wp2_with fail
    go_ret
    exact ⟨rfl, rfl⟩
set_option maxHeartbeats 400000 in
theorem rput_any (x a : Nat) (n : Int) (v m : Nat) (hx : x < 18446744073709551616) (hv : v < 18446744073709551616) (ha : a ≤ 63) (hm : m = (min (min n 64) (64 - a)).toNat) (w : World) :
    Calls Try.prog 15 #[.int .u64 (x : Int), .int .i64 (a : Int), .int .i64 n, .int .u64 (v : Int)] w fun e w' => e = .returned (.int .u64 (hiOf (putF x v a m) 64 0 : Nat)) ∧ Below w.heap.size w w' := by
  have hm1 : m ≤ 64 := by omega
  obtain ⟨mm, hmin⟩ : ∃ mm, (if 64 < n then (64 : Int) else n) = mm := ⟨_, rfl⟩
  have hmm : m = (min mm (64 - a)).toNat := by rw [hm, ← hmin]; split <;> omega
  have HM : Hid (m = (min mm (64 - a)).toNat) := hmm
  clear hm hmm
  go_enter Try.func15, Try.ntmps15
  go_wp2_with (go_at_call 26; refine (bits_any _ (by assumption) _).mono ?_; first | (have _h := FirstDone; rintro e w2 ⟨v2, rfl, hv2, hb2⟩) | (rintro e w1 ⟨v1, rfl, hv1, hb1⟩; have FirstDone : True := trivial))
  have hv1' := hv1.2
  rcases hv1' with ⟨_, h64⟩ | ⟨g, cap, cur, rfl, hg, hbl, hnc, hcm, _, _⟩
  · omega
  have hv2' := hv2.2
  rcases hv2' with ⟨_, h64⟩ | ⟨g2, cap2, cur2, rfl, hg2, hbl2, hnc2, hcm2, _, _⟩
  · omega
  have hgs : g < w1.heap.size := by have := hv1.lt g rfl; omega
  have hv1 := hv1.kept (below_grownBy hb2 none) (.inr (by simp [Value.ownBlock]))
  have hb := hb1.trans (hb2.mono hb1.size)
  clear hbl hbl2 hb1 hb2 FirstDone
  go_loopw [11] (fun i wr => ∃ k : Nat, k ≤ m ∧ i = .int .i64 k ∧ wr.ownsRow w.heap.size 3 1 (.slice (some ⟨g, 0, none⟩) 64 cap) 64 (rowOf (putF x v a k) 64) ∧ wr.ownsRow w1.heap.size 3 1 (.slice (some ⟨g2, 0, none⟩) 64 cap2) 64 (rowOf (bitAt v) 64) ∧ Below w.heap.size w wr)
    (fun i _ => 64 - (intOf i).toNat)
  case atStart => exact ⟨0, by omega, rfl, by rw [putF_zero]; exact hv1, hv2, hb⟩
  case round =>
    clear hv1 hv2 hb
    obtain ⟨k, hk, rfl, hown, hownm, hb⟩ := hrel
    by_cases hlt : k < m
    · have hlt1 : (k : Int) < mm := by have := HM.out; omega
      have hlt2 : (a : Int) + k < 64 := by have := HM.out; omega
      have hc : wr.cell? ⟨g2, k, none⟩ = some (.int .i64 (bitAt v k : Nat)) := by rw [hownm.cellAt k (by omega), rowOf_get _ _ _ (by omega)]
      have hc2 : wr.cell? ⟨g, a + k, none⟩ = some (.int .i64 (putF x v a k (a + k) : Nat)) := by rw [hown.cellAt (a + k) (by omega), rowOf_get _ _ _ (by omega)]
      have hfz := hown.frozenAt (a + k)
      have hown2 := hown.stored (a + k) (.int .i64 (bitAt v k : Nat))
      rw [rowOf_set, ← putF_succ x v a k] at hown2
      have hb2 := hb.setCell (p := ⟨g, a + k, none⟩) hg (.int .i64 (bitAt v k : Nat))
      have hm2 := hownm.kept hown2.2 (.inr (by simp [Value.ownBlock]; omega))
      have et : ((a : Int) + k).toNat = a + k := by omega
      have hA : Hid (_ ∧ _ ∧ _) := ⟨hown2.1, hm2, hb2⟩
      clear hown2 hb2 hown hb hm2 hownm
      go_wp2
      go_roundw
      case rel => exact ⟨k + 1, by omega, by go_num, hA.out.1, hA.out.2.1, hA.out.2.2⟩
      case measure => simp [intOf]; omega
    · obtain rfl : k = m := by omega
      by_cases hlt1 : (k : Int) < mm
      · have hlt2 : ¬ (a : Int) + k < 64 := by have := HM.out; omega
        go_wp2_with (first | (go_at_call 27; refine (word_any _ _ _ _ (Nat.le_refl _) (fun _ _ => putF_le _ _ _ _ _) _ hown).mono ?_; rintro e w' ⟨rfl, rfl⟩))
        go_ret
        exact ⟨rfl, hb⟩
      · go_wp2_with (first | (go_at_call 27; refine (word_any _ _ _ _ (Nat.le_refl _) (fun _ _ => putF_le _ _ _ _ _) _ hown).mono ?_; rintro e w' ⟨rfl, rfl⟩))
        go_ret
        exact ⟨rfl, hb⟩
end Go.Proofs.Ytflpfgbebjamfaa
