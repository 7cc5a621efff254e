/- The document's calls Word, marks and May. -/
import Derived.Test.YtpedollliahldaaDoorDb
import Derived.Test.YtpedollliahldaaDoorPe
namespace Go.Proofs.YtpedollliahldaaDoor
open Go.RowKit
set_option linter.unusedVariables false
set_option linter.unusedSimpArgs false
set_option maxRecDepth 100000
theorem hiOf_self (x : Nat) (hx : x < 4294967296) : hiOf (bitAt x) 32 0 = x := by
  apply hiOf_eq
  · intro j _; exact bitAt_le _ _
  · intro j
    rw [bitAt_one]
    by_cases h : j < 32
    · simp [h]
    · simp [h, bits_lt hx j (by omega)]
theorem marks_cell {w : World} {b x : Nat} (h : Box 30 w b (marksC x)) (i : Nat) (hi : i < 32) : w.cell? ⟨b, i, none⟩ = some (.bool (x.testBit i)) := h.cell i _ (rowC_get _ _ _ hi)
set_option maxHeartbeats 2000000 in
theorem dword_any (x : Nat) (hx : x < 4294967296) (w : World) : Calls Tryd.prog 31 #[.agg (marksC x)] w fun e w' => e = .returned (.int .u64 (x : Nat)) ∧ Below w.heap.size w w' := by
  obtain ⟨i0, hi, hz0, hz1, hz2⟩ := info_parts Tryd.info3
  have HE : Hid (hiOf (bitAt x) 32 0 = x) := hiOf_self x hx
  clear hx
  go_enter Tryd.func31, Tryd.ntmps31
  go_upto_region 0 with fail
  refine wp_region_list ?_
  refine wpList_box_agg 30 (marksC x) _ rfl rfl rfl ?_
  have X0 : Hid (Box 30 (w.alloc (.cells (marksC x) 30)) w.heap.size (marksC x) ∧ Below w.heap.size w (w.alloc (.cells (marksC x) 30))) := ⟨Box.new 30 w _, (Below.refl _ _).alloc (Nat.le_refl _) _⟩
  generalize w.alloc (.cells (marksC x) 30) = W at *
  go_wp2_with fail
  go_loopw [3, 4] (fun v i wr => ∃ k : Nat, k ≤ 32 ∧ i = .int .i64 k ∧ wr.ownsRow W.heap.size 3 1 v k (rowOf (bitAt x) k) ∧ Below W.heap.size W wr) (fun _ i _ => 32 - (intOf i).toNat)
  case atStart => exact ⟨0, by omega, rfl, World.ownsRow_nil _ _ _ _, Below.refl _ _⟩
  case round =>
    obtain ⟨k, hk, rfl, hown, hb⟩ := hrel
    have HR : Hid _ := rowOf_succ (bitAt x) k
    by_cases hlt : k < 32
    · have hc : wr.cell? ⟨w.heap.size, k, none⟩ = some (.bool (x.testBit k)) := marks_cell (X0.out.1.step hb) k hlt
      have hki : (k : Int) < 32 := by omega
      cases hx : x.testBit k
      · rw [hx] at hc
        have hbit : bitAt x k = 0 := by
          have h1 := bitAt_one x k
          rw [hx] at h1
          have := bitAt_le x k
          simp at h1
          omega
        clear hx
        rw [hbit] at HR
        go_wp2_with (first | (at_builtin; refine wpList_append_own _ rfl _ _ 80 rfl W.heap.size 3 i0 (.int .i64 0) 1 8 Tryd.underlying80 hi hz0 hz1 hz2 rfl (by decide) _ _ _ rfl (hown.alloc _) ⟨wr.heap.size, 0, none⟩ 1 1 _ rfl rfl (cell_one_new _ _ _) ?c2 ?c3 ?c4 ?c5 ?_))
        case c2 => intro u hu; simp at hu; subst hu; rfl
        case c3 => unfold maxLen; omega
        case c4 => omega
        case c5 => have := hb.size; simp; omega
        · intro v' w1 hown' hgrow _
          have hb1 := grow_step hb hb.size hown hgrow
          have hown2 : w1.ownsRow W.heap.size 3 1 v' (k + 1) (rowOf (bitAt x) (k + 1)) := by rw [HR.out]; exact hown'
          clear hown' hgrow hown hb hc
          go_wp2
          go_roundw
          case rel => exact ⟨k + 1, by omega, by go_num, hown2, hb1⟩
          case measure => simp [intOf]; omega
      · rw [hx] at hc
        have hbit : bitAt x k = 1 := by
          have h1 := bitAt_one x k
          rw [hx] at h1
          simpa using h1
        clear hx
        rw [hbit] at HR
        go_wp2_with (first | (at_builtin; refine wpList_append_own _ rfl _ _ 80 rfl W.heap.size 3 i0 (.int .i64 0) 1 8 Tryd.underlying80 hi hz0 hz1 hz2 rfl (by decide) _ _ _ rfl (hown.alloc _) ⟨wr.heap.size, 0, none⟩ 1 1 _ rfl rfl (cell_one_new _ _ _) ?c2 ?c3 ?c4 ?c5 ?_))
        case c2 => intro u hu; simp at hu; subst hu; rfl
        case c3 => unfold maxLen; omega
        case c4 => omega
        case c5 => have := hb.size; simp; omega
        · intro v' w1 hown' hgrow _
          have hb1 := grow_step hb hb.size hown hgrow
          have hown2 : w1.ownsRow W.heap.size 3 1 v' (k + 1) (rowOf (bitAt x) (k + 1)) := by rw [HR.out]; exact hown'
          clear hown' hgrow hown hb hc
          go_wp2
          go_roundw
          case rel => exact ⟨k + 1, by omega, by go_num, hown2, hb1⟩
          case measure => simp [intOf]; omega
    · obtain rfl : k = 32 := by omega
      have HW : Hid (Below w.heap.size w wr) := X0.out.2.trans (hb.mono X0.out.2.size)
      go_wp2_with fail
      refine (word_any (bitAt x) 32 _ _ (by omega) (fun _ _ => bitAt_le _ _) _ hown).mono ?_
      rintro e w' ⟨rfl, hw⟩
      rw [hw]
      clear hw w'
      clear hown hb
      go_wp2_with fail
      go_ret
      exact ⟨by rw [HE.out]; rfl, HW.out⟩
theorem dmay_any (a : Nat) (n : Int) (ha : a < 18446744073709551616) (w : World) : Calls Tryd.prog 39 #[.int .u64 (a : Int), .int .i64 n] w fun e w' => e = .returned (.bool (mayB a n)) ∧ w' = w := by
  by_cases h : n = 4
  · subst h
    by_cases h2 : a % 4 = 0
    · have e2 : ((a : Int) % 4) = 0 := by omega
      have e3 : ((a : Int) % 4 == 0) = true := by simp; omega
      have HR : Hid (mayB a 4 = decide ((a : Int) < 4194304)) := by
        show mayB a 4 = _
        unfold mayB
        simp [h2]
        rw [show (4194304 : Int) = ((4194304 : Nat) : Int) from rfl, Int.ofNat_lt]
      clear h2 ha
      go_enter Tryd.func39, Tryd.ntmps39
      go_wp2_with fail
      go_ret
      exact ⟨by rw [HR.out]; rfl, rfl⟩
    · have e3 : ((a : Int) % 4 == 0) = false := by simp; omega
      have HR : Hid (mayB a 4 = false) := by show mayB a 4 = _; unfold mayB; simp [h2]
      clear h2 ha
      go_enter Tryd.func39, Tryd.ntmps39
      go_wp2_with fail
      go_ret
      exact ⟨by rw [HR.out]; rfl, rfl⟩
  · have e1 : (n == 4) = false := by simp; exact h
    have HR : Hid (mayB a n = false) := by show mayB a n = _; unfold mayB; simp [h]
    clear h ha
    go_enter Tryd.func39, Tryd.ntmps39
    go_wp2_with fail
    go_ret
    exact ⟨by rw [HR.out]; rfl, rfl⟩
/-- the marks of a word, without the first, below k -/
def markK (v : Nat) : Nat → Nat
  | 0 => 0
  | k + 1 => if 1 ≤ k then setB (markK v k) k (v.testBit k) else markK v k
theorem testBit_markK (v : Nat) : ∀ (k j : Nat), (markK v k).testBit j = (decide (1 ≤ j) && decide (j < k) && v.testBit j)
  | 0, j => by simp [markK]
  | k + 1, j => by
    rw [markK]
    have ih := testBit_markK v k j
    by_cases e : j = k
    · subst e
      by_cases h : 1 ≤ j
      · rw [if_pos h, testBit_setB, if_pos rfl]; simp [h]
      · rw [if_neg h, ih]; simp [h]
    · have e2 : decide (j < k + 1) = decide (j < k) := by
        by_cases h : j < k
        · simp [h]; omega
        · simp [h]; omega
      rw [e2, ← ih]
      split
      · rw [testBit_setB, if_neg e]
      · rfl
theorem markK_all (v : Nat) : markK v 32 = v &&& 4294967294 := by
  apply Nat.eq_of_testBit_eq
  intro j
  rw [testBit_markK, Nat.testBit_and, testBit_src]
  cases v.testBit j <;> simp
theorem marksC_set (x i : Nat) (b : Bool) : (marksC x).setIfInBounds i (.bool b) = marksC (setB x i b) := by
  unfold marksC
  rw [rowC_set]
  apply rowC_congr
  intro j hj
  rw [testBit_setB]
  by_cases e : j = i
  · rw [if_pos e, if_pos e]
  · rw [if_neg e, if_neg e]
theorem markK_one (v : Nat) : markK v 1 = 0 := by simp [markK]
/-- the two rows of marks -/
def Tm (w W : World) (x : Nat) : Prop := Box 30 W w.heap.size (marksC 0) ∧ Box 30 W (w.heap.size + 1) (marksC x) ∧ Below w.heap.size w W
theorem Tm.step {w W W' : World} {x : Nat} (h : Tm w W x) (hb : Below W.heap.size W W') : Tm w W' x := ⟨h.1.step hb, h.2.1.step hb, h.2.2.trans (hb.mono h.2.2.size)⟩
theorem Tm.new (w : World) : Tm w ((w.alloc (.cells (marksC 0) 30)).alloc (.cells (marksC 0) 30)) 0 := by
  refine ⟨(Box.new 30 w _).alloc _, ?_, ((Below.refl _ _).alloc (Nat.le_refl _) _).alloc (by simp) _⟩
  have h := Box.new 30 (w.alloc (.cells (marksC 0) 30)) (marksC 0)
  simpa using h
theorem Tm.set {w W : World} {x : Nat} (h : Tm w W x) (i : Nat) (b : Bool) : Tm w (W.setCell ⟨w.heap.size + 1, i, none⟩ (.bool b)) (setB x i b) := by
  have h2 := h.2.1.set i (.bool b)
  rw [marksC_set] at h2
  exact ⟨h.1.other i _ (by omega), h2, h.2.2.setCell (p := ⟨w.heap.size + 1, i, none⟩) (Nat.le_succ _) _⟩
set_option maxHeartbeats 2000000 in
theorem dmarks_any (v : Nat) (hv : v < 18446744073709551616) (w : World) : Calls Tryd.prog 40 #[.int .u64 (v : Int)] w fun e w' => e = .returned (.agg (marksC (v &&& 4294967294))) ∧ Below w.heap.size w w' := by
  have hbs := bits_any v hv
  clear hv
  go_enter Tryd.func40, Tryd.ntmps40
  go_upto_region 0 with fail
  refine wp_region_list ?_
  refine wpList_alloc_zero 30 (marksC 0) 32 infoz30 rfl rfl ?_
  go_upto_region 1 with fail
  refine wp_region_list ?_
  refine wpList_alloc_zero 30 (marksC 0) 32 infoz30 rfl rfl ?_
  rw [show (w.alloc (.cells (marksC 0) 30)).heap.size = w.heap.size + 1 from by simp]
  have T0 : Hid (Tm w ((w.alloc (.cells (marksC 0) 30)).alloc (.cells (marksC 0) 30)) 0) := Tm.new w
  generalize (w.alloc (.cells (marksC 0) 30)).alloc (.cells (marksC 0) 30) = W at *
  go_wp2_with fail
  refine (hbs _).mono ?_
  rintro e w1 ⟨l, rfl, hown, hb1⟩
  have T1 : Hid (Tm w w1 0) := T0.out.step hb1
  rcases hown.2 with ⟨_, h64⟩ | ⟨g, cap, cur, rfl, hg, hbl, hnc, hcm, _, _⟩
  · omega
  have HC : Hid ((∀ j, j < 64 → w1.cell? ⟨g, j, none⟩ = some (.int .i64 (bitAt v j : Nat))) ∧ g < w1.heap.size ∧ g ≠ w.heap.size + 1) := by
    refine ⟨fun j hj => by rw [hown.cellAt j (by omega)]; exact rowOf_get _ 64 j hj, ?_, ?_⟩
    · have := hown.lt g rfl; omega
    · have := T0.out.2.1.lt; omega
  clear hown hbl hg hnc hcm hb1 T0 hbs
  go_wp2_with fail
  go_loopw [5] (fun i wr => ∃ k : Nat, 1 ≤ k ∧ k ≤ 32 ∧ i = .int .i64 k ∧ Tm w wr (markK v k) ∧ ∀ j, j < 64 → wr.cell? ⟨g, j, none⟩ = some (.int .i64 (bitAt v j : Nat))) (fun i _ => 32 - (intOf i).toNat)
  case atStart => exact ⟨1, by omega, by omega, rfl, by rw [markK_one]; exact T1.out, HC.out.1⟩
  case round =>
    obtain ⟨k, hk1, hk, rfl, hT, hcs⟩ := hrel
    have T2 : Hid (Tm w wr (markK v k)) := hT
    have HD : Hid (∀ j, j < 64 → wr.cell? ⟨g, j, none⟩ = some (.int .i64 (bitAt v j : Nat))) := hcs
    clear hT hcs T1
    by_cases hlt : k < 32
    · have f1 := HD.out k (by omega)
      have f2 : wr.cell? ⟨w.heap.size + 1, k, none⟩ = some (.bool ((markK v k).testBit k)) := marks_cell T2.out.2.1 k hlt
      have z2 := T2.out.2.1.frozen k
      have hki : (k : Int) < 32 := by omega
      have HB : Hid (1 ≤ k ∧ k < 32) := ⟨hk1, hlt⟩
      have HM : Hid (markK v (k + 1) = setB (markK v k) k (v.testBit k)) := by show markK v (k + 1) = _; rw [markK, if_pos hk1]
      have hone := bitAt_one v k
      have hle := bitAt_le v k
      cases hx : v.testBit k
      · have hbit : bitAt v k = 0 := by rw [hx] at hone; simp at hone; omega
        rw [hbit] at f1
        have T3 : Hid (Tm w (wr.setCell ⟨w.heap.size + 1, k, none⟩ (.bool false)) (markK v (k + 1)) ∧ ∀ j, j < 64 → (wr.setCell ⟨w.heap.size + 1, k, none⟩ (.bool false)).cell? ⟨g, j, none⟩ = some (.int .i64 (bitAt v j : Nat))) := by
          have h := T2.out.set k false
          rw [HM.out, hx]
          exact ⟨h, fun j hj => ((Upon.refl (w.heap.size + 1) wr).set k (.bool false)).cell (HD.out j hj) HC.out.2.2⟩
        clear hbit hx hone hle hlt hk hk1
        go_wp2_with fail
        go_roundw
        case rel => exact ⟨k + 1, by omega, HB.out.2, by go_num, T3.out⟩
        case measure => simp [intOf]; have := HB.out; omega
      · have hbit : bitAt v k = 1 := by rw [hx] at hone; simpa using hone
        rw [hbit] at f1
        have T3 : Hid (Tm w (wr.setCell ⟨w.heap.size + 1, k, none⟩ (.bool true)) (markK v (k + 1)) ∧ ∀ j, j < 64 → (wr.setCell ⟨w.heap.size + 1, k, none⟩ (.bool true)).cell? ⟨g, j, none⟩ = some (.int .i64 (bitAt v j : Nat))) := by
          have h := T2.out.set k true
          rw [HM.out, hx]
          exact ⟨h, fun j hj => ((Upon.refl (w.heap.size + 1) wr).set k (.bool true)).cell (HD.out j hj) HC.out.2.2⟩
        clear hbit hx hone hle hlt hk hk1
        go_wp2_with fail
        go_roundw
        case rel => exact ⟨k + 1, by omega, HB.out.2, by go_num, T3.out⟩
        case measure => simp [intOf]; have := HB.out; omega
    · obtain rfl : k = 32 := by omega
      have T3 : Hid (Tm w wr (v &&& 4294967294)) := by
        have h := T2.out
        rw [markK_all] at h
        exact h
      clear T2 hlt hk hk1 HD
      go_upto_region 7 with fail
      refine wp_region_list ?_
      refine wpList_load_marks rfl _ rfl (w.heap.size + 1) (v &&& 4294967294) rfl T3.out.2.1 ?_
      refine wpList_store_marks rfl _ _ rfl w.heap.size (v &&& 4294967294) (marksC 0) rfl rfl T3.out.1 (by rw [marksC_size, marksC_size]) ?_
      intro W9 B9 U9
      have T9 : Hid (Box 30 W9 w.heap.size (marksC (v &&& 4294967294)) ∧ Below w.heap.size w W9) := ⟨B9, T3.out.2.2.trans (U9.below (Nat.le_refl _) T3.out.2.2.size)⟩
      clear B9 U9
      go_wp2_with fail
      exact bodyPost_ret (v := .agg (marksC (v &&& 4294967294))) (results_cell_row rfl _ _ w.heap.size 30 _ (0, 0) _ rfl T9.out.1 Tryd.underlying30 rfl (info30 _)) rfl ⟨rfl, T9.out.2⟩
end Go.Proofs.YtpedollliahldaaDoor
