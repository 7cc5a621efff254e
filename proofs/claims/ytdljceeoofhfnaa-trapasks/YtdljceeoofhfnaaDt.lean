/- The document's calls flag, Is, Set and Delegated of layer 9. -/
import Derived.Test.YtdljceeoofhfnaaLa
import Derived.Test.YtdljceeoofhfnaaTc
import Derived.Test.YtdljceeoofhfnaaTe
import Derived.Test.YtdljceeoofhfnaaBg
namespace Go.Proofs.Ytdljceeoofhfnaa
open Go.RowKit Go.Maps
set_option linter.unusedVariables false
set_option linter.unusedSimpArgs false
set_option maxRecDepth 100000
theorem flag_any (bb : Bool) (w : World) : Calls Try.prog 36 #[.bool bb] w fun e w' => e = .returned (.int .u64 (flN bb : Nat)) ∧ w' = w := by
  cases bb
  · go_enter Try.func36, Try.ntmps36
    go_wp2
    go_ret
    exact ⟨rfl, rfl⟩
  · go_enter Try.func36, Try.ntmps36
    go_wp2
    go_ret
    exact ⟨rfl, rfl⟩
theorem dis_any (m : Int) (K : Nat → Nat) (j : Int) (hK : Ok K) (w : World) : Calls Try.prog 21 #[.agg (docC m K), .int .i64 j] w fun e w' => e = .returned (.bool (isB K j)) ∧ Below w.heap.size w w' := by
  have HX : Hid (Box 34 (w.alloc (.cells (docC m K) 34)) w.heap.size (docC m K) ∧ Below w.heap.size w (w.alloc (.cells (docC m K) 34))) := ⟨Box.new _ _ _, (Below.refl _ _).alloc (Nat.le_refl _) _⟩
  have HB : Hid (∀ V, Calls Try.prog 33 #[.agg (docC m K), .int .i64 0, .int .i64 j] V fun e w' => e = .returned (.bool (isB K j)) ∧ Below V.heap.size V w') := fun V => dbit_any m K 0 j hK (by omega) V
  generalize isB K j = y at *
  clear hK
  go_enter Try.func21, Try.ntmps21
  go_upto_region 1 with fail
  generalize w.alloc (.cells (docC m K) 34) = W at *
  refine wp_region_list ?_
  refine wpList_load_doc rfl _ rfl w.heap.size m K rfl HX.out.1 ?_
  (refine wpList_step (fun KK hKK => ?_); go_simp; refine hKK _ _ ?_; clear hKK KK)
  refine wpList_step (fun KK hKK => ?_)
  go_simp
  refine (HB.out _).mono ?_
  rintro e w1 ⟨rfl, hb1⟩
  refine hKK _ _ ?_
  clear hKK KK
  go_wp2_with fail
  go_ret
  exact ⟨rfl, HX.out.2.trans (hb1.mono HX.out.2.size)⟩
set_option maxHeartbeats 2000000 in
theorem dset_any (m : Int) (K : Nat → Nat) (j : Int) (bb : Bool) (hK : Ok K) (w : World) : Calls Try.prog 37 #[.agg (docC m K), .int .i64 j, .bool bb] w fun e w' => e = .returned (.agg (docC m (setK K j bb))) ∧ Below w.heap.size w w' := by
  have T0 : Hid (Two w ((w.alloc (.cells (docC m K) 34)).alloc (.cells #[.int .i64 0, .int .u64 0, .int .u64 0, .int .u64 0, .int .u64 0, .int .u64 0, .int .u64 0, .int .u64 0, .int .u64 0, .int .u64 0, .int .u64 0, .int .u64 0, .int .u64 0, .int .u64 0, .int .u64 0, .int .u64 0, .int .u64 0, .int .u64 0, .int .u64 0, .int .u64 0, .int .u64 0, .int .u64 0, .int .u64 0] 34)) (docC m K) zeroD) := Two.new w _ _
  have HP : Hid (∀ V, Calls Try.prog 38 #[.int .u64 (K 0 : Nat), .int .i64 j, .int .i64 1, .int .u64 (flN bb : Nat)] V fun e w' => e = .returned (.int .u64 (putA (K 0) j 1 (flN bb) : Nat)) ∧ Below V.heap.size V w') := fun V => rput_all (K 0) j 1 (flN bb) (hK _) (by have := flN_le bb; omega) V V (Below.refl _ _)
  unfold setK
  generalize putA (K 0) j 1 (flN bb) = y at *
  clear hK
  go_enter Try.func37, Try.ntmps37
  go_upto_region 1 with fail
  generalize ((w.alloc (.cells (docC m K) 34)).alloc (.cells #[.int .i64 0, .int .u64 0, .int .u64 0, .int .u64 0, .int .u64 0, .int .u64 0, .int .u64 0, .int .u64 0, .int .u64 0, .int .u64 0, .int .u64 0, .int .u64 0, .int .u64 0, .int .u64 0, .int .u64 0, .int .u64 0, .int .u64 0, .int .u64 0, .int .u64 0, .int .u64 0, .int .u64 0, .int .u64 0, .int .u64 0] 34)) = W at *
  have T0d : Hid (Two w W.drew (docC m K) zeroD) := T0.out.step (below_drew1 _)
  refine wp_region_held_drew (S := fun _ => True) (by kernel_rfl) trivial ?_
  intro hS
  refine wpAnyH_take (i := 0) (v := ?_) rfl (by kernel_rfl) (by kernel_rfl) (by kernel_rfl) (fun _ _ _ h => h) (Or.inl ⟨by kernel_rfl, ?_⟩) hS ?_
  rotate_left
  · intro w hSw; (try dsimp only at hSw); go_simp; try (with_reducible rfl)
  (try simp only [Act.put, List.getElem_toArray, List.getElem_cons_succ, List.getElem_cons_zero, List.setIfInBounds_toArray, List.set_cons_zero, List.set_cons_succ])
  refine wpAnyH_take (i := 1) (v := ?_) rfl (by kernel_rfl) (by kernel_rfl) (by kernel_rfl) (fun _ _ _ h => h) (Or.inl ⟨by kernel_rfl, ?_⟩) hS ?_
  rotate_left
  · intro w hSw; (try dsimp only at hSw); go_simp; try (with_reducible rfl)
  (try simp only [Act.put, List.getElem_toArray, List.getElem_cons_succ, List.getElem_cons_zero, List.setIfInBounds_toArray, List.set_cons_zero, List.set_cons_succ])
  refine wpAnyH_take (i := 3) (v := ?_) rfl (by kernel_rfl) (by kernel_rfl) (by kernel_rfl) (fun _ _ _ h => h) (Or.inl ⟨by kernel_rfl, ?_⟩) hS ?_
  rotate_left
  · intro w hSw; (try dsimp only at hSw); go_simp; try (with_reducible rfl)
  (try simp only [Act.put, List.getElem_toArray, List.getElem_cons_succ, List.getElem_cons_zero, List.setIfInBounds_toArray, List.set_cons_zero, List.set_cons_succ])
  refine wpAnyH_take (i := 4) (v := ?_) rfl (by kernel_rfl) (by kernel_rfl) (by kernel_rfl) (fun _ _ _ h => h) (Or.inl ⟨by kernel_rfl, ?_⟩) hS ?_
  rotate_left
  · intro w hSw; (try dsimp only at hSw); go_simp; try (with_reducible rfl)
  (try simp only [Act.put, List.getElem_toArray, List.getElem_cons_succ, List.getElem_cons_zero, List.setIfInBounds_toArray, List.set_cons_zero, List.set_cons_succ])
  refine wpAnyH_take (i := 7) (v := ?_) rfl (by kernel_rfl) (by kernel_rfl) (by kernel_rfl) (fun _ _ _ h => h) (Or.inl ⟨by kernel_rfl, ?_⟩) hS ?_
  rotate_left
  · intro w hSw; (try dsimp only at hSw); go_simp; try (with_reducible rfl)
  (try simp only [Act.put, List.getElem_toArray, List.getElem_cons_succ, List.getElem_cons_zero, List.setIfInBounds_toArray, List.set_cons_zero, List.set_cons_succ])
  refine wpAnyH_ready (rs := [2, 5]) (by kernel_rfl) (by simp) ?_
  refine AllReadyH.cons rfl (fun K1 hK1 => ?_) (AllReadyH.cons rfl (fun K1 hK1 => ?_) AllReadyH.nil)
  · have a0 : W.drew.cell? ⟨w.heap.size, 1, none⟩ = some (.int .u64 (K 0 : Nat)) := T0d.out.1.cell 1 _ rfl
    go_simp
    refine hK1.out _ _ trivial (fun hS => ?_)
    clear hK1 K1 a0
    (try simp only [Act.put, List.getElem_toArray, List.getElem_cons_succ, List.getElem_cons_zero, List.setIfInBounds_toArray, List.set_cons_zero, List.set_cons_succ])
    refine wpAnyH_ready (rs := [5]) (by kernel_rfl) (by simp) ?_
    refine AllReadyH.cons rfl (fun K1 hK1 => ?_) AllReadyH.nil
    go_simp
    refine (flag_any bb _).mono ?_
    rintro e w1 ⟨rfl, hw1⟩
    rw [hw1]
    clear hw1
    refine hK1.out _ _ trivial (fun hS => ?_)
    clear hK1 K1
    (try simp only [Act.put, List.getElem_toArray, List.getElem_cons_succ, List.getElem_cons_zero, List.setIfInBounds_toArray, List.set_cons_zero, List.set_cons_succ])
    refine wpAnyH_ready (rs := [6]) (by kernel_rfl) (by simp) ?_
    refine AllReadyH.cons rfl (fun K1 hK1 => ?_) AllReadyH.nil
    go_simp
    refine (HP.out _).mono ?_
    rintro e w1 ⟨rfl, hb1⟩
    have T1 : Hid (Two w w1 (docC m K) zeroD) := T0d.out.step hb1
    clear hb1
    refine hK1.out _ _ trivial (fun hS => ?_)
    clear hK1 K1
    (try simp only [Act.put, List.getElem_toArray, List.getElem_cons_succ, List.getElem_cons_zero, List.setIfInBounds_toArray, List.set_cons_zero, List.set_cons_succ])
    refine wpAnyH_take (i := 8) (v := ?_) rfl (by kernel_rfl) (by kernel_rfl) (by kernel_rfl) (fun _ _ _ h => h) (Or.inl ⟨by kernel_rfl, ?_⟩) hS ?_
    rotate_left
    · intro w hSw; (try dsimp only at hSw); go_simp; try (with_reducible rfl)
    (try simp only [Act.put, List.getElem_toArray, List.getElem_cons_succ, List.getElem_cons_zero, List.setIfInBounds_toArray, List.set_cons_zero, List.set_cons_succ])
    refine wpAnyH_ready (rs := [9]) (by kernel_rfl) (by simp) ?_
    refine AllReadyH.cons rfl (fun K1 hK1 => ?_) AllReadyH.nil
    have a0 : w1.cell? ⟨w.heap.size, 1, none⟩ = some (.int .u64 (K 0 : Nat)) := T1.out.1.cell 1 _ rfl
    have a1 := T1.out.1.frozen 1
    go_simp
    have T2 : Hid (Two w (w1.setCell ⟨w.heap.size, 1, none⟩ (.int .u64 (y : Nat))) (docC m (upd K 0 y)) zeroD) := by
      have h := T1.out.set 1 (.int .u64 (y : Nat))
      rw [(set_docC _ _ _).1] at h
      exact h
    refine hK1.out _ (w1.setCell ⟨w.heap.size, 1, none⟩ (.int .u64 (y : Nat))) trivial (fun hS => ?_)
    clear hK1 K1 a0 a1
    generalize w1.setCell ⟨w.heap.size, 1, none⟩ (.int .u64 (y : Nat)) = w2 at *
    (try simp only [Act.put, List.getElem_toArray, List.getElem_cons_succ, List.getElem_cons_zero, List.setIfInBounds_toArray, List.set_cons_zero, List.set_cons_succ])
    refine wpAnyH_done (by kernel_rfl) ?_ _
    clear hS
    go_upto_region 2 with fail
    refine wp_region_list ?_
    refine wpList_load_doc rfl _ rfl w.heap.size m (upd K 0 y) rfl T2.out.1 ?_
    refine wpList_store_doc rfl _ _ rfl (w.heap.size + 1) m (upd K 0 y) zeroD rfl rfl T2.out.2.1 zeroD_size ?_
    intro W9 B9 U9
    have T9 : Hid (Box 34 W9 (w.heap.size + 1) (docC m (upd K 0 y)) ∧ Below w.heap.size w W9) := ⟨B9, T2.out.2.2.trans (U9.below (Nat.le_succ _) T2.out.2.2.size)⟩
    clear B9 U9
    go_wp2_with fail
    exact bodyPost_ret (v := .agg (docC m (upd K 0 y))) (results_cell_row rfl _ _ (w.heap.size + 1) 34 _ (0, 0) _ rfl T9.out.1 Try.underlying34 rfl info34) rfl ⟨rfl, T9.out.2⟩
  · go_simp
    refine (flag_any bb _).mono ?_
    rintro e w1 ⟨rfl, hw1⟩
    rw [hw1]
    clear hw1
    refine hK1.out _ _ trivial (fun hS => ?_)
    clear hK1 K1
    (try simp only [Act.put, List.getElem_toArray, List.getElem_cons_succ, List.getElem_cons_zero, List.setIfInBounds_toArray, List.set_cons_zero, List.set_cons_succ])
    refine wpAnyH_ready (rs := [2]) (by kernel_rfl) (by simp) ?_
    refine AllReadyH.cons rfl (fun K1 hK1 => ?_) AllReadyH.nil
    have a0 : W.drew.cell? ⟨w.heap.size, 1, none⟩ = some (.int .u64 (K 0 : Nat)) := T0d.out.1.cell 1 _ rfl
    go_simp
    refine hK1.out _ _ trivial (fun hS => ?_)
    clear hK1 K1 a0
    (try simp only [Act.put, List.getElem_toArray, List.getElem_cons_succ, List.getElem_cons_zero, List.setIfInBounds_toArray, List.set_cons_zero, List.set_cons_succ])
    refine wpAnyH_ready (rs := [6]) (by kernel_rfl) (by simp) ?_
    refine AllReadyH.cons rfl (fun K1 hK1 => ?_) AllReadyH.nil
    go_simp
    refine (HP.out _).mono ?_
    rintro e w1 ⟨rfl, hb1⟩
    have T1 : Hid (Two w w1 (docC m K) zeroD) := T0d.out.step hb1
    clear hb1
    refine hK1.out _ _ trivial (fun hS => ?_)
    clear hK1 K1
    (try simp only [Act.put, List.getElem_toArray, List.getElem_cons_succ, List.getElem_cons_zero, List.setIfInBounds_toArray, List.set_cons_zero, List.set_cons_succ])
    refine wpAnyH_take (i := 8) (v := ?_) rfl (by kernel_rfl) (by kernel_rfl) (by kernel_rfl) (fun _ _ _ h => h) (Or.inl ⟨by kernel_rfl, ?_⟩) hS ?_
    rotate_left
    · intro w hSw; (try dsimp only at hSw); go_simp; try (with_reducible rfl)
    (try simp only [Act.put, List.getElem_toArray, List.getElem_cons_succ, List.getElem_cons_zero, List.setIfInBounds_toArray, List.set_cons_zero, List.set_cons_succ])
    refine wpAnyH_ready (rs := [9]) (by kernel_rfl) (by simp) ?_
    refine AllReadyH.cons rfl (fun K1 hK1 => ?_) AllReadyH.nil
    have a0 : w1.cell? ⟨w.heap.size, 1, none⟩ = some (.int .u64 (K 0 : Nat)) := T1.out.1.cell 1 _ rfl
    have a1 := T1.out.1.frozen 1
    go_simp
    have T2 : Hid (Two w (w1.setCell ⟨w.heap.size, 1, none⟩ (.int .u64 (y : Nat))) (docC m (upd K 0 y)) zeroD) := by
      have h := T1.out.set 1 (.int .u64 (y : Nat))
      rw [(set_docC _ _ _).1] at h
      exact h
    refine hK1.out _ (w1.setCell ⟨w.heap.size, 1, none⟩ (.int .u64 (y : Nat))) trivial (fun hS => ?_)
    clear hK1 K1 a0 a1
    generalize w1.setCell ⟨w.heap.size, 1, none⟩ (.int .u64 (y : Nat)) = w2 at *
    (try simp only [Act.put, List.getElem_toArray, List.getElem_cons_succ, List.getElem_cons_zero, List.setIfInBounds_toArray, List.set_cons_zero, List.set_cons_succ])
    refine wpAnyH_done (by kernel_rfl) ?_ _
    clear hS
    go_upto_region 2 with fail
    refine wp_region_list ?_
    refine wpList_load_doc rfl _ rfl w.heap.size m (upd K 0 y) rfl T2.out.1 ?_
    refine wpList_store_doc rfl _ _ rfl (w.heap.size + 1) m (upd K 0 y) zeroD rfl rfl T2.out.2.1 zeroD_size ?_
    intro W9 B9 U9
    have T9 : Hid (Box 34 W9 (w.heap.size + 1) (docC m (upd K 0 y)) ∧ Below w.heap.size w W9) := ⟨B9, T2.out.2.2.trans (U9.below (Nat.le_succ _) T2.out.2.2.size)⟩
    clear B9 U9
    go_wp2_with fail
    exact bodyPost_ret (v := .agg (docC m (upd K 0 y))) (results_cell_row rfl _ _ (w.heap.size + 1) 34 _ (0, 0) _ rfl T9.out.1 Try.underlying34 rfl info34) rfl ⟨rfl, T9.out.2⟩
theorem two_new (w : World) (a b : Array Value) : Box 34 ((w.alloc (.cells a 34)).alloc (.cells b 27)) w.heap.size a ∧ Box 27 ((w.alloc (.cells a 34)).alloc (.cells b 27)) (w.heap.size + 1) b ∧ Below w.heap.size w ((w.alloc (.cells a 34)).alloc (.cells b 27)) := by
  refine ⟨(Box.new 34 w _).alloc _, ?_, ((Below.refl _ _).alloc (Nat.le_refl _) _).alloc (by simp) _⟩
  have h := Box.new 27 (w.alloc (.cells a 34)) b
  simpa using h
theorem ddel_any (m : Int) (hm : m ≤ 3) (K : Nat → Nat) (c v : Nat) (i : Bool) (hK : Ok K) (w : World) : Calls Try.prog 11 #[.agg (docC m K), .agg (trapC c v i)] w fun e w' => e = .returned (.bool (delB m K c i)) ∧ Below w.heap.size w w' := by
  have HX : Hid (Box 34 ((w.alloc (.cells (docC m K) 34)).alloc (.cells (trapC c v i) 27)) w.heap.size (docC m K) ∧ Box 27 ((w.alloc (.cells (docC m K) 34)).alloc (.cells (trapC c v i) 27)) (w.heap.size + 1) (trapC c v i) ∧ Below w.heap.size w ((w.alloc (.cells (docC m K) 34)).alloc (.cells (trapC c v i) 27))) := two_new w _ _
  have HB4 : Hid (∀ V, Calls Try.prog 33 #[.agg (docC m K), .int .i64 4, .int .i64 (c : Int)] V fun e w' => e = .returned (.bool (bitB (K 4) c)) ∧ Below V.heap.size V w') := fun V => dbit_any m K 4 c hK (by omega) V
  have HB3 : Hid (∀ V, Calls Try.prog 33 #[.agg (docC m K), .int .i64 3, .int .i64 (c : Int)] V fun e w' => e = .returned (.bool (bitB (K 3) c)) ∧ Below V.heap.size V w') := fun V => dbit_any m K 3 c hK (by omega) V
  unfold delB
  clear hK
  by_cases h3 : m = 3
  · subst h3
    rw [show decide ((3 : Int) < 3) = false from rfl, Bool.false_and]
    clear hm
    go_enter Try.func11, Try.ntmps11
    go_upto_region 1 with fail
    generalize ((w.alloc (.cells (docC 3 K) 34)).alloc (.cells (trapC c v i) 27)) = W at *
    have c0 : W.cell? ⟨w.heap.size, 0, none⟩ = some (.int .i64 3) := HX.out.1.cell 0 _ rfl
    go_wp2_with fail
    go_ret
    exact ⟨rfl, HX.out.2.2⟩
  · have h4 : (m == 3) = false := by simp [h3]
    rw [decide_eq_true (show m < 3 by omega), Bool.true_and]
    clear hm
    cases i
    · rw [if_neg (by decide)]
      generalize bitB (K 3) c = y at *
      go_enter Try.func11, Try.ntmps11
      go_upto_region 1 with fail
      generalize ((w.alloc (.cells (docC m K) 34)).alloc (.cells (trapC c v false) 27)) = W at *
      have c0 : W.cell? ⟨w.heap.size, 0, none⟩ = some (.int .i64 m) := HX.out.1.cell 0 _ rfl
      have t0 : W.cell? ⟨w.heap.size + 1, 0, none⟩ = some (.int .i64 (c : Int)) := HX.out.2.1.cell 0 _ rfl
      have t2 : W.cell? ⟨w.heap.size + 1, 2, none⟩ = some (.bool false) := HX.out.2.1.cell 2 _ rfl
      go_upto_region 5 with fail
      refine wp_region_list ?_
      refine wpList_load_doc rfl _ rfl w.heap.size m K rfl HX.out.1 ?_
      (refine wpList_step (fun KK hKK => ?_); go_simp; refine hKK _ _ ?_; clear hKK KK)
      (refine wpList_step (fun KK hKK => ?_); go_simp; refine hKK _ _ ?_; clear hKK KK)
      refine wpList_step (fun KK hKK => ?_)
      go_simp
      refine (HB3.out _).mono ?_
      rintro e w1 ⟨rfl, hb1⟩
      refine hKK _ _ ?_
      clear hKK KK c0 t0 t2
      go_wp2_with fail
      go_ret
      exact ⟨rfl, HX.out.2.2.trans (hb1.mono HX.out.2.2.size)⟩
    · rw [if_pos rfl]
      generalize bitB (K 4) c = y at *
      go_enter Try.func11, Try.ntmps11
      go_upto_region 1 with fail
      generalize ((w.alloc (.cells (docC m K) 34)).alloc (.cells (trapC c v true) 27)) = W at *
      have c0 : W.cell? ⟨w.heap.size, 0, none⟩ = some (.int .i64 m) := HX.out.1.cell 0 _ rfl
      have t0 : W.cell? ⟨w.heap.size + 1, 0, none⟩ = some (.int .i64 (c : Int)) := HX.out.2.1.cell 0 _ rfl
      have t2 : W.cell? ⟨w.heap.size + 1, 2, none⟩ = some (.bool true) := HX.out.2.1.cell 2 _ rfl
      go_upto_region 4 with fail
      refine wp_region_list ?_
      refine wpList_load_doc rfl _ rfl w.heap.size m K rfl HX.out.1 ?_
      (refine wpList_step (fun KK hKK => ?_); go_simp; refine hKK _ _ ?_; clear hKK KK)
      (refine wpList_step (fun KK hKK => ?_); go_simp; refine hKK _ _ ?_; clear hKK KK)
      refine wpList_step (fun KK hKK => ?_)
      go_simp
      refine (HB4.out _).mono ?_
      rintro e w1 ⟨rfl, hb1⟩
      refine hKK _ _ ?_
      clear hKK KK c0 t0 t2
      go_wp2_with fail
      go_ret
      exact ⟨rfl, HX.out.2.2.trans (hb1.mono HX.out.2.2.size)⟩
end Go.Proofs.Ytdljceeoofhfnaa
