/- The document's call Sret of layer 9. -/
import Derived.Test.YtdljceeoofhfnaaDb
namespace Go.Proofs.Ytdljceeoofhfnaa
open Go.RowKit Go.Maps
set_option linter.unusedVariables false
set_option linter.unusedSimpArgs false
set_option maxRecDepth 100000
set_option maxHeartbeats 2000000 in
theorem dsret_no0 (K : Nat → Nat) (w : World) : Calls Try.prog 16 #[.agg (docC 0 K)] w fun e w' => e = .returned (.tuple #[.agg (docC 0 K), .int .u64 0, .bool false]) ∧ Below w.heap.size w w' := by
  have T0 : Hid (Two w ((w.alloc (.cells (docC 0 K) 34)).alloc (.cells #[.int .i64 0, .int .u64 0, .int .u64 0, .int .u64 0, .int .u64 0, .int .u64 0, .int .u64 0, .int .u64 0, .int .u64 0, .int .u64 0, .int .u64 0, .int .u64 0, .int .u64 0, .int .u64 0, .int .u64 0, .int .u64 0, .int .u64 0, .int .u64 0, .int .u64 0, .int .u64 0, .int .u64 0, .int .u64 0, .int .u64 0] 34)) (docC 0 (K)) zeroD) := Two.new w _ _
  go_enter Try.func16, Try.ntmps16
  go_upto_region 1 with fail
  generalize ((w.alloc (.cells (docC 0 K) 34)).alloc (.cells #[.int .i64 0, .int .u64 0, .int .u64 0, .int .u64 0, .int .u64 0, .int .u64 0, .int .u64 0, .int .u64 0, .int .u64 0, .int .u64 0, .int .u64 0, .int .u64 0, .int .u64 0, .int .u64 0, .int .u64 0, .int .u64 0, .int .u64 0, .int .u64 0, .int .u64 0, .int .u64 0, .int .u64 0, .int .u64 0, .int .u64 0] 34)) = W at *
  have c0 : W.cell? ⟨w.heap.size, 0, none⟩ = some (.int .i64 0) := T0.out.1.cell 0 _ rfl
  go_upto_region 2 with fail
  refine wp_region_list ?_
  refine wpList_load_doc rfl _ rfl w.heap.size 0 (K) rfl T0.out.1 ?_
  refine wpList_store_doc rfl _ _ rfl (w.heap.size + 1) 0 (K) zeroD rfl rfl T0.out.2.1 zeroD_size ?_
  intro W9 B9 U9
  have T9 : Hid (Box 34 W9 (w.heap.size + 1) (docC 0 (K)) ∧ Below w.heap.size w W9) := ⟨B9, T0.out.2.2.trans (U9.below (Nat.le_succ _) T0.out.2.2.size)⟩
  clear B9 U9
  go_wp2_with fail
  exact bodyPost_ret (v := .tuple #[.agg (docC 0 (K)), .int .u64 0, .bool false]) (resultsD3 (p := 2) (t := 3) (u := 4) rfl _ _ (w.heap.size + 1) 0 (K) rfl T9.out.1) rfl ⟨rfl, T9.out.2⟩
set_option maxHeartbeats 2000000 in
theorem dsret_no1 (K : Nat → Nat) (hK : Ok K) (ht : isB K 22 = true) (w : World) : Calls Try.prog 16 #[.agg (docC 1 K)] w fun e w' => e = .returned (.tuple #[.agg (docC 1 K), .int .u64 0, .bool false]) ∧ Below w.heap.size w w' := by
  have T0 : Hid (Two w ((w.alloc (.cells (docC 1 K) 34)).alloc (.cells #[.int .i64 0, .int .u64 0, .int .u64 0, .int .u64 0, .int .u64 0, .int .u64 0, .int .u64 0, .int .u64 0, .int .u64 0, .int .u64 0, .int .u64 0, .int .u64 0, .int .u64 0, .int .u64 0, .int .u64 0, .int .u64 0, .int .u64 0, .int .u64 0, .int .u64 0, .int .u64 0, .int .u64 0, .int .u64 0, .int .u64 0] 34)) (docC 1 (K)) zeroD) := Two.new w _ _
  have HT : Hid (∀ V, Calls Try.prog 21 #[.agg (docC 1 K), .int .i64 22] V fun e w' => e = .returned (.bool true) ∧ Below V.heap.size V w') := fun V => by rw [← ht]; exact dis_any 1 K 22 hK V
  clear hK ht
  go_enter Try.func16, Try.ntmps16
  go_upto_region 1 with fail
  generalize ((w.alloc (.cells (docC 1 K) 34)).alloc (.cells #[.int .i64 0, .int .u64 0, .int .u64 0, .int .u64 0, .int .u64 0, .int .u64 0, .int .u64 0, .int .u64 0, .int .u64 0, .int .u64 0, .int .u64 0, .int .u64 0, .int .u64 0, .int .u64 0, .int .u64 0, .int .u64 0, .int .u64 0, .int .u64 0, .int .u64 0, .int .u64 0, .int .u64 0, .int .u64 0, .int .u64 0] 34)) = W at *
  have c0 : W.cell? ⟨w.heap.size, 0, none⟩ = some (.int .i64 1) := T0.out.1.cell 0 _ rfl
  refine wp_region_list ?_
  iterate 8 (refine wpList_step (fun KK hKK => ?_); go_simp; refine hKK _ _ ?_; clear hKK KK)
  refine wpList_load_docG (by first | rfl | kernel_rfl) _ rfl w.heap.size 1 K rfl T0.out.1 ?_
  refine wpList_step (fun KK hKK => ?_)
  go_simp
  refine (HT.out _).mono ?_
  rintro e w1 ⟨rfl, hb1⟩
  have T1 : Hid (Two w w1 (docC 1 (K)) zeroD) := T0.out.step hb1
  clear hb1 c0
  refine hKK _ _ ?_
  clear hKK KK
  go_upto_region 2 with fail
  refine wp_region_list ?_
  refine wpList_load_doc rfl _ rfl w.heap.size 1 (K) rfl T1.out.1 ?_
  refine wpList_store_doc rfl _ _ rfl (w.heap.size + 1) 1 (K) zeroD rfl rfl T1.out.2.1 zeroD_size ?_
  intro W9 B9 U9
  have T9 : Hid (Box 34 W9 (w.heap.size + 1) (docC 1 (K)) ∧ Below w.heap.size w W9) := ⟨B9, T1.out.2.2.trans (U9.below (Nat.le_succ _) T1.out.2.2.size)⟩
  clear B9 U9
  go_wp2_with fail
  exact bodyPost_ret (v := .tuple #[.agg (docC 1 (K)), .int .u64 0, .bool false]) (resultsD3 (p := 2) (t := 3) (u := 4) rfl _ _ (w.heap.size + 1) 1 (K) rfl T9.out.1) rfl ⟨rfl, T9.out.2⟩
set_option maxHeartbeats 8000000 in
theorem dsret_yes1 (K : Nat → Nat) (hK : Ok K) (ht : isB K 22 = false) (w : World) : Calls Try.prog 16 #[.agg (docC 1 K)] w fun e w' => e = .returned (.tuple #[.agg (docC (flN (isB K 8) : Nat) (backS K)), .int .u64 (K 15 : Nat), .bool true]) ∧ Below w.heap.size w w' := by
  have T0 : Hid (Two w ((w.alloc (.cells (docC 1 K) 34)).alloc (.cells #[.int .i64 0, .int .u64 0, .int .u64 0, .int .u64 0, .int .u64 0, .int .u64 0, .int .u64 0, .int .u64 0, .int .u64 0, .int .u64 0, .int .u64 0, .int .u64 0, .int .u64 0, .int .u64 0, .int .u64 0, .int .u64 0, .int .u64 0, .int .u64 0, .int .u64 0, .int .u64 0, .int .u64 0, .int .u64 0, .int .u64 0] 34)) (docC 1 (K)) zeroD) := Two.new w _ _
  have HK : Hid (Ok K) := hK
  have HT : Hid (∀ V, Calls Try.prog 21 #[.agg (docC 1 K), .int .i64 22] V fun e w' => e = .returned (.bool false) ∧ Below V.heap.size V w') := fun V => by rw [← ht]; exact dis_any 1 K 22 hK V
  have H8 : Hid (∀ V, Calls Try.prog 21 #[.agg (docC 1 K), .int .i64 8] V fun e w' => e = .returned (.bool (isB K 8)) ∧ Below V.heap.size V w') := fun V => dis_any 1 K 8 hK V
  clear hK ht
  obtain ⟨p, hpp⟩ : ∃ p, isB K 8 = p := ⟨_, rfl⟩
  have HPP : Hid (isB K 8 = p) := hpp
  rw [hpp] at H8
  clear hpp
  have hw := wrap_small (flN p) (by have := flN_le p; omega)
  go_enter Try.func16, Try.ntmps16
  go_upto_region 1 with fail
  generalize ((w.alloc (.cells (docC 1 K) 34)).alloc (.cells #[.int .i64 0, .int .u64 0, .int .u64 0, .int .u64 0, .int .u64 0, .int .u64 0, .int .u64 0, .int .u64 0, .int .u64 0, .int .u64 0, .int .u64 0, .int .u64 0, .int .u64 0, .int .u64 0, .int .u64 0, .int .u64 0, .int .u64 0, .int .u64 0, .int .u64 0, .int .u64 0, .int .u64 0, .int .u64 0, .int .u64 0] 34)) = W at *
  have c0 : W.cell? ⟨w.heap.size, 0, none⟩ = some (.int .i64 1) := T0.out.1.cell 0 _ rfl
  refine wp_region_list ?_
  iterate 8 (refine wpList_step (fun KK hKK => ?_); go_simp; refine hKK _ _ ?_; clear hKK KK)
  refine wpList_load_docG (by first | rfl | kernel_rfl) _ rfl w.heap.size 1 K rfl T0.out.1 ?_
  refine wpList_step (fun KK hKK => ?_)
  go_simp
  refine (HT.out _).mono ?_
  rintro e w1 ⟨rfl, hb1⟩
  have T1 : Hid (Two w w1 (docC 1 (K)) zeroD) := T0.out.step hb1
  clear hb1 c0
  refine hKK _ _ ?_
  clear hKK KK
  go_upto_region 3 with fail
  refine wp_region_list ?_
  refine wpList_load_doc rfl _ rfl w.heap.size 1 K rfl T1.out.1 ?_
  refine wpList_step (fun KK hKK => ?_)
  go_simp
  refine (H8.out _).mono ?_
  rintro e w2 ⟨rfl, hb2⟩
  have T2 : Hid (Two w w2 (docC 1 (K)) zeroD) := T1.out.step hb2
  clear hb2
  refine hKK _ _ ?_
  clear hKK KK
  refine wpList_step (fun KK hKK => ?_)
  go_simp
  refine (flag_any p _).mono ?_
  rintro e w3 ⟨rfl, hw3⟩
  rw [hw3]
  clear hw3
  refine hKK _ _ ?_
  clear hKK KK
  have d0 : w2.cell? ⟨w.heap.size, 0, none⟩ = some (.int .i64 1) := T2.out.1.cell 0 _ rfl
  have d1 := T2.out.1.frozen 0
  go_upto_region 4 with fail
  have T3 : Hid (Two w (w2.setCell ⟨w.heap.size, 0, none⟩ (.int .i64 (flN p : Nat))) (docC (flN p : Nat) (K)) zeroD) := by
    have h := T2.out.set 0 (.int .i64 (flN p : Nat))
    rw [mode_docC 1 (flN p : Nat) K] at h
    exact h
  generalize w2.setCell ⟨w.heap.size, 0, none⟩ (.int .i64 (flN p : Nat)) = w4 at *
  clear d0 d1
  go_upto_region 4 with fail
  go_cut [1] (fun r wx => r = .pointer (some ⟨w.heap.size, 0, none⟩) ∧ Two w wx (docC (flN p : Nat) (setK (K) 1 (isB (K) 5))) zeroD)
  case first =>
    have Xd : Hid (Two w w4.drew (docC (flN p : Nat) (K)) zeroD) := T3.out.step (below_drew1 _)
    refine wp_region_held_drew (S := fun _ => True) (by kernel_rfl) trivial ?_
    intro hS
    refine wpAnyH_ready (rs := [0, 1]) (by kernel_rfl) (by simp) ?_
    refine AllReadyH.cons rfl (fun K1 hK1 => ?_) (AllReadyH.cons rfl (fun K1 hK1 => ?_) AllReadyH.nil)
    · rw [if_pos (by kernel_rfl)]
      refine wp_load_doc _ rfl w.heap.size (flN p : Nat) (K) rfl Xd.out.1 ?_
      refine hK1.out _ _ trivial (fun hS => ?_)
      clear hK1 K1
      (try simp only [Act.put, List.getElem_toArray, List.getElem_cons_succ, List.getElem_cons_zero, List.setIfInBounds_toArray, List.set_cons_zero, List.set_cons_succ])
      refine wpAnyH_ready (rs := [1]) (by kernel_rfl) (by simp) ?_
      refine AllReadyH.cons rfl (fun K1 hK1 => ?_) AllReadyH.nil
      rw [if_pos (by kernel_rfl)]
      refine wp_load_doc _ rfl w.heap.size (flN p : Nat) (K) rfl Xd.out.1 ?_
      refine hK1.out _ _ trivial (fun hS => ?_)
      clear hK1 K1
      (try simp only [Act.put, List.getElem_toArray, List.getElem_cons_succ, List.getElem_cons_zero, List.setIfInBounds_toArray, List.set_cons_zero, List.set_cons_succ])
      refine wpAnyH_ready (rs := [2]) (by kernel_rfl) (by simp) ?_
      refine AllReadyH.cons rfl (fun K1 hK1 => ?_) AllReadyH.nil
      go_simp
      refine (dis_any (flN p : Nat) (K) 5 HK.out _).mono ?_
      rintro e v1 ⟨rfl, hb⟩
      have Y1 : Hid (Two w v1 (docC (flN p : Nat) (K)) zeroD) := Xd.out.step hb
      clear hb
      refine hK1.out _ _ trivial (fun hS => ?_)
      clear hK1 K1
      (try simp only [Act.put, List.getElem_toArray, List.getElem_cons_succ, List.getElem_cons_zero, List.setIfInBounds_toArray, List.set_cons_zero, List.set_cons_succ])
      refine wpAnyH_ready (rs := [3]) (by kernel_rfl) (by simp) ?_
      refine AllReadyH.cons rfl (fun K1 hK1 => ?_) AllReadyH.nil
      go_simp
      refine (dset_any (flN p : Nat) (K) 1 (isB (K) 5) HK.out _).mono ?_
      rintro e v2 ⟨rfl, hb⟩
      have Y2 : Hid (Two w v2 (docC (flN p : Nat) (K)) zeroD) := Y1.out.step hb
      clear hb
      refine hK1.out _ _ trivial (fun hS => ?_)
      clear hK1 K1
      (try simp only [Act.put, List.getElem_toArray, List.getElem_cons_succ, List.getElem_cons_zero, List.setIfInBounds_toArray, List.set_cons_zero, List.set_cons_succ])
      refine wpAnyH_ready (rs := [4]) (by kernel_rfl) (by simp) ?_
      refine AllReadyH.cons rfl (fun K1 hK1 => ?_) AllReadyH.nil
      rw [if_pos (by kernel_rfl)]
      refine wp_store_doc _ _ rfl w.heap.size (flN p : Nat) (setK (K) 1 (isB (K) 5)) (docC (flN p : Nat) (K)) rfl rfl Y2.out.1 rfl ?_
      intro W7 B7 U7
      have Z7 : Hid (Two w W7 (docC (flN p : Nat) (setK (K) 1 (isB (K) 5))) zeroD) := Y2.out.doc B7 U7
      refine hK1.out _ _ trivial (fun hS => ?_)
      clear hK1 K1 B7 U7
      (try simp only [Act.put, List.getElem_toArray, List.getElem_cons_succ, List.getElem_cons_zero, List.setIfInBounds_toArray, List.set_cons_zero, List.set_cons_succ])
      refine wpAnyH_done (by kernel_rfl) ?_ _
      clear hS
      go_wp2_with fail
      go_meet
      exact ⟨rfl, Z7.out⟩
    · rw [if_pos (by kernel_rfl)]
      refine wp_load_doc _ rfl w.heap.size (flN p : Nat) (K) rfl Xd.out.1 ?_
      refine hK1.out _ _ trivial (fun hS => ?_)
      clear hK1 K1
      (try simp only [Act.put, List.getElem_toArray, List.getElem_cons_succ, List.getElem_cons_zero, List.setIfInBounds_toArray, List.set_cons_zero, List.set_cons_succ])
      refine wpAnyH_ready (rs := [0, 2]) (by kernel_rfl) (by simp) ?_
      refine AllReadyH.cons rfl (fun K1 hK1 => ?_) (AllReadyH.cons rfl (fun K1 hK1 => ?_) AllReadyH.nil)
      · rw [if_pos (by kernel_rfl)]
        refine wp_load_doc _ rfl w.heap.size (flN p : Nat) (K) rfl Xd.out.1 ?_
        refine hK1.out _ _ trivial (fun hS => ?_)
        clear hK1 K1
        (try simp only [Act.put, List.getElem_toArray, List.getElem_cons_succ, List.getElem_cons_zero, List.setIfInBounds_toArray, List.set_cons_zero, List.set_cons_succ])
        refine wpAnyH_ready (rs := [2]) (by kernel_rfl) (by simp) ?_
        refine AllReadyH.cons rfl (fun K1 hK1 => ?_) AllReadyH.nil
        go_simp
        refine (dis_any (flN p : Nat) (K) 5 HK.out _).mono ?_
        rintro e v1 ⟨rfl, hb⟩
        have Y1 : Hid (Two w v1 (docC (flN p : Nat) (K)) zeroD) := Xd.out.step hb
        clear hb
        refine hK1.out _ _ trivial (fun hS => ?_)
        clear hK1 K1
        (try simp only [Act.put, List.getElem_toArray, List.getElem_cons_succ, List.getElem_cons_zero, List.setIfInBounds_toArray, List.set_cons_zero, List.set_cons_succ])
        refine wpAnyH_ready (rs := [3]) (by kernel_rfl) (by simp) ?_
        refine AllReadyH.cons rfl (fun K1 hK1 => ?_) AllReadyH.nil
        go_simp
        refine (dset_any (flN p : Nat) (K) 1 (isB (K) 5) HK.out _).mono ?_
        rintro e v2 ⟨rfl, hb⟩
        have Y2 : Hid (Two w v2 (docC (flN p : Nat) (K)) zeroD) := Y1.out.step hb
        clear hb
        refine hK1.out _ _ trivial (fun hS => ?_)
        clear hK1 K1
        (try simp only [Act.put, List.getElem_toArray, List.getElem_cons_succ, List.getElem_cons_zero, List.setIfInBounds_toArray, List.set_cons_zero, List.set_cons_succ])
        refine wpAnyH_ready (rs := [4]) (by kernel_rfl) (by simp) ?_
        refine AllReadyH.cons rfl (fun K1 hK1 => ?_) AllReadyH.nil
        rw [if_pos (by kernel_rfl)]
        refine wp_store_doc _ _ rfl w.heap.size (flN p : Nat) (setK (K) 1 (isB (K) 5)) (docC (flN p : Nat) (K)) rfl rfl Y2.out.1 rfl ?_
        intro W7 B7 U7
        have Z7 : Hid (Two w W7 (docC (flN p : Nat) (setK (K) 1 (isB (K) 5))) zeroD) := Y2.out.doc B7 U7
        refine hK1.out _ _ trivial (fun hS => ?_)
        clear hK1 K1 B7 U7
        (try simp only [Act.put, List.getElem_toArray, List.getElem_cons_succ, List.getElem_cons_zero, List.setIfInBounds_toArray, List.set_cons_zero, List.set_cons_succ])
        refine wpAnyH_done (by kernel_rfl) ?_ _
        clear hS
        go_wp2_with fail
        go_meet
        exact ⟨rfl, Z7.out⟩
      · go_simp
        refine (dis_any (flN p : Nat) (K) 5 HK.out _).mono ?_
        rintro e v1 ⟨rfl, hb⟩
        have Y1 : Hid (Two w v1 (docC (flN p : Nat) (K)) zeroD) := Xd.out.step hb
        clear hb
        refine hK1.out _ _ trivial (fun hS => ?_)
        clear hK1 K1
        (try simp only [Act.put, List.getElem_toArray, List.getElem_cons_succ, List.getElem_cons_zero, List.setIfInBounds_toArray, List.set_cons_zero, List.set_cons_succ])
        refine wpAnyH_ready (rs := [0]) (by kernel_rfl) (by simp) ?_
        refine AllReadyH.cons rfl (fun K1 hK1 => ?_) AllReadyH.nil
        rw [if_pos (by kernel_rfl)]
        refine wp_load_doc _ rfl w.heap.size (flN p : Nat) (K) rfl Y1.out.1 ?_
        refine hK1.out _ _ trivial (fun hS => ?_)
        clear hK1 K1
        (try simp only [Act.put, List.getElem_toArray, List.getElem_cons_succ, List.getElem_cons_zero, List.setIfInBounds_toArray, List.set_cons_zero, List.set_cons_succ])
        refine wpAnyH_ready (rs := [3]) (by kernel_rfl) (by simp) ?_
        refine AllReadyH.cons rfl (fun K1 hK1 => ?_) AllReadyH.nil
        go_simp
        refine (dset_any (flN p : Nat) (K) 1 (isB (K) 5) HK.out _).mono ?_
        rintro e v2 ⟨rfl, hb⟩
        have Y2 : Hid (Two w v2 (docC (flN p : Nat) (K)) zeroD) := Y1.out.step hb
        clear hb
        refine hK1.out _ _ trivial (fun hS => ?_)
        clear hK1 K1
        (try simp only [Act.put, List.getElem_toArray, List.getElem_cons_succ, List.getElem_cons_zero, List.setIfInBounds_toArray, List.set_cons_zero, List.set_cons_succ])
        refine wpAnyH_ready (rs := [4]) (by kernel_rfl) (by simp) ?_
        refine AllReadyH.cons rfl (fun K1 hK1 => ?_) AllReadyH.nil
        rw [if_pos (by kernel_rfl)]
        refine wp_store_doc _ _ rfl w.heap.size (flN p : Nat) (setK (K) 1 (isB (K) 5)) (docC (flN p : Nat) (K)) rfl rfl Y2.out.1 rfl ?_
        intro W7 B7 U7
        have Z7 : Hid (Two w W7 (docC (flN p : Nat) (setK (K) 1 (isB (K) 5))) zeroD) := Y2.out.doc B7 U7
        refine hK1.out _ _ trivial (fun hS => ?_)
        clear hK1 K1 B7 U7
        (try simp only [Act.put, List.getElem_toArray, List.getElem_cons_succ, List.getElem_cons_zero, List.setIfInBounds_toArray, List.set_cons_zero, List.set_cons_succ])
        refine wpAnyH_done (by kernel_rfl) ?_ _
        clear hS
        go_wp2_with fail
        go_meet
        exact ⟨rfl, Z7.out⟩
  case rest =>
  obtain ⟨rfl, ht⟩ := hcut
  have T4 : Hid (Two w wc (docC (flN p : Nat) (setK (K) 1 (isB (K) 5))) zeroD) := ht
  clear ht
  have HK4 : Hid (Ok (setK K 1 (isB K 5))) := setK_ok HK.out _ _
  go_upto_region 5 with fail
  refine wp_region_list ?_
  refine wpList_load_doc rfl _ rfl w.heap.size (flN p : Nat) (setK K 1 (isB K 5)) rfl T4.out.1 ?_
  refine wpList_step (fun KK hKK => ?_)
  go_simp
  refine (dset_any (flN p : Nat) (setK K 1 (isB K 5)) 5 true HK4.out _).mono ?_
  rintro e v1 ⟨rfl, hb⟩
  have T5a : Hid (Two w v1 (docC (flN p : Nat) (setK K 1 (isB K 5))) zeroD) := T4.out.step hb
  clear hb
  refine hKK _ _ ?_
  clear hKK KK
  refine wpList_store_doc rfl _ _ rfl w.heap.size (flN p : Nat) (setK (setK K 1 (isB K 5)) 5 true) (docC (flN p : Nat) (setK K 1 (isB K 5))) rfl rfl T5a.out.1 rfl ?_
  intro W5 B7 U7
  have T5 : Hid (Two w W5 (docC (flN p : Nat) (setK (setK K 1 (isB K 5)) 5 true)) zeroD) := T5a.out.doc B7 U7
  clear B7 U7 T5a
  have HK5 : Hid (Ok (setK (setK K 1 (isB K 5)) 5 true)) := setK_ok HK4.out _ _
  go_upto_region 6 with fail
  refine wp_region_list ?_
  refine wpList_load_doc rfl _ rfl w.heap.size (flN p : Nat) (setK (setK K 1 (isB K 5)) 5 true) rfl T5.out.1 ?_
  refine wpList_step (fun KK hKK => ?_)
  go_simp
  refine (dset_any (flN p : Nat) (setK (setK K 1 (isB K 5)) 5 true) 8 false HK5.out _).mono ?_
  rintro e v6 ⟨rfl, hb⟩
  have T6a : Hid (Two w v6 (docC (flN p : Nat) (setK (setK K 1 (isB K 5)) 5 true)) zeroD) := T5.out.step hb
  clear hb
  refine hKK _ _ ?_
  clear hKK KK
  refine wpList_store_doc rfl _ _ rfl w.heap.size (flN p : Nat) (setK (setK (setK K 1 (isB K 5)) 5 true) 8 false) (docC (flN p : Nat) (setK (setK K 1 (isB K 5)) 5 true)) rfl rfl T6a.out.1 rfl ?_
  intro W6 B7 U7
  have T6 : Hid (Two w W6 (docC (flN p : Nat) (setK (setK (setK K 1 (isB K 5)) 5 true) 8 false)) zeroD) := T6a.out.doc B7 U7
  clear B7 U7 T6a
  have HK6 : Hid (Ok (setK (setK (setK K 1 (isB K 5)) 5 true) 8 false)) := setK_ok HK5.out _ _
  go_upto_region 7 with fail
  refine wp_region_list ?_
  refine wpList_load_doc rfl _ rfl w.heap.size (flN p : Nat) (setK (setK (setK K 1 (isB K 5)) 5 true) 8 false) rfl T6.out.1 ?_
  refine wpList_step (fun KK hKK => ?_)
  go_simp
  refine (dset_any (flN p : Nat) (setK (setK (setK K 1 (isB K 5)) 5 true) 8 false) 17 false HK6.out _).mono ?_
  rintro e v7 ⟨rfl, hb⟩
  have T7a : Hid (Two w v7 (docC (flN p : Nat) (setK (setK (setK K 1 (isB K 5)) 5 true) 8 false)) zeroD) := T6.out.step hb
  clear hb
  refine hKK _ _ ?_
  clear hKK KK
  refine wpList_store_doc rfl _ _ rfl w.heap.size (flN p : Nat) (setK (setK (setK (setK K 1 (isB K 5)) 5 true) 8 false) 17 false) (docC (flN p : Nat) (setK (setK (setK K 1 (isB K 5)) 5 true) 8 false)) rfl rfl T7a.out.1 rfl ?_
  intro W8 B7 U7
  have T7 : Hid (Two w W8 (docC (flN p : Nat) (setK (setK (setK (setK K 1 (isB K 5)) 5 true) 8 false) 17 false)) zeroD) := T7a.out.doc B7 U7
  clear B7 U7 T7a
  go_upto_region 8 with fail
  have Xz : Hid (Two w W8.drew (docC (flN p : Nat) (setK (setK (setK (setK K 1 (isB K 5)) 5 true) 8 false) 17 false)) zeroD) := T7.out.step (below_drew1 _)
  have HC : Hid (∀ V, Box 34 V w.heap.size (docC (flN p : Nat) (setK (setK (setK (setK K 1 (isB K 5)) 5 true) 8 false) 17 false)) → V.cell? ⟨w.heap.size, 16, none⟩ = some (.int .u64 (K 15 : Nat))) := fun V hV => hV.cell 16 _ rfl
  refine wp_region_held_drew (S := fun V => Box 34 V w.heap.size (docC (flN p : Nat) (setK (setK (setK (setK K 1 (isB K 5)) 5 true) 8 false) 17 false)) ∧ V.cell? ⟨w.heap.size, 16, none⟩ = some (.int .u64 (K 15 : Nat))) (by kernel_rfl) ⟨Xz.out.1, HC.out _ Xz.out.1⟩ ?_
  intro hS
  refine wpAnyH_take (i := 0) (v := .agg (docC (flN p : Nat) (setK (setK (setK (setK K 1 (isB K 5)) 5 true) 8 false) 17 false))) rfl (by kernel_rfl) (by kernel_rfl) (by kernel_rfl) (fun _ _ _ h => h) (Or.inl ⟨by kernel_rfl, fun V hV => yield_docB hV.1 _ rfl rfl⟩) hS ?_
  (try simp only [Act.put, List.getElem_toArray, List.getElem_cons_succ, List.getElem_cons_zero, List.setIfInBounds_toArray, List.set_cons_zero, List.set_cons_succ])
  refine wpAnyH_take (i := 1) (v := ?_) rfl (by kernel_rfl) (by kernel_rfl) (by kernel_rfl) (fun _ _ _ h => h) (Or.inl ⟨by kernel_rfl, ?_⟩) hS ?_
  rotate_left
  · intro w hSw; (try dsimp only at hSw); go_simp; try (with_reducible rfl)
  (try simp only [Act.put, List.getElem_toArray, List.getElem_cons_succ, List.getElem_cons_zero, List.setIfInBounds_toArray, List.set_cons_zero, List.set_cons_succ])
  refine wpAnyH_take (i := 2) (v := ?_) rfl (by kernel_rfl) (by kernel_rfl) (by kernel_rfl) (fun _ _ _ h => h) (Or.inl ⟨by kernel_rfl, ?_⟩) hS ?_
  rotate_left
  · intro w hSw; (try dsimp only at hSw); go_simp; try (with_reducible rfl)
  (try simp only [Act.put, List.getElem_toArray, List.getElem_cons_succ, List.getElem_cons_zero, List.setIfInBounds_toArray, List.set_cons_zero, List.set_cons_succ])
  refine wpAnyH_take (i := 3) (v := ?_) rfl (by kernel_rfl) (by kernel_rfl) (by kernel_rfl) (fun _ _ _ h => h) (Or.inl ⟨by kernel_rfl, ?_⟩) hS ?_
  rotate_left
  · intro w hSw; (try dsimp only at hSw); go_simp; try (with_reducible rfl)
  (try simp only [Act.put, List.getElem_toArray, List.getElem_cons_succ, List.getElem_cons_zero, List.setIfInBounds_toArray, List.set_cons_zero, List.set_cons_succ])
  refine wpAnyH_ready (rs := [4]) (by kernel_rfl) (by simp) ?_
  refine AllReadyH.cons rfl (fun K1 hK1 => ?_) AllReadyH.nil
  rw [if_pos (by kernel_rfl)]
  refine wp_store_doc _ _ rfl (w.heap.size + 1) (flN p : Nat) (setK (setK (setK (setK K 1 (isB K 5)) 5 true) 8 false) 17 false) zeroD rfl rfl Xz.out.2.1 zeroD_size ?_
  intro W9 B9 U9
  have T9 : Hid (Box 34 W9 (w.heap.size + 1) (docC (flN p : Nat) (setK (setK (setK (setK K 1 (isB K 5)) 5 true) 8 false) 17 false)) ∧ Below w.heap.size w W9 ∧ Box 34 W9 w.heap.size (docC (flN p : Nat) (setK (setK (setK (setK K 1 (isB K 5)) 5 true) 8 false) 17 false))) := ⟨B9, Xz.out.2.2.trans (U9.below (Nat.le_succ _) Xz.out.2.2.size), U9.box Xz.out.1 (by omega)⟩
  clear B9 U9
  refine hK1.out _ _ ⟨T9.out.2.2, HC.out _ T9.out.2.2⟩ (fun hS2 => ?_)
  clear hK1 K1 hS
  (try simp only [Act.put, List.getElem_toArray, List.getElem_cons_succ, List.getElem_cons_zero, List.setIfInBounds_toArray, List.set_cons_zero, List.set_cons_succ])
  refine wpAnyH_take (i := 5) (v := ?_) rfl (by kernel_rfl) (by kernel_rfl) (by kernel_rfl) (fun _ _ _ h => h) (Or.inl ⟨by kernel_rfl, ?_⟩) hS2 ?_
  rotate_left
  · intro w hSw; (try dsimp only at hSw); go_simp; try (with_reducible rfl)
  (try simp only [Act.put, List.getElem_toArray, List.getElem_cons_succ, List.getElem_cons_zero, List.setIfInBounds_toArray, List.set_cons_zero, List.set_cons_succ])
  refine wpAnyH_take (i := 6) (v := ?_) rfl (by kernel_rfl) (by kernel_rfl) (by kernel_rfl) (fun _ _ _ h => h) (Or.inl ⟨by kernel_rfl, ?_⟩) hS2 ?_
  rotate_left
  · intro w hSw; (try dsimp only at hSw); go_simp; try (with_reducible rfl)
  (try simp only [Act.put, List.getElem_toArray, List.getElem_cons_succ, List.getElem_cons_zero, List.setIfInBounds_toArray, List.set_cons_zero, List.set_cons_succ])
  refine wpAnyH_done (by kernel_rfl) ?_ _
  clear hS2
  go_wp2_with fail
  exact bodyPost_ret (v := .tuple #[.agg (docC (flN p : Nat) (setK (setK (setK (setK K 1 (isB K 5)) 5 true) 8 false) 17 false)), .int .u64 (K 15 : Nat), .bool true]) (resultsD3 (p := 2) (t := 3) (u := 4) rfl _ _ (w.heap.size + 1) (flN p : Nat) (setK (setK (setK (setK K 1 (isB K 5)) 5 true) 8 false) 17 false) rfl T9.out.1) rfl ⟨(by rw [HPP.out]; rfl), T9.out.2.1⟩
set_option maxHeartbeats 8000000 in
theorem dsret_yes3 (K : Nat → Nat) (hK : Ok K) (w : World) : Calls Try.prog 16 #[.agg (docC 3 K)] w fun e w' => e = .returned (.tuple #[.agg (docC (flN (isB K 8) : Nat) (backS K)), .int .u64 (K 15 : Nat), .bool true]) ∧ Below w.heap.size w w' := by
  have T0 : Hid (Two w ((w.alloc (.cells (docC 3 K) 34)).alloc (.cells #[.int .i64 0, .int .u64 0, .int .u64 0, .int .u64 0, .int .u64 0, .int .u64 0, .int .u64 0, .int .u64 0, .int .u64 0, .int .u64 0, .int .u64 0, .int .u64 0, .int .u64 0, .int .u64 0, .int .u64 0, .int .u64 0, .int .u64 0, .int .u64 0, .int .u64 0, .int .u64 0, .int .u64 0, .int .u64 0, .int .u64 0] 34)) (docC 3 (K)) zeroD) := Two.new w _ _
  have HK : Hid (Ok K) := hK
  have H8 : Hid (∀ V, Calls Try.prog 21 #[.agg (docC 3 K), .int .i64 8] V fun e w' => e = .returned (.bool (isB K 8)) ∧ Below V.heap.size V w') := fun V => dis_any 3 K 8 hK V
  clear hK
  obtain ⟨p, hpp⟩ : ∃ p, isB K 8 = p := ⟨_, rfl⟩
  have HPP : Hid (isB K 8 = p) := hpp
  rw [hpp] at H8
  clear hpp
  have hw := wrap_small (flN p) (by have := flN_le p; omega)
  go_enter Try.func16, Try.ntmps16
  go_upto_region 1 with fail
  generalize ((w.alloc (.cells (docC 3 K) 34)).alloc (.cells #[.int .i64 0, .int .u64 0, .int .u64 0, .int .u64 0, .int .u64 0, .int .u64 0, .int .u64 0, .int .u64 0, .int .u64 0, .int .u64 0, .int .u64 0, .int .u64 0, .int .u64 0, .int .u64 0, .int .u64 0, .int .u64 0, .int .u64 0, .int .u64 0, .int .u64 0, .int .u64 0, .int .u64 0, .int .u64 0, .int .u64 0] 34)) = W at *
  have c0 : W.cell? ⟨w.heap.size, 0, none⟩ = some (.int .i64 3) := T0.out.1.cell 0 _ rfl
  go_upto_region 3 with fail
  refine wp_region_list ?_
  refine wpList_load_doc rfl _ rfl w.heap.size 3 K rfl T0.out.1 ?_
  refine wpList_step (fun KK hKK => ?_)
  go_simp
  refine (H8.out _).mono ?_
  rintro e w2 ⟨rfl, hb2⟩
  have T2 : Hid (Two w w2 (docC 3 (K)) zeroD) := T0.out.step hb2
  clear hb2
  refine hKK _ _ ?_
  clear hKK KK
  refine wpList_step (fun KK hKK => ?_)
  go_simp
  refine (flag_any p _).mono ?_
  rintro e w3 ⟨rfl, hw3⟩
  rw [hw3]
  clear hw3
  refine hKK _ _ ?_
  clear hKK KK
  have d0 : w2.cell? ⟨w.heap.size, 0, none⟩ = some (.int .i64 3) := T2.out.1.cell 0 _ rfl
  have d1 := T2.out.1.frozen 0
  go_upto_region 4 with fail
  have T3 : Hid (Two w (w2.setCell ⟨w.heap.size, 0, none⟩ (.int .i64 (flN p : Nat))) (docC (flN p : Nat) (K)) zeroD) := by
    have h := T2.out.set 0 (.int .i64 (flN p : Nat))
    rw [mode_docC 3 (flN p : Nat) K] at h
    exact h
  generalize w2.setCell ⟨w.heap.size, 0, none⟩ (.int .i64 (flN p : Nat)) = w4 at *
  clear d0 d1
  go_upto_region 4 with fail
  go_cut [1] (fun r wx => r = .pointer (some ⟨w.heap.size, 0, none⟩) ∧ Two w wx (docC (flN p : Nat) (setK (K) 1 (isB (K) 5))) zeroD)
  case first =>
    have Xd : Hid (Two w w4.drew (docC (flN p : Nat) (K)) zeroD) := T3.out.step (below_drew1 _)
    refine wp_region_held_drew (S := fun _ => True) (by kernel_rfl) trivial ?_
    intro hS
    refine wpAnyH_ready (rs := [0, 1]) (by kernel_rfl) (by simp) ?_
    refine AllReadyH.cons rfl (fun K1 hK1 => ?_) (AllReadyH.cons rfl (fun K1 hK1 => ?_) AllReadyH.nil)
    · rw [if_pos (by kernel_rfl)]
      refine wp_load_doc _ rfl w.heap.size (flN p : Nat) (K) rfl Xd.out.1 ?_
      refine hK1.out _ _ trivial (fun hS => ?_)
      clear hK1 K1
      (try simp only [Act.put, List.getElem_toArray, List.getElem_cons_succ, List.getElem_cons_zero, List.setIfInBounds_toArray, List.set_cons_zero, List.set_cons_succ])
      refine wpAnyH_ready (rs := [1]) (by kernel_rfl) (by simp) ?_
      refine AllReadyH.cons rfl (fun K1 hK1 => ?_) AllReadyH.nil
      rw [if_pos (by kernel_rfl)]
      refine wp_load_doc _ rfl w.heap.size (flN p : Nat) (K) rfl Xd.out.1 ?_
      refine hK1.out _ _ trivial (fun hS => ?_)
      clear hK1 K1
      (try simp only [Act.put, List.getElem_toArray, List.getElem_cons_succ, List.getElem_cons_zero, List.setIfInBounds_toArray, List.set_cons_zero, List.set_cons_succ])
      refine wpAnyH_ready (rs := [2]) (by kernel_rfl) (by simp) ?_
      refine AllReadyH.cons rfl (fun K1 hK1 => ?_) AllReadyH.nil
      go_simp
      refine (dis_any (flN p : Nat) (K) 5 HK.out _).mono ?_
      rintro e v1 ⟨rfl, hb⟩
      have Y1 : Hid (Two w v1 (docC (flN p : Nat) (K)) zeroD) := Xd.out.step hb
      clear hb
      refine hK1.out _ _ trivial (fun hS => ?_)
      clear hK1 K1
      (try simp only [Act.put, List.getElem_toArray, List.getElem_cons_succ, List.getElem_cons_zero, List.setIfInBounds_toArray, List.set_cons_zero, List.set_cons_succ])
      refine wpAnyH_ready (rs := [3]) (by kernel_rfl) (by simp) ?_
      refine AllReadyH.cons rfl (fun K1 hK1 => ?_) AllReadyH.nil
      go_simp
      refine (dset_any (flN p : Nat) (K) 1 (isB (K) 5) HK.out _).mono ?_
      rintro e v2 ⟨rfl, hb⟩
      have Y2 : Hid (Two w v2 (docC (flN p : Nat) (K)) zeroD) := Y1.out.step hb
      clear hb
      refine hK1.out _ _ trivial (fun hS => ?_)
      clear hK1 K1
      (try simp only [Act.put, List.getElem_toArray, List.getElem_cons_succ, List.getElem_cons_zero, List.setIfInBounds_toArray, List.set_cons_zero, List.set_cons_succ])
      refine wpAnyH_ready (rs := [4]) (by kernel_rfl) (by simp) ?_
      refine AllReadyH.cons rfl (fun K1 hK1 => ?_) AllReadyH.nil
      rw [if_pos (by kernel_rfl)]
      refine wp_store_doc _ _ rfl w.heap.size (flN p : Nat) (setK (K) 1 (isB (K) 5)) (docC (flN p : Nat) (K)) rfl rfl Y2.out.1 rfl ?_
      intro W7 B7 U7
      have Z7 : Hid (Two w W7 (docC (flN p : Nat) (setK (K) 1 (isB (K) 5))) zeroD) := Y2.out.doc B7 U7
      refine hK1.out _ _ trivial (fun hS => ?_)
      clear hK1 K1 B7 U7
      (try simp only [Act.put, List.getElem_toArray, List.getElem_cons_succ, List.getElem_cons_zero, List.setIfInBounds_toArray, List.set_cons_zero, List.set_cons_succ])
      refine wpAnyH_done (by kernel_rfl) ?_ _
      clear hS
      go_wp2_with fail
      go_meet
      exact ⟨rfl, Z7.out⟩
    · rw [if_pos (by kernel_rfl)]
      refine wp_load_doc _ rfl w.heap.size (flN p : Nat) (K) rfl Xd.out.1 ?_
      refine hK1.out _ _ trivial (fun hS => ?_)
      clear hK1 K1
      (try simp only [Act.put, List.getElem_toArray, List.getElem_cons_succ, List.getElem_cons_zero, List.setIfInBounds_toArray, List.set_cons_zero, List.set_cons_succ])
      refine wpAnyH_ready (rs := [0, 2]) (by kernel_rfl) (by simp) ?_
      refine AllReadyH.cons rfl (fun K1 hK1 => ?_) (AllReadyH.cons rfl (fun K1 hK1 => ?_) AllReadyH.nil)
      · rw [if_pos (by kernel_rfl)]
        refine wp_load_doc _ rfl w.heap.size (flN p : Nat) (K) rfl Xd.out.1 ?_
        refine hK1.out _ _ trivial (fun hS => ?_)
        clear hK1 K1
        (try simp only [Act.put, List.getElem_toArray, List.getElem_cons_succ, List.getElem_cons_zero, List.setIfInBounds_toArray, List.set_cons_zero, List.set_cons_succ])
        refine wpAnyH_ready (rs := [2]) (by kernel_rfl) (by simp) ?_
        refine AllReadyH.cons rfl (fun K1 hK1 => ?_) AllReadyH.nil
        go_simp
        refine (dis_any (flN p : Nat) (K) 5 HK.out _).mono ?_
        rintro e v1 ⟨rfl, hb⟩
        have Y1 : Hid (Two w v1 (docC (flN p : Nat) (K)) zeroD) := Xd.out.step hb
        clear hb
        refine hK1.out _ _ trivial (fun hS => ?_)
        clear hK1 K1
        (try simp only [Act.put, List.getElem_toArray, List.getElem_cons_succ, List.getElem_cons_zero, List.setIfInBounds_toArray, List.set_cons_zero, List.set_cons_succ])
        refine wpAnyH_ready (rs := [3]) (by kernel_rfl) (by simp) ?_
        refine AllReadyH.cons rfl (fun K1 hK1 => ?_) AllReadyH.nil
        go_simp
        refine (dset_any (flN p : Nat) (K) 1 (isB (K) 5) HK.out _).mono ?_
        rintro e v2 ⟨rfl, hb⟩
        have Y2 : Hid (Two w v2 (docC (flN p : Nat) (K)) zeroD) := Y1.out.step hb
        clear hb
        refine hK1.out _ _ trivial (fun hS => ?_)
        clear hK1 K1
        (try simp only [Act.put, List.getElem_toArray, List.getElem_cons_succ, List.getElem_cons_zero, List.setIfInBounds_toArray, List.set_cons_zero, List.set_cons_succ])
        refine wpAnyH_ready (rs := [4]) (by kernel_rfl) (by simp) ?_
        refine AllReadyH.cons rfl (fun K1 hK1 => ?_) AllReadyH.nil
        rw [if_pos (by kernel_rfl)]
        refine wp_store_doc _ _ rfl w.heap.size (flN p : Nat) (setK (K) 1 (isB (K) 5)) (docC (flN p : Nat) (K)) rfl rfl Y2.out.1 rfl ?_
        intro W7 B7 U7
        have Z7 : Hid (Two w W7 (docC (flN p : Nat) (setK (K) 1 (isB (K) 5))) zeroD) := Y2.out.doc B7 U7
        refine hK1.out _ _ trivial (fun hS => ?_)
        clear hK1 K1 B7 U7
        (try simp only [Act.put, List.getElem_toArray, List.getElem_cons_succ, List.getElem_cons_zero, List.setIfInBounds_toArray, List.set_cons_zero, List.set_cons_succ])
        refine wpAnyH_done (by kernel_rfl) ?_ _
        clear hS
        go_wp2_with fail
        go_meet
        exact ⟨rfl, Z7.out⟩
      · go_simp
        refine (dis_any (flN p : Nat) (K) 5 HK.out _).mono ?_
        rintro e v1 ⟨rfl, hb⟩
        have Y1 : Hid (Two w v1 (docC (flN p : Nat) (K)) zeroD) := Xd.out.step hb
        clear hb
        refine hK1.out _ _ trivial (fun hS => ?_)
        clear hK1 K1
        (try simp only [Act.put, List.getElem_toArray, List.getElem_cons_succ, List.getElem_cons_zero, List.setIfInBounds_toArray, List.set_cons_zero, List.set_cons_succ])
        refine wpAnyH_ready (rs := [0]) (by kernel_rfl) (by simp) ?_
        refine AllReadyH.cons rfl (fun K1 hK1 => ?_) AllReadyH.nil
        rw [if_pos (by kernel_rfl)]
        refine wp_load_doc _ rfl w.heap.size (flN p : Nat) (K) rfl Y1.out.1 ?_
        refine hK1.out _ _ trivial (fun hS => ?_)
        clear hK1 K1
        (try simp only [Act.put, List.getElem_toArray, List.getElem_cons_succ, List.getElem_cons_zero, List.setIfInBounds_toArray, List.set_cons_zero, List.set_cons_succ])
        refine wpAnyH_ready (rs := [3]) (by kernel_rfl) (by simp) ?_
        refine AllReadyH.cons rfl (fun K1 hK1 => ?_) AllReadyH.nil
        go_simp
        refine (dset_any (flN p : Nat) (K) 1 (isB (K) 5) HK.out _).mono ?_
        rintro e v2 ⟨rfl, hb⟩
        have Y2 : Hid (Two w v2 (docC (flN p : Nat) (K)) zeroD) := Y1.out.step hb
        clear hb
        refine hK1.out _ _ trivial (fun hS => ?_)
        clear hK1 K1
        (try simp only [Act.put, List.getElem_toArray, List.getElem_cons_succ, List.getElem_cons_zero, List.setIfInBounds_toArray, List.set_cons_zero, List.set_cons_succ])
        refine wpAnyH_ready (rs := [4]) (by kernel_rfl) (by simp) ?_
        refine AllReadyH.cons rfl (fun K1 hK1 => ?_) AllReadyH.nil
        rw [if_pos (by kernel_rfl)]
        refine wp_store_doc _ _ rfl w.heap.size (flN p : Nat) (setK (K) 1 (isB (K) 5)) (docC (flN p : Nat) (K)) rfl rfl Y2.out.1 rfl ?_
        intro W7 B7 U7
        have Z7 : Hid (Two w W7 (docC (flN p : Nat) (setK (K) 1 (isB (K) 5))) zeroD) := Y2.out.doc B7 U7
        refine hK1.out _ _ trivial (fun hS => ?_)
        clear hK1 K1 B7 U7
        (try simp only [Act.put, List.getElem_toArray, List.getElem_cons_succ, List.getElem_cons_zero, List.setIfInBounds_toArray, List.set_cons_zero, List.set_cons_succ])
        refine wpAnyH_done (by kernel_rfl) ?_ _
        clear hS
        go_wp2_with fail
        go_meet
        exact ⟨rfl, Z7.out⟩
  case rest =>
  obtain ⟨rfl, ht⟩ := hcut
  have T4 : Hid (Two w wc (docC (flN p : Nat) (setK (K) 1 (isB (K) 5))) zeroD) := ht
  clear ht
  have HK4 : Hid (Ok (setK K 1 (isB K 5))) := setK_ok HK.out _ _
  go_upto_region 5 with fail
  refine wp_region_list ?_
  refine wpList_load_doc rfl _ rfl w.heap.size (flN p : Nat) (setK K 1 (isB K 5)) rfl T4.out.1 ?_
  refine wpList_step (fun KK hKK => ?_)
  go_simp
  refine (dset_any (flN p : Nat) (setK K 1 (isB K 5)) 5 true HK4.out _).mono ?_
  rintro e v1 ⟨rfl, hb⟩
  have T5a : Hid (Two w v1 (docC (flN p : Nat) (setK K 1 (isB K 5))) zeroD) := T4.out.step hb
  clear hb
  refine hKK _ _ ?_
  clear hKK KK
  refine wpList_store_doc rfl _ _ rfl w.heap.size (flN p : Nat) (setK (setK K 1 (isB K 5)) 5 true) (docC (flN p : Nat) (setK K 1 (isB K 5))) rfl rfl T5a.out.1 rfl ?_
  intro W5 B7 U7
  have T5 : Hid (Two w W5 (docC (flN p : Nat) (setK (setK K 1 (isB K 5)) 5 true)) zeroD) := T5a.out.doc B7 U7
  clear B7 U7 T5a
  have HK5 : Hid (Ok (setK (setK K 1 (isB K 5)) 5 true)) := setK_ok HK4.out _ _
  go_upto_region 6 with fail
  refine wp_region_list ?_
  refine wpList_load_doc rfl _ rfl w.heap.size (flN p : Nat) (setK (setK K 1 (isB K 5)) 5 true) rfl T5.out.1 ?_
  refine wpList_step (fun KK hKK => ?_)
  go_simp
  refine (dset_any (flN p : Nat) (setK (setK K 1 (isB K 5)) 5 true) 8 false HK5.out _).mono ?_
  rintro e v6 ⟨rfl, hb⟩
  have T6a : Hid (Two w v6 (docC (flN p : Nat) (setK (setK K 1 (isB K 5)) 5 true)) zeroD) := T5.out.step hb
  clear hb
  refine hKK _ _ ?_
  clear hKK KK
  refine wpList_store_doc rfl _ _ rfl w.heap.size (flN p : Nat) (setK (setK (setK K 1 (isB K 5)) 5 true) 8 false) (docC (flN p : Nat) (setK (setK K 1 (isB K 5)) 5 true)) rfl rfl T6a.out.1 rfl ?_
  intro W6 B7 U7
  have T6 : Hid (Two w W6 (docC (flN p : Nat) (setK (setK (setK K 1 (isB K 5)) 5 true) 8 false)) zeroD) := T6a.out.doc B7 U7
  clear B7 U7 T6a
  have HK6 : Hid (Ok (setK (setK (setK K 1 (isB K 5)) 5 true) 8 false)) := setK_ok HK5.out _ _
  go_upto_region 7 with fail
  refine wp_region_list ?_
  refine wpList_load_doc rfl _ rfl w.heap.size (flN p : Nat) (setK (setK (setK K 1 (isB K 5)) 5 true) 8 false) rfl T6.out.1 ?_
  refine wpList_step (fun KK hKK => ?_)
  go_simp
  refine (dset_any (flN p : Nat) (setK (setK (setK K 1 (isB K 5)) 5 true) 8 false) 17 false HK6.out _).mono ?_
  rintro e v7 ⟨rfl, hb⟩
  have T7a : Hid (Two w v7 (docC (flN p : Nat) (setK (setK (setK K 1 (isB K 5)) 5 true) 8 false)) zeroD) := T6.out.step hb
  clear hb
  refine hKK _ _ ?_
  clear hKK KK
  refine wpList_store_doc rfl _ _ rfl w.heap.size (flN p : Nat) (setK (setK (setK (setK K 1 (isB K 5)) 5 true) 8 false) 17 false) (docC (flN p : Nat) (setK (setK (setK K 1 (isB K 5)) 5 true) 8 false)) rfl rfl T7a.out.1 rfl ?_
  intro W8 B7 U7
  have T7 : Hid (Two w W8 (docC (flN p : Nat) (setK (setK (setK (setK K 1 (isB K 5)) 5 true) 8 false) 17 false)) zeroD) := T7a.out.doc B7 U7
  clear B7 U7 T7a
  go_upto_region 8 with fail
  have Xz : Hid (Two w W8.drew (docC (flN p : Nat) (setK (setK (setK (setK K 1 (isB K 5)) 5 true) 8 false) 17 false)) zeroD) := T7.out.step (below_drew1 _)
  have HC : Hid (∀ V, Box 34 V w.heap.size (docC (flN p : Nat) (setK (setK (setK (setK K 1 (isB K 5)) 5 true) 8 false) 17 false)) → V.cell? ⟨w.heap.size, 16, none⟩ = some (.int .u64 (K 15 : Nat))) := fun V hV => hV.cell 16 _ rfl
  refine wp_region_held_drew (S := fun V => Box 34 V w.heap.size (docC (flN p : Nat) (setK (setK (setK (setK K 1 (isB K 5)) 5 true) 8 false) 17 false)) ∧ V.cell? ⟨w.heap.size, 16, none⟩ = some (.int .u64 (K 15 : Nat))) (by kernel_rfl) ⟨Xz.out.1, HC.out _ Xz.out.1⟩ ?_
  intro hS
  refine wpAnyH_take (i := 0) (v := .agg (docC (flN p : Nat) (setK (setK (setK (setK K 1 (isB K 5)) 5 true) 8 false) 17 false))) rfl (by kernel_rfl) (by kernel_rfl) (by kernel_rfl) (fun _ _ _ h => h) (Or.inl ⟨by kernel_rfl, fun V hV => yield_docB hV.1 _ rfl rfl⟩) hS ?_
  (try simp only [Act.put, List.getElem_toArray, List.getElem_cons_succ, List.getElem_cons_zero, List.setIfInBounds_toArray, List.set_cons_zero, List.set_cons_succ])
  refine wpAnyH_take (i := 1) (v := ?_) rfl (by kernel_rfl) (by kernel_rfl) (by kernel_rfl) (fun _ _ _ h => h) (Or.inl ⟨by kernel_rfl, ?_⟩) hS ?_
  rotate_left
  · intro w hSw; (try dsimp only at hSw); go_simp; try (with_reducible rfl)
  (try simp only [Act.put, List.getElem_toArray, List.getElem_cons_succ, List.getElem_cons_zero, List.setIfInBounds_toArray, List.set_cons_zero, List.set_cons_succ])
  refine wpAnyH_take (i := 2) (v := ?_) rfl (by kernel_rfl) (by kernel_rfl) (by kernel_rfl) (fun _ _ _ h => h) (Or.inl ⟨by kernel_rfl, ?_⟩) hS ?_
  rotate_left
  · intro w hSw; (try dsimp only at hSw); go_simp; try (with_reducible rfl)
  (try simp only [Act.put, List.getElem_toArray, List.getElem_cons_succ, List.getElem_cons_zero, List.setIfInBounds_toArray, List.set_cons_zero, List.set_cons_succ])
  refine wpAnyH_take (i := 3) (v := ?_) rfl (by kernel_rfl) (by kernel_rfl) (by kernel_rfl) (fun _ _ _ h => h) (Or.inl ⟨by kernel_rfl, ?_⟩) hS ?_
  rotate_left
  · intro w hSw; (try dsimp only at hSw); go_simp; try (with_reducible rfl)
  (try simp only [Act.put, List.getElem_toArray, List.getElem_cons_succ, List.getElem_cons_zero, List.setIfInBounds_toArray, List.set_cons_zero, List.set_cons_succ])
  refine wpAnyH_ready (rs := [4]) (by kernel_rfl) (by simp) ?_
  refine AllReadyH.cons rfl (fun K1 hK1 => ?_) AllReadyH.nil
  rw [if_pos (by kernel_rfl)]
  refine wp_store_doc _ _ rfl (w.heap.size + 1) (flN p : Nat) (setK (setK (setK (setK K 1 (isB K 5)) 5 true) 8 false) 17 false) zeroD rfl rfl Xz.out.2.1 zeroD_size ?_
  intro W9 B9 U9
  have T9 : Hid (Box 34 W9 (w.heap.size + 1) (docC (flN p : Nat) (setK (setK (setK (setK K 1 (isB K 5)) 5 true) 8 false) 17 false)) ∧ Below w.heap.size w W9 ∧ Box 34 W9 w.heap.size (docC (flN p : Nat) (setK (setK (setK (setK K 1 (isB K 5)) 5 true) 8 false) 17 false))) := ⟨B9, Xz.out.2.2.trans (U9.below (Nat.le_succ _) Xz.out.2.2.size), U9.box Xz.out.1 (by omega)⟩
  clear B9 U9
  refine hK1.out _ _ ⟨T9.out.2.2, HC.out _ T9.out.2.2⟩ (fun hS2 => ?_)
  clear hK1 K1 hS
  (try simp only [Act.put, List.getElem_toArray, List.getElem_cons_succ, List.getElem_cons_zero, List.setIfInBounds_toArray, List.set_cons_zero, List.set_cons_succ])
  refine wpAnyH_take (i := 5) (v := ?_) rfl (by kernel_rfl) (by kernel_rfl) (by kernel_rfl) (fun _ _ _ h => h) (Or.inl ⟨by kernel_rfl, ?_⟩) hS2 ?_
  rotate_left
  · intro w hSw; (try dsimp only at hSw); go_simp; try (with_reducible rfl)
  (try simp only [Act.put, List.getElem_toArray, List.getElem_cons_succ, List.getElem_cons_zero, List.setIfInBounds_toArray, List.set_cons_zero, List.set_cons_succ])
  refine wpAnyH_take (i := 6) (v := ?_) rfl (by kernel_rfl) (by kernel_rfl) (by kernel_rfl) (fun _ _ _ h => h) (Or.inl ⟨by kernel_rfl, ?_⟩) hS2 ?_
  rotate_left
  · intro w hSw; (try dsimp only at hSw); go_simp; try (with_reducible rfl)
  (try simp only [Act.put, List.getElem_toArray, List.getElem_cons_succ, List.getElem_cons_zero, List.setIfInBounds_toArray, List.set_cons_zero, List.set_cons_succ])
  refine wpAnyH_done (by kernel_rfl) ?_ _
  clear hS2
  go_wp2_with fail
  exact bodyPost_ret (v := .tuple #[.agg (docC (flN p : Nat) (setK (setK (setK (setK K 1 (isB K 5)) 5 true) 8 false) 17 false)), .int .u64 (K 15 : Nat), .bool true]) (resultsD3 (p := 2) (t := 3) (u := 4) rfl _ _ (w.heap.size + 1) (flN p : Nat) (setK (setK (setK (setK K 1 (isB K 5)) 5 true) 8 false) 17 false) rfl T9.out.1) rfl ⟨(by rw [HPP.out]; rfl), T9.out.2.1⟩
end Go.Proofs.Ytdljceeoofhfnaa
