/- The document's calls Mret and Sret of layer 9. -/
import Derived.Test.YtdljceeoofhfnaaDt
import Derived.Test.YtdljceeoofhfnaaTb
namespace Go.Proofs.Ytdljceeoofhfnaa
open Go.RowKit Go.Maps
set_option linter.unusedVariables false
set_option linter.unusedSimpArgs false
set_option maxRecDepth 100000
theorem Two.doc {w W W' : World} {c d c' : Array Value} (h : Two w W c d) (hb : Box 34 W' w.heap.size c') (hu : Upon w.heap.size W W') : Two w W' c' d := ⟨hb, hu.box h.2.1 (by omega), h.2.2.trans (hu.below (Nat.le_refl _) h.2.2.size)⟩
theorem resultsD3 {fn : Func} {p t u : Tmp} (h : fn.results = #[.cell p 34, .tmp t, .tmp u]) (tmps : Array Value) (w : World) (b : Nat) (m : Int) (K : Nat → Nat)
    (hp : tmps.getD p undef = .pointer (some ⟨b, 0, none⟩)) (h1 : Box 34 w b (docC m K)) :
    (results fn tmps).run Try.prog w = .ok (.tuple #[.agg (docC m K), tmps.getD t undef, tmps.getD u undef]) w := by
  have hp' : tmps[p]?.getD undef = .pointer (some ⟨b, 0, none⟩) := by simpa using hp
  simp [results, h, hp', asAddr, load_doc h1]
theorem wrap_small (p : Nat) (h : p ≤ 3) : IntKind.i64.wrap (p : Int) = p := by simp [IntKind.wrap, IntKind.signed, IntKind.bits]; omega
set_option maxHeartbeats 2000000 in
theorem dmret_no (m : Int) (hm : m ≠ 3) (K : Nat → Nat) (w : World) : Calls Try.prog 18 #[.agg (docC m K)] w fun e w' => e = .returned (.tuple #[.agg (docC m K), .int .u64 0, .bool false]) ∧ Below w.heap.size w w' := by
  have T0 : Hid (Two w ((w.alloc (.cells (docC m K) 34)).alloc (.cells #[.int .i64 0, .int .u64 0, .int .u64 0, .int .u64 0, .int .u64 0, .int .u64 0, .int .u64 0, .int .u64 0, .int .u64 0, .int .u64 0, .int .u64 0, .int .u64 0, .int .u64 0, .int .u64 0, .int .u64 0, .int .u64 0, .int .u64 0, .int .u64 0, .int .u64 0, .int .u64 0, .int .u64 0, .int .u64 0, .int .u64 0] 34)) (docC m (K)) zeroD) := Two.new w _ _
  have h1 : (m != 3) = true := by simp [hm]
  have h2 : (m == 3) = false := by simp [hm]
  go_enter Try.func18, Try.ntmps18
  go_upto_region 1 with fail
  generalize ((w.alloc (.cells (docC m K) 34)).alloc (.cells #[.int .i64 0, .int .u64 0, .int .u64 0, .int .u64 0, .int .u64 0, .int .u64 0, .int .u64 0, .int .u64 0, .int .u64 0, .int .u64 0, .int .u64 0, .int .u64 0, .int .u64 0, .int .u64 0, .int .u64 0, .int .u64 0, .int .u64 0, .int .u64 0, .int .u64 0, .int .u64 0, .int .u64 0, .int .u64 0, .int .u64 0] 34)) = W at *
  have c0 : W.cell? ⟨w.heap.size, 0, none⟩ = some (.int .i64 m) := T0.out.1.cell 0 _ rfl
  go_upto_region 2 with fail
  refine wp_region_list ?_
  refine wpList_load_doc rfl _ rfl w.heap.size m (K) rfl T0.out.1 ?_
  refine wpList_store_doc rfl _ _ rfl (w.heap.size + 1) m (K) zeroD rfl rfl T0.out.2.1 zeroD_size ?_
  intro W9 B9 U9
  have T9 : Hid (Box 34 W9 (w.heap.size + 1) (docC m (K)) ∧ Below w.heap.size w W9) := ⟨B9, T0.out.2.2.trans (U9.below (Nat.le_succ _) T0.out.2.2.size)⟩
  clear B9 U9
  go_wp2_with fail
  exact bodyPost_ret (v := .tuple #[.agg (docC m (K)), .int .u64 0, .bool false]) (resultsD3 (p := 2) (t := 3) (u := 4) rfl _ _ (w.heap.size + 1) m (K) rfl T9.out.1) rfl ⟨rfl, T9.out.2⟩
set_option maxHeartbeats 8000000 in
theorem dmret_eq (K : Nat → Nat) (hK : Ok K) (hg : getN (K 0) 11 2 = 3) (w : World) : Calls Try.prog 18 #[.agg (docC 3 K)] w fun e w' => e = .returned (.tuple #[.agg (docC 3 (backK K)), .int .u64 (K 9 : Nat), .bool true]) ∧ Below w.heap.size w w' := by
  have T0 : Hid (Two w ((w.alloc (.cells (docC 3 K) 34)).alloc (.cells #[.int .i64 0, .int .u64 0, .int .u64 0, .int .u64 0, .int .u64 0, .int .u64 0, .int .u64 0, .int .u64 0, .int .u64 0, .int .u64 0, .int .u64 0, .int .u64 0, .int .u64 0, .int .u64 0, .int .u64 0, .int .u64 0, .int .u64 0, .int .u64 0, .int .u64 0, .int .u64 0, .int .u64 0, .int .u64 0, .int .u64 0] 34)) (docC 3 (K)) zeroD) := Two.new w _ _
  have HK : Hid (Ok K) := hK
  have HG : Hid (∀ V, Calls Try.prog 43 #[.int .u64 (K 0 : Nat), .int .i64 11, .int .i64 2] V fun e w' => e = .returned (.int .u64 3) ∧ Below V.heap.size V w') := fun V => by
    have h := rget_all (K 0) 11 2 (hK _) V V (Below.refl _ _)
    rw [hg] at h
    exact h
  clear hK hg
  go_enter Try.func18, Try.ntmps18
  go_upto_region 1 with fail
  generalize ((w.alloc (.cells (docC 3 K) 34)).alloc (.cells #[.int .i64 0, .int .u64 0, .int .u64 0, .int .u64 0, .int .u64 0, .int .u64 0, .int .u64 0, .int .u64 0, .int .u64 0, .int .u64 0, .int .u64 0, .int .u64 0, .int .u64 0, .int .u64 0, .int .u64 0, .int .u64 0, .int .u64 0, .int .u64 0, .int .u64 0, .int .u64 0, .int .u64 0, .int .u64 0, .int .u64 0] 34)) = W at *
  have c0 : W.cell? ⟨w.heap.size, 0, none⟩ = some (.int .i64 3) := T0.out.1.cell 0 _ rfl
  have c1 : W.cell? ⟨w.heap.size, 1, none⟩ = some (.int .u64 (K 0 : Nat)) := T0.out.1.cell 1 _ rfl
  go_wp2_with fail
  refine (HG.out _).mono ?_
  rintro e w1 ⟨rfl, hb1⟩
  have T1 : Hid (Two w w1 (docC 3 (K)) zeroD) := T0.out.step hb1
  have d0 : w1.cell? ⟨w.heap.size, 0, none⟩ = some (.int .i64 3) := T1.out.1.cell 0 _ rfl
  have d1 := T1.out.1.frozen 0
  clear hb1 c0 c1
  go_upto_region 4 with fail
  have T2 : Hid (Two w (w1.setCell ⟨w.heap.size, 0, none⟩ (.int .i64 3)) (docC 3 (K)) zeroD) := by
    have h := T1.out.set 0 (.int .i64 3)
    rw [mode_docC 3 3 K] at h
    exact h
  generalize w1.setCell ⟨w.heap.size, 0, none⟩ (.int .i64 3) = w2 at *
  clear d0 d1 T0 T1
  go_upto_region 4 with fail
  go_cut [1] (fun r wx => r = .pointer (some ⟨w.heap.size, 0, none⟩) ∧ Two w wx (docC 3 (setK (K) 3 (isB (K) 7))) zeroD)
  case first =>
    have Xd : Hid (Two w w2.drew (docC 3 (K)) zeroD) := T2.out.step (below_drew1 _)
    refine wp_region_held_drew (S := fun _ => True) (by kernel_rfl) trivial ?_
    intro hS
    refine wpAnyH_ready (rs := [0, 1]) (by kernel_rfl) (by simp) ?_
    refine AllReadyH.cons rfl (fun K1 hK1 => ?_) (AllReadyH.cons rfl (fun K1 hK1 => ?_) AllReadyH.nil)
    · rw [if_pos (by kernel_rfl)]
      refine wp_load_doc _ rfl w.heap.size 3 (K) rfl Xd.out.1 ?_
      refine hK1.out _ _ trivial (fun hS => ?_)
      clear hK1 K1
      (try simp only [Act.put, List.getElem_toArray, List.getElem_cons_succ, List.getElem_cons_zero, List.setIfInBounds_toArray, List.set_cons_zero, List.set_cons_succ])
      refine wpAnyH_ready (rs := [1]) (by kernel_rfl) (by simp) ?_
      refine AllReadyH.cons rfl (fun K1 hK1 => ?_) AllReadyH.nil
      rw [if_pos (by kernel_rfl)]
      refine wp_load_doc _ rfl w.heap.size 3 (K) rfl Xd.out.1 ?_
      refine hK1.out _ _ trivial (fun hS => ?_)
      clear hK1 K1
      (try simp only [Act.put, List.getElem_toArray, List.getElem_cons_succ, List.getElem_cons_zero, List.setIfInBounds_toArray, List.set_cons_zero, List.set_cons_succ])
      refine wpAnyH_ready (rs := [2]) (by kernel_rfl) (by simp) ?_
      refine AllReadyH.cons rfl (fun K1 hK1 => ?_) AllReadyH.nil
      go_simp
      refine (dis_any 3 (K) 7 HK.out _).mono ?_
      rintro e v1 ⟨rfl, hb⟩
      have Y1 : Hid (Two w v1 (docC 3 (K)) zeroD) := Xd.out.step hb
      clear hb
      refine hK1.out _ _ trivial (fun hS => ?_)
      clear hK1 K1
      (try simp only [Act.put, List.getElem_toArray, List.getElem_cons_succ, List.getElem_cons_zero, List.setIfInBounds_toArray, List.set_cons_zero, List.set_cons_succ])
      refine wpAnyH_ready (rs := [3]) (by kernel_rfl) (by simp) ?_
      refine AllReadyH.cons rfl (fun K1 hK1 => ?_) AllReadyH.nil
      go_simp
      refine (dset_any 3 (K) 3 (isB (K) 7) HK.out _).mono ?_
      rintro e v2 ⟨rfl, hb⟩
      have Y2 : Hid (Two w v2 (docC 3 (K)) zeroD) := Y1.out.step hb
      clear hb
      refine hK1.out _ _ trivial (fun hS => ?_)
      clear hK1 K1
      (try simp only [Act.put, List.getElem_toArray, List.getElem_cons_succ, List.getElem_cons_zero, List.setIfInBounds_toArray, List.set_cons_zero, List.set_cons_succ])
      refine wpAnyH_ready (rs := [4]) (by kernel_rfl) (by simp) ?_
      refine AllReadyH.cons rfl (fun K1 hK1 => ?_) AllReadyH.nil
      rw [if_pos (by kernel_rfl)]
      refine wp_store_doc _ _ rfl w.heap.size 3 (setK (K) 3 (isB (K) 7)) (docC 3 (K)) rfl rfl Y2.out.1 rfl ?_
      intro W7 B7 U7
      have Z7 : Hid (Two w W7 (docC 3 (setK (K) 3 (isB (K) 7))) zeroD) := Y2.out.doc B7 U7
      refine hK1.out _ _ trivial (fun hS => ?_)
      clear hK1 K1 B7 U7
      (try simp only [Act.put, List.getElem_toArray, List.getElem_cons_succ, List.getElem_cons_zero, List.setIfInBounds_toArray, List.set_cons_zero, List.set_cons_succ])
      refine wpAnyH_done (by kernel_rfl) ?_ _
      clear hS
      go_wp2_with fail
      go_meet
      exact ⟨rfl, Z7.out⟩
    · rw [if_pos (by kernel_rfl)]
      refine wp_load_doc _ rfl w.heap.size 3 (K) rfl Xd.out.1 ?_
      refine hK1.out _ _ trivial (fun hS => ?_)
      clear hK1 K1
      (try simp only [Act.put, List.getElem_toArray, List.getElem_cons_succ, List.getElem_cons_zero, List.setIfInBounds_toArray, List.set_cons_zero, List.set_cons_succ])
      refine wpAnyH_ready (rs := [0, 2]) (by kernel_rfl) (by simp) ?_
      refine AllReadyH.cons rfl (fun K1 hK1 => ?_) (AllReadyH.cons rfl (fun K1 hK1 => ?_) AllReadyH.nil)
      · rw [if_pos (by kernel_rfl)]
        refine wp_load_doc _ rfl w.heap.size 3 (K) rfl Xd.out.1 ?_
        refine hK1.out _ _ trivial (fun hS => ?_)
        clear hK1 K1
        (try simp only [Act.put, List.getElem_toArray, List.getElem_cons_succ, List.getElem_cons_zero, List.setIfInBounds_toArray, List.set_cons_zero, List.set_cons_succ])
        refine wpAnyH_ready (rs := [2]) (by kernel_rfl) (by simp) ?_
        refine AllReadyH.cons rfl (fun K1 hK1 => ?_) AllReadyH.nil
        go_simp
        refine (dis_any 3 (K) 7 HK.out _).mono ?_
        rintro e v1 ⟨rfl, hb⟩
        have Y1 : Hid (Two w v1 (docC 3 (K)) zeroD) := Xd.out.step hb
        clear hb
        refine hK1.out _ _ trivial (fun hS => ?_)
        clear hK1 K1
        (try simp only [Act.put, List.getElem_toArray, List.getElem_cons_succ, List.getElem_cons_zero, List.setIfInBounds_toArray, List.set_cons_zero, List.set_cons_succ])
        refine wpAnyH_ready (rs := [3]) (by kernel_rfl) (by simp) ?_
        refine AllReadyH.cons rfl (fun K1 hK1 => ?_) AllReadyH.nil
        go_simp
        refine (dset_any 3 (K) 3 (isB (K) 7) HK.out _).mono ?_
        rintro e v2 ⟨rfl, hb⟩
        have Y2 : Hid (Two w v2 (docC 3 (K)) zeroD) := Y1.out.step hb
        clear hb
        refine hK1.out _ _ trivial (fun hS => ?_)
        clear hK1 K1
        (try simp only [Act.put, List.getElem_toArray, List.getElem_cons_succ, List.getElem_cons_zero, List.setIfInBounds_toArray, List.set_cons_zero, List.set_cons_succ])
        refine wpAnyH_ready (rs := [4]) (by kernel_rfl) (by simp) ?_
        refine AllReadyH.cons rfl (fun K1 hK1 => ?_) AllReadyH.nil
        rw [if_pos (by kernel_rfl)]
        refine wp_store_doc _ _ rfl w.heap.size 3 (setK (K) 3 (isB (K) 7)) (docC 3 (K)) rfl rfl Y2.out.1 rfl ?_
        intro W7 B7 U7
        have Z7 : Hid (Two w W7 (docC 3 (setK (K) 3 (isB (K) 7))) zeroD) := Y2.out.doc B7 U7
        refine hK1.out _ _ trivial (fun hS => ?_)
        clear hK1 K1 B7 U7
        (try simp only [Act.put, List.getElem_toArray, List.getElem_cons_succ, List.getElem_cons_zero, List.setIfInBounds_toArray, List.set_cons_zero, List.set_cons_succ])
        refine wpAnyH_done (by kernel_rfl) ?_ _
        clear hS
        go_wp2_with fail
        go_meet
        exact ⟨rfl, Z7.out⟩
      · go_simp
        refine (dis_any 3 (K) 7 HK.out _).mono ?_
        rintro e v1 ⟨rfl, hb⟩
        have Y1 : Hid (Two w v1 (docC 3 (K)) zeroD) := Xd.out.step hb
        clear hb
        refine hK1.out _ _ trivial (fun hS => ?_)
        clear hK1 K1
        (try simp only [Act.put, List.getElem_toArray, List.getElem_cons_succ, List.getElem_cons_zero, List.setIfInBounds_toArray, List.set_cons_zero, List.set_cons_succ])
        refine wpAnyH_ready (rs := [0]) (by kernel_rfl) (by simp) ?_
        refine AllReadyH.cons rfl (fun K1 hK1 => ?_) AllReadyH.nil
        rw [if_pos (by kernel_rfl)]
        refine wp_load_doc _ rfl w.heap.size 3 (K) rfl Y1.out.1 ?_
        refine hK1.out _ _ trivial (fun hS => ?_)
        clear hK1 K1
        (try simp only [Act.put, List.getElem_toArray, List.getElem_cons_succ, List.getElem_cons_zero, List.setIfInBounds_toArray, List.set_cons_zero, List.set_cons_succ])
        refine wpAnyH_ready (rs := [3]) (by kernel_rfl) (by simp) ?_
        refine AllReadyH.cons rfl (fun K1 hK1 => ?_) AllReadyH.nil
        go_simp
        refine (dset_any 3 (K) 3 (isB (K) 7) HK.out _).mono ?_
        rintro e v2 ⟨rfl, hb⟩
        have Y2 : Hid (Two w v2 (docC 3 (K)) zeroD) := Y1.out.step hb
        clear hb
        refine hK1.out _ _ trivial (fun hS => ?_)
        clear hK1 K1
        (try simp only [Act.put, List.getElem_toArray, List.getElem_cons_succ, List.getElem_cons_zero, List.setIfInBounds_toArray, List.set_cons_zero, List.set_cons_succ])
        refine wpAnyH_ready (rs := [4]) (by kernel_rfl) (by simp) ?_
        refine AllReadyH.cons rfl (fun K1 hK1 => ?_) AllReadyH.nil
        rw [if_pos (by kernel_rfl)]
        refine wp_store_doc _ _ rfl w.heap.size 3 (setK (K) 3 (isB (K) 7)) (docC 3 (K)) rfl rfl Y2.out.1 rfl ?_
        intro W7 B7 U7
        have Z7 : Hid (Two w W7 (docC 3 (setK (K) 3 (isB (K) 7))) zeroD) := Y2.out.doc B7 U7
        refine hK1.out _ _ trivial (fun hS => ?_)
        clear hK1 K1 B7 U7
        (try simp only [Act.put, List.getElem_toArray, List.getElem_cons_succ, List.getElem_cons_zero, List.setIfInBounds_toArray, List.set_cons_zero, List.set_cons_succ])
        refine wpAnyH_done (by kernel_rfl) ?_ _
        clear hS
        go_wp2_with fail
        go_meet
        exact ⟨rfl, Z7.out⟩
  case rest =>
  obtain ⟨rfl, ht⟩ := hcut
  have T4 : Hid (Two w wc (docC 3 (setK (K) 3 (isB (K) 7))) zeroD) := ht
  clear ht
  have HK4 : Hid (Ok (setK K 3 (isB K 7))) := setK_ok HK.out _ _
  go_upto_region 5 with fail
  refine wp_region_list ?_
  refine wpList_load_doc rfl _ rfl w.heap.size 3 (setK K 3 (isB K 7)) rfl T4.out.1 ?_
  refine wpList_step (fun KK hKK => ?_)
  go_simp
  refine (dset_any 3 (setK K 3 (isB K 7)) 7 true HK4.out _).mono ?_
  rintro e v1 ⟨rfl, hb⟩
  have T5a : Hid (Two w v1 (docC 3 (setK K 3 (isB K 7))) zeroD) := T4.out.step hb
  clear hb
  refine hKK _ _ ?_
  clear hKK KK
  refine wpList_store_doc rfl _ _ rfl w.heap.size 3 (setK (setK K 3 (isB K 7)) 7 true) (docC 3 (setK K 3 (isB K 7))) rfl rfl T5a.out.1 rfl ?_
  intro W5 B7 U7
  have T5 : Hid (Two w W5 (docC 3 (setK (setK K 3 (isB K 7)) 7 true)) zeroD) := T5a.out.doc B7 U7
  clear B7 U7 T5a
  have HK5 : Hid (Ok (setK (setK K 3 (isB K 7)) 7 true)) := setK_ok HK4.out _ _
  have HP : Hid (∀ V, Calls Try.prog 38 #[.int .u64 ((setK (setK K 3 (isB K 7)) 7 true) 0 : Nat), .int .i64 11, .int .i64 2, .int .u64 0] V fun e w' => e = .returned (.int .u64 (putA ((setK (setK K 3 (isB K 7)) 7 true) 0) 11 2 0 : Nat)) ∧ Below V.heap.size V w') := fun V => rput_all ((setK (setK K 3 (isB K 7)) 7 true) 0) 11 2 0 (HK5.out _) (by decide) V V (Below.refl _ _)
  have c1 : W5.cell? ⟨w.heap.size, 1, none⟩ = some (.int .u64 ((setK (setK K 3 (isB K 7)) 7 true) 0 : Nat)) := T5.out.1.cell 1 _ rfl
  go_wp2_with fail
  refine (HP.out _).mono ?_
  rintro e w6 ⟨rfl, hb6⟩
  have T6 : Hid (Two w w6 (docC 3 (setK (setK K 3 (isB K 7)) 7 true)) zeroD) := T5.out.step hb6
  have d0 : w6.cell? ⟨w.heap.size, 1, none⟩ = some (.int .u64 ((setK (setK K 3 (isB K 7)) 7 true) 0 : Nat)) := T6.out.1.cell 1 _ rfl
  have d1 := T6.out.1.frozen 1
  clear hb6 c1 HP
  go_upto_region 7 with fail
  have T7 : Hid (Two w (w6.setCell ⟨w.heap.size, 1, none⟩ (.int .u64 (putA ((setK (setK K 3 (isB K 7)) 7 true) 0) 11 2 0 : Nat))) (docC 3 (backK K)) zeroD) := by
    have h := T6.out.set 1 (.int .u64 (putA ((setK (setK K 3 (isB K 7)) 7 true) 0) 11 2 0 : Nat))
    rw [(set_docC _ _ _).1] at h
    exact h
  generalize w6.setCell ⟨w.heap.size, 1, none⟩ (.int .u64 (putA ((setK (setK K 3 (isB K 7)) 7 true) 0) 11 2 0 : Nat)) = w7 at *
  clear d0 d1
  have e0 : w7.cell? ⟨w.heap.size, 0, none⟩ = some (.int .i64 3) := T7.out.1.cell 0 _ rfl
  go_upto_region 9 with fail
  have Xz : Hid (Two w w7.drew (docC 3 (backK K)) zeroD) := T7.out.step (below_drew1 _)
  have HC : Hid (∀ V, Box 34 V w.heap.size (docC 3 (backK K)) → V.cell? ⟨w.heap.size, 10, none⟩ = some (.int .u64 (K 9 : Nat))) := fun V hV => hV.cell 10 _ rfl
  refine wp_region_held_drew (S := fun V => Box 34 V w.heap.size (docC 3 (backK K)) ∧ V.cell? ⟨w.heap.size, 10, none⟩ = some (.int .u64 (K 9 : Nat))) (by kernel_rfl) ⟨Xz.out.1, HC.out _ Xz.out.1⟩ ?_
  intro hS
  refine wpAnyH_take (i := 0) (v := .agg (docC 3 (backK K))) rfl (by kernel_rfl) (by kernel_rfl) (by kernel_rfl) (fun _ _ _ h => h) (Or.inl ⟨by kernel_rfl, fun V hV => yield_docB hV.1 _ rfl rfl⟩) hS ?_
  (try simp only [Act.put, List.getElem_toArray, List.getElem_cons_succ, List.getElem_cons_zero, List.setIfInBounds_toArray, List.set_cons_zero, List.set_cons_succ])
  refine wpAnyH_take (i := 1) (v := ?_) rfl (by kernel_rfl) (by kernel_rfl) (by kernel_rfl) (fun _ _ _ h => h) (Or.inl ⟨by kernel_rfl, ?_⟩) hS ?_
  rotate_left
  · intro w hSw; (try dsimp only at hSw); go_simp; try (with_reducible rfl)
  (try simp only [Act.put, List.getElem_toArray, List.getElem_cons_succ, List.getElem_cons_zero, List.setIfInBounds_toArray, List.set_cons_zero, List.set_cons_succ])
  refine wpAnyH_take (i := 2) (v := ?_) rfl (by kernel_rfl) (by kernel_rfl) (by kernel_rfl) (fun _ _ _ h => h) (Or.inl ⟨by kernel_rfl, ?_⟩) hS ?_
  rotate_left
  · intro w hSw; (try dsimp only at hSw); go_simp; try (with_reducible rfl)
  (try simp only [Act.put, List.getElem_toArray, List.getElem_cons_succ, List.getElem_cons_zero, List.setIfInBounds_toArray, List.set_cons_zero, List.set_cons_succ])
  refine wpAnyH_take (i := 3) (v := ?_) rfl (by kernel_rfl) (by kernel_rfl) (by kernel_rfl) (fun _ _ _ h => h) (Or.inl ⟨by kernel_rfl, ?_⟩) hS ?_
  rotate_left
  · intro w hSw; (try dsimp only at hSw); go_simp; try (with_reducible rfl)
  (try simp only [Act.put, List.getElem_toArray, List.getElem_cons_succ, List.getElem_cons_zero, List.setIfInBounds_toArray, List.set_cons_zero, List.set_cons_succ])
  refine wpAnyH_ready (rs := [4]) (by kernel_rfl) (by simp) ?_
  refine AllReadyH.cons rfl (fun K1 hK1 => ?_) AllReadyH.nil
  rw [if_pos (by kernel_rfl)]
  refine wp_store_doc _ _ rfl (w.heap.size + 1) 3 (backK K) zeroD rfl rfl Xz.out.2.1 zeroD_size ?_
  intro W9 B9 U9
  have T9 : Hid (Box 34 W9 (w.heap.size + 1) (docC 3 (backK K)) ∧ Below w.heap.size w W9 ∧ Box 34 W9 w.heap.size (docC 3 (backK K))) := ⟨B9, Xz.out.2.2.trans (U9.below (Nat.le_succ _) Xz.out.2.2.size), U9.box Xz.out.1 (by omega)⟩
  clear B9 U9
  refine hK1.out _ _ ⟨T9.out.2.2, HC.out _ T9.out.2.2⟩ (fun hS2 => ?_)
  clear hK1 K1 hS
  (try simp only [Act.put, List.getElem_toArray, List.getElem_cons_succ, List.getElem_cons_zero, List.setIfInBounds_toArray, List.set_cons_zero, List.set_cons_succ])
  refine wpAnyH_take (i := 5) (v := ?_) rfl (by kernel_rfl) (by kernel_rfl) (by kernel_rfl) (fun _ _ _ h => h) (Or.inl ⟨by kernel_rfl, ?_⟩) hS2 ?_
  rotate_left
  · intro w hSw; (try dsimp only at hSw); go_simp; try (with_reducible rfl)
  (try simp only [Act.put, List.getElem_toArray, List.getElem_cons_succ, List.getElem_cons_zero, List.setIfInBounds_toArray, List.set_cons_zero, List.set_cons_succ])
  refine wpAnyH_take (i := 6) (v := ?_) rfl (by kernel_rfl) (by kernel_rfl) (by kernel_rfl) (fun _ _ _ h => h) (Or.inl ⟨by kernel_rfl, ?_⟩) hS2 ?_
  rotate_left
  · intro w hSw; (try dsimp only at hSw); go_simp; try (with_reducible rfl)
  (try simp only [Act.put, List.getElem_toArray, List.getElem_cons_succ, List.getElem_cons_zero, List.setIfInBounds_toArray, List.set_cons_zero, List.set_cons_succ])
  refine wpAnyH_done (by kernel_rfl) ?_ _
  clear hS2
  go_wp2_with fail
  exact bodyPost_ret (v := .tuple #[.agg (docC 3 (backK K)), .int .u64 (K 9 : Nat), .bool true]) (resultsD3 (p := 2) (t := 3) (u := 4) rfl _ _ (w.heap.size + 1) 3 (backK K) rfl T9.out.1) rfl ⟨rfl, T9.out.2.1⟩
set_option maxHeartbeats 8000000 in
theorem dmret_ne (K : Nat → Nat) (hK : Ok K) (p : Nat) (hg : getN (K 0) 11 2 = p) (hp : p ≠ 3) (w : World) : Calls Try.prog 18 #[.agg (docC 3 K)] w fun e w' => e = .returned (.tuple #[.agg (docC (p : Nat) (setK (backK K) 17 false)), .int .u64 (K 9 : Nat), .bool true]) ∧ Below w.heap.size w w' := by
  have T0 : Hid (Two w ((w.alloc (.cells (docC 3 K) 34)).alloc (.cells #[.int .i64 0, .int .u64 0, .int .u64 0, .int .u64 0, .int .u64 0, .int .u64 0, .int .u64 0, .int .u64 0, .int .u64 0, .int .u64 0, .int .u64 0, .int .u64 0, .int .u64 0, .int .u64 0, .int .u64 0, .int .u64 0, .int .u64 0, .int .u64 0, .int .u64 0, .int .u64 0, .int .u64 0, .int .u64 0, .int .u64 0] 34)) (docC 3 (K)) zeroD) := Two.new w _ _
  have HK : Hid (Ok K) := hK
  have HG : Hid (∀ V, Calls Try.prog 43 #[.int .u64 (K 0 : Nat), .int .i64 11, .int .i64 2] V fun e w' => e = .returned (.int .u64 (p : Nat)) ∧ Below V.heap.size V w') := fun V => by
    have h := rget_all (K 0) 11 2 (hK _) V V (Below.refl _ _)
    rw [hg] at h
    exact h
  have hw := wrap_small p (by rw [← hg]; exact get2_le _)
  have h1 : ((p : Int) != 3) = true := by simp; omega
  have h2 : ((p : Int) == 3) = false := by simp; omega
  have h3 : ¬ (p : Int) = 3 := by omega
  clear hK hg hp
  go_enter Try.func18, Try.ntmps18
  go_upto_region 1 with fail
  generalize ((w.alloc (.cells (docC 3 K) 34)).alloc (.cells #[.int .i64 0, .int .u64 0, .int .u64 0, .int .u64 0, .int .u64 0, .int .u64 0, .int .u64 0, .int .u64 0, .int .u64 0, .int .u64 0, .int .u64 0, .int .u64 0, .int .u64 0, .int .u64 0, .int .u64 0, .int .u64 0, .int .u64 0, .int .u64 0, .int .u64 0, .int .u64 0, .int .u64 0, .int .u64 0, .int .u64 0] 34)) = W at *
  have c0 : W.cell? ⟨w.heap.size, 0, none⟩ = some (.int .i64 3) := T0.out.1.cell 0 _ rfl
  have c1 : W.cell? ⟨w.heap.size, 1, none⟩ = some (.int .u64 (K 0 : Nat)) := T0.out.1.cell 1 _ rfl
  go_wp2_with fail
  refine (HG.out _).mono ?_
  rintro e w1 ⟨rfl, hb1⟩
  have T1 : Hid (Two w w1 (docC 3 (K)) zeroD) := T0.out.step hb1
  have d0 : w1.cell? ⟨w.heap.size, 0, none⟩ = some (.int .i64 3) := T1.out.1.cell 0 _ rfl
  have d1 := T1.out.1.frozen 0
  clear hb1 c0 c1
  go_upto_region 4 with fail
  have T2 : Hid (Two w (w1.setCell ⟨w.heap.size, 0, none⟩ (.int .i64 (p : Nat))) (docC (p : Nat) (K)) zeroD) := by
    have h := T1.out.set 0 (.int .i64 (p : Nat))
    rw [mode_docC 3 (p : Nat) K] at h
    exact h
  generalize w1.setCell ⟨w.heap.size, 0, none⟩ (.int .i64 (p : Nat)) = w2 at *
  clear d0 d1 T0 T1
  go_upto_region 4 with fail
  go_cut [1] (fun r wx => r = .pointer (some ⟨w.heap.size, 0, none⟩) ∧ Two w wx (docC (p : Nat) (setK (K) 3 (isB (K) 7))) zeroD)
  case first =>
    have Xd : Hid (Two w w2.drew (docC (p : Nat) (K)) zeroD) := T2.out.step (below_drew1 _)
    refine wp_region_held_drew (S := fun _ => True) (by kernel_rfl) trivial ?_
    intro hS
    refine wpAnyH_ready (rs := [0, 1]) (by kernel_rfl) (by simp) ?_
    refine AllReadyH.cons rfl (fun K1 hK1 => ?_) (AllReadyH.cons rfl (fun K1 hK1 => ?_) AllReadyH.nil)
    · rw [if_pos (by kernel_rfl)]
      refine wp_load_doc _ rfl w.heap.size (p : Nat) (K) rfl Xd.out.1 ?_
      refine hK1.out _ _ trivial (fun hS => ?_)
      clear hK1 K1
      (try simp only [Act.put, List.getElem_toArray, List.getElem_cons_succ, List.getElem_cons_zero, List.setIfInBounds_toArray, List.set_cons_zero, List.set_cons_succ])
      refine wpAnyH_ready (rs := [1]) (by kernel_rfl) (by simp) ?_
      refine AllReadyH.cons rfl (fun K1 hK1 => ?_) AllReadyH.nil
      rw [if_pos (by kernel_rfl)]
      refine wp_load_doc _ rfl w.heap.size (p : Nat) (K) rfl Xd.out.1 ?_
      refine hK1.out _ _ trivial (fun hS => ?_)
      clear hK1 K1
      (try simp only [Act.put, List.getElem_toArray, List.getElem_cons_succ, List.getElem_cons_zero, List.setIfInBounds_toArray, List.set_cons_zero, List.set_cons_succ])
      refine wpAnyH_ready (rs := [2]) (by kernel_rfl) (by simp) ?_
      refine AllReadyH.cons rfl (fun K1 hK1 => ?_) AllReadyH.nil
      go_simp
      refine (dis_any (p : Nat) (K) 7 HK.out _).mono ?_
      rintro e v1 ⟨rfl, hb⟩
      have Y1 : Hid (Two w v1 (docC (p : Nat) (K)) zeroD) := Xd.out.step hb
      clear hb
      refine hK1.out _ _ trivial (fun hS => ?_)
      clear hK1 K1
      (try simp only [Act.put, List.getElem_toArray, List.getElem_cons_succ, List.getElem_cons_zero, List.setIfInBounds_toArray, List.set_cons_zero, List.set_cons_succ])
      refine wpAnyH_ready (rs := [3]) (by kernel_rfl) (by simp) ?_
      refine AllReadyH.cons rfl (fun K1 hK1 => ?_) AllReadyH.nil
      go_simp
      refine (dset_any (p : Nat) (K) 3 (isB (K) 7) HK.out _).mono ?_
      rintro e v2 ⟨rfl, hb⟩
      have Y2 : Hid (Two w v2 (docC (p : Nat) (K)) zeroD) := Y1.out.step hb
      clear hb
      refine hK1.out _ _ trivial (fun hS => ?_)
      clear hK1 K1
      (try simp only [Act.put, List.getElem_toArray, List.getElem_cons_succ, List.getElem_cons_zero, List.setIfInBounds_toArray, List.set_cons_zero, List.set_cons_succ])
      refine wpAnyH_ready (rs := [4]) (by kernel_rfl) (by simp) ?_
      refine AllReadyH.cons rfl (fun K1 hK1 => ?_) AllReadyH.nil
      rw [if_pos (by kernel_rfl)]
      refine wp_store_doc _ _ rfl w.heap.size (p : Nat) (setK (K) 3 (isB (K) 7)) (docC (p : Nat) (K)) rfl rfl Y2.out.1 rfl ?_
      intro W7 B7 U7
      have Z7 : Hid (Two w W7 (docC (p : Nat) (setK (K) 3 (isB (K) 7))) zeroD) := Y2.out.doc B7 U7
      refine hK1.out _ _ trivial (fun hS => ?_)
      clear hK1 K1 B7 U7
      (try simp only [Act.put, List.getElem_toArray, List.getElem_cons_succ, List.getElem_cons_zero, List.setIfInBounds_toArray, List.set_cons_zero, List.set_cons_succ])
      refine wpAnyH_done (by kernel_rfl) ?_ _
      clear hS
      go_wp2_with fail
      go_meet
      exact ⟨rfl, Z7.out⟩
    · rw [if_pos (by kernel_rfl)]
      refine wp_load_doc _ rfl w.heap.size (p : Nat) (K) rfl Xd.out.1 ?_
      refine hK1.out _ _ trivial (fun hS => ?_)
      clear hK1 K1
      (try simp only [Act.put, List.getElem_toArray, List.getElem_cons_succ, List.getElem_cons_zero, List.setIfInBounds_toArray, List.set_cons_zero, List.set_cons_succ])
      refine wpAnyH_ready (rs := [0, 2]) (by kernel_rfl) (by simp) ?_
      refine AllReadyH.cons rfl (fun K1 hK1 => ?_) (AllReadyH.cons rfl (fun K1 hK1 => ?_) AllReadyH.nil)
      · rw [if_pos (by kernel_rfl)]
        refine wp_load_doc _ rfl w.heap.size (p : Nat) (K) rfl Xd.out.1 ?_
        refine hK1.out _ _ trivial (fun hS => ?_)
        clear hK1 K1
        (try simp only [Act.put, List.getElem_toArray, List.getElem_cons_succ, List.getElem_cons_zero, List.setIfInBounds_toArray, List.set_cons_zero, List.set_cons_succ])
        refine wpAnyH_ready (rs := [2]) (by kernel_rfl) (by simp) ?_
        refine AllReadyH.cons rfl (fun K1 hK1 => ?_) AllReadyH.nil
        go_simp
        refine (dis_any (p : Nat) (K) 7 HK.out _).mono ?_
        rintro e v1 ⟨rfl, hb⟩
        have Y1 : Hid (Two w v1 (docC (p : Nat) (K)) zeroD) := Xd.out.step hb
        clear hb
        refine hK1.out _ _ trivial (fun hS => ?_)
        clear hK1 K1
        (try simp only [Act.put, List.getElem_toArray, List.getElem_cons_succ, List.getElem_cons_zero, List.setIfInBounds_toArray, List.set_cons_zero, List.set_cons_succ])
        refine wpAnyH_ready (rs := [3]) (by kernel_rfl) (by simp) ?_
        refine AllReadyH.cons rfl (fun K1 hK1 => ?_) AllReadyH.nil
        go_simp
        refine (dset_any (p : Nat) (K) 3 (isB (K) 7) HK.out _).mono ?_
        rintro e v2 ⟨rfl, hb⟩
        have Y2 : Hid (Two w v2 (docC (p : Nat) (K)) zeroD) := Y1.out.step hb
        clear hb
        refine hK1.out _ _ trivial (fun hS => ?_)
        clear hK1 K1
        (try simp only [Act.put, List.getElem_toArray, List.getElem_cons_succ, List.getElem_cons_zero, List.setIfInBounds_toArray, List.set_cons_zero, List.set_cons_succ])
        refine wpAnyH_ready (rs := [4]) (by kernel_rfl) (by simp) ?_
        refine AllReadyH.cons rfl (fun K1 hK1 => ?_) AllReadyH.nil
        rw [if_pos (by kernel_rfl)]
        refine wp_store_doc _ _ rfl w.heap.size (p : Nat) (setK (K) 3 (isB (K) 7)) (docC (p : Nat) (K)) rfl rfl Y2.out.1 rfl ?_
        intro W7 B7 U7
        have Z7 : Hid (Two w W7 (docC (p : Nat) (setK (K) 3 (isB (K) 7))) zeroD) := Y2.out.doc B7 U7
        refine hK1.out _ _ trivial (fun hS => ?_)
        clear hK1 K1 B7 U7
        (try simp only [Act.put, List.getElem_toArray, List.getElem_cons_succ, List.getElem_cons_zero, List.setIfInBounds_toArray, List.set_cons_zero, List.set_cons_succ])
        refine wpAnyH_done (by kernel_rfl) ?_ _
        clear hS
        go_wp2_with fail
        go_meet
        exact ⟨rfl, Z7.out⟩
      · go_simp
        refine (dis_any (p : Nat) (K) 7 HK.out _).mono ?_
        rintro e v1 ⟨rfl, hb⟩
        have Y1 : Hid (Two w v1 (docC (p : Nat) (K)) zeroD) := Xd.out.step hb
        clear hb
        refine hK1.out _ _ trivial (fun hS => ?_)
        clear hK1 K1
        (try simp only [Act.put, List.getElem_toArray, List.getElem_cons_succ, List.getElem_cons_zero, List.setIfInBounds_toArray, List.set_cons_zero, List.set_cons_succ])
        refine wpAnyH_ready (rs := [0]) (by kernel_rfl) (by simp) ?_
        refine AllReadyH.cons rfl (fun K1 hK1 => ?_) AllReadyH.nil
        rw [if_pos (by kernel_rfl)]
        refine wp_load_doc _ rfl w.heap.size (p : Nat) (K) rfl Y1.out.1 ?_
        refine hK1.out _ _ trivial (fun hS => ?_)
        clear hK1 K1
        (try simp only [Act.put, List.getElem_toArray, List.getElem_cons_succ, List.getElem_cons_zero, List.setIfInBounds_toArray, List.set_cons_zero, List.set_cons_succ])
        refine wpAnyH_ready (rs := [3]) (by kernel_rfl) (by simp) ?_
        refine AllReadyH.cons rfl (fun K1 hK1 => ?_) AllReadyH.nil
        go_simp
        refine (dset_any (p : Nat) (K) 3 (isB (K) 7) HK.out _).mono ?_
        rintro e v2 ⟨rfl, hb⟩
        have Y2 : Hid (Two w v2 (docC (p : Nat) (K)) zeroD) := Y1.out.step hb
        clear hb
        refine hK1.out _ _ trivial (fun hS => ?_)
        clear hK1 K1
        (try simp only [Act.put, List.getElem_toArray, List.getElem_cons_succ, List.getElem_cons_zero, List.setIfInBounds_toArray, List.set_cons_zero, List.set_cons_succ])
        refine wpAnyH_ready (rs := [4]) (by kernel_rfl) (by simp) ?_
        refine AllReadyH.cons rfl (fun K1 hK1 => ?_) AllReadyH.nil
        rw [if_pos (by kernel_rfl)]
        refine wp_store_doc _ _ rfl w.heap.size (p : Nat) (setK (K) 3 (isB (K) 7)) (docC (p : Nat) (K)) rfl rfl Y2.out.1 rfl ?_
        intro W7 B7 U7
        have Z7 : Hid (Two w W7 (docC (p : Nat) (setK (K) 3 (isB (K) 7))) zeroD) := Y2.out.doc B7 U7
        refine hK1.out _ _ trivial (fun hS => ?_)
        clear hK1 K1 B7 U7
        (try simp only [Act.put, List.getElem_toArray, List.getElem_cons_succ, List.getElem_cons_zero, List.setIfInBounds_toArray, List.set_cons_zero, List.set_cons_succ])
        refine wpAnyH_done (by kernel_rfl) ?_ _
        clear hS
        go_wp2_with fail
        go_meet
        exact ⟨rfl, Z7.out⟩
  case rest =>
  obtain ⟨rfl, ht⟩ := hcut
  have T4 : Hid (Two w wc (docC (p : Nat) (setK (K) 3 (isB (K) 7))) zeroD) := ht
  clear ht
  have HK4 : Hid (Ok (setK K 3 (isB K 7))) := setK_ok HK.out _ _
  go_upto_region 5 with fail
  refine wp_region_list ?_
  refine wpList_load_doc rfl _ rfl w.heap.size (p : Nat) (setK K 3 (isB K 7)) rfl T4.out.1 ?_
  refine wpList_step (fun KK hKK => ?_)
  go_simp
  refine (dset_any (p : Nat) (setK K 3 (isB K 7)) 7 true HK4.out _).mono ?_
  rintro e v1 ⟨rfl, hb⟩
  have T5a : Hid (Two w v1 (docC (p : Nat) (setK K 3 (isB K 7))) zeroD) := T4.out.step hb
  clear hb
  refine hKK _ _ ?_
  clear hKK KK
  refine wpList_store_doc rfl _ _ rfl w.heap.size (p : Nat) (setK (setK K 3 (isB K 7)) 7 true) (docC (p : Nat) (setK K 3 (isB K 7))) rfl rfl T5a.out.1 rfl ?_
  intro W5 B7 U7
  have T5 : Hid (Two w W5 (docC (p : Nat) (setK (setK K 3 (isB K 7)) 7 true)) zeroD) := T5a.out.doc B7 U7
  clear B7 U7 T5a
  have HK5 : Hid (Ok (setK (setK K 3 (isB K 7)) 7 true)) := setK_ok HK4.out _ _
  have HP : Hid (∀ V, Calls Try.prog 38 #[.int .u64 ((setK (setK K 3 (isB K 7)) 7 true) 0 : Nat), .int .i64 11, .int .i64 2, .int .u64 0] V fun e w' => e = .returned (.int .u64 (putA ((setK (setK K 3 (isB K 7)) 7 true) 0) 11 2 0 : Nat)) ∧ Below V.heap.size V w') := fun V => rput_all ((setK (setK K 3 (isB K 7)) 7 true) 0) 11 2 0 (HK5.out _) (by decide) V V (Below.refl _ _)
  have c1 : W5.cell? ⟨w.heap.size, 1, none⟩ = some (.int .u64 ((setK (setK K 3 (isB K 7)) 7 true) 0 : Nat)) := T5.out.1.cell 1 _ rfl
  go_wp2_with fail
  refine (HP.out _).mono ?_
  rintro e w6 ⟨rfl, hb6⟩
  have T6 : Hid (Two w w6 (docC (p : Nat) (setK (setK K 3 (isB K 7)) 7 true)) zeroD) := T5.out.step hb6
  have d0 : w6.cell? ⟨w.heap.size, 1, none⟩ = some (.int .u64 ((setK (setK K 3 (isB K 7)) 7 true) 0 : Nat)) := T6.out.1.cell 1 _ rfl
  have d1 := T6.out.1.frozen 1
  clear hb6 c1 HP
  go_upto_region 7 with fail
  have T7 : Hid (Two w (w6.setCell ⟨w.heap.size, 1, none⟩ (.int .u64 (putA ((setK (setK K 3 (isB K 7)) 7 true) 0) 11 2 0 : Nat))) (docC (p : Nat) (backK K)) zeroD) := by
    have h := T6.out.set 1 (.int .u64 (putA ((setK (setK K 3 (isB K 7)) 7 true) 0) 11 2 0 : Nat))
    rw [(set_docC _ _ _).1] at h
    exact h
  generalize w6.setCell ⟨w.heap.size, 1, none⟩ (.int .u64 (putA ((setK (setK K 3 (isB K 7)) 7 true) 0) 11 2 0 : Nat)) = w7 at *
  clear d0 d1
  have e0 : w7.cell? ⟨w.heap.size, 0, none⟩ = some (.int .i64 (p : Nat)) := T7.out.1.cell 0 _ rfl
  go_upto_region 8 with fail
  refine wp_region_list ?_
  refine wpList_load_doc rfl _ rfl w.heap.size (p : Nat) (backK K) rfl T7.out.1 ?_
  refine wpList_step (fun KK hKK => ?_)
  go_simp
  refine (dset_any (p : Nat) (backK K) 17 false (backK_ok HK.out) _).mono ?_
  rintro e v8 ⟨rfl, hb⟩
  have T8a : Hid (Two w v8 (docC (p : Nat) (backK K)) zeroD) := T7.out.step hb
  clear hb
  refine hKK _ _ ?_
  clear hKK KK
  refine wpList_store_doc rfl _ _ rfl w.heap.size (p : Nat) (setK (backK K) 17 false) (docC (p : Nat) (backK K)) rfl rfl T8a.out.1 rfl ?_
  intro W8 B7 U7
  have T8 : Hid (Two w W8 (docC (p : Nat) (setK (backK K) 17 false)) zeroD) := T8a.out.doc B7 U7
  clear B7 U7 T8a
  go_upto_region 9 with fail
  have Xz : Hid (Two w W8.drew (docC (p : Nat) (setK (backK K) 17 false)) zeroD) := T8.out.step (below_drew1 _)
  have HC : Hid (∀ V, Box 34 V w.heap.size (docC (p : Nat) (setK (backK K) 17 false)) → V.cell? ⟨w.heap.size, 10, none⟩ = some (.int .u64 (K 9 : Nat))) := fun V hV => hV.cell 10 _ rfl
  refine wp_region_held_drew (S := fun V => Box 34 V w.heap.size (docC (p : Nat) (setK (backK K) 17 false)) ∧ V.cell? ⟨w.heap.size, 10, none⟩ = some (.int .u64 (K 9 : Nat))) (by kernel_rfl) ⟨Xz.out.1, HC.out _ Xz.out.1⟩ ?_
  intro hS
  refine wpAnyH_take (i := 0) (v := .agg (docC (p : Nat) (setK (backK K) 17 false))) rfl (by kernel_rfl) (by kernel_rfl) (by kernel_rfl) (fun _ _ _ h => h) (Or.inl ⟨by kernel_rfl, fun V hV => yield_docB hV.1 _ rfl rfl⟩) hS ?_
  (try simp only [Act.put, List.getElem_toArray, List.getElem_cons_succ, List.getElem_cons_zero, List.setIfInBounds_toArray, List.set_cons_zero, List.set_cons_succ])
  refine wpAnyH_take (i := 1) (v := ?_) rfl (by kernel_rfl) (by kernel_rfl) (by kernel_rfl) (fun _ _ _ h => h) (Or.inl ⟨by kernel_rfl, ?_⟩) hS ?_
  rotate_left
  · intro w hSw; (try dsimp only at hSw); go_simp; try (with_reducible rfl)
  (try simp only [Act.put, List.getElem_toArray, List.getElem_cons_succ, List.getElem_cons_zero, List.setIfInBounds_toArray, List.set_cons_zero, List.set_cons_succ])
  refine wpAnyH_take (i := 2) (v := ?_) rfl (by kernel_rfl) (by kernel_rfl) (by kernel_rfl) (fun _ _ _ h => h) (Or.inl ⟨by kernel_rfl, ?_⟩) hS ?_
  rotate_left
  · intro w hSw; (try dsimp only at hSw); go_simp; try (with_reducible rfl)
  (try simp only [Act.put, List.getElem_toArray, List.getElem_cons_succ, List.getElem_cons_zero, List.setIfInBounds_toArray, List.set_cons_zero, List.set_cons_succ])
  refine wpAnyH_take (i := 3) (v := ?_) rfl (by kernel_rfl) (by kernel_rfl) (by kernel_rfl) (fun _ _ _ h => h) (Or.inl ⟨by kernel_rfl, ?_⟩) hS ?_
  rotate_left
  · intro w hSw; (try dsimp only at hSw); go_simp; try (with_reducible rfl)
  (try simp only [Act.put, List.getElem_toArray, List.getElem_cons_succ, List.getElem_cons_zero, List.setIfInBounds_toArray, List.set_cons_zero, List.set_cons_succ])
  refine wpAnyH_ready (rs := [4]) (by kernel_rfl) (by simp) ?_
  refine AllReadyH.cons rfl (fun K1 hK1 => ?_) AllReadyH.nil
  rw [if_pos (by kernel_rfl)]
  refine wp_store_doc _ _ rfl (w.heap.size + 1) (p : Nat) (setK (backK K) 17 false) zeroD rfl rfl Xz.out.2.1 zeroD_size ?_
  intro W9 B9 U9
  have T9 : Hid (Box 34 W9 (w.heap.size + 1) (docC (p : Nat) (setK (backK K) 17 false)) ∧ Below w.heap.size w W9 ∧ Box 34 W9 w.heap.size (docC (p : Nat) (setK (backK K) 17 false))) := ⟨B9, Xz.out.2.2.trans (U9.below (Nat.le_succ _) Xz.out.2.2.size), U9.box Xz.out.1 (by omega)⟩
  clear B9 U9
  refine hK1.out _ _ ⟨T9.out.2.2, HC.out _ T9.out.2.2⟩ (fun hS2 => ?_)
  clear hK1 K1 hS
  (try simp only [Act.put, List.getElem_toArray, List.getElem_cons_succ, List.getElem_cons_zero, List.setIfInBounds_toArray, List.set_cons_zero, List.set_cons_succ])
  refine wpAnyH_take (i := 5) (v := ?_) rfl (by kernel_rfl) (by kernel_rfl) (by kernel_rfl) (fun _ _ _ h => h) (Or.inl ⟨by kernel_rfl, ?_⟩) hS2 ?_
  rotate_left
  · intro w hSw; (try dsimp only at hSw); go_simp; try (with_reducible rfl)
  (try simp only [Act.put, List.getElem_toArray, List.getElem_cons_succ, List.getElem_cons_zero, List.setIfInBounds_toArray, List.set_cons_zero, List.set_cons_succ])
  refine wpAnyH_take (i := 6) (v := ?_) rfl (by kernel_rfl) (by kernel_rfl) (by kernel_rfl) (fun _ _ _ h => h) (Or.inl ⟨by kernel_rfl, ?_⟩) hS2 ?_
  rotate_left
  · intro w hSw; (try dsimp only at hSw); go_simp; try (with_reducible rfl)
  (try simp only [Act.put, List.getElem_toArray, List.getElem_cons_succ, List.getElem_cons_zero, List.setIfInBounds_toArray, List.set_cons_zero, List.set_cons_succ])
  refine wpAnyH_done (by kernel_rfl) ?_ _
  clear hS2
  go_wp2_with fail
  exact bodyPost_ret (v := .tuple #[.agg (docC (p : Nat) (setK (backK K) 17 false)), .int .u64 (K 9 : Nat), .bool true]) (resultsD3 (p := 2) (t := 3) (u := 4) rfl _ _ (w.heap.size + 1) (p : Nat) (setK (backK K) 17 false) rfl T9.out.1) rfl ⟨rfl, T9.out.2.1⟩
theorem dmret_yes (K : Nat → Nat) (hK : Ok K) (w : World) : Calls Try.prog 18 #[.agg (docC 3 K)] w fun e w' => e = .returned (.tuple #[.agg (docC (getN (K 0) 11 2 : Nat) (backM K)), .int .u64 (K 9 : Nat), .bool true]) ∧ Below w.heap.size w w' := by
  unfold backM
  by_cases h : getN (K 0) 11 2 = 3
  · rw [if_pos h, h]; exact dmret_eq K hK h w
  · rw [if_neg h]; exact dmret_ne K hK _ rfl h w
end Go.Proofs.Ytdljceeoofhfnaa
