/- The statements' call 'do', kind by kind. -/
import Derived.Test.YtkalaojbmedhjaaDn
namespace Go.Proofs.Ytkalaojbmedhjaa
open Go.RowKit Go.Maps
set_option linter.unusedVariables false
set_option linter.unusedSimpArgs false
set_option maxRecDepth 100000
set_option maxHeartbeats 2000000 in
theorem do_other (K : Dk) (db bm g N x : Nat) (z n : Int) (a : Option Addr) (l c : Nat) (w : World) (hd : DiskAt w db bm K) (hg : DocAt w g N K) (hz : z ≠ 0 ∧ z ≠ 1 ∧ z ≠ 2 ∧ z ≠ 3 ∧ z ≠ 4) : Calls Try.prog 24 #[.pointer (some ⟨db, 0, none⟩), .agg (docC K g N), .agg #[.int .i64 z, .int .u64 (x : Nat), .int .i64 n, .slice a l c]] w fun e w' => ∃ g2, e = .returned (.tuple #[.agg (docC (K) g2 N), .bool true]) ∧ DiskAt w' db bm (K) ∧ DocAt w' g2 N (K) ∧ (g2 = g ∨ w.heap.size ≤ g2) ∧ Two db bm w w' := by
  have e0 : (z == 0) = false := by simp [hz.1]
  have e1 : (z == 1) = false := by simp [hz.2.1]
  have e2 : (z == 2) = false := by simp [hz.2.2.1]
  have e3 : (z == 3) = false := by simp [hz.2.2.2.1]
  have e4 : (z == 4) = false := by simp [hz.2.2.2.2]
  clear hz
  go_enter Try.func24, Try.ntmps24
  go_upto_region 0 with fail
  refine wp_region_list ?_
  refine wpList_box_agg 28 (docC K g N) _ rfl rfl rfl ?_
  refine wpList_box_agg 39 #[.int .i64 z, .int .u64 (x : Nat), .int .i64 n, .slice a l c] _ rfl rfl rfl ?_
  refine wpList_alloc_zero 28 zeroC 5 zinfo28 rfl rfl ?_
  rw [show ((w.alloc (.cells (docC K g N) 28)).alloc (.cells #[.int .i64 z, .int .u64 (x : Nat), .int .i64 n, .slice a l c] 39)).heap.size = w.heap.size + 2 from by simp, show (w.alloc (.cells (docC K g N) 28)).heap.size = w.heap.size + 1 from by simp]
  have X0 : Hid (Dz w (((w.alloc (.cells (docC K g N) 28)).alloc (.cells #[.int .i64 z, .int .u64 (x : Nat), .int .i64 n, .slice a l c] 39)).alloc (.cells zeroC 28)) db bm g N K K #[.int .i64 z, .int .u64 (x : Nat), .int .i64 n, .slice a l c] zeroC) := Dz.begin w db bm g N K _ hd hg
  clear hd hg
  generalize ((w.alloc (.cells (docC K g N) 28)).alloc (.cells #[.int .i64 z, .int .u64 (x : Nat), .int .i64 n, .slice a l c] 39)).alloc (.cells zeroC 28) = W at *
  have c0 := X0.out.2.1.cell 0 (.int .i64 z) rfl
  have c1 := X0.out.2.1.cell 1 (.int .u64 (x : Nat)) rfl
  have c2 := X0.out.2.1.cell 2 (.int .i64 n) rfl
  have c3 := X0.out.2.1.cell 3 (.slice a l c) rfl
  go_upto_region 18 with fail
  refine wp_region_list ?_
  refine wpList_load28 rfl _ rfl w.heap.size K g N rfl X0.out.1 ?_
  refine wpList_store28 rfl _ _ rfl (w.heap.size + 2) K g N zeroC rfl rfl X0.out.2.2.1 rfl ?_
  intro W9 B9 U9
  have X9 : Hid (Dz w W9 db bm g N K (K) #[.int .i64 z, .int .u64 (x : Nat), .int .i64 n, .slice a l c] (docC K g N) ∧ DocAt W9 g N K) := by
    have := X0.out.res B9 U9
    exact ⟨this, this.2.2.2.2.1⟩
  clear B9 U9
  go_wp2_with fail
  exact bodyPost_ret (v := .tuple #[.agg (docC K g N), .bool true]) (results2 (p := 6) (t := 7) rfl _ _ (w.heap.size + 2) K g N rfl X9.out.1.2.2.1) rfl ⟨g, rfl, X9.out.1.2.2.2.1, X9.out.2, .inl rfl, X9.out.1.2.2.2.2.2.1⟩
set_option maxHeartbeats 2000000 in
theorem do_fail (K : Dk) (db bm g N x : Nat) (n : Int) (a : Option Addr) (l c : Nat) (w : World) (hd : DiskAt w db bm K) (hg : DocAt w g N K) (hx : x < 18446744073709551616) : Calls Try.prog 24 #[.pointer (some ⟨db, 0, none⟩), .agg (docC K g N), .agg #[.int .i64 3, .int .u64 (x : Nat), .int .i64 n, .slice a l c]] w fun e w' => ∃ g2, e = .returned (.tuple #[.agg (docC (failK K x) g2 N), .bool true]) ∧ DiskAt w' db bm (failK K x) ∧ DocAt w' g2 N (failK K x) ∧ (g2 = g ∨ w.heap.size ≤ g2) ∧ Two db bm w w' := by
  have HK : Hid (failK K x).Ok := failK_ok hd.2.2 x hx
  go_enter Try.func24, Try.ntmps24
  go_upto_region 0 with fail
  refine wp_region_list ?_
  refine wpList_box_agg 28 (docC K g N) _ rfl rfl rfl ?_
  refine wpList_box_agg 39 #[.int .i64 3, .int .u64 (x : Nat), .int .i64 n, .slice a l c] _ rfl rfl rfl ?_
  refine wpList_alloc_zero 28 zeroC 5 zinfo28 rfl rfl ?_
  rw [show ((w.alloc (.cells (docC K g N) 28)).alloc (.cells #[.int .i64 3, .int .u64 (x : Nat), .int .i64 n, .slice a l c] 39)).heap.size = w.heap.size + 2 from by simp, show (w.alloc (.cells (docC K g N) 28)).heap.size = w.heap.size + 1 from by simp]
  have X0 : Hid (Dz w (((w.alloc (.cells (docC K g N) 28)).alloc (.cells #[.int .i64 3, .int .u64 (x : Nat), .int .i64 n, .slice a l c] 39)).alloc (.cells zeroC 28)) db bm g N K K #[.int .i64 3, .int .u64 (x : Nat), .int .i64 n, .slice a l c] zeroC) := Dz.begin w db bm g N K _ hd hg
  clear hd hg
  generalize ((w.alloc (.cells (docC K g N) 28)).alloc (.cells #[.int .i64 3, .int .u64 (x : Nat), .int .i64 n, .slice a l c] 39)).alloc (.cells zeroC 28) = W at *
  have c0 := X0.out.2.1.cell 0 (.int .i64 3) rfl
  have c1 := X0.out.2.1.cell 1 (.int .u64 (x : Nat)) rfl
  have c2 := X0.out.2.1.cell 2 (.int .i64 n) rfl
  have c3 := X0.out.2.1.cell 3 (.slice a l c) rfl
  go_upto_region 13 with fail
  refine wp_region_list ?_
  (refine wpList_step (fun KK hKK => ?_); go_simp; refine hKK _ _ ?_; clear hKK KK)
  (refine wpList_step (fun KK hKK => ?_); go_simp; refine hKK _ _ ?_; clear hKK KK)
  (refine wpList_step (fun KK hKK => ?_); go_simp; refine hKK _ _ ?_; clear hKK KK)
  refine wpList_step (fun KK hKK => ?_)
  go_simp
  refine (fail_any X0.out.2.2.2.1 x hx).mono ?_
  rintro e w1 ⟨rfl, hd1, ht1⟩
  have X1 : Hid (Dz w w1 db bm g N K (failK K x) #[.int .i64 3, .int .u64 (x : Nat), .int .i64 n, .slice a l c] zeroC) := X0.out.prog hd1 ht1
  clear hd1 ht1 X0 c0 c1 c2 c3
  refine hKK _ _ ?_
  clear hKK KK
  have c1 := X1.out.2.1.cell 1 (.int .u64 (x : Nat)) rfl
  have d2 := X1.out.1.cell 2 (.int .u64 (K.fail : Nat)) rfl
  have f2 := X1.out.1.frozen 2
  go_upto_region 18 with fail
  have X2 : Hid (Box 28 (w1.setCell ⟨w.heap.size, 2, none⟩ (.int .u64 (x : Nat))) w.heap.size (docC (failK K x) g N) ∧ Box 28 (w1.setCell ⟨w.heap.size, 2, none⟩ (.int .u64 (x : Nat))) (w.heap.size + 2) zeroC ∧ DiskAt (w1.setCell ⟨w.heap.size, 2, none⟩ (.int .u64 (x : Nat))) db bm (failK K x) ∧ DocAt (w1.setCell ⟨w.heap.size, 2, none⟩ (.int .u64 (x : Nat))) g N (failK K x) ∧ Two db bm w (w1.setCell ⟨w.heap.size, 2, none⟩ (.int .u64 (x : Nat))) ∧ db < w.heap.size ∧ bm < w.heap.size) := by
    obtain ⟨h1, h2, h3, h4, h5, h6, h7, h8⟩ := X1.out
    have hu : Upon w.heap.size w1 (w1.setCell ⟨w.heap.size, 2, none⟩ (.int .u64 (x : Nat))) := (Upon.refl _ _).set 2 _
    have hs := h6.size
    refine ⟨h1.set 2 _, hu.box h3 (by omega), h4.upon hu (by omega) (by omega), (h5.upon hu (doc_box_ne h5 h1)).same rfl rfl HK.out, ⟨h6.1.trans hu.1, fun k hk ha hb => (hu.2 k (by omega) (by omega)).trans (h6.2 k hk ha hb)⟩, h7, h8⟩
  clear X1 c1 d2 f2
  generalize w1.setCell ⟨w.heap.size, 2, none⟩ (.int .u64 (x : Nat)) = w2 at *
  refine wp_region_list ?_
  refine wpList_load28 rfl _ rfl w.heap.size (failK K x) g N rfl X2.out.1 ?_
  refine wpList_store28 rfl _ _ rfl (w.heap.size + 2) (failK K x) g N zeroC rfl rfl X2.out.2.1 rfl ?_
  intro W9 B9 U9
  have X9 : Hid (Box 28 W9 (w.heap.size + 2) (docC (failK K x) g N) ∧ DiskAt W9 db bm (failK K x) ∧ DocAt W9 g N (failK K x) ∧ Two db bm w W9) := by
    obtain ⟨h1, h3, h4, h5, h6, h7, h8⟩ := X2.out
    have hs := h6.size
    exact ⟨B9, h4.upon U9 (by omega) (by omega), h5.upon U9 (doc_box_ne h5 h3), ⟨h6.1.trans U9.1, fun k hk ha hb => (U9.2 k (by omega) (by omega)).trans (h6.2 k hk ha hb)⟩⟩
  clear B9 U9
  go_wp2_with fail
  exact bodyPost_ret (v := .tuple #[.agg (docC (failK K x) g N), .bool true]) (results2 (p := 6) (t := 7) rfl _ _ (w.heap.size + 2) (failK K x) g N rfl X9.out.1) rfl ⟨g, rfl, X9.out.2.1, X9.out.2.2.1, .inl rfl, X9.out.2.2.2⟩
set_option maxHeartbeats 4000000 in
theorem do_flush (K : Dk) (db bm g N x : Nat) (n : Int) (a : Option Addr) (l c : Nat) (w : World) (hd : DiskAt w db bm K) (hg : DocAt w g N K) : Calls Try.prog 24 #[.pointer (some ⟨db, 0, none⟩), .agg (docC K g N), .agg #[.int .i64 2, .int .u64 (x : Nat), .int .i64 n, .slice a l c]] w fun e w' => ∃ g2, e = .returned (.tuple #[.agg (docC (flushK K) g2 N), .bool true]) ∧ DiskAt w' db bm (flushK K) ∧ DocAt w' g2 N (flushK K) ∧ (g2 = g ∨ w.heap.size ≤ g2) ∧ Two db bm w w' := by
  have hK := flushK_ok hd.2.2
  obtain ⟨E, hE⟩ : ∃ E, askE K = E := ⟨_, rfl⟩
  have PC : Hid (∀ V, DiskAt V db bm K → Calls Try.prog 25 #[.pointer (some ⟨db, 0, none⟩)] V fun e w' => e = .returned (.int .i64 (E : Nat)) ∧ DiskAt w' db bm (flushK K) ∧ Two db bm V w') := fun V h => by rw [← hE]; exact flush_any h
  have DC : Hid (∀ V, DocAt V g N K → Calls Try.prog 36 #[.agg (docC K g N)] V fun e w' => e = .returned (.tuple #[.agg (docC (flushK K) g N), .int .i64 (E : Nat)]) ∧ Below V.heap.size V w') := fun V h => by rw [← hE]; exact dflush_any K g N V h
  have HS : Hid (∀ V, DocAt V g N K → DocAt V g N (flushK K)) := fun V h => h.same (by unfold flushK; split <;> rfl) (by unfold flushK; split <;> rfl) hK
  have hxx : ((E : Int) == (E : Int)) = true := by simp
  clear hK hE
  go_enter Try.func24, Try.ntmps24
  go_upto_region 0 with fail
  refine wp_region_list ?_
  refine wpList_box_agg 28 (docC K g N) _ rfl rfl rfl ?_
  refine wpList_box_agg 39 #[.int .i64 2, .int .u64 (x : Nat), .int .i64 n, .slice a l c] _ rfl rfl rfl ?_
  refine wpList_alloc_zero 28 zeroC 5 zinfo28 rfl rfl ?_
  rw [show ((w.alloc (.cells (docC K g N) 28)).alloc (.cells #[.int .i64 2, .int .u64 (x : Nat), .int .i64 n, .slice a l c] 39)).heap.size = w.heap.size + 2 from by simp, show (w.alloc (.cells (docC K g N) 28)).heap.size = w.heap.size + 1 from by simp]
  have X0 : Hid (Dz w (((w.alloc (.cells (docC K g N) 28)).alloc (.cells #[.int .i64 2, .int .u64 (x : Nat), .int .i64 n, .slice a l c] 39)).alloc (.cells zeroC 28)) db bm g N K K #[.int .i64 2, .int .u64 (x : Nat), .int .i64 n, .slice a l c] zeroC) := Dz.begin w db bm g N K _ hd hg
  clear hd hg
  generalize ((w.alloc (.cells (docC K g N) 28)).alloc (.cells #[.int .i64 2, .int .u64 (x : Nat), .int .i64 n, .slice a l c] 39)).alloc (.cells zeroC 28) = W at *
  have c0 := X0.out.2.1.cell 0 (.int .i64 2) rfl
  have c1 := X0.out.2.1.cell 1 (.int .u64 (x : Nat)) rfl
  have c2 := X0.out.2.1.cell 2 (.int .i64 n) rfl
  have c3 := X0.out.2.1.cell 3 (.slice a l c) rfl
  go_upto_region 10 with fail
  refine wp_region_list ?_
  refine wpList_load28 rfl _ rfl w.heap.size K g N rfl X0.out.1 ?_
  refine wpList_step (fun KK hKK => ?_)
  go_simp
  refine (DC.out _ X0.out.2.2.2.2.1).mono ?_
  rintro e w2 ⟨rfl, hb2⟩
  have X2 : Hid (Dz w w2 db bm g N K (K) #[.int .i64 2, .int .u64 (x : Nat), .int .i64 n, .slice a l c] zeroC) := X0.out.step hb2
  clear hb2 X0 c0 c1 c2 c3
  refine hKK _ _ ?_
  clear hKK KK
  (refine wpList_step (fun KK hKK => ?_); go_simp; refine hKK _ _ ?_; clear hKK KK)
  refine wpList_extract_at rfl _ _ _ _ rfl rfl rfl ?_
  refine wpList_extract_at rfl _ _ _ _ rfl rfl rfl ?_
  refine wpList_alloc_zero 28 zeroC 5 zinfo28 rfl rfl ?_
  refine wpList_store28 rfl _ _ rfl w2.heap.size (flushK K) g N zeroC rfl rfl (Box.new 28 w2 _) rfl ?_
  intro W3 B3 U3
  have Y3 : Hid (Dz w W3 db bm g N K (K) #[.int .i64 2, .int .u64 (x : Nat), .int .i64 n, .slice a l c] zeroC ∧ Nx w W3 g w2.heap.size g N (flushK K)) := Nx.made X2.out (HS.out _ X2.out.2.2.2.2.1) (.inl rfl) B3 U3
  clear B3 U3 X2
  generalize w2.heap.size = q at *
  go_upto_region 11 with fail
  have Yd : Hid (Dz w W3.drew db bm g N K (K) #[.int .i64 2, .int .u64 (x : Nat), .int .i64 n, .slice a l c] zeroC ∧ Nx w W3.drew g q g N (flushK K)) := ⟨Y3.out.1.step (Below.drew (Below.refl _ _)), Y3.out.2.step (Below.drew (Below.refl _ _))⟩
  refine wp_region_held_drew (S := fun V => Box 28 V q (docC (flushK K) g N)) (by kernel_rfl) Yd.out.2.1 ?_
  intro hS
  clear Y3
  generalize W3.drew = W4 at *
  refine wpAnyH_take (i := 0) (v := .agg (docC (flushK K) g N)) rfl (by kernel_rfl) (by kernel_rfl) (by kernel_rfl) (fun _ _ _ h => h) (Or.inl ⟨by kernel_rfl, fun V hV => yield28 hV _ rfl rfl⟩) hS ?_
  (try simp only [Act.put, List.getElem_toArray, List.getElem_cons_succ, List.getElem_cons_zero, List.setIfInBounds_toArray, List.set_cons_zero, List.set_cons_succ])
  refine wpAnyH_take (i := 1) (v := ?_) rfl (by kernel_rfl) (by kernel_rfl) (by kernel_rfl) (fun _ _ _ h => h) (Or.inl ⟨by kernel_rfl, ?_⟩) hS ?_
  rotate_left
  · intro w hSw; (try dsimp only at hSw); go_simp; try (with_reducible rfl)
  (try simp only [Act.put, List.getElem_toArray, List.getElem_cons_succ, List.getElem_cons_zero, List.setIfInBounds_toArray, List.set_cons_zero, List.set_cons_succ])
  refine wpAnyH_take (i := 3) (v := ?_) rfl (by kernel_rfl) (by kernel_rfl) (by kernel_rfl) (fun _ _ _ h => h) (Or.inl ⟨by kernel_rfl, ?_⟩) hS ?_
  rotate_left
  · intro w hSw; (try dsimp only at hSw); go_simp; try (with_reducible rfl)
  (try simp only [Act.put, List.getElem_toArray, List.getElem_cons_succ, List.getElem_cons_zero, List.setIfInBounds_toArray, List.set_cons_zero, List.set_cons_succ])
  refine wpAnyH_ready (rs := [2]) (by kernel_rfl) (by simp) ?_
  refine AllReadyH.cons rfl (fun HH0 HH1 => ?_) AllReadyH.nil
  go_simp
  refine (PC.out _ Yd.out.1.2.2.2.1).mono ?_
  rintro e w5 ⟨rfl, hd5, ht5⟩
  have Y5 : Hid (Dz w w5 db bm g N K (flushK K) #[.int .i64 2, .int .u64 (x : Nat), .int .i64 n, .slice a l c] zeroC ∧ Nx w w5 g q g N (flushK K)) := ⟨Yd.out.1.prog hd5 ht5, Yd.out.2.prog Yd.out.1.2.2.2.1 Yd.out.1.2.2.2.2.2.2.1 Yd.out.1.2.2.2.2.2.2.2 ht5⟩
  clear hd5 ht5 Yd
  refine HH1.out _ _ Y5.out.2.1 (fun hS2 => ?_)
  clear HH1 HH0 hS
  (try simp only [Act.put, List.getElem_toArray, List.getElem_cons_succ, List.getElem_cons_zero, List.setIfInBounds_toArray, List.set_cons_zero, List.set_cons_succ])
  refine wpAnyH_take (i := 4) (v := ?_) rfl (by kernel_rfl) (by kernel_rfl) (by kernel_rfl) (fun _ _ _ h => h) (Or.inl ⟨by kernel_rfl, ?_⟩) hS2 ?_
  rotate_left
  · intro w hSw; (try dsimp only at hSw); go_simp; try (with_reducible rfl)
  (try simp only [Act.put, List.getElem_toArray, List.getElem_cons_succ, List.getElem_cons_zero, List.setIfInBounds_toArray, List.set_cons_zero, List.set_cons_succ])
  refine wpAnyH_ready (rs := [5]) (by kernel_rfl) (by simp) ?_
  refine AllReadyH.cons rfl (fun HH0 HH1 => ?_) AllReadyH.nil
  rw [if_pos (by kernel_rfl)]
  refine wp_store28 _ _ rfl (w.heap.size + 2) (flushK K) g N zeroC rfl rfl Y5.out.1.2.2.1 rfl ?_
  intro W9 B9 U9
  have X9 : Hid (Dz w W9 db bm g N K (flushK K) #[.int .i64 2, .int .u64 (x : Nat), .int .i64 n, .slice a l c] (docC (flushK K) g N) ∧ DocAt W9 g N (flushK K)) := by
    have h9 := Y5.out.1.res B9 U9
    exact ⟨h9, HS.out _ h9.2.2.2.2.1⟩
  have hN9 : Box 28 W9 q (docC (flushK K) g N) := (Y5.out.2.res Y5.out.1.2.2.1 U9).1
  clear B9 U9
  refine HH1.out _ _ hN9 (fun hS9 => ?_)
  clear HH1 HH0 hS2 hN9
  (try simp only [Act.put, List.getElem_toArray, List.getElem_cons_succ, List.getElem_cons_zero, List.setIfInBounds_toArray, List.set_cons_zero, List.set_cons_succ])
  refine wpAnyH_take (i := 6) (v := ?_) rfl (by kernel_rfl) (by kernel_rfl) (by kernel_rfl) (fun _ _ _ h => h) (Or.inl ⟨by kernel_rfl, ?_⟩) hS9 ?_
  rotate_left
  · intro w hSw; (try dsimp only at hSw); go_simp; try (with_reducible rfl)
  (try simp only [Act.put, List.getElem_toArray, List.getElem_cons_succ, List.getElem_cons_zero, List.setIfInBounds_toArray, List.set_cons_zero, List.set_cons_succ])
  refine wpAnyH_done (by kernel_rfl) ?_ _
  clear hS9
  go_wp2_with fail
  exact bodyPost_ret (v := .tuple #[.agg (docC (flushK K) g N), .bool true]) (results2 (p := 6) (t := 7) rfl _ _ (w.heap.size + 2) (flushK K) g N rfl X9.out.1.2.2.1) rfl ⟨g, rfl, X9.out.1.2.2.2.1, X9.out.2, .inl rfl, X9.out.1.2.2.2.2.2.1⟩
end Go.Proofs.Ytkalaojbmedhjaa
