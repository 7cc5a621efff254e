/- The statements' call 'do': Fill; any call. -/
import Derived.Test.YtkalaojbmedhjaaDr
import Derived.Test.YtkalaojbmedhjaaDp
namespace Go.Proofs.Ytkalaojbmedhjaa
open Go.RowKit Go.Maps
set_option linter.unusedVariables false
set_option linter.unusedSimpArgs false
set_option maxRecDepth 100000
set_option maxHeartbeats 8000000 in
theorem do_fill (K : Dk) (db bm g N x n : Nat) (a : Option Addr) (l c : Nat) (f : Nat → Nat) (w : World) (hd : DiskAt w db bm K) (hg : DocAt w g N K) (hx : x < 18446744073709551616) (hn : n ≤ 2048) (hl : l ≤ 512) (hnl : n * l ≤ 4096) (hr : ReadsF (fun k => k = db ∨ k = bm) w (.slice a l c) l f) (hf : ∀ i, f i ≤ 255) : Calls Try.prog 24 #[.pointer (some ⟨db, 0, none⟩), .agg (docC K g N), .agg #[.int .i64 4, .int .u64 (x : Nat), .int .i64 (n : Nat), .slice a l c]] w fun e w' => ∃ g2, e = .returned (.tuple #[.agg (docC (fillK K (n * l) (overF f l)) g2 N), .bool true]) ∧ DiskAt w' db bm (fillK K (n * l) (overF f l)) ∧ DocAt w' g2 N (fillK K (n * l) (overF f l)) ∧ (g2 = g ∨ w.heap.size ≤ g2) ∧ Two db bm w w' := by
  obtain ⟨L, hL⟩ : ∃ L, n * l = L := ⟨_, rfl⟩
  obtain ⟨F, hF⟩ : ∃ F, overF f l = F := ⟨_, rfl⟩
  have hF2 : ∀ i, F i ≤ 255 := by rw [← hF]; exact overF_le l hf
  have OC : Hid (∀ V, Reads .u8 V (.slice a l c) l f → Calls Try.prog 18 #[.agg #[.int .i64 4, .int .u64 (x : Nat), .int .i64 (n : Nat), .slice a l c]] V fun e w' => ∃ va vc, e = .returned (.slice va L vc) ∧ w'.ownsRow V.heap.size 5 1 (.slice va L vc) L (rowK .u8 F L) ∧ Below V.heap.size V w') := fun V h => (over_any 4 x n a l c f V h hn hl hnl).mono fun e w' ⟨v, he, ho, hb⟩ => by
    obtain ⟨va, vc, rfl⟩ := owns_form ho
    subst hL hF
    exact ⟨va, vc, he, ho, hb⟩
  rw [hL, hF]
  rw [hL] at hnl
  obtain ⟨K2, hK2⟩ : ∃ K2, fillK K L F = K2 := ⟨_, rfl⟩
  rw [hK2]
  have PC : Hid (∀ V v, DiskAt V db bm K → ReadsF (fun k => k = db ∨ k = bm) V v L F → Calls Try.prog 37 #[.pointer (some ⟨db, 0, none⟩), v] V fun e w' => e = .returned (.tuple #[]) ∧ DiskAt w' db bm K2 ∧ Two db bm V w') := fun V v h1 h2 => by rw [← hK2]; exact fill_any h1 L F v h2 hF2
  have DC : Hid (∀ V v, DocAt V g N K → Reads .u8 V v L F → Calls Try.prog 38 #[.agg (docC K g N), v] V fun e w' => ∃ q, e = .returned (.agg (docC K2 q N)) ∧ DocAt w' q N K2 ∧ V.heap.size ≤ q ∧ Below V.heap.size V w') := fun V v h1 h2 => by rw [← hK2]; exact dfill_any K g N L F v V h1 h2 hF2 (by omega)
  have HR : Hid (ReadsF (fun k => k = db ∨ k = bm) w (.slice a l c) l f) := hr
  clear hK2 hL hF hF2 hf hr hnl hl hn
  go_enter Try.func24, Try.ntmps24
  go_upto_region 0 with fail
  refine wp_region_list ?_
  refine wpList_box_agg 28 (docC K g N) _ rfl rfl rfl ?_
  refine wpList_box_agg 39 #[.int .i64 4, .int .u64 (x : Nat), .int .i64 (n : Nat), .slice a l c] _ rfl rfl rfl ?_
  refine wpList_alloc_zero 28 zeroC 5 zinfo28 rfl rfl ?_
  rw [show ((w.alloc (.cells (docC K g N) 28)).alloc (.cells #[.int .i64 4, .int .u64 (x : Nat), .int .i64 (n : Nat), .slice a l c] 39)).heap.size = w.heap.size + 2 from by simp, show (w.alloc (.cells (docC K g N) 28)).heap.size = w.heap.size + 1 from by simp]
  have X0 : Hid (Dz w (((w.alloc (.cells (docC K g N) 28)).alloc (.cells #[.int .i64 4, .int .u64 (x : Nat), .int .i64 (n : Nat), .slice a l c] 39)).alloc (.cells zeroC 28)) db bm g N K K #[.int .i64 4, .int .u64 (x : Nat), .int .i64 (n : Nat), .slice a l c] zeroC) := Dz.begin w db bm g N K _ hd hg
  clear hd hg
  generalize ((w.alloc (.cells (docC K g N) 28)).alloc (.cells #[.int .i64 4, .int .u64 (x : Nat), .int .i64 (n : Nat), .slice a l c] 39)).alloc (.cells zeroC 28) = W at *
  have c0 := X0.out.2.1.cell 0 (.int .i64 4) rfl
  have c1 := X0.out.2.1.cell 1 (.int .u64 (x : Nat)) rfl
  have c2 := X0.out.2.1.cell 2 (.int .i64 (n : Nat)) rfl
  have c3 := X0.out.2.1.cell 3 (.slice a l c) rfl
  go_upto_region 16 with fail
  refine wp_region_list ?_
  (refine wpList_step (fun KK hKK => ?_); go_simp; refine hKK _ _ ?_; clear hKK KK)
  (refine wpList_step (fun KK hKK => ?_); go_simp; refine hKK _ _ ?_; clear hKK KK)
  refine wpList_step (fun KK hKK => ?_)
  go_simp
  refine (OC.out _ (reads_two HR.out X0.out.2.2.2.2.2.1)).mono ?_
  rintro e w1 ⟨va, vc, rfl, ho, hb⟩
  have Y1 : Hid (Dz w w1 db bm g N K (K) #[.int .i64 4, .int .u64 (x : Nat), .int .i64 (n : Nat), .slice a l c] zeroC ∧ ReadsF (fun k => k = db ∨ k = bm) w1 (.slice va L vc) L F) := ⟨X0.out.step hb, owns_readsF ho (fun k hk => by have h1 := X0.out.2.2.2.1.lt; rcases hk with rfl | rfl <;> omega)⟩
  clear ho hb X0 c0 c1 c2 c3
  refine hKK _ _ ?_
  clear hKK KK
  refine wpList_step (fun KK hKK => ?_)
  go_simp
  refine (PC.out _ _ Y1.out.1.2.2.2.1 Y1.out.2).mono ?_
  rintro e w2 ⟨rfl, hd5, ht5⟩
  have Y2 : Hid (Dz w w2 db bm g N K (K2) #[.int .i64 4, .int .u64 (x : Nat), .int .i64 (n : Nat), .slice a l c] zeroC) := Y1.out.1.prog hd5 ht5
  clear hd5 ht5 Y1
  refine hKK _ _ ?_
  clear hKK KK
  go_upto_region 17 with fail
  have A0 : Hid (Dz w w2.drew db bm g N K (K2) #[.int .i64 4, .int .u64 (x : Nat), .int .i64 (n : Nat), .slice a l c] zeroC) := Y2.out.step (Below.drew (Below.refl _ _))
  refine wp_region_held_drew (S := fun V => Box 28 V w.heap.size (docC K g N) ∧ V.cell? ⟨w.heap.size + 1, 0, none⟩ = some (.int .i64 4) ∧ V.cell? ⟨w.heap.size + 1, 1, none⟩ = some (.int .u64 (x : Nat)) ∧ V.cell? ⟨w.heap.size + 1, 2, none⟩ = some (.int .i64 (n : Nat)) ∧ V.cell? ⟨w.heap.size + 1, 3, none⟩ = some (.slice a l c)) (by kernel_rfl) ⟨A0.out.1, A0.out.2.1.cell 0 _ rfl, A0.out.2.1.cell 1 _ rfl, A0.out.2.1.cell 2 _ rfl, A0.out.2.1.cell 3 _ rfl⟩ ?_
  intro hS
  clear Y2
  generalize w2.drew = W0 at *
  refine wpAnyH_take (i := 0) (v := .agg (docC K g N)) rfl (by kernel_rfl) (by kernel_rfl) (by kernel_rfl) (fun _ _ _ h => h) (Or.inl ⟨by kernel_rfl, fun V hV => yield28 hV.1 _ rfl rfl⟩) hS ?_
  (try simp only [Act.put, List.getElem_toArray, List.getElem_cons_succ, List.getElem_cons_zero, List.setIfInBounds_toArray, List.set_cons_zero, List.set_cons_succ])
  refine wpAnyH_take (i := 1) (v := ?_) rfl (by kernel_rfl) (by kernel_rfl) (by kernel_rfl) (fun _ _ _ h => h) (Or.inl ⟨by kernel_rfl, ?_⟩) hS ?_
  rotate_left
  · intro w hSw; (try dsimp only at hSw); go_simp; try (with_reducible rfl)
  (try simp only [Act.put, List.getElem_toArray, List.getElem_cons_succ, List.getElem_cons_zero, List.setIfInBounds_toArray, List.set_cons_zero, List.set_cons_succ])
  refine wpAnyH_ready (rs := [2]) (by kernel_rfl) (by simp) ?_
  refine AllReadyH.cons rfl (fun HH0 HH1 => ?_) AllReadyH.nil
  go_simp
  refine (OC.out _ (reads_two HR.out A0.out.2.2.2.2.2.1)).mono ?_
  rintro e w3 ⟨va2, vc2, rfl, ho, hb⟩
  have A1 : Hid (Dz w w3 db bm g N K (K2) #[.int .i64 4, .int .u64 (x : Nat), .int .i64 (n : Nat), .slice a l c] zeroC ∧ Reads .u8 w3 (.slice va2 L vc2) L F) := ⟨A0.out.step hb, reads_own ho⟩
  clear ho hb A0
  refine HH1.out _ _ ⟨A1.out.1.1, A1.out.1.2.1.cell 0 _ rfl, A1.out.1.2.1.cell 1 _ rfl, A1.out.1.2.1.cell 2 _ rfl, A1.out.1.2.1.cell 3 _ rfl⟩ (fun hS1 => ?_)
  clear HH1 HH0 hS
  (try simp only [Act.put, List.getElem_toArray, List.getElem_cons_succ, List.getElem_cons_zero, List.setIfInBounds_toArray, List.set_cons_zero, List.set_cons_succ])
  refine wpAnyH_ready (rs := [3]) (by kernel_rfl) (by simp) ?_
  refine AllReadyH.cons rfl (fun HH0 HH1 => ?_) AllReadyH.nil
  go_simp
  refine (DC.out _ _ A1.out.1.2.2.2.2.1 A1.out.2).mono ?_
  rintro e w4 ⟨gn, rfl, hd, hq, hb⟩
  have A2 : Hid (Dz w w4 db bm g N K (K2) #[.int .i64 4, .int .u64 (x : Nat), .int .i64 (n : Nat), .slice a l c] zeroC ∧ DocAt w4 gn N K2 ∧ w.heap.size ≤ gn) := ⟨A1.out.1.step hb, hd, Nat.le_trans A1.out.1.2.2.2.2.2.1.size hq⟩
  clear hd hq hb A1
  refine HH1.out _ _ ⟨A2.out.1.1, A2.out.1.2.1.cell 0 _ rfl, A2.out.1.2.1.cell 1 _ rfl, A2.out.1.2.1.cell 2 _ rfl, A2.out.1.2.1.cell 3 _ rfl⟩ (fun hS2 => ?_)
  clear HH1 HH0 hS1
  (try simp only [Act.put, List.getElem_toArray, List.getElem_cons_succ, List.getElem_cons_zero, List.setIfInBounds_toArray, List.set_cons_zero, List.set_cons_succ])
  refine wpAnyH_ready (rs := [4]) (by kernel_rfl) (by simp) ?_
  refine AllReadyH.cons rfl (fun HH0 HH1 => ?_) AllReadyH.nil
  rw [if_pos (by kernel_rfl)]
  refine wp_store28 _ _ rfl (w.heap.size + 2) (K2) gn N zeroC rfl rfl A2.out.1.2.2.1 rfl ?_
  intro W9 B9 U9
  have X9 : Hid ((Dz w W9 db bm g N K (K2) #[.int .i64 4, .int .u64 (x : Nat), .int .i64 (n : Nat), .slice a l c] (docC K2 gn N) ∧ DocAt W9 gn N K2) ∧ w.heap.size ≤ gn) := ⟨⟨A2.out.1.res B9 U9, A2.out.2.1.upon U9 (doc_box_ne A2.out.2.1 A2.out.1.2.2.1)⟩, A2.out.2.2⟩
  clear B9 U9
  refine HH1.out _ _ ⟨X9.out.1.1.1, X9.out.1.1.2.1.cell 0 _ rfl, X9.out.1.1.2.1.cell 1 _ rfl, X9.out.1.1.2.1.cell 2 _ rfl, X9.out.1.1.2.1.cell 3 _ rfl⟩ (fun hS9 => ?_)
  clear HH1 HH0 hS2
  (try simp only [Act.put, List.getElem_toArray, List.getElem_cons_succ, List.getElem_cons_zero, List.setIfInBounds_toArray, List.set_cons_zero, List.set_cons_succ])
  refine wpAnyH_take (i := 5) (v := ?_) rfl (by kernel_rfl) (by kernel_rfl) (by kernel_rfl) (fun _ _ _ h => h) (Or.inl ⟨by kernel_rfl, ?_⟩) hS9 ?_
  rotate_left
  · intro w hSw; (try dsimp only at hSw); go_simp; try (with_reducible rfl)
  (try simp only [Act.put, List.getElem_toArray, List.getElem_cons_succ, List.getElem_cons_zero, List.setIfInBounds_toArray, List.set_cons_zero, List.set_cons_succ])
  refine wpAnyH_done (by kernel_rfl) ?_ _
  clear hS9
  go_wp2_with fail
  exact bodyPost_ret (v := .tuple #[.agg (docC K2 gn N), .bool true]) (results2 (p := 6) (t := 7) rfl _ _ (w.heap.size + 2) K2 gn N rfl X9.out.1.1.2.2.1) rfl ⟨gn, rfl, X9.out.1.1.2.2.2.1, X9.out.1.2, .inr X9.out.2, X9.out.1.1.2.2.2.2.2.1⟩
/-- a call as it comes in: its bytes lie in no block of a disk -/
def OpD.In (o : OpD) (F : Nat → Prop) (w : World) : Prop := o.x < 18446744073709551616 ∧ ∃ f, (∀ i, f i ≤ 255) ∧ ReadsF F w (.slice o.a o.l o.c) o.l f
theorem writeK_same (K : Dk) (x L : Nat) (f : Nat → Nat) : (writeK K x L f).count = K.count ∧ (writeK K x L f).locked = K.locked := by unfold writeK; split <;> exact ⟨rfl, rfl⟩
theorem flushK_same (K : Dk) : (flushK K).count = K.count ∧ (flushK K).locked = K.locked := by unfold flushK; split <;> exact ⟨rfl, rfl⟩
theorem do_any (K : Dk) (db bm g N x : Nat) (z n : Int) (a : Option Addr) (l c : Nat) (w : World) (hd : DiskAt w db bm K) (hg : DocAt w g N K) (ho : OpD.In ⟨z, x, n, a, l, c⟩ (fun k => k = db ∨ k = bm) w) (hs : smallB n l = true) :
    Calls Try.prog 24 #[.pointer (some ⟨db, 0, none⟩), .agg (docC K g N), .agg #[.int .i64 z, .int .u64 (x : Nat), .int .i64 n, .slice a l c]] w fun e w' => ∃ g2 K2, e = .returned (.tuple #[.agg (docC K2 g2 N), .bool true]) ∧ DiskAt w' db bm K2 ∧ DocAt w' g2 N K2 ∧ (g2 = g ∨ w.heap.size ≤ g2) ∧ Two db bm w w' ∧ K2.count = K.count ∧ K2.locked = K.locked := by
  obtain ⟨hx, f, hf, hr⟩ := ho
  simp only at hx hr
  simp only [smallB, decide_eq_true_eq] at hs
  obtain ⟨h1, h2, h3, h4⟩ := hs
  obtain ⟨m, rfl⟩ : ∃ m : Nat, n = m := ⟨n.toNat, by omega⟩
  have h5 : m * l ≤ 4096 := by exact_mod_cast h4
  by_cases e0 : z = 0
  · subst e0
    exact (do_read K db bm g N x m a l c w hd hg hx (by omega)).mono fun e w' ⟨g2, h⟩ => ⟨g2, _, h.1, h.2.1, h.2.2.1, h.2.2.2.1, h.2.2.2.2, rfl, rfl⟩
  by_cases e1 : z = 1
  · subst e1
    exact (do_write K db bm g N x m a l c f w hd hg hx (by omega) h3 h5 hr hf).mono fun e w' ⟨g2, h⟩ => ⟨g2, _, h.1, h.2.1, h.2.2.1, h.2.2.2.1, h.2.2.2.2, writeK_same _ _ _ _⟩
  by_cases e2 : z = 2
  · subst e2
    exact (do_flush K db bm g N x _ a l c w hd hg).mono fun e w' ⟨g2, h⟩ => ⟨g2, _, h.1, h.2.1, h.2.2.1, h.2.2.2.1, h.2.2.2.2, flushK_same _⟩
  by_cases e3 : z = 3
  · subst e3
    exact (do_fail K db bm g N x _ a l c w hd hg hx).mono fun e w' ⟨g2, h⟩ => ⟨g2, _, h.1, h.2.1, h.2.2.1, h.2.2.2.1, h.2.2.2.2, rfl, rfl⟩
  by_cases e4 : z = 4
  · subst e4
    exact (do_fill K db bm g N x m a l c f w hd hg hx (by omega) h3 h5 hr hf).mono fun e w' ⟨g2, h⟩ => ⟨g2, _, h.1, h.2.1, h.2.2.1, h.2.2.2.1, h.2.2.2.2, rfl, rfl⟩
  · exact (do_other K db bm g N x z _ a l c w hd hg ⟨e0, e1, e2, e3, e4⟩).mono fun e w' ⟨g2, h⟩ => ⟨g2, _, h.1, h.2.1, h.2.2.1, h.2.2.2.1, h.2.2.2.2, rfl, rfl⟩
end Go.Proofs.Ytkalaojbmedhjaa
