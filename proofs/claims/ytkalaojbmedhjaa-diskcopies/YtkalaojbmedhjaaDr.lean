/- The statements' call 'do': Write. -/
import Derived.Test.YtkalaojbmedhjaaDq
namespace Go.Proofs.Ytkalaojbmedhjaa
open Go.RowKit Go.Maps
set_option linter.unusedVariables false
set_option linter.unusedSimpArgs false
set_option maxRecDepth 100000
set_option maxHeartbeats 8000000 in
theorem do_write (K : Dk) (db bm g N x n : Nat) (a : Option Addr) (l c : Nat) (f : Nat → Nat) (w : World) (hd : DiskAt w db bm K) (hg : DocAt w g N K) (hx : x < 18446744073709551616) (hn : n ≤ 2048) (hl : l ≤ 512) (hnl : n * l ≤ 4096) (hr : ReadsF (fun k => k = db ∨ k = bm) w (.slice a l c) l f) (hf : ∀ i, f i ≤ 255) : Calls Try.prog 24 #[.pointer (some ⟨db, 0, none⟩), .agg (docC K g N), .agg #[.int .i64 1, .int .u64 (x : Nat), .int .i64 (n : Nat), .slice a l c]] w fun e w' => ∃ g2, e = .returned (.tuple #[.agg (docC (writeK K x (n * l) (overF f l)) g2 N), .bool true]) ∧ DiskAt w' db bm (writeK K x (n * l) (overF f l)) ∧ DocAt w' g2 N (writeK K x (n * l) (overF f l)) ∧ (g2 = g ∨ w.heap.size ≤ g2) ∧ Two db bm w w' := by
  obtain ⟨L, hL⟩ : ∃ L, n * l = L := ⟨_, rfl⟩
  obtain ⟨F, hF⟩ : ∃ F, overF f l = F := ⟨_, rfl⟩
  have hF2 : ∀ i, F i ≤ 255 := by rw [← hF]; exact overF_le l hf
  have OC : Hid (∀ V, Reads .u8 V (.slice a l c) l f → Calls Try.prog 18 #[.agg #[.int .i64 1, .int .u64 (x : Nat), .int .i64 (n : Nat), .slice a l c]] V fun e w' => ∃ va vc, e = .returned (.slice va L vc) ∧ w'.ownsRow V.heap.size 5 1 (.slice va L vc) L (rowK .u8 F L) ∧ Below V.heap.size V w') := fun V h => (over_any 1 x n a l c f V h hn hl hnl).mono fun e w' ⟨v, he, ho, hb⟩ => by
    obtain ⟨va, vc, rfl⟩ := owns_form ho
    subst hL hF
    exact ⟨va, vc, he, ho, hb⟩
  rw [hL, hF]
  rw [hL] at hnl
  obtain ⟨K2, hK2⟩ : ∃ K2, writeK K x L F = K2 := ⟨_, rfl⟩
  obtain ⟨E, hE⟩ : ∃ E, writeE K x L = E := ⟨_, rfl⟩
  rw [hK2]
  have PC : Hid (∀ V v, DiskAt V db bm K → ReadsF (fun k => k = db ∨ k = bm) V v L F → Calls Try.prog 17 #[.pointer (some ⟨db, 0, none⟩), .int .u64 (x : Nat), v] V fun e w' => e = .returned (.int .i64 (E : Nat)) ∧ DiskAt w' db bm K2 ∧ Two db bm V w') := fun V v h1 h2 => by rw [← hE, ← hK2]; exact write_any h1 x L F v hx h2 hF2
  have DC : Hid (∀ V v, DocAt V g N K → Reads .u8 V v L F → Calls Try.prog 35 #[.agg (docC K g N), .int .u64 (x : Nat), v] V fun e w' => ∃ q, e = .returned (.tuple #[.agg (docC K2 q N), .int .i64 (E : Nat)]) ∧ DocAt w' q N K2 ∧ (q = g ∨ V.heap.size ≤ q) ∧ Below V.heap.size V w') := fun V v h1 h2 => by rw [← hE, ← hK2]; exact dwrite_any K g N x L F v V h1 h2 hF2 hx (by omega)
  have hxx : ((E : Int) == (E : Int)) = true := by simp
  have HR : Hid (ReadsF (fun k => k = db ∨ k = bm) w (.slice a l c) l f) := hr
  clear hE hK2 hL hF hF2 hf hr hnl hl hn
  go_enter Try.func24, Try.ntmps24
  go_upto_region 0 with fail
  refine wp_region_list ?_
  refine wpList_box_agg 28 (docC K g N) _ rfl rfl rfl ?_
  refine wpList_box_agg 39 #[.int .i64 1, .int .u64 (x : Nat), .int .i64 (n : Nat), .slice a l c] _ rfl rfl rfl ?_
  refine wpList_alloc_zero 28 zeroC 5 zinfo28 rfl rfl ?_
  rw [show ((w.alloc (.cells (docC K g N) 28)).alloc (.cells #[.int .i64 1, .int .u64 (x : Nat), .int .i64 (n : Nat), .slice a l c] 39)).heap.size = w.heap.size + 2 from by simp, show (w.alloc (.cells (docC K g N) 28)).heap.size = w.heap.size + 1 from by simp]
  have X0 : Hid (Dz w (((w.alloc (.cells (docC K g N) 28)).alloc (.cells #[.int .i64 1, .int .u64 (x : Nat), .int .i64 (n : Nat), .slice a l c] 39)).alloc (.cells zeroC 28)) db bm g N K K #[.int .i64 1, .int .u64 (x : Nat), .int .i64 (n : Nat), .slice a l c] zeroC) := Dz.begin w db bm g N K _ hd hg
  clear hd hg
  generalize ((w.alloc (.cells (docC K g N) 28)).alloc (.cells #[.int .i64 1, .int .u64 (x : Nat), .int .i64 (n : Nat), .slice a l c] 39)).alloc (.cells zeroC 28) = W at *
  have c0 := X0.out.2.1.cell 0 (.int .i64 1) rfl
  have c1 := X0.out.2.1.cell 1 (.int .u64 (x : Nat)) rfl
  have c2 := X0.out.2.1.cell 2 (.int .i64 (n : Nat)) rfl
  have c3 := X0.out.2.1.cell 3 (.slice a l c) rfl
  go_upto_region 7 with fail
  have A0 : Hid (Dz w W.drew db bm g N K (K) #[.int .i64 1, .int .u64 (x : Nat), .int .i64 (n : Nat), .slice a l c] zeroC) := X0.out.step (Below.drew (Below.refl _ _))
  refine wp_region_held_drew (S := fun V => Box 28 V w.heap.size (docC K g N) ∧ V.cell? ⟨w.heap.size + 1, 0, none⟩ = some (.int .i64 1) ∧ V.cell? ⟨w.heap.size + 1, 1, none⟩ = some (.int .u64 (x : Nat)) ∧ V.cell? ⟨w.heap.size + 1, 2, none⟩ = some (.int .i64 (n : Nat)) ∧ V.cell? ⟨w.heap.size + 1, 3, none⟩ = some (.slice a l c)) (by kernel_rfl) ⟨A0.out.1, A0.out.2.1.cell 0 _ rfl, A0.out.2.1.cell 1 _ rfl, A0.out.2.1.cell 2 _ rfl, A0.out.2.1.cell 3 _ rfl⟩ ?_
  intro hS
  clear X0 c0 c1 c2 c3
  generalize W.drew = W0 at *
  refine wpAnyH_take (i := 0) (v := .agg (docC K g N)) rfl (by kernel_rfl) (by kernel_rfl) (by kernel_rfl) (fun _ _ _ h => h) (Or.inl ⟨by kernel_rfl, fun V hV => yield28 hV.1 _ rfl rfl⟩) hS ?_
  (try simp only [Act.put, List.getElem_toArray, List.getElem_cons_succ, List.getElem_cons_zero, List.setIfInBounds_toArray, List.set_cons_zero, List.set_cons_succ])
  refine wpAnyH_take (i := 1) (v := ?_) rfl (by kernel_rfl) (by kernel_rfl) (by kernel_rfl) (fun _ _ _ h => h) (Or.inl ⟨by kernel_rfl, ?_⟩) hS ?_
  rotate_left
  · intro w hSw; (try dsimp only at hSw); go_simp; try (with_reducible rfl)
  (try simp only [Act.put, List.getElem_toArray, List.getElem_cons_succ, List.getElem_cons_zero, List.setIfInBounds_toArray, List.set_cons_zero, List.set_cons_succ])
  refine wpAnyH_take (i := 2) (v := ?_) rfl (by kernel_rfl) (by kernel_rfl) (by kernel_rfl) (fun _ _ _ h => h) (Or.inl ⟨by kernel_rfl, ?_⟩) hS ?_
  rotate_left
  · intro w hSw; (try dsimp only at hSw); go_simp; try (with_reducible rfl)
  (try simp only [Act.put, List.getElem_toArray, List.getElem_cons_succ, List.getElem_cons_zero, List.setIfInBounds_toArray, List.set_cons_zero, List.set_cons_succ])
  refine wpAnyH_take (i := 3) (v := ?_) rfl (by kernel_rfl) (by kernel_rfl) (by kernel_rfl) (fun _ _ _ h => h) (Or.inl ⟨by kernel_rfl, ?_⟩) hS ?_
  rotate_left
  · intro w hSw; (try dsimp only at hSw); go_simp; try (with_reducible rfl)
  (try simp only [Act.put, List.getElem_toArray, List.getElem_cons_succ, List.getElem_cons_zero, List.setIfInBounds_toArray, List.set_cons_zero, List.set_cons_succ])
  refine wpAnyH_ready (rs := [4, 9]) (by kernel_rfl) (by simp) ?_
  refine AllReadyH.cons rfl (fun HH0 HH1 => ?_) (AllReadyH.cons rfl (fun HH0 HH1 => ?_) AllReadyH.nil)
  · have _hm : True := trivial
    go_simp
    refine (OC.out _ (reads_two HR.out A0.out.2.2.2.2.2.1)).mono ?_
    rintro e w1 ⟨va, vc, rfl, ho, hb⟩
    have A1 : Hid (Dz w w1 db bm g N K (K) #[.int .i64 1, .int .u64 (x : Nat), .int .i64 (n : Nat), .slice a l c] zeroC) := A0.out.step hb
    have C1 : Hid (Reads .u8 w1 (.slice va L vc) L F) := reads_own ho
    clear ho hb A0
    refine HH1.out _ _ ⟨A1.out.1, A1.out.2.1.cell 0 _ rfl, A1.out.2.1.cell 1 _ rfl, A1.out.2.1.cell 2 _ rfl, A1.out.2.1.cell 3 _ rfl⟩ (fun hS1 => ?_)
    clear HH1 HH0 hS
    (try simp only [Act.put, List.getElem_toArray, List.getElem_cons_succ, List.getElem_cons_zero, List.setIfInBounds_toArray, List.set_cons_zero, List.set_cons_succ])
    refine wpAnyH_ready (rs := [5, 9]) (by kernel_rfl) (by simp) ?_
    refine AllReadyH.cons rfl (fun HH0 HH1 => ?_) (AllReadyH.cons rfl (fun HH0 HH1 => ?_) AllReadyH.nil)
    · have _hm : True := trivial
      go_simp
      refine (DC.out _ _ A1.out.2.2.2.2.1 C1.out).mono ?_
      rintro e w2 ⟨gn, rfl, hd, hq, hb⟩
      have hq2 : gn = g ∨ w.heap.size ≤ gn := hq.imp id (fun h => Nat.le_trans A1.out.2.2.2.2.2.1.size h)
      have A2 : Hid (Dz w w2 db bm g N K (K) #[.int .i64 1, .int .u64 (x : Nat), .int .i64 (n : Nat), .slice a l c] zeroC) := A1.out.step hb
      have C2 : Hid (Reads .u8 w2 (.slice va L vc) L F) := reads_below C1.out hb
      have D2 : Hid (DocAt w2 gn N K2 ∧ (gn = g ∨ w.heap.size ≤ gn)) := ⟨hd, hq2⟩
      clear hd hq hq2 hb A1 C1
      refine HH1.out _ _ ⟨A2.out.1, A2.out.2.1.cell 0 _ rfl, A2.out.2.1.cell 1 _ rfl, A2.out.2.1.cell 2 _ rfl, A2.out.2.1.cell 3 _ rfl⟩ (fun hS2 => ?_)
      clear HH1 HH0 hS1
      (try simp only [Act.put, List.getElem_toArray, List.getElem_cons_succ, List.getElem_cons_zero, List.setIfInBounds_toArray, List.set_cons_zero, List.set_cons_succ])
      refine wpAnyH_take (i := 6) (v := ?_) rfl (by kernel_rfl) (by kernel_rfl) (by kernel_rfl) (fun _ _ _ h => h) (Or.inl ⟨by kernel_rfl, ?_⟩) hS2 ?_
      rotate_left
      · intro w hSw; (try dsimp only at hSw); go_simp; try (with_reducible rfl)
      (try simp only [Act.put, List.getElem_toArray, List.getElem_cons_succ, List.getElem_cons_zero, List.setIfInBounds_toArray, List.set_cons_zero, List.set_cons_succ])
      refine wpAnyH_take (i := 7) (v := ?_) rfl (by kernel_rfl) (by kernel_rfl) (by kernel_rfl) (fun _ _ _ h => h) (Or.inl ⟨by kernel_rfl, ?_⟩) hS2 ?_
      rotate_left
      · intro w hSw; (try dsimp only at hSw); go_simp; try (with_reducible rfl)
      (try simp only [Act.put, List.getElem_toArray, List.getElem_cons_succ, List.getElem_cons_zero, List.setIfInBounds_toArray, List.set_cons_zero, List.set_cons_succ])
      refine wpAnyH_take (i := 8) (v := ?_) rfl (by kernel_rfl) (by kernel_rfl) (by kernel_rfl) (fun _ _ _ h => h) (Or.inl ⟨by kernel_rfl, ?_⟩) hS2 ?_
      rotate_left
      · intro w hSw; (try dsimp only at hSw); go_simp; try (with_reducible rfl)
      (try simp only [Act.put, List.getElem_toArray, List.getElem_cons_succ, List.getElem_cons_zero, List.setIfInBounds_toArray, List.set_cons_zero, List.set_cons_succ])
      refine wpAnyH_ready (rs := [9]) (by kernel_rfl) (by simp) ?_
      refine AllReadyH.cons rfl (fun HH0 HH1 => ?_) AllReadyH.nil
      rw [if_pos (by kernel_rfl)]
      refine wp_alloc_zero 28 zeroC 5 zinfo28 rfl ?_
      have hb : Below w2.heap.size w2 (w2.alloc (.cells zeroC 28)) := (Below.refl _ _).alloc (Nat.le_refl _) _
      have A3 : Hid (Dz w (w2.alloc (.cells zeroC 28)) db bm g N K (K) #[.int .i64 1, .int .u64 (x : Nat), .int .i64 (n : Nat), .slice a l c] zeroC) := A2.out.step hb
      have C3 : Hid (Reads .u8 (w2.alloc (.cells zeroC 28)) (.slice va L vc) L F) := reads_below C2.out hb
      have D3 : Hid (DocAt (w2.alloc (.cells zeroC 28)) gn N K2 ∧ (gn = g ∨ w.heap.size ≤ gn)) := ⟨D2.out.1.step hb, D2.out.2⟩
      have B3 : Hid (Box 28 (w2.alloc (.cells zeroC 28)) w2.heap.size zeroC ∧ w.heap.size + 2 < w2.heap.size) := ⟨Box.new 28 _ _, A2.out.lt⟩
      clear hb A2 C2 D2
      generalize w2.alloc (.cells zeroC 28) = w3 at *
      generalize w2.heap.size = q at *
      refine HH1.out _ _ ⟨A3.out.1, A3.out.2.1.cell 0 _ rfl, A3.out.2.1.cell 1 _ rfl, A3.out.2.1.cell 2 _ rfl, A3.out.2.1.cell 3 _ rfl⟩ (fun hS3 => ?_)
      clear HH1 HH0 hS2
      (try simp only [Act.put, List.getElem_toArray, List.getElem_cons_succ, List.getElem_cons_zero, List.setIfInBounds_toArray, List.set_cons_zero, List.set_cons_succ])
      refine wpAnyH_ready (rs := [10]) (by kernel_rfl) (by simp) ?_
      refine AllReadyH.cons rfl (fun HH0 HH1 => ?_) AllReadyH.nil
      rw [if_pos (by kernel_rfl)]
      refine wp_store28 _ _ rfl q K2 gn N zeroC rfl rfl B3.out.1 rfl ?_
      intro W9 B9 U9
      have Y : Hid (Dz w W9 db bm g N K (K) #[.int .i64 1, .int .u64 (x : Nat), .int .i64 (n : Nat), .slice a l c] zeroC ∧ Nx w W9 g q gn N K2) := ⟨A3.out.new U9 B3.out.2 (doc_box_ne A3.out.2.2.2.2.1 B3.out.1), B9, D3.out.1.upon U9 (doc_box_ne D3.out.1 B3.out.1), B3.out.2, D3.out.2⟩
      clear B9 U9 A3 B3 C3 D3
      refine HH1.out _ _ ⟨Y.out.1.1, Y.out.1.2.1.cell 0 _ rfl, Y.out.1.2.1.cell 1 _ rfl, Y.out.1.2.1.cell 2 _ rfl, Y.out.1.2.1.cell 3 _ rfl⟩ (fun hS9 => ?_)
      clear HH1 HH0 hS3
      (try simp only [Act.put, List.getElem_toArray, List.getElem_cons_succ, List.getElem_cons_zero, List.setIfInBounds_toArray, List.set_cons_zero, List.set_cons_succ])
      refine wpAnyH_take (i := 11) (v := ?_) rfl (by kernel_rfl) (by kernel_rfl) (by kernel_rfl) (fun _ _ _ h => h) (Or.inl ⟨by kernel_rfl, ?_⟩) hS9 ?_
      rotate_left
      · intro w hSw; (try dsimp only at hSw); go_simp; try (with_reducible rfl)
      (try simp only [Act.put, List.getElem_toArray, List.getElem_cons_succ, List.getElem_cons_zero, List.setIfInBounds_toArray, List.set_cons_zero, List.set_cons_succ])
      refine wpAnyH_done (by kernel_rfl) ?_ _
      clear hS9
      go_upto_region 8 with fail
      have Yd : Hid (Dz w W9.drew db bm g N K (K) #[.int .i64 1, .int .u64 (x : Nat), .int .i64 (n : Nat), .slice a l c] zeroC ∧ Nx w W9.drew g q gn N K2) := ⟨Y.out.1.step (Below.drew (Below.refl _ _)), Y.out.2.step (Below.drew (Below.refl _ _))⟩
      refine wp_region_held_drew (S := fun V => Box 28 V q (docC K2 gn N) ∧ V.cell? ⟨w.heap.size + 1, 0, none⟩ = some (.int .i64 1) ∧ V.cell? ⟨w.heap.size + 1, 1, none⟩ = some (.int .u64 (x : Nat)) ∧ V.cell? ⟨w.heap.size + 1, 2, none⟩ = some (.int .i64 (n : Nat)) ∧ V.cell? ⟨w.heap.size + 1, 3, none⟩ = some (.slice a l c)) (by kernel_rfl) ⟨Yd.out.2.1, Yd.out.1.2.1.cell 0 _ rfl, Yd.out.1.2.1.cell 1 _ rfl, Yd.out.1.2.1.cell 2 _ rfl, Yd.out.1.2.1.cell 3 _ rfl⟩ ?_
      intro hS
      clear Y
      generalize W9.drew = Wd at *
      refine wpAnyH_take (i := 0) (v := .agg (docC K2 gn N)) rfl (by kernel_rfl) (by kernel_rfl) (by kernel_rfl) (fun _ _ _ h => h) (Or.inl ⟨by kernel_rfl, fun V hV => yield28 hV.1 _ rfl rfl⟩) hS ?_
      (try simp only [Act.put, List.getElem_toArray, List.getElem_cons_succ, List.getElem_cons_zero, List.setIfInBounds_toArray, List.set_cons_zero, List.set_cons_succ])
      refine wpAnyH_take (i := 1) (v := ?_) rfl (by kernel_rfl) (by kernel_rfl) (by kernel_rfl) (fun _ _ _ h => h) (Or.inl ⟨by kernel_rfl, ?_⟩) hS ?_
      rotate_left
      · intro w hSw; (try dsimp only at hSw); go_simp; try (with_reducible rfl)
      (try simp only [Act.put, List.getElem_toArray, List.getElem_cons_succ, List.getElem_cons_zero, List.setIfInBounds_toArray, List.set_cons_zero, List.set_cons_succ])
      refine wpAnyH_take (i := 2) (v := ?_) rfl (by kernel_rfl) (by kernel_rfl) (by kernel_rfl) (fun _ _ _ h => h) (Or.inl ⟨by kernel_rfl, ?_⟩) hS ?_
      rotate_left
      · intro w hSw; (try dsimp only at hSw); go_simp; try (with_reducible rfl)
      (try simp only [Act.put, List.getElem_toArray, List.getElem_cons_succ, List.getElem_cons_zero, List.setIfInBounds_toArray, List.set_cons_zero, List.set_cons_succ])
      refine wpAnyH_take (i := 3) (v := ?_) rfl (by kernel_rfl) (by kernel_rfl) (by kernel_rfl) (fun _ _ _ h => h) (Or.inl ⟨by kernel_rfl, ?_⟩) hS ?_
      rotate_left
      · intro w hSw; (try dsimp only at hSw); go_simp; try (with_reducible rfl)
      (try simp only [Act.put, List.getElem_toArray, List.getElem_cons_succ, List.getElem_cons_zero, List.setIfInBounds_toArray, List.set_cons_zero, List.set_cons_succ])
      refine wpAnyH_take (i := 4) (v := ?_) rfl (by kernel_rfl) (by kernel_rfl) (by kernel_rfl) (fun _ _ _ h => h) (Or.inl ⟨by kernel_rfl, ?_⟩) hS ?_
      rotate_left
      · intro w hSw; (try dsimp only at hSw); go_simp; try (with_reducible rfl)
      (try simp only [Act.put, List.getElem_toArray, List.getElem_cons_succ, List.getElem_cons_zero, List.setIfInBounds_toArray, List.set_cons_zero, List.set_cons_succ])
      refine wpAnyH_take (i := 7) (v := ?_) rfl (by kernel_rfl) (by kernel_rfl) (by kernel_rfl) (fun _ _ _ h => h) (Or.inl ⟨by kernel_rfl, ?_⟩) hS ?_
      rotate_left
      · intro w hSw; (try dsimp only at hSw); go_simp; try (with_reducible rfl)
      (try simp only [Act.put, List.getElem_toArray, List.getElem_cons_succ, List.getElem_cons_zero, List.setIfInBounds_toArray, List.set_cons_zero, List.set_cons_succ])
      refine wpAnyH_ready (rs := [5]) (by kernel_rfl) (by simp) ?_
      refine AllReadyH.cons rfl (fun HH0 HH1 => ?_) AllReadyH.nil
      go_simp
      refine (OC.out _ (reads_two HR.out Yd.out.1.2.2.2.2.2.1)).mono ?_
      rintro e w21 ⟨va2, vc2, rfl, ho, hb⟩
      have Y1 : Hid ((Dz w w21 db bm g N K (K) #[.int .i64 1, .int .u64 (x : Nat), .int .i64 (n : Nat), .slice a l c] zeroC ∧ Nx w w21 g q gn N K2) ∧ ReadsF (fun k => k = db ∨ k = bm) w21 (.slice va2 L vc2) L F) := ⟨⟨Yd.out.1.step hb, Yd.out.2.step hb⟩, owns_readsF ho (fun k hk => by have h1 := Yd.out.1.2.2.2.1.lt; rcases hk with rfl | rfl <;> omega)⟩
      clear ho hb Yd
      refine HH1.out _ _ ⟨Y1.out.1.2.1, Y1.out.1.1.2.1.cell 0 _ rfl, Y1.out.1.1.2.1.cell 1 _ rfl, Y1.out.1.1.2.1.cell 2 _ rfl, Y1.out.1.1.2.1.cell 3 _ rfl⟩ (fun hS1 => ?_)
      clear HH1 HH0 hS
      (try simp only [Act.put, List.getElem_toArray, List.getElem_cons_succ, List.getElem_cons_zero, List.setIfInBounds_toArray, List.set_cons_zero, List.set_cons_succ])
      refine wpAnyH_ready (rs := [6]) (by kernel_rfl) (by simp) ?_
      refine AllReadyH.cons rfl (fun HH0 HH1 => ?_) AllReadyH.nil
      go_simp
      refine (PC.out _ _ Y1.out.1.1.2.2.2.1 Y1.out.2).mono ?_
      rintro e w22 ⟨rfl, hd5, ht5⟩
      have Y5 : Hid (Dz w w22 db bm g N K (K2) #[.int .i64 1, .int .u64 (x : Nat), .int .i64 (n : Nat), .slice a l c] zeroC ∧ Nx w w22 g q gn N K2) := ⟨Y1.out.1.1.prog hd5 ht5, Y1.out.1.2.prog Y1.out.1.1.2.2.2.1 Y1.out.1.1.2.2.2.2.2.2.1 Y1.out.1.1.2.2.2.2.2.2.2 ht5⟩
      clear hd5 ht5 Y1
      refine HH1.out _ _ ⟨Y5.out.2.1, Y5.out.1.2.1.cell 0 _ rfl, Y5.out.1.2.1.cell 1 _ rfl, Y5.out.1.2.1.cell 2 _ rfl, Y5.out.1.2.1.cell 3 _ rfl⟩ (fun hS2 => ?_)
      clear HH1 HH0 hS1
      (try simp only [Act.put, List.getElem_toArray, List.getElem_cons_succ, List.getElem_cons_zero, List.setIfInBounds_toArray, List.set_cons_zero, List.set_cons_succ])
      refine wpAnyH_take (i := 8) (v := ?_) rfl (by kernel_rfl) (by kernel_rfl) (by kernel_rfl) (fun _ _ _ h => h) (Or.inl ⟨by kernel_rfl, ?_⟩) hS2 ?_
      rotate_left
      · intro w hSw; (try dsimp only at hSw); go_simp; try (with_reducible rfl)
      (try simp only [Act.put, List.getElem_toArray, List.getElem_cons_succ, List.getElem_cons_zero, List.setIfInBounds_toArray, List.set_cons_zero, List.set_cons_succ])
      refine wpAnyH_ready (rs := [9]) (by kernel_rfl) (by simp) ?_
      refine AllReadyH.cons rfl (fun HH0 HH1 => ?_) AllReadyH.nil
      rw [if_pos (by kernel_rfl)]
      refine wp_store28 _ _ rfl (w.heap.size + 2) (K2) gn N zeroC rfl rfl Y5.out.1.2.2.1 rfl ?_
      intro W8 B8 U8
      have X9 : Hid ((Dz w W8 db bm g N K (K2) #[.int .i64 1, .int .u64 (x : Nat), .int .i64 (n : Nat), .slice a l c] (docC K2 gn N) ∧ DocAt W8 gn N K2) ∧ (gn = g ∨ w.heap.size ≤ gn)) := by
        have h9 := Y5.out.1.res B8 U8
        exact ⟨⟨h9, (Y5.out.2.res Y5.out.1.2.2.1 U8).2.1⟩, Y5.out.2.2.2.2⟩
      have hN9 : Box 28 W8 q (docC K2 gn N) := (Y5.out.2.res Y5.out.1.2.2.1 U8).1
      clear B8 U8
      refine HH1.out _ _ ⟨hN9, X9.out.1.1.2.1.cell 0 _ rfl, X9.out.1.1.2.1.cell 1 _ rfl, X9.out.1.1.2.1.cell 2 _ rfl, X9.out.1.1.2.1.cell 3 _ rfl⟩ (fun hS9 => ?_)
      clear HH1 HH0 hS2 hN9
      (try simp only [Act.put, List.getElem_toArray, List.getElem_cons_succ, List.getElem_cons_zero, List.setIfInBounds_toArray, List.set_cons_zero, List.set_cons_succ])
      refine wpAnyH_take (i := 10) (v := ?_) rfl (by kernel_rfl) (by kernel_rfl) (by kernel_rfl) (fun _ _ _ h => h) (Or.inl ⟨by kernel_rfl, ?_⟩) hS9 ?_
      rotate_left
      · intro w hSw; (try dsimp only at hSw); go_simp; try (with_reducible rfl)
      (try simp only [Act.put, List.getElem_toArray, List.getElem_cons_succ, List.getElem_cons_zero, List.setIfInBounds_toArray, List.set_cons_zero, List.set_cons_succ])
      refine wpAnyH_done (by kernel_rfl) ?_ _
      clear hS9
      go_wp2_with fail
      exact bodyPost_ret (v := .tuple #[.agg (docC K2 gn N), .bool true]) (results2 (p := 6) (t := 7) rfl _ _ (w.heap.size + 2) K2 gn N rfl X9.out.1.1.2.2.1) rfl ⟨gn, rfl, X9.out.1.1.2.2.2.1, X9.out.1.2, X9.out.2, X9.out.1.1.2.2.2.2.2.1⟩
    · have _hm : True := trivial
      rw [if_pos (by kernel_rfl)]
      refine wp_alloc_zero 28 zeroC 5 zinfo28 rfl ?_
      have hb : Below w1.heap.size w1 (w1.alloc (.cells zeroC 28)) := (Below.refl _ _).alloc (Nat.le_refl _) _
      have A2 : Hid (Dz w (w1.alloc (.cells zeroC 28)) db bm g N K (K) #[.int .i64 1, .int .u64 (x : Nat), .int .i64 (n : Nat), .slice a l c] zeroC) := A1.out.step hb
      have C2 : Hid (Reads .u8 (w1.alloc (.cells zeroC 28)) (.slice va L vc) L F) := reads_below C1.out hb
      have B2 : Hid (Box 28 (w1.alloc (.cells zeroC 28)) w1.heap.size zeroC ∧ w.heap.size + 2 < w1.heap.size) := ⟨Box.new 28 _ _, A1.out.lt⟩
      clear hb A1 C1
      generalize w1.alloc (.cells zeroC 28) = w2 at *
      generalize w1.heap.size = q at *
      refine HH1.out _ _ ⟨A2.out.1, A2.out.2.1.cell 0 _ rfl, A2.out.2.1.cell 1 _ rfl, A2.out.2.1.cell 2 _ rfl, A2.out.2.1.cell 3 _ rfl⟩ (fun hS2 => ?_)
      clear HH1 HH0 hS1
      (try simp only [Act.put, List.getElem_toArray, List.getElem_cons_succ, List.getElem_cons_zero, List.setIfInBounds_toArray, List.set_cons_zero, List.set_cons_succ])
      refine wpAnyH_ready (rs := [5]) (by kernel_rfl) (by simp) ?_
      refine AllReadyH.cons rfl (fun HH0 HH1 => ?_) AllReadyH.nil
      go_simp
      refine (DC.out _ _ A2.out.2.2.2.2.1 C2.out).mono ?_
      rintro e w3 ⟨gn, rfl, hd, hq, hb⟩
      have hq2 : gn = g ∨ w.heap.size ≤ gn := hq.imp id (fun h => Nat.le_trans A2.out.2.2.2.2.2.1.size h)
      have A3 : Hid (Dz w w3 db bm g N K (K) #[.int .i64 1, .int .u64 (x : Nat), .int .i64 (n : Nat), .slice a l c] zeroC) := A2.out.step hb
      have B3 : Hid (Box 28 w3 q zeroC ∧ w.heap.size + 2 < q) := ⟨B2.out.1.step hb, B2.out.2⟩
      have C3 : Hid (Reads .u8 w3 (.slice va L vc) L F) := reads_below C2.out hb
      have D3 : Hid (DocAt w3 gn N K2 ∧ (gn = g ∨ w.heap.size ≤ gn)) := ⟨hd, hq2⟩
      clear hd hq hq2 hb A2 B2 C2
      refine HH1.out _ _ ⟨A3.out.1, A3.out.2.1.cell 0 _ rfl, A3.out.2.1.cell 1 _ rfl, A3.out.2.1.cell 2 _ rfl, A3.out.2.1.cell 3 _ rfl⟩ (fun hS3 => ?_)
      clear HH1 HH0 hS2
      (try simp only [Act.put, List.getElem_toArray, List.getElem_cons_succ, List.getElem_cons_zero, List.setIfInBounds_toArray, List.set_cons_zero, List.set_cons_succ])
      refine wpAnyH_take (i := 6) (v := ?_) rfl (by kernel_rfl) (by kernel_rfl) (by kernel_rfl) (fun _ _ _ h => h) (Or.inl ⟨by kernel_rfl, ?_⟩) hS3 ?_
      rotate_left
      · intro w hSw; (try dsimp only at hSw); go_simp; try (with_reducible rfl)
      (try simp only [Act.put, List.getElem_toArray, List.getElem_cons_succ, List.getElem_cons_zero, List.setIfInBounds_toArray, List.set_cons_zero, List.set_cons_succ])
      refine wpAnyH_take (i := 7) (v := ?_) rfl (by kernel_rfl) (by kernel_rfl) (by kernel_rfl) (fun _ _ _ h => h) (Or.inl ⟨by kernel_rfl, ?_⟩) hS3 ?_
      rotate_left
      · intro w hSw; (try dsimp only at hSw); go_simp; try (with_reducible rfl)
      (try simp only [Act.put, List.getElem_toArray, List.getElem_cons_succ, List.getElem_cons_zero, List.setIfInBounds_toArray, List.set_cons_zero, List.set_cons_succ])
      refine wpAnyH_take (i := 8) (v := ?_) rfl (by kernel_rfl) (by kernel_rfl) (by kernel_rfl) (fun _ _ _ h => h) (Or.inl ⟨by kernel_rfl, ?_⟩) hS3 ?_
      rotate_left
      · intro w hSw; (try dsimp only at hSw); go_simp; try (with_reducible rfl)
      (try simp only [Act.put, List.getElem_toArray, List.getElem_cons_succ, List.getElem_cons_zero, List.setIfInBounds_toArray, List.set_cons_zero, List.set_cons_succ])
      refine wpAnyH_ready (rs := [10]) (by kernel_rfl) (by simp) ?_
      refine AllReadyH.cons rfl (fun HH0 HH1 => ?_) AllReadyH.nil
      rw [if_pos (by kernel_rfl)]
      refine wp_store28 _ _ rfl q K2 gn N zeroC rfl rfl B3.out.1 rfl ?_
      intro W9 B9 U9
      have Y : Hid (Dz w W9 db bm g N K (K) #[.int .i64 1, .int .u64 (x : Nat), .int .i64 (n : Nat), .slice a l c] zeroC ∧ Nx w W9 g q gn N K2) := ⟨A3.out.new U9 B3.out.2 (doc_box_ne A3.out.2.2.2.2.1 B3.out.1), B9, D3.out.1.upon U9 (doc_box_ne D3.out.1 B3.out.1), B3.out.2, D3.out.2⟩
      clear B9 U9 A3 B3 C3 D3
      refine HH1.out _ _ ⟨Y.out.1.1, Y.out.1.2.1.cell 0 _ rfl, Y.out.1.2.1.cell 1 _ rfl, Y.out.1.2.1.cell 2 _ rfl, Y.out.1.2.1.cell 3 _ rfl⟩ (fun hS9 => ?_)
      clear HH1 HH0 hS3
      (try simp only [Act.put, List.getElem_toArray, List.getElem_cons_succ, List.getElem_cons_zero, List.setIfInBounds_toArray, List.set_cons_zero, List.set_cons_succ])
      refine wpAnyH_take (i := 11) (v := ?_) rfl (by kernel_rfl) (by kernel_rfl) (by kernel_rfl) (fun _ _ _ h => h) (Or.inl ⟨by kernel_rfl, ?_⟩) hS9 ?_
      rotate_left
      · intro w hSw; (try dsimp only at hSw); go_simp; try (with_reducible rfl)
      (try simp only [Act.put, List.getElem_toArray, List.getElem_cons_succ, List.getElem_cons_zero, List.setIfInBounds_toArray, List.set_cons_zero, List.set_cons_succ])
      refine wpAnyH_done (by kernel_rfl) ?_ _
      clear hS9
      go_upto_region 8 with fail
      have Yd : Hid (Dz w W9.drew db bm g N K (K) #[.int .i64 1, .int .u64 (x : Nat), .int .i64 (n : Nat), .slice a l c] zeroC ∧ Nx w W9.drew g q gn N K2) := ⟨Y.out.1.step (Below.drew (Below.refl _ _)), Y.out.2.step (Below.drew (Below.refl _ _))⟩
      refine wp_region_held_drew (S := fun V => Box 28 V q (docC K2 gn N) ∧ V.cell? ⟨w.heap.size + 1, 0, none⟩ = some (.int .i64 1) ∧ V.cell? ⟨w.heap.size + 1, 1, none⟩ = some (.int .u64 (x : Nat)) ∧ V.cell? ⟨w.heap.size + 1, 2, none⟩ = some (.int .i64 (n : Nat)) ∧ V.cell? ⟨w.heap.size + 1, 3, none⟩ = some (.slice a l c)) (by kernel_rfl) ⟨Yd.out.2.1, Yd.out.1.2.1.cell 0 _ rfl, Yd.out.1.2.1.cell 1 _ rfl, Yd.out.1.2.1.cell 2 _ rfl, Yd.out.1.2.1.cell 3 _ rfl⟩ ?_
      intro hS
      clear Y
      generalize W9.drew = Wd at *
      refine wpAnyH_take (i := 0) (v := .agg (docC K2 gn N)) rfl (by kernel_rfl) (by kernel_rfl) (by kernel_rfl) (fun _ _ _ h => h) (Or.inl ⟨by kernel_rfl, fun V hV => yield28 hV.1 _ rfl rfl⟩) hS ?_
      (try simp only [Act.put, List.getElem_toArray, List.getElem_cons_succ, List.getElem_cons_zero, List.setIfInBounds_toArray, List.set_cons_zero, List.set_cons_succ])
      refine wpAnyH_take (i := 1) (v := ?_) rfl (by kernel_rfl) (by kernel_rfl) (by kernel_rfl) (fun _ _ _ h => h) (Or.inl ⟨by kernel_rfl, ?_⟩) hS ?_
      rotate_left
      · intro w hSw; (try dsimp only at hSw); go_simp; try (with_reducible rfl)
      (try simp only [Act.put, List.getElem_toArray, List.getElem_cons_succ, List.getElem_cons_zero, List.setIfInBounds_toArray, List.set_cons_zero, List.set_cons_succ])
      refine wpAnyH_take (i := 2) (v := ?_) rfl (by kernel_rfl) (by kernel_rfl) (by kernel_rfl) (fun _ _ _ h => h) (Or.inl ⟨by kernel_rfl, ?_⟩) hS ?_
      rotate_left
      · intro w hSw; (try dsimp only at hSw); go_simp; try (with_reducible rfl)
      (try simp only [Act.put, List.getElem_toArray, List.getElem_cons_succ, List.getElem_cons_zero, List.setIfInBounds_toArray, List.set_cons_zero, List.set_cons_succ])
      refine wpAnyH_take (i := 3) (v := ?_) rfl (by kernel_rfl) (by kernel_rfl) (by kernel_rfl) (fun _ _ _ h => h) (Or.inl ⟨by kernel_rfl, ?_⟩) hS ?_
      rotate_left
      · intro w hSw; (try dsimp only at hSw); go_simp; try (with_reducible rfl)
      (try simp only [Act.put, List.getElem_toArray, List.getElem_cons_succ, List.getElem_cons_zero, List.setIfInBounds_toArray, List.set_cons_zero, List.set_cons_succ])
      refine wpAnyH_take (i := 4) (v := ?_) rfl (by kernel_rfl) (by kernel_rfl) (by kernel_rfl) (fun _ _ _ h => h) (Or.inl ⟨by kernel_rfl, ?_⟩) hS ?_
      rotate_left
      · intro w hSw; (try dsimp only at hSw); go_simp; try (with_reducible rfl)
      (try simp only [Act.put, List.getElem_toArray, List.getElem_cons_succ, List.getElem_cons_zero, List.setIfInBounds_toArray, List.set_cons_zero, List.set_cons_succ])
      refine wpAnyH_take (i := 7) (v := ?_) rfl (by kernel_rfl) (by kernel_rfl) (by kernel_rfl) (fun _ _ _ h => h) (Or.inl ⟨by kernel_rfl, ?_⟩) hS ?_
      rotate_left
      · intro w hSw; (try dsimp only at hSw); go_simp; try (with_reducible rfl)
      (try simp only [Act.put, List.getElem_toArray, List.getElem_cons_succ, List.getElem_cons_zero, List.setIfInBounds_toArray, List.set_cons_zero, List.set_cons_succ])
      refine wpAnyH_ready (rs := [5]) (by kernel_rfl) (by simp) ?_
      refine AllReadyH.cons rfl (fun HH0 HH1 => ?_) AllReadyH.nil
      go_simp
      refine (OC.out _ (reads_two HR.out Yd.out.1.2.2.2.2.2.1)).mono ?_
      rintro e w21 ⟨va2, vc2, rfl, ho, hb⟩
      have Y1 : Hid ((Dz w w21 db bm g N K (K) #[.int .i64 1, .int .u64 (x : Nat), .int .i64 (n : Nat), .slice a l c] zeroC ∧ Nx w w21 g q gn N K2) ∧ ReadsF (fun k => k = db ∨ k = bm) w21 (.slice va2 L vc2) L F) := ⟨⟨Yd.out.1.step hb, Yd.out.2.step hb⟩, owns_readsF ho (fun k hk => by have h1 := Yd.out.1.2.2.2.1.lt; rcases hk with rfl | rfl <;> omega)⟩
      clear ho hb Yd
      refine HH1.out _ _ ⟨Y1.out.1.2.1, Y1.out.1.1.2.1.cell 0 _ rfl, Y1.out.1.1.2.1.cell 1 _ rfl, Y1.out.1.1.2.1.cell 2 _ rfl, Y1.out.1.1.2.1.cell 3 _ rfl⟩ (fun hS1 => ?_)
      clear HH1 HH0 hS
      (try simp only [Act.put, List.getElem_toArray, List.getElem_cons_succ, List.getElem_cons_zero, List.setIfInBounds_toArray, List.set_cons_zero, List.set_cons_succ])
      refine wpAnyH_ready (rs := [6]) (by kernel_rfl) (by simp) ?_
      refine AllReadyH.cons rfl (fun HH0 HH1 => ?_) AllReadyH.nil
      go_simp
      refine (PC.out _ _ Y1.out.1.1.2.2.2.1 Y1.out.2).mono ?_
      rintro e w22 ⟨rfl, hd5, ht5⟩
      have Y5 : Hid (Dz w w22 db bm g N K (K2) #[.int .i64 1, .int .u64 (x : Nat), .int .i64 (n : Nat), .slice a l c] zeroC ∧ Nx w w22 g q gn N K2) := ⟨Y1.out.1.1.prog hd5 ht5, Y1.out.1.2.prog Y1.out.1.1.2.2.2.1 Y1.out.1.1.2.2.2.2.2.2.1 Y1.out.1.1.2.2.2.2.2.2.2 ht5⟩
      clear hd5 ht5 Y1
      refine HH1.out _ _ ⟨Y5.out.2.1, Y5.out.1.2.1.cell 0 _ rfl, Y5.out.1.2.1.cell 1 _ rfl, Y5.out.1.2.1.cell 2 _ rfl, Y5.out.1.2.1.cell 3 _ rfl⟩ (fun hS2 => ?_)
      clear HH1 HH0 hS1
      (try simp only [Act.put, List.getElem_toArray, List.getElem_cons_succ, List.getElem_cons_zero, List.setIfInBounds_toArray, List.set_cons_zero, List.set_cons_succ])
      refine wpAnyH_take (i := 8) (v := ?_) rfl (by kernel_rfl) (by kernel_rfl) (by kernel_rfl) (fun _ _ _ h => h) (Or.inl ⟨by kernel_rfl, ?_⟩) hS2 ?_
      rotate_left
      · intro w hSw; (try dsimp only at hSw); go_simp; try (with_reducible rfl)
      (try simp only [Act.put, List.getElem_toArray, List.getElem_cons_succ, List.getElem_cons_zero, List.setIfInBounds_toArray, List.set_cons_zero, List.set_cons_succ])
      refine wpAnyH_ready (rs := [9]) (by kernel_rfl) (by simp) ?_
      refine AllReadyH.cons rfl (fun HH0 HH1 => ?_) AllReadyH.nil
      rw [if_pos (by kernel_rfl)]
      refine wp_store28 _ _ rfl (w.heap.size + 2) (K2) gn N zeroC rfl rfl Y5.out.1.2.2.1 rfl ?_
      intro W8 B8 U8
      have X9 : Hid ((Dz w W8 db bm g N K (K2) #[.int .i64 1, .int .u64 (x : Nat), .int .i64 (n : Nat), .slice a l c] (docC K2 gn N) ∧ DocAt W8 gn N K2) ∧ (gn = g ∨ w.heap.size ≤ gn)) := by
        have h9 := Y5.out.1.res B8 U8
        exact ⟨⟨h9, (Y5.out.2.res Y5.out.1.2.2.1 U8).2.1⟩, Y5.out.2.2.2.2⟩
      have hN9 : Box 28 W8 q (docC K2 gn N) := (Y5.out.2.res Y5.out.1.2.2.1 U8).1
      clear B8 U8
      refine HH1.out _ _ ⟨hN9, X9.out.1.1.2.1.cell 0 _ rfl, X9.out.1.1.2.1.cell 1 _ rfl, X9.out.1.1.2.1.cell 2 _ rfl, X9.out.1.1.2.1.cell 3 _ rfl⟩ (fun hS9 => ?_)
      clear HH1 HH0 hS2 hN9
      (try simp only [Act.put, List.getElem_toArray, List.getElem_cons_succ, List.getElem_cons_zero, List.setIfInBounds_toArray, List.set_cons_zero, List.set_cons_succ])
      refine wpAnyH_take (i := 10) (v := ?_) rfl (by kernel_rfl) (by kernel_rfl) (by kernel_rfl) (fun _ _ _ h => h) (Or.inl ⟨by kernel_rfl, ?_⟩) hS9 ?_
      rotate_left
      · intro w hSw; (try dsimp only at hSw); go_simp; try (with_reducible rfl)
      (try simp only [Act.put, List.getElem_toArray, List.getElem_cons_succ, List.getElem_cons_zero, List.setIfInBounds_toArray, List.set_cons_zero, List.set_cons_succ])
      refine wpAnyH_done (by kernel_rfl) ?_ _
      clear hS9
      go_wp2_with fail
      exact bodyPost_ret (v := .tuple #[.agg (docC K2 gn N), .bool true]) (results2 (p := 6) (t := 7) rfl _ _ (w.heap.size + 2) K2 gn N rfl X9.out.1.1.2.2.1) rfl ⟨gn, rfl, X9.out.1.1.2.2.2.1, X9.out.1.2, X9.out.2, X9.out.1.1.2.2.2.2.2.1⟩
  · have _hm : True := trivial
    rw [if_pos (by kernel_rfl)]
    refine wp_alloc_zero 28 zeroC 5 zinfo28 rfl ?_
    have hb : Below W0.heap.size W0 (W0.alloc (.cells zeroC 28)) := (Below.refl _ _).alloc (Nat.le_refl _) _
    have A1 : Hid (Dz w (W0.alloc (.cells zeroC 28)) db bm g N K (K) #[.int .i64 1, .int .u64 (x : Nat), .int .i64 (n : Nat), .slice a l c] zeroC) := A0.out.step hb
    have B1 : Hid (Box 28 (W0.alloc (.cells zeroC 28)) W0.heap.size zeroC ∧ w.heap.size + 2 < W0.heap.size) := ⟨Box.new 28 _ _, A0.out.lt⟩
    clear hb A0
    generalize W0.alloc (.cells zeroC 28) = w1 at *
    generalize W0.heap.size = q at *
    refine HH1.out _ _ ⟨A1.out.1, A1.out.2.1.cell 0 _ rfl, A1.out.2.1.cell 1 _ rfl, A1.out.2.1.cell 2 _ rfl, A1.out.2.1.cell 3 _ rfl⟩ (fun hS1 => ?_)
    clear HH1 HH0 hS
    (try simp only [Act.put, List.getElem_toArray, List.getElem_cons_succ, List.getElem_cons_zero, List.setIfInBounds_toArray, List.set_cons_zero, List.set_cons_succ])
    refine wpAnyH_ready (rs := [4]) (by kernel_rfl) (by simp) ?_
    refine AllReadyH.cons rfl (fun HH0 HH1 => ?_) AllReadyH.nil
    go_simp
    refine (OC.out _ (reads_two HR.out A1.out.2.2.2.2.2.1)).mono ?_
    rintro e w2 ⟨va, vc, rfl, ho, hb⟩
    have A2 : Hid (Dz w w2 db bm g N K (K) #[.int .i64 1, .int .u64 (x : Nat), .int .i64 (n : Nat), .slice a l c] zeroC) := A1.out.step hb
    have B2 : Hid (Box 28 w2 q zeroC ∧ w.heap.size + 2 < q) := ⟨B1.out.1.step hb, B1.out.2⟩
    have C2 : Hid (Reads .u8 w2 (.slice va L vc) L F) := reads_own ho
    clear ho hb A1 B1
    refine HH1.out _ _ ⟨A2.out.1, A2.out.2.1.cell 0 _ rfl, A2.out.2.1.cell 1 _ rfl, A2.out.2.1.cell 2 _ rfl, A2.out.2.1.cell 3 _ rfl⟩ (fun hS2 => ?_)
    clear HH1 HH0 hS1
    (try simp only [Act.put, List.getElem_toArray, List.getElem_cons_succ, List.getElem_cons_zero, List.setIfInBounds_toArray, List.set_cons_zero, List.set_cons_succ])
    refine wpAnyH_ready (rs := [5]) (by kernel_rfl) (by simp) ?_
    refine AllReadyH.cons rfl (fun HH0 HH1 => ?_) AllReadyH.nil
    go_simp
    refine (DC.out _ _ A2.out.2.2.2.2.1 C2.out).mono ?_
    rintro e w3 ⟨gn, rfl, hd, hq, hb⟩
    have hq2 : gn = g ∨ w.heap.size ≤ gn := hq.imp id (fun h => Nat.le_trans A2.out.2.2.2.2.2.1.size h)
    have A3 : Hid (Dz w w3 db bm g N K (K) #[.int .i64 1, .int .u64 (x : Nat), .int .i64 (n : Nat), .slice a l c] zeroC) := A2.out.step hb
    have B3 : Hid (Box 28 w3 q zeroC ∧ w.heap.size + 2 < q) := ⟨B2.out.1.step hb, B2.out.2⟩
    have C3 : Hid (Reads .u8 w3 (.slice va L vc) L F) := reads_below C2.out hb
    have D3 : Hid (DocAt w3 gn N K2 ∧ (gn = g ∨ w.heap.size ≤ gn)) := ⟨hd, hq2⟩
    clear hd hq hq2 hb A2 B2 C2
    refine HH1.out _ _ ⟨A3.out.1, A3.out.2.1.cell 0 _ rfl, A3.out.2.1.cell 1 _ rfl, A3.out.2.1.cell 2 _ rfl, A3.out.2.1.cell 3 _ rfl⟩ (fun hS3 => ?_)
    clear HH1 HH0 hS2
    (try simp only [Act.put, List.getElem_toArray, List.getElem_cons_succ, List.getElem_cons_zero, List.setIfInBounds_toArray, List.set_cons_zero, List.set_cons_succ])
    refine wpAnyH_take (i := 6) (v := ?_) rfl (by kernel_rfl) (by kernel_rfl) (by kernel_rfl) (fun _ _ _ h => h) (Or.inl ⟨by kernel_rfl, ?_⟩) hS3 ?_
    rotate_left
    · intro w hSw; (try dsimp only at hSw); go_simp; try (with_reducible rfl)
    (try simp only [Act.put, List.getElem_toArray, List.getElem_cons_succ, List.getElem_cons_zero, List.setIfInBounds_toArray, List.set_cons_zero, List.set_cons_succ])
    refine wpAnyH_take (i := 7) (v := ?_) rfl (by kernel_rfl) (by kernel_rfl) (by kernel_rfl) (fun _ _ _ h => h) (Or.inl ⟨by kernel_rfl, ?_⟩) hS3 ?_
    rotate_left
    · intro w hSw; (try dsimp only at hSw); go_simp; try (with_reducible rfl)
    (try simp only [Act.put, List.getElem_toArray, List.getElem_cons_succ, List.getElem_cons_zero, List.setIfInBounds_toArray, List.set_cons_zero, List.set_cons_succ])
    refine wpAnyH_take (i := 8) (v := ?_) rfl (by kernel_rfl) (by kernel_rfl) (by kernel_rfl) (fun _ _ _ h => h) (Or.inl ⟨by kernel_rfl, ?_⟩) hS3 ?_
    rotate_left
    · intro w hSw; (try dsimp only at hSw); go_simp; try (with_reducible rfl)
    (try simp only [Act.put, List.getElem_toArray, List.getElem_cons_succ, List.getElem_cons_zero, List.setIfInBounds_toArray, List.set_cons_zero, List.set_cons_succ])
    refine wpAnyH_ready (rs := [10]) (by kernel_rfl) (by simp) ?_
    refine AllReadyH.cons rfl (fun HH0 HH1 => ?_) AllReadyH.nil
    rw [if_pos (by kernel_rfl)]
    refine wp_store28 _ _ rfl q K2 gn N zeroC rfl rfl B3.out.1 rfl ?_
    intro W9 B9 U9
    have Y : Hid (Dz w W9 db bm g N K (K) #[.int .i64 1, .int .u64 (x : Nat), .int .i64 (n : Nat), .slice a l c] zeroC ∧ Nx w W9 g q gn N K2) := ⟨A3.out.new U9 B3.out.2 (doc_box_ne A3.out.2.2.2.2.1 B3.out.1), B9, D3.out.1.upon U9 (doc_box_ne D3.out.1 B3.out.1), B3.out.2, D3.out.2⟩
    clear B9 U9 A3 B3 C3 D3
    refine HH1.out _ _ ⟨Y.out.1.1, Y.out.1.2.1.cell 0 _ rfl, Y.out.1.2.1.cell 1 _ rfl, Y.out.1.2.1.cell 2 _ rfl, Y.out.1.2.1.cell 3 _ rfl⟩ (fun hS9 => ?_)
    clear HH1 HH0 hS3
    (try simp only [Act.put, List.getElem_toArray, List.getElem_cons_succ, List.getElem_cons_zero, List.setIfInBounds_toArray, List.set_cons_zero, List.set_cons_succ])
    refine wpAnyH_take (i := 11) (v := ?_) rfl (by kernel_rfl) (by kernel_rfl) (by kernel_rfl) (fun _ _ _ h => h) (Or.inl ⟨by kernel_rfl, ?_⟩) hS9 ?_
    rotate_left
    · intro w hSw; (try dsimp only at hSw); go_simp; try (with_reducible rfl)
    (try simp only [Act.put, List.getElem_toArray, List.getElem_cons_succ, List.getElem_cons_zero, List.setIfInBounds_toArray, List.set_cons_zero, List.set_cons_succ])
    refine wpAnyH_done (by kernel_rfl) ?_ _
    clear hS9
    go_upto_region 8 with fail
    have Yd : Hid (Dz w W9.drew db bm g N K (K) #[.int .i64 1, .int .u64 (x : Nat), .int .i64 (n : Nat), .slice a l c] zeroC ∧ Nx w W9.drew g q gn N K2) := ⟨Y.out.1.step (Below.drew (Below.refl _ _)), Y.out.2.step (Below.drew (Below.refl _ _))⟩
    refine wp_region_held_drew (S := fun V => Box 28 V q (docC K2 gn N) ∧ V.cell? ⟨w.heap.size + 1, 0, none⟩ = some (.int .i64 1) ∧ V.cell? ⟨w.heap.size + 1, 1, none⟩ = some (.int .u64 (x : Nat)) ∧ V.cell? ⟨w.heap.size + 1, 2, none⟩ = some (.int .i64 (n : Nat)) ∧ V.cell? ⟨w.heap.size + 1, 3, none⟩ = some (.slice a l c)) (by kernel_rfl) ⟨Yd.out.2.1, Yd.out.1.2.1.cell 0 _ rfl, Yd.out.1.2.1.cell 1 _ rfl, Yd.out.1.2.1.cell 2 _ rfl, Yd.out.1.2.1.cell 3 _ rfl⟩ ?_
    intro hS
    clear Y
    generalize W9.drew = Wd at *
    refine wpAnyH_take (i := 0) (v := .agg (docC K2 gn N)) rfl (by kernel_rfl) (by kernel_rfl) (by kernel_rfl) (fun _ _ _ h => h) (Or.inl ⟨by kernel_rfl, fun V hV => yield28 hV.1 _ rfl rfl⟩) hS ?_
    (try simp only [Act.put, List.getElem_toArray, List.getElem_cons_succ, List.getElem_cons_zero, List.setIfInBounds_toArray, List.set_cons_zero, List.set_cons_succ])
    refine wpAnyH_take (i := 1) (v := ?_) rfl (by kernel_rfl) (by kernel_rfl) (by kernel_rfl) (fun _ _ _ h => h) (Or.inl ⟨by kernel_rfl, ?_⟩) hS ?_
    rotate_left
    · intro w hSw; (try dsimp only at hSw); go_simp; try (with_reducible rfl)
    (try simp only [Act.put, List.getElem_toArray, List.getElem_cons_succ, List.getElem_cons_zero, List.setIfInBounds_toArray, List.set_cons_zero, List.set_cons_succ])
    refine wpAnyH_take (i := 2) (v := ?_) rfl (by kernel_rfl) (by kernel_rfl) (by kernel_rfl) (fun _ _ _ h => h) (Or.inl ⟨by kernel_rfl, ?_⟩) hS ?_
    rotate_left
    · intro w hSw; (try dsimp only at hSw); go_simp; try (with_reducible rfl)
    (try simp only [Act.put, List.getElem_toArray, List.getElem_cons_succ, List.getElem_cons_zero, List.setIfInBounds_toArray, List.set_cons_zero, List.set_cons_succ])
    refine wpAnyH_take (i := 3) (v := ?_) rfl (by kernel_rfl) (by kernel_rfl) (by kernel_rfl) (fun _ _ _ h => h) (Or.inl ⟨by kernel_rfl, ?_⟩) hS ?_
    rotate_left
    · intro w hSw; (try dsimp only at hSw); go_simp; try (with_reducible rfl)
    (try simp only [Act.put, List.getElem_toArray, List.getElem_cons_succ, List.getElem_cons_zero, List.setIfInBounds_toArray, List.set_cons_zero, List.set_cons_succ])
    refine wpAnyH_take (i := 4) (v := ?_) rfl (by kernel_rfl) (by kernel_rfl) (by kernel_rfl) (fun _ _ _ h => h) (Or.inl ⟨by kernel_rfl, ?_⟩) hS ?_
    rotate_left
    · intro w hSw; (try dsimp only at hSw); go_simp; try (with_reducible rfl)
    (try simp only [Act.put, List.getElem_toArray, List.getElem_cons_succ, List.getElem_cons_zero, List.setIfInBounds_toArray, List.set_cons_zero, List.set_cons_succ])
    refine wpAnyH_take (i := 7) (v := ?_) rfl (by kernel_rfl) (by kernel_rfl) (by kernel_rfl) (fun _ _ _ h => h) (Or.inl ⟨by kernel_rfl, ?_⟩) hS ?_
    rotate_left
    · intro w hSw; (try dsimp only at hSw); go_simp; try (with_reducible rfl)
    (try simp only [Act.put, List.getElem_toArray, List.getElem_cons_succ, List.getElem_cons_zero, List.setIfInBounds_toArray, List.set_cons_zero, List.set_cons_succ])
    refine wpAnyH_ready (rs := [5]) (by kernel_rfl) (by simp) ?_
    refine AllReadyH.cons rfl (fun HH0 HH1 => ?_) AllReadyH.nil
    go_simp
    refine (OC.out _ (reads_two HR.out Yd.out.1.2.2.2.2.2.1)).mono ?_
    rintro e w21 ⟨va2, vc2, rfl, ho, hb⟩
    have Y1 : Hid ((Dz w w21 db bm g N K (K) #[.int .i64 1, .int .u64 (x : Nat), .int .i64 (n : Nat), .slice a l c] zeroC ∧ Nx w w21 g q gn N K2) ∧ ReadsF (fun k => k = db ∨ k = bm) w21 (.slice va2 L vc2) L F) := ⟨⟨Yd.out.1.step hb, Yd.out.2.step hb⟩, owns_readsF ho (fun k hk => by have h1 := Yd.out.1.2.2.2.1.lt; rcases hk with rfl | rfl <;> omega)⟩
    clear ho hb Yd
    refine HH1.out _ _ ⟨Y1.out.1.2.1, Y1.out.1.1.2.1.cell 0 _ rfl, Y1.out.1.1.2.1.cell 1 _ rfl, Y1.out.1.1.2.1.cell 2 _ rfl, Y1.out.1.1.2.1.cell 3 _ rfl⟩ (fun hS1 => ?_)
    clear HH1 HH0 hS
    (try simp only [Act.put, List.getElem_toArray, List.getElem_cons_succ, List.getElem_cons_zero, List.setIfInBounds_toArray, List.set_cons_zero, List.set_cons_succ])
    refine wpAnyH_ready (rs := [6]) (by kernel_rfl) (by simp) ?_
    refine AllReadyH.cons rfl (fun HH0 HH1 => ?_) AllReadyH.nil
    go_simp
    refine (PC.out _ _ Y1.out.1.1.2.2.2.1 Y1.out.2).mono ?_
    rintro e w22 ⟨rfl, hd5, ht5⟩
    have Y5 : Hid (Dz w w22 db bm g N K (K2) #[.int .i64 1, .int .u64 (x : Nat), .int .i64 (n : Nat), .slice a l c] zeroC ∧ Nx w w22 g q gn N K2) := ⟨Y1.out.1.1.prog hd5 ht5, Y1.out.1.2.prog Y1.out.1.1.2.2.2.1 Y1.out.1.1.2.2.2.2.2.2.1 Y1.out.1.1.2.2.2.2.2.2.2 ht5⟩
    clear hd5 ht5 Y1
    refine HH1.out _ _ ⟨Y5.out.2.1, Y5.out.1.2.1.cell 0 _ rfl, Y5.out.1.2.1.cell 1 _ rfl, Y5.out.1.2.1.cell 2 _ rfl, Y5.out.1.2.1.cell 3 _ rfl⟩ (fun hS2 => ?_)
    clear HH1 HH0 hS1
    (try simp only [Act.put, List.getElem_toArray, List.getElem_cons_succ, List.getElem_cons_zero, List.setIfInBounds_toArray, List.set_cons_zero, List.set_cons_succ])
    refine wpAnyH_take (i := 8) (v := ?_) rfl (by kernel_rfl) (by kernel_rfl) (by kernel_rfl) (fun _ _ _ h => h) (Or.inl ⟨by kernel_rfl, ?_⟩) hS2 ?_
    rotate_left
    · intro w hSw; (try dsimp only at hSw); go_simp; try (with_reducible rfl)
    (try simp only [Act.put, List.getElem_toArray, List.getElem_cons_succ, List.getElem_cons_zero, List.setIfInBounds_toArray, List.set_cons_zero, List.set_cons_succ])
    refine wpAnyH_ready (rs := [9]) (by kernel_rfl) (by simp) ?_
    refine AllReadyH.cons rfl (fun HH0 HH1 => ?_) AllReadyH.nil
    rw [if_pos (by kernel_rfl)]
    refine wp_store28 _ _ rfl (w.heap.size + 2) (K2) gn N zeroC rfl rfl Y5.out.1.2.2.1 rfl ?_
    intro W8 B8 U8
    have X9 : Hid ((Dz w W8 db bm g N K (K2) #[.int .i64 1, .int .u64 (x : Nat), .int .i64 (n : Nat), .slice a l c] (docC K2 gn N) ∧ DocAt W8 gn N K2) ∧ (gn = g ∨ w.heap.size ≤ gn)) := by
      have h9 := Y5.out.1.res B8 U8
      exact ⟨⟨h9, (Y5.out.2.res Y5.out.1.2.2.1 U8).2.1⟩, Y5.out.2.2.2.2⟩
    have hN9 : Box 28 W8 q (docC K2 gn N) := (Y5.out.2.res Y5.out.1.2.2.1 U8).1
    clear B8 U8
    refine HH1.out _ _ ⟨hN9, X9.out.1.1.2.1.cell 0 _ rfl, X9.out.1.1.2.1.cell 1 _ rfl, X9.out.1.1.2.1.cell 2 _ rfl, X9.out.1.1.2.1.cell 3 _ rfl⟩ (fun hS9 => ?_)
    clear HH1 HH0 hS2 hN9
    (try simp only [Act.put, List.getElem_toArray, List.getElem_cons_succ, List.getElem_cons_zero, List.setIfInBounds_toArray, List.set_cons_zero, List.set_cons_succ])
    refine wpAnyH_take (i := 10) (v := ?_) rfl (by kernel_rfl) (by kernel_rfl) (by kernel_rfl) (fun _ _ _ h => h) (Or.inl ⟨by kernel_rfl, ?_⟩) hS9 ?_
    rotate_left
    · intro w hSw; (try dsimp only at hSw); go_simp; try (with_reducible rfl)
    (try simp only [Act.put, List.getElem_toArray, List.getElem_cons_succ, List.getElem_cons_zero, List.setIfInBounds_toArray, List.set_cons_zero, List.set_cons_succ])
    refine wpAnyH_done (by kernel_rfl) ?_ _
    clear hS9
    go_wp2_with fail
    exact bodyPost_ret (v := .tuple #[.agg (docC K2 gn N), .bool true]) (results2 (p := 6) (t := 7) rfl _ _ (w.heap.size + 2) K2 gn N rfl X9.out.1.1.2.2.1) rfl ⟨gn, rfl, X9.out.1.1.2.2.2.1, X9.out.1.2, X9.out.2, X9.out.1.1.2.2.2.2.2.1⟩
end Go.Proofs.Ytkalaojbmedhjaa
