/- The statements' call 'do': Read. -/
import Derived.Test.YtkalaojbmedhjaaDn
namespace Go.Proofs.Ytkalaojbmedhjaa
open Go.RowKit Go.Maps
set_option linter.unusedVariables false
set_option linter.unusedSimpArgs false
set_option maxRecDepth 100000
theorem ne_disk1 {w : World} {db bm : Nat} {K : Dk} {p : Addr} {z : Int} (h : DiskAt w db bm K) (hc : w.cell? p = some (.int .u8 z)) : p.block ≠ db := by
  intro e
  unfold World.cell? at hc
  have h1 := h.1
  unfold Box at h1
  rw [e, h1] at hc
  simp only at hc
  split at hc
  · cases hc
  · have : ∀ i : Nat, (diskC K bm)[i]? ≠ some (.int .u8 z) := fun i => by
      match i with
      | 0 => simp [diskC]
      | 1 => simp [diskC]
      | 2 => simp [diskC]
      | 3 => simp [diskC]
      | 4 => simp [diskC]
      | 5 => simp [diskC]
      | i + 6 => simp [diskC]
    exact this _ hc
theorem ne_disk2 {w : World} {db bm : Nat} {K : Dk} {p : Addr} {v : Value} (h : DiskAt w db bm K) (hc : w.cell? p = some v) : p.block ≠ bm := by
  intro e
  unfold World.cell? at hc
  obtain ⟨D, ⟨es, clock, e1, _⟩, _⟩ := h.2.1
  rw [e, e1] at hc
  cases hc
set_option maxHeartbeats 4000000 in
theorem do_read (K : Dk) (db bm g N x n : Nat) (a : Option Addr) (l c : Nat) (w : World) (hd : DiskAt w db bm K) (hg : DocAt w g N K) (hx : x < 18446744073709551616) (hn : n ≤ 2048) : Calls Try.prog 24 #[.pointer (some ⟨db, 0, none⟩), .agg (docC K g N), .agg #[.int .i64 0, .int .u64 (x : Nat), .int .i64 (n : Nat), .slice a l c]] w fun e w' => ∃ g2, e = .returned (.tuple #[.agg (docC (askK K) g2 N), .bool true]) ∧ DiskAt w' db bm (askK K) ∧ DocAt w' g2 N (askK K) ∧ (g2 = g ∨ w.heap.size ≤ g2) ∧ Two db bm w w' := by
  have hK := askK_ok hd.2.2
  obtain ⟨E, hE⟩ : ∃ E, readE K x n = E := ⟨_, rfl⟩
  obtain ⟨m, hm⟩ : ∃ m, readM K x n = m := ⟨_, rfl⟩
  have hm2 : m ≤ 2048 := by rw [← hm]; unfold readM; split <;> omega
  have hwn : IntKind.u64.wrap (n : Int) = (n : Int) := by rw [wrap_u64]; omega
  have PC : Hid (∀ V, DiskAt V db bm K → Calls Try.prog 21 #[.pointer (some ⟨db, 0, none⟩), .int .u64 (x : Nat), .int .u64 (n : Nat)] V fun e w' => ∃ a c, e = .returned (.tuple #[.slice a m c, .int .i64 (E : Nat)]) ∧ Reads .u8 w' (.slice a m c) m (fun i => K.M (x * 512 + i)) ∧ DiskAt w' db bm (askK K) ∧ Two db bm V w') := fun V h => by rw [← hE, ← hm]; exact read_any h x n hx (by omega)
  have DC : Hid (∀ V, DocAt V g N K → Calls Try.prog 34 #[.agg (docC K g N), .int .u64 (x : Nat), .int .u64 (n : Nat)] V fun e w' => ∃ a c, e = .returned (.tuple #[.agg (docC (askK K) g N), .slice a m c, .int .i64 (E : Nat)]) ∧ Reads .u8 w' (.slice a m c) m (fun i => K.M (x * 512 + i)) ∧ Below V.heap.size V w') := fun V h => by rw [← hE, ← hm]; exact dread_any h x n hx (by omega)
  have HS : Hid (∀ V, DocAt V g N K → DocAt V g N (askK K)) := fun V h => h.same rfl rfl hK
  have hxx : ((E : Int) == (E : Int)) = true := by simp
  clear hK hE hm
  go_enter Try.func24, Try.ntmps24
  go_upto_region 0 with fail
  refine wp_region_list ?_
  refine wpList_box_agg 28 (docC K g N) _ rfl rfl rfl ?_
  refine wpList_box_agg 39 #[.int .i64 0, .int .u64 (x : Nat), .int .i64 (n : Nat), .slice a l c] _ rfl rfl rfl ?_
  refine wpList_alloc_zero 28 zeroC 5 zinfo28 rfl rfl ?_
  rw [show ((w.alloc (.cells (docC K g N) 28)).alloc (.cells #[.int .i64 0, .int .u64 (x : Nat), .int .i64 (n : Nat), .slice a l c] 39)).heap.size = w.heap.size + 2 from by simp, show (w.alloc (.cells (docC K g N) 28)).heap.size = w.heap.size + 1 from by simp]
  have X0 : Hid (Dz w (((w.alloc (.cells (docC K g N) 28)).alloc (.cells #[.int .i64 0, .int .u64 (x : Nat), .int .i64 (n : Nat), .slice a l c] 39)).alloc (.cells zeroC 28)) db bm g N K K #[.int .i64 0, .int .u64 (x : Nat), .int .i64 (n : Nat), .slice a l c] zeroC) := Dz.begin w db bm g N K _ hd hg
  clear hd hg
  generalize ((w.alloc (.cells (docC K g N) 28)).alloc (.cells #[.int .i64 0, .int .u64 (x : Nat), .int .i64 (n : Nat), .slice a l c] 39)).alloc (.cells zeroC 28) = W at *
  have c0 := X0.out.2.1.cell 0 (.int .i64 0) rfl
  have c1 := X0.out.2.1.cell 1 (.int .u64 (x : Nat)) rfl
  have c2 := X0.out.2.1.cell 2 (.int .i64 (n : Nat)) rfl
  have c3 := X0.out.2.1.cell 3 (.slice a l c) rfl
  go_upto_region 3 with fail
  refine wp_region_list ?_
  refine wpList_load28 rfl _ rfl w.heap.size K g N rfl X0.out.1 ?_
  (refine wpList_step (fun KK hKK => ?_); go_simp; refine hKK _ _ ?_; clear hKK KK)
  (refine wpList_step (fun KK hKK => ?_); go_simp; refine hKK _ _ ?_; clear hKK KK)
  (refine wpList_step (fun KK hKK => ?_); go_simp; refine hKK _ _ ?_; clear hKK KK)
  (refine wpList_step (fun KK hKK => ?_); go_simp; refine hKK _ _ ?_; clear hKK KK)
  (refine wpList_step (fun KK hKK => ?_); go_simp; refine hKK _ _ ?_; clear hKK KK)
  refine wpList_step (fun KK hKK => ?_)
  go_simp
  refine (DC.out _ X0.out.2.2.2.2.1).mono ?_
  rintro e w2 ⟨a1, k1, rfl, hr2, hb2⟩
  have X2 : Hid (Dz w w2 db bm g N K (K) #[.int .i64 0, .int .u64 (x : Nat), .int .i64 (n : Nat), .slice a l c] zeroC ∧ Reads .u8 w2 (.slice a1 m k1) m (fun i => K.M (x * 512 + i))) := ⟨X0.out.step hb2, hr2⟩
  clear hb2 hr2 X0 c0 c1 c2 c3
  refine hKK _ _ ?_
  clear hKK KK
  (refine wpList_step (fun KK hKK => ?_); go_simp; refine hKK _ _ ?_; clear hKK KK)
  refine wpList_extract_at rfl _ _ _ _ rfl rfl rfl ?_
  refine wpList_extract_at rfl _ _ _ _ rfl rfl rfl ?_
  refine wpList_extract_at rfl _ _ _ _ rfl rfl rfl ?_
  refine wpList_alloc_zero 28 zeroC 5 zinfo28 rfl rfl ?_
  refine wpList_store28 rfl _ _ rfl w2.heap.size (askK K) g N zeroC rfl rfl (Box.new 28 w2 _) rfl ?_
  intro W3 B3 U3
  have Y3 : Hid (Dz w W3 db bm g N K (K) #[.int .i64 0, .int .u64 (x : Nat), .int .i64 (n : Nat), .slice a l c] zeroC ∧ Nx w W3 g w2.heap.size g N (askK K) ∧ Reads .u8 W3 (.slice a1 m k1) m (fun i => K.M (x * 512 + i))) := by
    obtain ⟨y1, y2⟩ := Nx.made X2.out.1 (HS.out _ X2.out.1.2.2.2.2.1) (.inl rfl) B3 U3
    have b1 : Below w2.heap.size w2 W3 := (((Below.refl _ _).alloc (Nat.le_refl _) _ : Below w2.heap.size w2 (w2.alloc (.cells zeroC 28)))).trans (U3.below (Nat.le_refl _) (by simp))
    exact ⟨y1, y2, reads_below X2.out.2 b1⟩
  clear B3 U3 X2
  generalize w2.heap.size = q at *
  have c1 := Y3.out.1.2.1.cell 1 (.int .u64 (x : Nat)) rfl
  have c2 := Y3.out.1.2.1.cell 2 (.int .i64 (n : Nat)) rfl
  go_wp2_with fail
  refine (PC.out _ Y3.out.1.2.2.2.1).mono ?_
  rintro e w4 ⟨a2, k2, rfl, hr4, hd4, ht4⟩
  have Y4 : Hid (Dz w w4.drew db bm g N K (askK K) #[.int .i64 0, .int .u64 (x : Nat), .int .i64 (n : Nat), .slice a l c] zeroC ∧ Nx w w4.drew g q g N (askK K) ∧ Reads .u8 w4.drew (.slice a1 m k1) m (fun i => K.M (x * 512 + i)) ∧ Reads .u8 w4.drew (.slice a2 m k2) m (fun i => K.M (x * 512 + i))) := by
    have bd : Below w4.heap.size w4 w4.drew := Below.drew (Below.refl _ _)
    have r1 : Reads .u8 w4 (.slice a1 m k1) m (fun i => K.M (x * 512 + i)) := by
      rcases Y3.out.2.2 with ⟨e1, e2⟩ | ⟨b, off, cap, e1, hc⟩
      · exact .inl ⟨e1, e2⟩
      · by_cases h0 : m = 0
        · exact .inl ⟨h0, _, _, by rw [h0]⟩
        · refine .inr ⟨b, off, cap, e1, fun i hi => ht4.cell (hc i hi) ?_ ?_⟩
          · intro e; exact ne_disk1 Y3.out.1.2.2.2.1 (hc i hi) e
          · intro e; exact ne_disk2 Y3.out.1.2.2.2.1 (hc i hi) e
    exact ⟨(Y3.out.1.prog hd4 ht4).step bd, (Y3.out.2.1.prog Y3.out.1.2.2.2.1 Y3.out.1.2.2.2.2.2.2.1 Y3.out.1.2.2.2.2.2.2.2 ht4).step bd, reads_below r1 bd, reads_below hr4 bd⟩
  clear hr4 hd4 ht4 Y3 c1 c2
  go_upto_region 5 with fail
  refine wp_region_held_drew (S := fun V => Box 28 V q (docC (askK K) g N)) (by kernel_rfl) Y4.out.2.1.1 ?_
  intro hS
  generalize w4.drew = W4 at *
  refine wpAnyH_take (i := 0) (v := .agg (docC (askK K) g N)) rfl (by kernel_rfl) (by kernel_rfl) (by kernel_rfl) (fun _ _ _ h => h) (Or.inl ⟨by kernel_rfl, fun V hV => yield28 hV _ rfl rfl⟩) hS ?_
  (try simp only [Act.put, List.getElem_toArray, List.getElem_cons_succ, List.getElem_cons_zero, List.setIfInBounds_toArray, List.set_cons_zero, List.set_cons_succ])
  refine wpAnyH_take (i := 1) (v := ?_) rfl (by kernel_rfl) (by kernel_rfl) (by kernel_rfl) (fun _ _ _ h => h) (Or.inl ⟨by kernel_rfl, ?_⟩) hS ?_
  rotate_left
  · intro w hSw; (try dsimp only at hSw); go_simp; try (with_reducible rfl)
  (try simp only [Act.put, List.getElem_toArray, List.getElem_cons_succ, List.getElem_cons_zero, List.setIfInBounds_toArray, List.set_cons_zero, List.set_cons_succ])
  refine wpAnyH_take (i := 2) (v := ?_) rfl (by kernel_rfl) (by kernel_rfl) (by kernel_rfl) (fun _ _ _ h => h) (Or.inl ⟨by kernel_rfl, ?_⟩) hS ?_
  rotate_left
  · intro w hSw; (try dsimp only at hSw); go_simp; try (with_reducible rfl)
  (try simp only [Act.put, List.getElem_toArray, List.getElem_cons_succ, List.getElem_cons_zero, List.setIfInBounds_toArray, List.set_cons_zero, List.set_cons_succ])
  refine wpAnyH_take (i := 3) (v := ?_) rfl (by kernel_rfl) (by kernel_rfl) (by kernel_rfl) (fun _ _ _ h => h) (Or.inl ⟨by kernel_rfl, ?_⟩) hS ?_
  rotate_left
  · intro w hSw; (try dsimp only at hSw); go_simp; try (with_reducible rfl)
  (try simp only [Act.put, List.getElem_toArray, List.getElem_cons_succ, List.getElem_cons_zero, List.setIfInBounds_toArray, List.set_cons_zero, List.set_cons_succ])
  refine wpAnyH_take (i := 4) (v := ?_) rfl (by kernel_rfl) (by kernel_rfl) (by kernel_rfl) (fun _ _ _ h => h) (Or.inl ⟨by kernel_rfl, ?_⟩) hS ?_
  rotate_left
  · intro w hSw; (try dsimp only at hSw); go_simp; try (with_reducible rfl)
  (try simp only [Act.put, List.getElem_toArray, List.getElem_cons_succ, List.getElem_cons_zero, List.setIfInBounds_toArray, List.set_cons_zero, List.set_cons_succ])
  refine wpAnyH_take (i := 5) (v := ?_) rfl (by kernel_rfl) (by kernel_rfl) (by kernel_rfl) (fun _ _ _ h => h) (Or.inl ⟨by kernel_rfl, ?_⟩) hS ?_
  rotate_left
  · intro w hSw; (try dsimp only at hSw); go_simp; try (with_reducible rfl)
  (try simp only [Act.put, List.getElem_toArray, List.getElem_cons_succ, List.getElem_cons_zero, List.setIfInBounds_toArray, List.set_cons_zero, List.set_cons_succ])
  refine wpAnyH_take (i := 6) (v := ?_) rfl (by kernel_rfl) (by kernel_rfl) (by kernel_rfl) (fun _ _ _ h => h) (Or.inl ⟨by kernel_rfl, ?_⟩) hS ?_
  rotate_left
  · intro w hSw; (try dsimp only at hSw); go_simp; try (with_reducible rfl)
  (try simp only [Act.put, List.getElem_toArray, List.getElem_cons_succ, List.getElem_cons_zero, List.setIfInBounds_toArray, List.set_cons_zero, List.set_cons_succ])
  refine wpAnyH_ready (rs := [7]) (by kernel_rfl) (by simp) ?_
  refine AllReadyH.cons rfl (fun HH0 HH1 => ?_) AllReadyH.nil
  go_simp
  refine (bytes_same (fun i => K.M (x * 512 + i)) m _ _ (by omega) _ Y4.out.2.2.2 Y4.out.2.2.1).mono ?_
  rintro e w5 ⟨rfl, qq, hq⟩
  have bq : Below W4.heap.size W4 w5 := by rw [hq]; exact below_drewN _ _
  have Y5 : Hid (Dz w w5 db bm g N K (askK K) #[.int .i64 0, .int .u64 (x : Nat), .int .i64 (n : Nat), .slice a l c] zeroC ∧ Nx w w5 g q g N (askK K)) := ⟨Y4.out.1.step bq, Y4.out.2.1.step bq⟩
  clear bq hq Y4
  refine HH1.out _ _ Y5.out.2.1 (fun hS2 => ?_)
  clear HH1 HH0 hS
  (try simp only [Act.put, List.getElem_toArray, List.getElem_cons_succ, List.getElem_cons_zero, List.setIfInBounds_toArray, List.set_cons_zero, List.set_cons_succ])
  refine wpAnyH_take (i := 8) (v := ?_) rfl (by kernel_rfl) (by kernel_rfl) (by kernel_rfl) (fun _ _ _ h => h) (Or.inl ⟨by kernel_rfl, ?_⟩) hS2 ?_
  rotate_left
  · intro w hSw; (try dsimp only at hSw); go_simp; try (with_reducible rfl)
  (try simp only [Act.put, List.getElem_toArray, List.getElem_cons_succ, List.getElem_cons_zero, List.setIfInBounds_toArray, List.set_cons_zero, List.set_cons_succ])
  refine wpAnyH_ready (rs := [9]) (by kernel_rfl) (by simp) ?_
  refine AllReadyH.cons rfl (fun HH0 HH1 => ?_) AllReadyH.nil
  rw [if_pos (by kernel_rfl)]
  refine wp_store28 _ _ rfl (w.heap.size + 2) (askK K) g N zeroC rfl rfl Y5.out.1.2.2.1 rfl ?_
  intro W9 B9 U9
  have X9 : Hid (Dz w W9 db bm g N K (askK K) #[.int .i64 0, .int .u64 (x : Nat), .int .i64 (n : Nat), .slice a l c] (docC (askK K) g N) ∧ DocAt W9 g N (askK K)) := by
    have h9 := Y5.out.1.res B9 U9
    exact ⟨h9, HS.out _ h9.2.2.2.2.1⟩
  have hN9 : Box 28 W9 q (docC (askK K) g N) := (Y5.out.2.res Y5.out.1.2.2.1 U9).1
  clear B9 U9
  refine HH1.out _ _ hN9 (fun hS9 => ?_)
  clear HH1 HH0 hS2 hN9
  (try simp only [Act.put, List.getElem_toArray, List.getElem_cons_succ, List.getElem_cons_zero, List.setIfInBounds_toArray, List.set_cons_zero, List.set_cons_succ])
  refine wpAnyH_take (i := 10) (v := ?_) rfl (by kernel_rfl) (by kernel_rfl) (by kernel_rfl) (fun _ _ _ h => h) (Or.inl ⟨by kernel_rfl, ?_⟩) hS9 ?_
  rotate_left
  · intro w hSw; (try dsimp only at hSw); go_simp; try (with_reducible rfl)
  (try simp only [Act.put, List.getElem_toArray, List.getElem_cons_succ, List.getElem_cons_zero, List.setIfInBounds_toArray, List.set_cons_zero, List.set_cons_succ])
  refine wpAnyH_done (by kernel_rfl) ?_ _
  clear hS9
  go_wp2_with fail
  exact bodyPost_ret (v := .tuple #[.agg (docC (askK K) g N), .bool true]) (results2 (p := 6) (t := 7) rfl _ _ (w.heap.size + 2) (askK K) g N rfl X9.out.1.2.2.1) rfl ⟨g, rfl, X9.out.1.2.2.2.1, X9.out.2, .inl rfl, X9.out.1.2.2.2.2.2.1⟩
end Go.Proofs.Ytkalaojbmedhjaa
