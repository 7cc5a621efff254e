/- The statements' call 'do': Put, Take, Peek. -/
import Derived.Test.YtjmgdhnjldimgaaDn
namespace Go.Proofs.Ytjmgdhnjldimgaa
open Go.RowKit
set_option linter.unusedVariables false
set_option linter.unusedSimpArgs false
set_option maxRecDepth 100000
set_option maxHeartbeats 4000000 in
theorem do_put {w : World} {K : Fi} {fb g d : Nat} {va : Option Addr} {vc : Nat} (hf : FifoAt w fb g K) (hr : RL w (.slice va K.l.length vc) d K.l) (ho : Off d fb g K.l) (n : Int) (a : Option Addr) (c dd : Nat) (D : List Nat) (hx : RL w (.slice a D.length c) dd D) (hD : ∀ x ∈ D, x ≤ 255) (hL : D.length ≤ 100000) : Calls Try.prog 20 #[.pointer (some ⟨fb, 0, none⟩), .agg (fifoC K (.slice va K.l.length vc)), .agg #[.int .i64 0, .int .i64 n, .slice a D.length c]] w fun e w' => DoP w w' fb g d (putK K D) e := by
  have hK := hf.ok
  have DC0 : ∀ V, RL V (.slice va K.l.length vc) d K.l → RL V (.slice a D.length c) dd D → Calls Try.prog 25 #[.agg (fifoC K (.slice va K.l.length vc)), .slice a D.length c] V fun e w' => ∃ v2 c2 d', e = .returned (.tuple #[.agg (fifoC (putK K D) (.slice v2 (putK K D).l.length c2)), .int .i64 (putN K D : Nat)]) ∧ RL w' (.slice v2 (putK K D).l.length c2) d' (putK K D).l ∧ V.heap.size ≤ d' ∧ Below V.heap.size V w' := fun V h1 h2 => dput_any hK h1 _ D h2 hL
  have PC0 : ∀ V, FifoAt V fb g K → RL V (.slice a D.length c) dd D → Calls Try.prog 12 #[.pointer (some ⟨fb, 0, none⟩), .slice a D.length c] V fun e w' => ∃ g', e = .returned (.int .i64 (putN K D : Nat)) ∧ FifoAt w' fb g' (putK K D) ∧ Two fb g V w' ∧ (g' = g ∨ V.heap.size ≤ g') := fun V h1 h2 => put_any h1 _ D h2 hD hL
  obtain ⟨l, hl⟩ : ∃ l, D.length = l := ⟨_, rfl⟩
  rw [hl] at hx DC0 PC0
  rw [hl]
  clear hK hD hL hl
  generalize putK K D = K2 at *
  generalize putN K D = p at *
  obtain ⟨k2, hk2⟩ : ∃ k2, K2.l.length = k2 := ⟨_, rfl⟩
  have HK2 : Hid (K2.l.length = k2) := hk2
  rw [hk2] at DC0
  clear hk2
  have hpp : ((p : Int) == (p : Int)) = true := by simp
  obtain ⟨k, hk⟩ : ∃ k, K.l.length = k := ⟨_, rfl⟩
  have dlt : K.l = [] ∨ d < w.heap.size := by
    by_cases q : K.l = []
    · exact .inl q
    · exact .inr (hr.old q)
  have hlt := hf.lt
  rw [hk] at hr DC0
  rw [hk]
  have H : Hid (FifoAt w fb g K ∧ RL w (.slice va k vc) d K.l ∧ Off d fb g K.l ∧ (K.l = [] ∨ d < w.heap.size) ∧ K.l.length = k) := ⟨hf, hr, ho, dlt, hk⟩
  clear hf hr ho dlt hk
  have HX : Hid (RL w (.slice a l c) dd D) := hx
  have DC : Hid (∀ V, RL V (.slice va k vc) d K.l → RL V (.slice a l c) dd D → Calls Try.prog 25 #[.agg (fifoC K (.slice va k vc)), .slice a l c] V fun e w' => ∃ v2 c2 d', e = .returned (.tuple #[.agg (fifoC K2 (.slice v2 k2 c2)), .int .i64 (p : Nat)]) ∧ RL w' (.slice v2 k2 c2) d' K2.l ∧ V.heap.size ≤ d' ∧ Below V.heap.size V w') := DC0
  have PC : Hid (∀ V, FifoAt V fb g K → RL V (.slice a l c) dd D → Calls Try.prog 12 #[.pointer (some ⟨fb, 0, none⟩), .slice a l c] V fun e w' => ∃ g', e = .returned (.int .i64 (p : Nat)) ∧ FifoAt w' fb g' K2 ∧ Two fb g V w' ∧ (g' = g ∨ V.heap.size ≤ g')) := PC0
  clear hx DC0 PC0
  go_enter Try.func20, Try.ntmps20
  go_upto_region 0 with fail
  refine wp_region_list ?_
  refine wpList_box_agg 28 (fifoC K (.slice va k vc)) _ rfl rfl rfl ?_
  refine wpList_box_agg 45 #[.int .i64 0, .int .i64 n, .slice a l c] _ rfl rfl rfl ?_
  refine wpList_alloc_zero 28 zeroC 4 zinfo28 rfl rfl ?_
  rw [show ((w.alloc (.cells (fifoC K (.slice va k vc)) 28)).alloc (.cells #[.int .i64 0, .int .i64 n, .slice a l c] 45)).heap.size = w.heap.size + 2 from by simp, show (w.alloc (.cells (fifoC K (.slice va k vc)) 28)).heap.size = w.heap.size + 1 from by simp]
  have X0 : Hid (Dz w (((w.alloc (.cells (fifoC K (.slice va k vc)) 28)).alloc (.cells #[.int .i64 0, .int .i64 n, .slice a l c] 45)).alloc (.cells zeroC 28)) fb g d K (.slice va k vc) #[.int .i64 0, .int .i64 n, .slice a l c] zeroC) := Dz.begin w fb g d K _ _ H.out.1 H.out.2.1
  generalize ((w.alloc (.cells (fifoC K (.slice va k vc)) 28)).alloc (.cells #[.int .i64 0, .int .i64 n, .slice a l c] 45)).alloc (.cells zeroC 28) = W at *
  have c0 := X0.out.2.1.cell 0 (.int .i64 0) rfl
  have c1 := X0.out.2.1.cell 1 (.int .i64 n) rfl
  have c2 := X0.out.2.1.cell 2 (.slice a l c) rfl
  go_upto_region 3 with fail
  refine wp_region_list ?_
  refine wpList_load28 rfl _ rfl w.heap.size K _ _ _ rfl X0.out.1 ?_
  (refine wpList_step (fun KK hKK => ?_); go_simp; refine hKK _ _ ?_; clear hKK KK)
  (refine wpList_step (fun KK hKK => ?_); go_simp; refine hKK _ _ ?_; clear hKK KK)
  refine wpList_step (fun KK hKK => ?_)
  go_simp
  refine (DC.out _ X0.out.2.2.2.2.1 (HX.out.step X0.out.2.2.2.2.2)).mono ?_
  rintro e w2 ⟨v2, cc2, d2, rfl, h1, h2, h3⟩
  have X2 : Hid (Dz w w2 fb g d K (.slice va k vc) #[.int .i64 0, .int .i64 n, .slice a l c] zeroC ∧ RL w2 (.slice v2 k2 cc2) d2 K2.l ∧ w.heap.size + 2 < d2) := ⟨X0.out.step h3, h1, by have := X0.out.lt; omega⟩
  clear h1 h2 h3 X0 c0 c1 c2
  refine hKK _ _ ?_
  clear hKK KK
  (refine wpList_step (fun KK hKK => ?_); go_simp; refine hKK _ _ ?_; clear hKK KK)
  refine wpList_extract_at rfl _ _ _ _ rfl rfl rfl ?_
  refine wpList_extract_at rfl _ _ _ _ rfl rfl rfl ?_
  refine wpList_alloc_zero 28 zeroC 4 zinfo28 rfl rfl ?_
  refine wpList_store28 rfl _ _ rfl w2.heap.size K2 _ _ _ zeroC rfl rfl (Box.new 28 w2 _) rfl ?_
  intro W3 B3 U3
  have Y3 : Hid (Dz w W3 fb g d K (.slice va k vc) #[.int .i64 0, .int .i64 n, .slice a l c] zeroC ∧ Box 28 W3 w2.heap.size (fifoC K2 (.slice v2 k2 cc2)) ∧ RL W3 (.slice v2 k2 cc2) d2 K2.l ∧ w.heap.size + 2 < d2 ∧ w.heap.size + 2 < w2.heap.size) := by
    have := Dz.made (c := zeroC) X2.out.1 U3
    exact ⟨this.1, B3, X2.out.2.1.step this.2, X2.out.2.2, X2.out.1.lt⟩
  clear B3 U3 X2
  generalize w2.heap.size = q at *
  go_upto_region 4 with fail
  have Yd : Hid (Dz w W3.drew fb g d K (.slice va k vc) #[.int .i64 0, .int .i64 n, .slice a l c] zeroC ∧ Box 28 W3.drew q (fifoC K2 (.slice v2 k2 cc2)) ∧ RL W3.drew (.slice v2 k2 cc2) d2 K2.l ∧ w.heap.size + 2 < d2 ∧ w.heap.size + 2 < q) := ⟨Y3.out.1.step (Below.drew (Below.refl _ _)), Y3.out.2.1.drew, Y3.out.2.2.1.step (Below.drew (Below.refl _ _)), Y3.out.2.2.2⟩
  refine wp_region_held_drew (S := fun V => Box 28 V q (fifoC K2 (.slice v2 k2 cc2)) ∧ V.cell? ⟨w.heap.size + 1, 2, none⟩ = some (.slice a l c)) (by kernel_rfl) ⟨Yd.out.2.1, Yd.out.1.2.1.cell 2 _ rfl⟩ ?_
  intro hS
  clear Y3
  generalize W3.drew = W4 at *
  refine wpAnyH_take (i := 0) (v := .agg (fifoC K2 (.slice v2 k2 cc2))) rfl (by kernel_rfl) (by kernel_rfl) (by kernel_rfl) (fun _ _ _ h => h) (Or.inl ⟨by kernel_rfl, fun V hV => yield28 hV.1 _ rfl rfl⟩) hS ?_
  (try simp only [Act.put, List.getElem_toArray, List.getElem_cons_succ, List.getElem_cons_zero, List.setIfInBounds_toArray, List.set_cons_zero, List.set_cons_succ])
  refine wpAnyH_take (i := 1) (v := ?_) rfl (by kernel_rfl) (by kernel_rfl) (by kernel_rfl) (fun _ _ _ h => h) (Or.inl ⟨by kernel_rfl, ?_⟩) hS ?_
  rotate_left
  · intro w hSw; (try dsimp only at hSw); go_simp; try (with_reducible rfl)
  (try simp only [Act.put, List.getElem_toArray, List.getElem_cons_succ, List.getElem_cons_zero, List.setIfInBounds_toArray, List.set_cons_zero, List.set_cons_succ])
  refine wpAnyH_take (i := 2) (v := ?_) rfl (by kernel_rfl) (by kernel_rfl) (by kernel_rfl) (fun _ _ _ h => h) (Or.inl ⟨by kernel_rfl, ?_⟩) hS ?_
  rotate_left
  · intro w hSw; (try dsimp only at hSw); go_simp; try (with_reducible rfl)
  (try simp only [Act.put, List.getElem_toArray, List.getElem_cons_succ, List.getElem_cons_zero, List.setIfInBounds_toArray, List.set_cons_zero, List.set_cons_succ])
  refine wpAnyH_take (i := 3) (v := ?_) rfl (by kernel_rfl) (by kernel_rfl) (by kernel_rfl) (fun _ _ _ h => h) (Or.inl ⟨by kernel_rfl, ?_⟩) hS ?_
  rotate_left
  · intro w hSw; (try dsimp only at hSw); go_simp; try (with_reducible rfl)
  (try simp only [Act.put, List.getElem_toArray, List.getElem_cons_succ, List.getElem_cons_zero, List.setIfInBounds_toArray, List.set_cons_zero, List.set_cons_succ])
  refine wpAnyH_take (i := 5) (v := ?_) rfl (by kernel_rfl) (by kernel_rfl) (by kernel_rfl) (fun _ _ _ h => h) (Or.inl ⟨by kernel_rfl, ?_⟩) hS ?_
  rotate_left
  · intro w hSw; (try dsimp only at hSw); go_simp; try (with_reducible rfl)
  (try simp only [Act.put, List.getElem_toArray, List.getElem_cons_succ, List.getElem_cons_zero, List.setIfInBounds_toArray, List.set_cons_zero, List.set_cons_succ])
  refine wpAnyH_ready (rs := [4]) (by kernel_rfl) (by simp) ?_
  refine AllReadyH.cons rfl (fun HH0 HH1 => ?_) AllReadyH.nil
  go_simp
  refine (PC.out _ Yd.out.1.2.2.2.1 (HX.out.step Yd.out.1.2.2.2.2.2)).mono ?_
  rintro e w5 ⟨g5, rfl, h1, h2, h3⟩
  have Y5 : Hid (FifoAt w5 fb g5 K2 ∧ Box 28 w5 q (fifoC K2 (.slice v2 k2 cc2)) ∧ RL w5 (.slice v2 k2 cc2) d2 K2.l ∧ Two fb g w w5 ∧ Box 28 w5 (w.heap.size + 2) zeroC ∧ (g5 = g ∨ w.heap.size + 2 < g5) ∧ w.heap.size + 2 < d2 ∧ w.heap.size + 2 < q ∧ Off d2 fb g5 K2.l ∧ w5.cell? ⟨w.heap.size + 1, 2, none⟩ = some (.slice a l c)) := by
    obtain ⟨⟨x1, x2, x3, x4, x5, x6⟩, y2, y3, y4, y5⟩ := Yd.out
    have hl4 : w.heap.size + 2 < W4.heap.size := x3.lt
    refine ⟨h1, h2.box y2 (by omega) (by omega), y3.two h2 (by omega) (by omega), (Two.of_below x6).trans h2, h2.box x3 (by omega) (by omega), by omega, y4, y5, ?_, (h2.box x2 (by omega) (by omega)).cell 2 _ rfl⟩
    by_cases e : K2.l = []
    · exact .inl e
    · have := y3.old e
      exact .inr ⟨by omega, by omega⟩
  clear h1 h2 h3 Yd
  refine HH1.out _ _ ⟨Y5.out.2.1, Y5.out.2.2.2.2.2.2.2.2.2⟩ (fun hS5 => ?_)
  clear HH1 HH0 hS
  (try simp only [Act.put, List.getElem_toArray, List.getElem_cons_succ, List.getElem_cons_zero, List.setIfInBounds_toArray, List.set_cons_zero, List.set_cons_succ])
  refine wpAnyH_take (i := 6) (v := ?_) rfl (by kernel_rfl) (by kernel_rfl) (by kernel_rfl) (fun _ _ _ h => h) (Or.inl ⟨by kernel_rfl, ?_⟩) hS5 ?_
  rotate_left
  · intro w hSw; (try dsimp only at hSw); go_simp; try (with_reducible rfl)
  (try simp only [Act.put, List.getElem_toArray, List.getElem_cons_succ, List.getElem_cons_zero, List.setIfInBounds_toArray, List.set_cons_zero, List.set_cons_succ])
  refine wpAnyH_ready (rs := [7]) (by kernel_rfl) (by simp) ?_
  refine AllReadyH.cons rfl (fun HH0 HH1 => ?_) AllReadyH.nil
  rw [if_pos (by kernel_rfl)]
  refine wp_store28 _ _ rfl (w.heap.size + 2) K2 _ _ _ zeroC rfl rfl Y5.out.2.2.2.2.1 rfl ?_
  intro W9 B9 U9
  have F : Hid (Box 28 W9 (w.heap.size + 2) (fifoC K2 (.slice v2 k2 cc2)) ∧ FifoAt W9 fb g5 K2 ∧ RL W9 (.slice v2 k2 cc2) d2 K2.l ∧ Two fb g w W9) := ⟨B9, do_end Y5.out.1 Y5.out.2.2.1 Y5.out.2.2.2.1 hlt.1 hlt.2 Y5.out.2.2.2.2.2.1 (.inr (by have := Y5.out.2.2.2.2.2.2.1; omega)) U9⟩
  have hN9 : Box 28 W9 q (fifoC K2 (.slice v2 k2 cc2)) ∧ W9.cell? ⟨w.heap.size + 1, 2, none⟩ = some (.slice a l c) := ⟨U9.box Y5.out.2.1 (by have := Y5.out.2.2.2.2.2.2.2.1; omega), U9.cell Y5.out.2.2.2.2.2.2.2.2.2 (by simp)⟩
  clear B9 U9
  refine HH1.out _ _ hN9 (fun hS9 => ?_)
  clear HH1 HH0 hS5 hN9
  (try simp only [Act.put, List.getElem_toArray, List.getElem_cons_succ, List.getElem_cons_zero, List.setIfInBounds_toArray, List.set_cons_zero, List.set_cons_succ])
  refine wpAnyH_take (i := 8) (v := ?_) rfl (by kernel_rfl) (by kernel_rfl) (by kernel_rfl) (fun _ _ _ h => h) (Or.inl ⟨by kernel_rfl, ?_⟩) hS9 ?_
  rotate_left
  · intro w hSw; (try dsimp only at hSw); go_simp; try (with_reducible rfl)
  (try simp only [Act.put, List.getElem_toArray, List.getElem_cons_succ, List.getElem_cons_zero, List.setIfInBounds_toArray, List.set_cons_zero, List.set_cons_succ])
  refine wpAnyH_done (by kernel_rfl) ?_ _
  clear hS9
  go_wp2_with fail
  refine bodyPost_ret (v := .tuple #[.agg (fifoC K2 (.slice v2 k2 cc2)), .bool true]) (results2 (p := 6) (t := 7) rfl _ _ (w.heap.size + 2) K2 _ _ _ rfl F.out.1) rfl ?_
  unfold DoP
  rw [HK2.out]
  have y := Y5.out
  exact ⟨v2, cc2, d2, g5, rfl, F.out.2.1, F.out.2.2.1, F.out.2.2.2, by omega, .inr (by omega), y.2.2.2.2.2.2.2.2.1⟩
set_option maxHeartbeats 4000000 in
theorem do_take {w : World} {K : Fi} {fb g d : Nat} {va : Option Addr} {vc : Nat} (hf : FifoAt w fb g K) (hr : RL w (.slice va K.l.length vc) d K.l) (ho : Off d fb g K.l) (n : Int) (a : Option Addr) (l c : Nat) : Calls Try.prog 20 #[.pointer (some ⟨fb, 0, none⟩), .agg (fifoC K (.slice va K.l.length vc)), .agg #[.int .i64 1, .int .i64 n, .slice a l c]] w fun e w' => DoP w w' fb g d (takeK K n) e := by
  have hK := hf.ok
  have DC0 : ∀ V, RL V (.slice va K.l.length vc) d K.l → Calls Try.prog 26 #[.agg (fifoC K (.slice va K.l.length vc)), .int .i64 n] V fun e w' => ∃ v2 c2 v' d', e = .returned (.tuple #[.agg (fifoC (takeK K n) (.slice v2 (takeK K n).l.length c2)), v']) ∧ RL w' v' d' (tookL K n) ∧ RL w' (.slice v2 (takeK K n).l.length c2) d (takeK K n).l ∧ V.heap.size ≤ d' ∧ Below V.heap.size V w' := fun V h1 => dtake_any hK h1 n
  have PC0 : ∀ V, FifoAt V fb g K → Calls Try.prog 13 #[.pointer (some ⟨fb, 0, none⟩), .int .i64 n] V fun e w' => ∃ v d' g', e = .returned v ∧ RL w' v d' (tookL K n) ∧ FifoAt w' fb g' (takeK K n) ∧ Upon fb V w' ∧ (g' = g ∨ V.heap.size ≤ g') := fun V h1 => take_any h1 n
  have hle := hK.len
  have hrm := hK.rm.2
  have hkl : tookN K n ≤ K.l.length := Nat.min_le_right _ _
  have hlt2 : (tookL K n).length ≤ 1000000 := by rw [tookL_length]; omega
  have hnl : (takeK K n).l ≠ [] → K.l ≠ [] := by
    intro h1 h2
    apply h1
    show K.l.drop _ = []
    rw [h2, List.drop_nil]
  clear hK hle hrm hkl
  generalize takeK K n = K2 at *
  generalize tookL K n = L2 at *
  obtain ⟨k2, hk2⟩ : ∃ k2, K2.l.length = k2 := ⟨_, rfl⟩
  have HK2 : Hid (K2.l.length = k2 ∧ (K2.l ≠ [] → K.l ≠ []) ∧ L2.length ≤ 1000000) := ⟨hk2, hnl, hlt2⟩
  rw [hk2] at DC0
  clear hk2 hnl hlt2
  obtain ⟨k, hk⟩ : ∃ k, K.l.length = k := ⟨_, rfl⟩
  have dlt : K.l = [] ∨ d < w.heap.size := by
    by_cases q : K.l = []
    · exact .inl q
    · exact .inr (hr.old q)
  have hlt := hf.lt
  rw [hk] at hr DC0
  rw [hk]
  have H : Hid (FifoAt w fb g K ∧ RL w (.slice va k vc) d K.l ∧ Off d fb g K.l ∧ (K.l = [] ∨ d < w.heap.size) ∧ K.l.length = k) := ⟨hf, hr, ho, dlt, hk⟩
  clear hf hr ho dlt hk
  have DC : Hid (∀ V, RL V (.slice va k vc) d K.l → Calls Try.prog 26 #[.agg (fifoC K (.slice va k vc)), .int .i64 n] V fun e w' => ∃ v2 c2 v' d', e = .returned (.tuple #[.agg (fifoC K2 (.slice v2 k2 c2)), v']) ∧ RL w' v' d' L2 ∧ RL w' (.slice v2 k2 c2) d K2.l ∧ V.heap.size ≤ d' ∧ Below V.heap.size V w') := DC0
  have PC : Hid (∀ V, FifoAt V fb g K → Calls Try.prog 13 #[.pointer (some ⟨fb, 0, none⟩), .int .i64 n] V fun e w' => ∃ v d' g', e = .returned v ∧ RL w' v d' L2 ∧ FifoAt w' fb g' K2 ∧ Upon fb V w' ∧ (g' = g ∨ V.heap.size ≤ g')) := PC0
  clear DC0 PC0
  go_enter Try.func20, Try.ntmps20
  go_upto_region 0 with fail
  refine wp_region_list ?_
  refine wpList_box_agg 28 (fifoC K (.slice va k vc)) _ rfl rfl rfl ?_
  refine wpList_box_agg 45 #[.int .i64 1, .int .i64 n, .slice a l c] _ rfl rfl rfl ?_
  refine wpList_alloc_zero 28 zeroC 4 zinfo28 rfl rfl ?_
  rw [show ((w.alloc (.cells (fifoC K (.slice va k vc)) 28)).alloc (.cells #[.int .i64 1, .int .i64 n, .slice a l c] 45)).heap.size = w.heap.size + 2 from by simp, show (w.alloc (.cells (fifoC K (.slice va k vc)) 28)).heap.size = w.heap.size + 1 from by simp]
  have X0 : Hid (Dz w (((w.alloc (.cells (fifoC K (.slice va k vc)) 28)).alloc (.cells #[.int .i64 1, .int .i64 n, .slice a l c] 45)).alloc (.cells zeroC 28)) fb g d K (.slice va k vc) #[.int .i64 1, .int .i64 n, .slice a l c] zeroC) := Dz.begin w fb g d K _ _ H.out.1 H.out.2.1
  generalize ((w.alloc (.cells (fifoC K (.slice va k vc)) 28)).alloc (.cells #[.int .i64 1, .int .i64 n, .slice a l c] 45)).alloc (.cells zeroC 28) = W at *
  have c0 := X0.out.2.1.cell 0 (.int .i64 1) rfl
  have c1 := X0.out.2.1.cell 1 (.int .i64 n) rfl
  have c2 := X0.out.2.1.cell 2 (.slice a l c) rfl
  go_upto_region 6 with fail
  refine wp_region_list ?_
  refine wpList_load28 rfl _ rfl w.heap.size K _ _ _ rfl X0.out.1 ?_
  (refine wpList_step (fun KK hKK => ?_); go_simp; refine hKK _ _ ?_; clear hKK KK)
  (refine wpList_step (fun KK hKK => ?_); go_simp; refine hKK _ _ ?_; clear hKK KK)
  refine wpList_step (fun KK hKK => ?_)
  go_simp
  refine (DC.out _ X0.out.2.2.2.2.1).mono ?_
  rintro e w2 ⟨v2, cc2, v3, d3, rfl, h1, h2, h3, h4⟩
  have X2 : Hid (Dz w w2 fb g d K (.slice va k vc) #[.int .i64 1, .int .i64 n, .slice a l c] zeroC ∧ RL w2 v3 d3 L2 ∧ RL w2 (.slice v2 k2 cc2) d K2.l ∧ (L2 = [] ∨ (d3 ≠ fb))) := ⟨X0.out.step h4, h1, h2, .inr (by have := X0.out.lt; omega)⟩
  clear h1 h2 h3 h4 X0 c0 c1 c2
  obtain ⟨a3, cp3, hv⟩ := X2.out.2.1.form
  generalize L2.length = k3 at hv
  subst hv
  refine hKK _ _ ?_
  clear hKK KK
  (refine wpList_step (fun KK hKK => ?_); go_simp; refine hKK _ _ ?_; clear hKK KK)
  refine wpList_extract_at rfl _ _ _ _ rfl rfl rfl ?_
  refine wpList_extract_at rfl _ _ _ _ rfl rfl rfl ?_
  refine wpList_alloc_zero 28 zeroC 4 zinfo28 rfl rfl ?_
  refine wpList_store28 rfl _ _ rfl w2.heap.size K2 _ _ _ zeroC rfl rfl (Box.new 28 w2 _) rfl ?_
  intro W3 B3 U3
  have Y3 : Hid (Dz w W3 fb g d K (.slice va k vc) #[.int .i64 1, .int .i64 n, .slice a l c] zeroC ∧ Box 28 W3 w2.heap.size (fifoC K2 (.slice v2 k2 cc2)) ∧ RL W3 (.slice a3 k3 cp3) d3 L2 ∧ RL W3 (.slice v2 k2 cc2) d K2.l ∧ (L2 = [] ∨ (d3 ≠ fb)) ∧ w.heap.size + 2 < w2.heap.size) := by
    have := Dz.made (c := zeroC) X2.out.1 U3
    exact ⟨this.1, B3, X2.out.2.1.step this.2, X2.out.2.2.1.step this.2, X2.out.2.2.2, X2.out.1.lt⟩
  clear B3 U3 X2
  generalize w2.heap.size = q at *
  go_upto_region 7 with fail
  have Yd : Hid (Dz w W3.drew fb g d K (.slice va k vc) #[.int .i64 1, .int .i64 n, .slice a l c] zeroC ∧ Box 28 W3.drew q (fifoC K2 (.slice v2 k2 cc2)) ∧ RL W3.drew (.slice a3 k3 cp3) d3 L2 ∧ RL W3.drew (.slice v2 k2 cc2) d K2.l ∧ (L2 = [] ∨ (d3 ≠ fb)) ∧ w.heap.size + 2 < q) := ⟨Y3.out.1.step (Below.drew (Below.refl _ _)), Y3.out.2.1.drew, Y3.out.2.2.1.step (Below.drew (Below.refl _ _)), Y3.out.2.2.2.1.step (Below.drew (Below.refl _ _)), Y3.out.2.2.2.2⟩
  refine wp_region_held_drew (S := fun V => Box 28 V q (fifoC K2 (.slice v2 k2 cc2)) ∧ V.cell? ⟨w.heap.size + 1, 1, none⟩ = some (.int .i64 n)) (by kernel_rfl) ⟨Yd.out.2.1, Yd.out.1.2.1.cell 1 _ rfl⟩ ?_
  intro hS
  clear Y3
  generalize W3.drew = W4 at *
  refine wpAnyH_take (i := 0) (v := .agg (fifoC K2 (.slice v2 k2 cc2))) rfl (by kernel_rfl) (by kernel_rfl) (by kernel_rfl) (fun _ _ _ h => h) (Or.inl ⟨by kernel_rfl, fun V hV => yield28 hV.1 _ rfl rfl⟩) hS ?_
  (try simp only [Act.put, List.getElem_toArray, List.getElem_cons_succ, List.getElem_cons_zero, List.setIfInBounds_toArray, List.set_cons_zero, List.set_cons_succ])
  refine wpAnyH_take (i := 1) (v := ?_) rfl (by kernel_rfl) (by kernel_rfl) (by kernel_rfl) (fun _ _ _ h => h) (Or.inl ⟨by kernel_rfl, ?_⟩) hS ?_
  rotate_left
  · intro w hSw; (try dsimp only at hSw); go_simp; try (with_reducible rfl)
  (try simp only [Act.put, List.getElem_toArray, List.getElem_cons_succ, List.getElem_cons_zero, List.setIfInBounds_toArray, List.set_cons_zero, List.set_cons_succ])
  refine wpAnyH_take (i := 2) (v := ?_) rfl (by kernel_rfl) (by kernel_rfl) (by kernel_rfl) (fun _ _ _ h => h) (Or.inl ⟨by kernel_rfl, ?_⟩) hS ?_
  rotate_left
  · intro w hSw; (try dsimp only at hSw); go_simp; try (with_reducible rfl)
  (try simp only [Act.put, List.getElem_toArray, List.getElem_cons_succ, List.getElem_cons_zero, List.setIfInBounds_toArray, List.set_cons_zero, List.set_cons_succ])
  refine wpAnyH_take (i := 3) (v := ?_) rfl (by kernel_rfl) (by kernel_rfl) (by kernel_rfl) (fun _ _ _ h => h) (Or.inl ⟨by kernel_rfl, ?_⟩) hS ?_
  rotate_left
  · intro w hSw; (try dsimp only at hSw); go_simp; try (with_reducible rfl)
  (try simp only [Act.put, List.getElem_toArray, List.getElem_cons_succ, List.getElem_cons_zero, List.setIfInBounds_toArray, List.set_cons_zero, List.set_cons_succ])
  refine wpAnyH_take (i := 5) (v := ?_) rfl (by kernel_rfl) (by kernel_rfl) (by kernel_rfl) (fun _ _ _ h => h) (Or.inl ⟨by kernel_rfl, ?_⟩) hS ?_
  rotate_left
  · intro w hSw; (try dsimp only at hSw); go_simp; try (with_reducible rfl)
  (try simp only [Act.put, List.getElem_toArray, List.getElem_cons_succ, List.getElem_cons_zero, List.setIfInBounds_toArray, List.set_cons_zero, List.set_cons_succ])
  refine wpAnyH_ready (rs := [4]) (by kernel_rfl) (by simp) ?_
  refine AllReadyH.cons rfl (fun HH0 HH1 => ?_) AllReadyH.nil
  go_simp
  refine (PC.out _ Yd.out.1.2.2.2.1).mono ?_
  rintro e w5 ⟨v6, d6, g5, rfl, h0, h1, h2, h3⟩
  obtain ⟨a6, c6, hv⟩ := h0.form
  generalize L2.length = k6 at hv
  subst hv
  have Y5 : Hid (FifoAt w5 fb g5 K2 ∧ Box 28 w5 q (fifoC K2 (.slice v2 k2 cc2)) ∧ RL w5 (.slice v2 k2 cc2) d K2.l ∧ Two fb g w w5 ∧ Box 28 w5 (w.heap.size + 2) zeroC ∧ (g5 = g ∨ w.heap.size + 2 < g5) ∧ (K2.l = [] ∨ d < w.heap.size) ∧ w.heap.size + 2 < q ∧ Off d fb g5 K2.l ∧ w5.cell? ⟨w.heap.size + 1, 1, none⟩ = some (.int .i64 n)) ∧ Hid (RL w5 (.slice a6 k6 c6) d6 L2 ∧ RL w5 (.slice a3 k3 cp3) d3 L2) := by
    obtain ⟨⟨x1, x2, x3, x4, x5, x6⟩, y2, y3, y4, y5, y6⟩ := Yd.out
    have hl4 : w.heap.size + 2 < W4.heap.size := x3.lt
    have hoff : Off d fb g K2.l := by
      by_cases e : K2.l = []
      · exact .inl e
      · exact .inr (H.out.2.2.1.resolve_left (HK2.out.2.1 e))
    have hdl : K2.l = [] ∨ d < w.heap.size := by
      by_cases e : K2.l = []
      · exact .inl e
      · exact .inr (H.out.2.2.2.1.resolve_left (HK2.out.2.1 e))
    refine ⟨⟨h1, h2.box y2 (by omega), y4.two_off (Two.of_upon h2) hoff, (Two.of_below x6).trans (Two.of_upon h2), h2.box x3 (by omega), by omega, hdl, y6, ?_, (h2.box x2 (by omega)).cell 1 _ rfl⟩, ⟨h0, y3.off h2 y5⟩⟩
    rcases hoff with e | e
    · exact .inl e
    · rcases hdl with e2 | e2
      · exact .inl e2
      · exact .inr ⟨e.1, by omega⟩
  clear h0 h1 h2 h3 Yd
  obtain ⟨Y5, Z5⟩ := Y5
  refine HH1.out _ _ ⟨Y5.out.2.1, Y5.out.2.2.2.2.2.2.2.2.2⟩ (fun hS5 => ?_)
  clear HH1 HH0 hS
  (try simp only [Act.put, List.getElem_toArray, List.getElem_cons_succ, List.getElem_cons_zero, List.setIfInBounds_toArray, List.set_cons_zero, List.set_cons_succ])
  refine wpAnyH_ready (rs := [6]) (by kernel_rfl) (by simp) ?_
  refine AllReadyH.cons rfl (fun HH0 HH1 => ?_) AllReadyH.nil
  go_simp
  refine (bytes_any Z5.out.1 Z5.out.2 HK2.out.2.2).mono ?_
  rintro e w6 ⟨rfl, hb6⟩
  rw [decide_eq_true (rfl : L2 = L2)]
  have Y6 : Hid (FifoAt w6 fb g5 K2 ∧ Box 28 w6 q (fifoC K2 (.slice v2 k2 cc2)) ∧ RL w6 (.slice v2 k2 cc2) d K2.l ∧ Two fb g w w6 ∧ Box 28 w6 (w.heap.size + 2) zeroC ∧ (g5 = g ∨ w.heap.size + 2 < g5) ∧ (K2.l = [] ∨ d < w.heap.size) ∧ w.heap.size + 2 < q ∧ Off d fb g5 K2.l ∧ w6.cell? ⟨w.heap.size + 1, 1, none⟩ = some (.int .i64 n)) := by
    obtain ⟨y1, y2, y3, y4, y5, y6, y7, y8, y9, y10⟩ := Y5.out
    exact ⟨y1.step hb6, y2.step hb6, y3.step hb6, y4.trans (Two.of_below hb6), y5.step hb6, y6, y7, y8, y9, (hb6.cell (block_lt_of_cell y10)).trans y10⟩
  clear hb6 Y5 Z5
  refine HH1.out _ _ ⟨Y6.out.2.1, Y6.out.2.2.2.2.2.2.2.2.2⟩ (fun hS6 => ?_)
  clear HH1 HH0 hS5
  have hS5 := hS6
  clear hS6
  (try simp only [Act.put, List.getElem_toArray, List.getElem_cons_succ, List.getElem_cons_zero, List.setIfInBounds_toArray, List.set_cons_zero, List.set_cons_succ])
  refine wpAnyH_ready (rs := [7]) (by kernel_rfl) (by simp) ?_
  refine AllReadyH.cons rfl (fun HH0 HH1 => ?_) AllReadyH.nil
  rw [if_pos (by kernel_rfl)]
  refine wp_store28 _ _ rfl (w.heap.size + 2) K2 _ _ _ zeroC rfl rfl Y6.out.2.2.2.2.1 rfl ?_
  intro W9 B9 U9
  have F : Hid (Box 28 W9 (w.heap.size + 2) (fifoC K2 (.slice v2 k2 cc2)) ∧ FifoAt W9 fb g5 K2 ∧ RL W9 (.slice v2 k2 cc2) d K2.l ∧ Two fb g w W9) := ⟨B9, do_end Y6.out.1 Y6.out.2.2.1 Y6.out.2.2.2.1 hlt.1 hlt.2 Y6.out.2.2.2.2.2.1 (Y6.out.2.2.2.2.2.2.1.imp id (by omega)) U9⟩
  have hN9 : Box 28 W9 q (fifoC K2 (.slice v2 k2 cc2)) ∧ W9.cell? ⟨w.heap.size + 1, 1, none⟩ = some (.int .i64 n) := ⟨U9.box Y6.out.2.1 (by have := Y6.out.2.2.2.2.2.2.2.1; omega), U9.cell Y6.out.2.2.2.2.2.2.2.2.2 (by simp)⟩
  clear B9 U9
  refine HH1.out _ _ hN9 (fun hS9 => ?_)
  clear HH1 HH0 hS5 hN9
  (try simp only [Act.put, List.getElem_toArray, List.getElem_cons_succ, List.getElem_cons_zero, List.setIfInBounds_toArray, List.set_cons_zero, List.set_cons_succ])
  refine wpAnyH_take (i := 8) (v := ?_) rfl (by kernel_rfl) (by kernel_rfl) (by kernel_rfl) (fun _ _ _ h => h) (Or.inl ⟨by kernel_rfl, ?_⟩) hS9 ?_
  rotate_left
  · intro w hSw; (try dsimp only at hSw); go_simp; try (with_reducible rfl)
  (try simp only [Act.put, List.getElem_toArray, List.getElem_cons_succ, List.getElem_cons_zero, List.setIfInBounds_toArray, List.set_cons_zero, List.set_cons_succ])
  refine wpAnyH_done (by kernel_rfl) ?_ _
  clear hS9
  go_wp2_with fail
  refine bodyPost_ret (v := .tuple #[.agg (fifoC K2 (.slice v2 k2 cc2)), .bool true]) (results2 (p := 6) (t := 7) rfl _ _ (w.heap.size + 2) K2 _ _ _ rfl F.out.1) rfl ?_
  unfold DoP
  rw [HK2.out.1]
  have y := Y6.out
  exact ⟨v2, cc2, d, g5, rfl, F.out.2.1, F.out.2.2.1, F.out.2.2.2, by omega, .inl rfl, y.2.2.2.2.2.2.2.2.1⟩
set_option maxHeartbeats 4000000 in
theorem do_peek {w : World} {K : Fi} {fb g d : Nat} {va : Option Addr} {vc : Nat} (hf : FifoAt w fb g K) (hr : RL w (.slice va K.l.length vc) d K.l) (ho : Off d fb g K.l) (n : Int) (a : Option Addr) (l c : Nat) : Calls Try.prog 20 #[.pointer (some ⟨fb, 0, none⟩), .agg (fifoC K (.slice va K.l.length vc)), .agg #[.int .i64 2, .int .i64 n, .slice a l c]] w fun e w' => DoP w w' fb g d K e := by
  have hK := hf.ok
  have DC0 : ∀ V, RL V (.slice va K.l.length vc) d K.l → Calls Try.prog 27 #[.agg (fifoC K (.slice va K.l.length vc)), .int .i64 n] V fun e w' => ∃ v' d', e = .returned v' ∧ RL w' v' d' (tookL K n) ∧ V.heap.size ≤ d' ∧ Below V.heap.size V w' := fun V h1 => dpeek_any hK h1 n
  have PC0 : ∀ V, FifoAt V fb g K → Calls Try.prog 19 #[.pointer (some ⟨fb, 0, none⟩), .int .i64 n] V fun e w' => ∃ v g', e = .returned v ∧ WA w' v g' (tookL K n) ∧ Below V.heap.size V w' ∧ (g' = 0 ∨ (V.heap.size ≤ g' ∧ g' < w'.heap.size)) := fun V h1 => peek_any h1 n 0
  have hle := hK.len
  have hrm := hK.rm.2
  have hkl : tookN K n ≤ K.l.length := Nat.min_le_right _ _
  have hlt2 : (tookL K n).length ≤ 1000000 := by rw [tookL_length]; omega
  clear hK hle hrm hkl
  generalize tookL K n = L2 at *
  have HK2 : Hid (L2.length ≤ 1000000) := hlt2
  clear hlt2
  obtain ⟨k, hk⟩ : ∃ k, K.l.length = k := ⟨_, rfl⟩
  have dlt : K.l = [] ∨ d < w.heap.size := by
    by_cases q : K.l = []
    · exact .inl q
    · exact .inr (hr.old q)
  have hlt := hf.lt
  rw [hk] at hr DC0
  rw [hk]
  have H : Hid (FifoAt w fb g K ∧ RL w (.slice va k vc) d K.l ∧ Off d fb g K.l ∧ (K.l = [] ∨ d < w.heap.size) ∧ K.l.length = k) := ⟨hf, hr, ho, dlt, hk⟩
  clear hf hr ho dlt hk
  have DC : Hid (∀ V, RL V (.slice va k vc) d K.l → Calls Try.prog 27 #[.agg (fifoC K (.slice va k vc)), .int .i64 n] V fun e w' => ∃ v' d', e = .returned v' ∧ RL w' v' d' L2 ∧ V.heap.size ≤ d' ∧ Below V.heap.size V w') := DC0
  have PC : Hid (∀ V, FifoAt V fb g K → Calls Try.prog 19 #[.pointer (some ⟨fb, 0, none⟩), .int .i64 n] V fun e w' => ∃ v g', e = .returned v ∧ WA w' v g' L2 ∧ Below V.heap.size V w' ∧ (g' = 0 ∨ (V.heap.size ≤ g' ∧ g' < w'.heap.size))) := PC0
  clear DC0 PC0
  go_enter Try.func20, Try.ntmps20
  go_upto_region 0 with fail
  refine wp_region_list ?_
  refine wpList_box_agg 28 (fifoC K (.slice va k vc)) _ rfl rfl rfl ?_
  refine wpList_box_agg 45 #[.int .i64 2, .int .i64 n, .slice a l c] _ rfl rfl rfl ?_
  refine wpList_alloc_zero 28 zeroC 4 zinfo28 rfl rfl ?_
  rw [show ((w.alloc (.cells (fifoC K (.slice va k vc)) 28)).alloc (.cells #[.int .i64 2, .int .i64 n, .slice a l c] 45)).heap.size = w.heap.size + 2 from by simp, show (w.alloc (.cells (fifoC K (.slice va k vc)) 28)).heap.size = w.heap.size + 1 from by simp]
  have X0 : Hid (Dz w (((w.alloc (.cells (fifoC K (.slice va k vc)) 28)).alloc (.cells #[.int .i64 2, .int .i64 n, .slice a l c] 45)).alloc (.cells zeroC 28)) fb g d K (.slice va k vc) #[.int .i64 2, .int .i64 n, .slice a l c] zeroC) := Dz.begin w fb g d K _ _ H.out.1 H.out.2.1
  generalize ((w.alloc (.cells (fifoC K (.slice va k vc)) 28)).alloc (.cells #[.int .i64 2, .int .i64 n, .slice a l c] 45)).alloc (.cells zeroC 28) = W at *
  have c0 := X0.out.2.1.cell 0 (.int .i64 2) rfl
  have c1 := X0.out.2.1.cell 1 (.int .i64 n) rfl
  have c2 := X0.out.2.1.cell 2 (.slice a l c) rfl
  go_upto_region 9 with fail
  have Yd : Hid (Dz w W.drew fb g d K (.slice va k vc) #[.int .i64 2, .int .i64 n, .slice a l c] zeroC ∧ True) := ⟨X0.out.step (Below.drew (Below.refl _ _)), trivial⟩
  refine wp_region_held_drew (S := fun V => Box 28 V w.heap.size (fifoC K (.slice va k vc)) ∧ V.cell? ⟨w.heap.size + 1, 1, none⟩ = some (.int .i64 n)) (by kernel_rfl) ⟨Yd.out.1.1, Yd.out.1.2.1.cell 1 _ rfl⟩ ?_
  intro hS
  clear X0 c0 c1 c2
  generalize W.drew = W4 at *
  refine wpAnyH_take (i := 0) (v := .agg (fifoC K (.slice va k vc))) rfl (by kernel_rfl) (by kernel_rfl) (by kernel_rfl) (fun _ _ _ h => h) (Or.inl ⟨by kernel_rfl, fun V hV => yield28 hV.1 _ rfl rfl⟩) hS ?_
  (try simp only [Act.put, List.getElem_toArray, List.getElem_cons_succ, List.getElem_cons_zero, List.setIfInBounds_toArray, List.set_cons_zero, List.set_cons_succ])
  refine wpAnyH_take (i := 1) (v := ?_) rfl (by kernel_rfl) (by kernel_rfl) (by kernel_rfl) (fun _ _ _ h => h) (Or.inl ⟨by kernel_rfl, ?_⟩) hS ?_
  rotate_left
  · intro w hSw; (try dsimp only at hSw); go_simp; try (with_reducible rfl)
  (try simp only [Act.put, List.getElem_toArray, List.getElem_cons_succ, List.getElem_cons_zero, List.setIfInBounds_toArray, List.set_cons_zero, List.set_cons_succ])
  refine wpAnyH_take (i := 2) (v := ?_) rfl (by kernel_rfl) (by kernel_rfl) (by kernel_rfl) (fun _ _ _ h => h) (Or.inl ⟨by kernel_rfl, ?_⟩) hS ?_
  rotate_left
  · intro w hSw; (try dsimp only at hSw); go_simp; try (with_reducible rfl)
  (try simp only [Act.put, List.getElem_toArray, List.getElem_cons_succ, List.getElem_cons_zero, List.setIfInBounds_toArray, List.set_cons_zero, List.set_cons_succ])
  refine wpAnyH_take (i := 3) (v := ?_) rfl (by kernel_rfl) (by kernel_rfl) (by kernel_rfl) (fun _ _ _ h => h) (Or.inl ⟨by kernel_rfl, ?_⟩) hS ?_
  rotate_left
  · intro w hSw; (try dsimp only at hSw); go_simp; try (with_reducible rfl)
  (try simp only [Act.put, List.getElem_toArray, List.getElem_cons_succ, List.getElem_cons_zero, List.setIfInBounds_toArray, List.set_cons_zero, List.set_cons_succ])
  refine wpAnyH_take (i := 5) (v := .agg (fifoC K (.slice va k vc))) rfl (by kernel_rfl) (by kernel_rfl) (by kernel_rfl) (fun _ _ _ h => h) (Or.inl ⟨by kernel_rfl, fun V hV => yield28 hV.1 _ rfl rfl⟩) hS ?_
  (try simp only [Act.put, List.getElem_toArray, List.getElem_cons_succ, List.getElem_cons_zero, List.setIfInBounds_toArray, List.set_cons_zero, List.set_cons_succ])
  refine wpAnyH_take (i := 6) (v := ?_) rfl (by kernel_rfl) (by kernel_rfl) (by kernel_rfl) (fun _ _ _ h => h) (Or.inl ⟨by kernel_rfl, ?_⟩) hS ?_
  rotate_left
  · intro w hSw; (try dsimp only at hSw); go_simp; try (with_reducible rfl)
  (try simp only [Act.put, List.getElem_toArray, List.getElem_cons_succ, List.getElem_cons_zero, List.setIfInBounds_toArray, List.set_cons_zero, List.set_cons_succ])
  refine wpAnyH_take (i := 7) (v := ?_) rfl (by kernel_rfl) (by kernel_rfl) (by kernel_rfl) (fun _ _ _ h => h) (Or.inl ⟨by kernel_rfl, ?_⟩) hS ?_
  rotate_left
  · intro w hSw; (try dsimp only at hSw); go_simp; try (with_reducible rfl)
  (try simp only [Act.put, List.getElem_toArray, List.getElem_cons_succ, List.getElem_cons_zero, List.setIfInBounds_toArray, List.set_cons_zero, List.set_cons_succ])
  refine wpAnyH_ready (rs := [4]) (by kernel_rfl) (by simp) ?_
  refine AllReadyH.cons rfl (fun HH0 HH1 => ?_) AllReadyH.nil
  go_simp
  refine (PC.out _ Yd.out.1.2.2.2.1).mono ?_
  rintro e w5 ⟨v6, d6, rfl, h0, h1, _⟩
  obtain ⟨a6, c6, hv⟩ := h0.reads.form
  generalize L2.length = k6 at hv
  subst hv
  have Y5 : Hid (Dz w w5 fb g d K (.slice va k vc) #[.int .i64 2, .int .i64 n, .slice a l c] zeroC ∧ RL w5 (.slice a6 k6 c6) d6 L2) := ⟨Yd.out.1.step h1, h0.reads⟩
  clear h0 h1 Yd
  refine HH1.out _ _ ⟨Y5.out.1.1, Y5.out.1.2.1.cell 1 _ rfl⟩ (fun hS5 => ?_)
  clear HH1 HH0 hS
  (try simp only [Act.put, List.getElem_toArray, List.getElem_cons_succ, List.getElem_cons_zero, List.setIfInBounds_toArray, List.set_cons_zero, List.set_cons_succ])
  refine wpAnyH_ready (rs := [8]) (by kernel_rfl) (by simp) ?_
  refine AllReadyH.cons rfl (fun HH0 HH1 => ?_) AllReadyH.nil
  go_simp
  refine (DC.out _ Y5.out.1.2.2.2.2.1).mono ?_
  rintro e w6 ⟨v7, d7, rfl, h0, _, h1⟩
  obtain ⟨a7, c7, hv⟩ := h0.form
  generalize L2.length = k7 at hv
  subst hv
  have Y6 : Hid (Dz w w6 fb g d K (.slice va k vc) #[.int .i64 2, .int .i64 n, .slice a l c] zeroC ∧ RL w6 (.slice a6 k6 c6) d6 L2 ∧ RL w6 (.slice a7 k7 c7) d7 L2) := ⟨Y5.out.1.step h1, Y5.out.2.step h1, h0⟩
  clear h0 h1 Y5
  refine HH1.out _ _ ⟨Y6.out.1.1, Y6.out.1.2.1.cell 1 _ rfl⟩ (fun hS6 => ?_)
  clear HH1 HH0 hS5
  (try simp only [Act.put, List.getElem_toArray, List.getElem_cons_succ, List.getElem_cons_zero, List.setIfInBounds_toArray, List.set_cons_zero, List.set_cons_succ])
  refine wpAnyH_ready (rs := [9]) (by kernel_rfl) (by simp) ?_
  refine AllReadyH.cons rfl (fun HH0 HH1 => ?_) AllReadyH.nil
  go_simp
  refine (bytes_any Y6.out.2.1 Y6.out.2.2 HK2.out).mono ?_
  rintro e w7 ⟨rfl, hb7⟩
  rw [decide_eq_true (rfl : L2 = L2)]
  have Y7 : Hid (Dz w w7 fb g d K (.slice va k vc) #[.int .i64 2, .int .i64 n, .slice a l c] zeroC ∧ True) := ⟨Y6.out.1.step hb7, trivial⟩
  clear hb7 Y6
  refine HH1.out _ _ ⟨Y7.out.1.1, Y7.out.1.2.1.cell 1 _ rfl⟩ (fun hS5 => ?_)
  clear HH1 HH0 hS6
  (try simp only [Act.put, List.getElem_toArray, List.getElem_cons_succ, List.getElem_cons_zero, List.setIfInBounds_toArray, List.set_cons_zero, List.set_cons_succ])
  refine wpAnyH_ready (rs := [10]) (by kernel_rfl) (by simp) ?_
  refine AllReadyH.cons rfl (fun HH0 HH1 => ?_) AllReadyH.nil
  rw [if_pos (by kernel_rfl)]
  refine wp_store28 _ _ rfl (w.heap.size + 2) K _ _ _ zeroC rfl rfl Y7.out.1.2.2.1 rfl ?_
  intro W9 B9 U9
  have F : Hid (Box 28 W9 (w.heap.size + 2) (fifoC K (.slice va k vc)) ∧ FifoAt W9 fb g K ∧ RL W9 (.slice va k vc) d K.l ∧ Two fb g w W9) := ⟨B9, do_end Y7.out.1.2.2.2.1 Y7.out.1.2.2.2.2.1 (Two.of_below Y7.out.1.2.2.2.2.2) hlt.1 hlt.2 (.inl rfl) (H.out.2.2.2.1.imp id (by omega)) U9⟩
  have hN9 : Box 28 W9 w.heap.size (fifoC K (.slice va k vc)) ∧ W9.cell? ⟨w.heap.size + 1, 1, none⟩ = some (.int .i64 n) := ⟨U9.box Y7.out.1.1 (by omega), U9.cell (Y7.out.1.2.1.cell 1 _ rfl) (by simp)⟩
  clear B9 U9
  refine HH1.out _ _ hN9 (fun hS9 => ?_)
  clear HH1 HH0 hS5 hN9
  (try simp only [Act.put, List.getElem_toArray, List.getElem_cons_succ, List.getElem_cons_zero, List.setIfInBounds_toArray, List.set_cons_zero, List.set_cons_succ])
  refine wpAnyH_take (i := 11) (v := ?_) rfl (by kernel_rfl) (by kernel_rfl) (by kernel_rfl) (fun _ _ _ h => h) (Or.inl ⟨by kernel_rfl, ?_⟩) hS9 ?_
  rotate_left
  · intro w hSw; (try dsimp only at hSw); go_simp; try (with_reducible rfl)
  (try simp only [Act.put, List.getElem_toArray, List.getElem_cons_succ, List.getElem_cons_zero, List.setIfInBounds_toArray, List.set_cons_zero, List.set_cons_succ])
  refine wpAnyH_done (by kernel_rfl) ?_ _
  clear hS9
  go_wp2_with fail
  refine bodyPost_ret (v := .tuple #[.agg (fifoC K (.slice va k vc)), .bool true]) (results2 (p := 6) (t := 7) rfl _ _ (w.heap.size + 2) K _ _ _ rfl F.out.1) rfl ?_
  unfold DoP
  rw [H.out.2.2.2.2]
  exact ⟨va, vc, d, g, rfl, F.out.2.1, F.out.2.2.1, F.out.2.2.2, .inl rfl, .inl rfl, H.out.2.2.1⟩
/-- ANY CALL, on both sides -/
theorem do_any {w : World} {K : Fi} {fb g d : Nat} {va : Option Addr} {vc : Nat} (hf : FifoAt w fb g K) (hr : RL w (.slice va K.l.length vc) d K.l) (ho : Off d fb g K.l) (op : OpD) (hin : op.In w) (hL : op.D.length ≤ 100000) : Calls Try.prog 20 #[.pointer (some ⟨fb, 0, none⟩), .agg (fifoC K (.slice va K.l.length vc)), .agg op.cells] w fun e w' => DoP w w' fb g d (doK K op) e := by
  obtain ⟨z, n, a, c, D, dd⟩ := op
  unfold doK OpD.cells
  by_cases h0 : z = 0
  · subst h0
    rw [if_pos rfl]
    exact do_put hf hr ho n a c dd D hin.1 hin.2 hL
  rw [if_neg h0]
  by_cases h1 : z = 1
  · subst h1
    rw [if_pos rfl]
    exact do_take hf hr ho n a _ c
  rw [if_neg h1]
  by_cases h3 : z = 3
  · subst h3
    rw [if_pos rfl]
    exact do_clear hf hr ho n a _ c
  rw [if_neg h3]
  by_cases h2 : z = 2
  · subst h2
    exact do_peek hf hr ho n a _ c
  exact do_other hf hr ho z n a _ c ⟨h0, h1, h2, h3⟩
theorem doK_ok {K : Fi} {w : World} (h : K.Ok) (op : OpD) (hin : op.In w) : (doK K op).Ok := by
  unfold doK
  split
  · exact putK_ok h _ hin.2
  · split
    · exact takeK_ok h _
    · split
      · exact clearK_ok h
      · exact h
end Go.Proofs.Ytjmgdhnjldimgaa
