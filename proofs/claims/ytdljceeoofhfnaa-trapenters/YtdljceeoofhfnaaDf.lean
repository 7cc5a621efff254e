/- The document's call Enter of layer 9: delegated, no interrupt. -/
import Derived.Test.YtdljceeoofhfnaaDk
namespace Go.Proofs.Ytdljceeoofhfnaa
open Go.RowKit Go.Maps
set_option linter.unusedVariables false
set_option linter.unusedSimpArgs false
set_option maxRecDepth 100000
set_option maxHeartbeats 16000000 in
theorem denter_true_false (m : Nat) (hm : m ≤ 3) (K : Nat → Nat) (c v pc : Nat) (hK : Ok K) (hc : c < 64) (hv : v < 18446744073709551616) (hp : pc < 18446744073709551616) (hd : delB m K c false = true) (w : World) : Calls Try.prog 14 #[.agg (docC m K), .agg (trapC c v false), .int .u64 (pc : Int)] w fun e w' => e = .returned (.tuple #[.agg (docC 1 (markS (tellS K c v false pc) m)), .int .u64 (placeN (K 12) c false : Nat)]) ∧ Below w.heap.size w w' := by
  have X0 : Hid (Tri w (((w.alloc (.cells (docC m K) 34)).alloc (.cells (trapC c v false) 27)).alloc (.cells #[.int .i64 0, .int .u64 0, .int .u64 0, .int .u64 0, .int .u64 0, .int .u64 0, .int .u64 0, .int .u64 0, .int .u64 0, .int .u64 0, .int .u64 0, .int .u64 0, .int .u64 0, .int .u64 0, .int .u64 0, .int .u64 0, .int .u64 0, .int .u64 0, .int .u64 0, .int .u64 0, .int .u64 0, .int .u64 0, .int .u64 0] 34)) m (K) c v false) := Tri.new w _ _ _ _ _
  have HKL : Hid (Ok (tellS K c v false pc)) := tellS_ok hK c v false pc hc hv hp
  have hw := wrap_c c hc
  have hwt := wrap_top
  have hw0 : IntKind.u64.wrap 0 = 0 := by rw [wrap_u64]; decide
  have HF : Hid (∀ V, Calls Try.prog 36 #[.bool false] V fun e w' => e = .returned (.int .u64 0) ∧ w' = V) := fun V => flag_any false V
  have HD : Hid (∀ V, Calls Try.prog 11 #[.agg (docC m K), .agg (trapC c v false)] V fun e w' => e = .returned (.bool true) ∧ Below V.heap.size V w') := fun V => by
    have h := ddel_any m (by omega) K c v false hK V
    rw [hd] at h
    exact h
  have HV : Hid (placeN (K 12) c false = placeN (K 12) c false ∧ K 12 < 18446744073709551616 ∧ c < 64 ∧ m ≤ 3) := ⟨rfl, hK _, hc, hm⟩
  have hlow := sub_low pc hp
  have HVL := sub_low (K 12) (hK _)
  have HVL2 := sub_low2 (K 12) (hK _)
  clear hK hc hv hp hd hm
  go_enter Try.func14, Try.ntmps14
  go_upto_region 1 with fail
  generalize (((w.alloc (.cells (docC m K) 34)).alloc (.cells (trapC c v false) 27)).alloc (.cells #[.int .i64 0, .int .u64 0, .int .u64 0, .int .u64 0, .int .u64 0, .int .u64 0, .int .u64 0, .int .u64 0, .int .u64 0, .int .u64 0, .int .u64 0, .int .u64 0, .int .u64 0, .int .u64 0, .int .u64 0, .int .u64 0, .int .u64 0, .int .u64 0, .int .u64 0, .int .u64 0, .int .u64 0, .int .u64 0, .int .u64 0] 34)) = W at *
  have X0d : Hid (Tri w W.drew m (K) c v false) := X0.out.step (below_drew1 _)
  refine wp_region_held_drew (S := fun V => V.cell? ⟨w.heap.size + 1, 0, none⟩ = some (.int .i64 (c : Int)) ∧ V.cell? ⟨w.heap.size + 1, 2, none⟩ = some (.bool false)) (by kernel_rfl) ⟨X0d.out.2.1.cell 0 _ rfl, X0d.out.2.1.cell 2 _ rfl⟩ ?_
  intro hS
  refine wpAnyH_take (i := 0) (v := ?_) rfl (by kernel_rfl) (by kernel_rfl) (by kernel_rfl) (fun _ _ _ h => h) (Or.inl ⟨by kernel_rfl, ?_⟩) hS ?_
  rotate_left
  · intro w hSw; (try dsimp only at hSw); go_simp; try (with_reducible rfl)
  (try simp only [Act.put, List.getElem_toArray, List.getElem_cons_succ, List.getElem_cons_zero, List.setIfInBounds_toArray, List.set_cons_zero, List.set_cons_succ])
  refine wpAnyH_take (i := 1) (v := ?_) rfl (by kernel_rfl) (by kernel_rfl) (by kernel_rfl) (fun _ _ _ h => h) (Or.inl ⟨by kernel_rfl, ?_⟩) hS ?_
  rotate_left
  · intro w hSw; (try dsimp only at hSw); go_simp; try (with_reducible rfl)
  (try simp only [Act.put, List.getElem_toArray, List.getElem_cons_succ, List.getElem_cons_zero, List.setIfInBounds_toArray, List.set_cons_zero, List.set_cons_succ])
  refine wpAnyH_take (i := 2) (v := ?_) rfl (by kernel_rfl) (by kernel_rfl) (by kernel_rfl) (fun _ _ _ h => h) (Or.inl ⟨by kernel_rfl, ?_⟩) hS ?_
  rotate_left
  · intro w hSw; (try dsimp only at hSw); go_simp; try (with_reducible rfl)
  (try simp only [Act.put, List.getElem_toArray, List.getElem_cons_succ, List.getElem_cons_zero, List.setIfInBounds_toArray, List.set_cons_zero, List.set_cons_succ])
  refine wpAnyH_take (i := 3) (v := ?_) rfl (by kernel_rfl) (by kernel_rfl) (by kernel_rfl) (fun _ _ _ h => h) (Or.inl ⟨by kernel_rfl, ?_⟩) hS ?_
  rotate_left
  · intro w hSw; (try dsimp only at hSw); go_simp; try (with_reducible rfl)
  (try simp only [Act.put, List.getElem_toArray, List.getElem_cons_succ, List.getElem_cons_zero, List.setIfInBounds_toArray, List.set_cons_zero, List.set_cons_succ])
  refine wpAnyH_take (i := 4) (v := ?_) rfl (by kernel_rfl) (by kernel_rfl) (by kernel_rfl) (fun _ _ _ h => h) (Or.inl ⟨by kernel_rfl, ?_⟩) hS ?_
  rotate_left
  · intro w hSw; (try dsimp only at hSw); go_simp; try (with_reducible rfl)
  (try simp only [Act.put, List.getElem_toArray, List.getElem_cons_succ, List.getElem_cons_zero, List.setIfInBounds_toArray, List.set_cons_zero, List.set_cons_succ])
  refine wpAnyH_ready (rs := [5]) (by kernel_rfl) (by simp) ?_
  refine AllReadyH.cons rfl (fun K1 hK1 => ?_) AllReadyH.nil
  go_simp
  refine (HF.out _).mono ?_
  rintro e w1 ⟨rfl, hw1⟩
  rw [hw1]
  clear hw1
  refine hK1.out _ _ hS (fun hS2 => ?_)
  clear hK1 K1 hS
  (try simp only [Act.put, List.getElem_toArray, List.getElem_cons_succ, List.getElem_cons_zero, List.setIfInBounds_toArray, List.set_cons_zero, List.set_cons_succ])
  refine wpAnyH_take (i := 6) (v := ?_) rfl (by kernel_rfl) (by kernel_rfl) (by kernel_rfl) (fun _ _ _ h => h) (Or.inl ⟨by kernel_rfl, ?_⟩) hS2 ?_
  rotate_left
  · intro w hSw; (try dsimp only at hSw); go_simp; try (with_reducible rfl)
  (try simp only [Act.put, List.getElem_toArray, List.getElem_cons_succ, List.getElem_cons_zero, List.setIfInBounds_toArray, List.set_cons_zero, List.set_cons_succ])
  refine wpAnyH_take (i := 7) (v := ?_) rfl (by kernel_rfl) (by kernel_rfl) (by kernel_rfl) (fun _ _ _ h => h) (Or.inl ⟨by kernel_rfl, ?_⟩) hS2 ?_
  rotate_left
  · intro w hSw; (try dsimp only at hSw); go_simp; try (with_reducible rfl)
  (try simp only [Act.put, List.getElem_toArray, List.getElem_cons_succ, List.getElem_cons_zero, List.setIfInBounds_toArray, List.set_cons_zero, List.set_cons_succ])
  refine wpAnyH_take (i := 8) (v := ?_) rfl (by kernel_rfl) (by kernel_rfl) (by kernel_rfl) (fun _ _ _ h => h) (Or.inl ⟨by kernel_rfl, ?_⟩) hS2 ?_
  rotate_left
  · intro w hSw; (try dsimp only at hSw); go_simp; try (with_reducible rfl)
  (try simp only [Act.put, List.getElem_toArray, List.getElem_cons_succ, List.getElem_cons_zero, List.setIfInBounds_toArray, List.set_cons_zero, List.set_cons_succ])
  refine wpAnyH_done (by kernel_rfl) ?_ _
  clear hS2
  generalize W.drew = w0 at *
  have c6 : w0.cell? ⟨w.heap.size, 7, none⟩ = some (.int .u64 (K 6 : Nat)) := X0d.out.1.cell 7 _ rfl
  go_upto_region 3 with fail
  refine wp_region_list ?_
  refine wpList_load_doc rfl _ rfl w.heap.size m K rfl X0d.out.1 ?_
  refine wpList_load_trap rfl _ rfl _ c v false rfl X0d.out.2.1 ?_
  refine wpList_step (fun KK hKK => ?_)
  go_simp
  refine (HD.out _).mono ?_
  rintro e w2 ⟨rfl, hb2⟩
  have X2 : Hid (Tri w w2 m (K) c v false) := X0d.out.step hb2
  clear hb2 c6
  refine hKK _ _ ?_
  clear hKK KK
  have c12 : w2.cell? ⟨w.heap.size, 13, none⟩ = some (.int .u64 (K 12 : Nat)) := X2.out.1.cell 13 _ rfl
  go_upto_region 5 with fail
  clear c12
  have X2d : Hid (Tri w w2.drew m (K) c v false) := X2.out.step (below_drew1 _)
  refine wp_region_held_drew (S := fun V => V.cell? ⟨w.heap.size + 1, 1, none⟩ = some (.int .u64 (v : Int))) (by kernel_rfl) (X2d.out.2.1.cell 1 _ rfl) ?_
  intro hS
  refine wpAnyH_take (i := 0) (v := ?_) rfl (by kernel_rfl) (by kernel_rfl) (by kernel_rfl) (fun _ _ _ h => h) (Or.inl ⟨by kernel_rfl, ?_⟩) hS ?_
  rotate_left
  · intro w hSw; (try dsimp only at hSw); go_simp; try (with_reducible rfl)
  (try simp only [Act.put, List.getElem_toArray, List.getElem_cons_succ, List.getElem_cons_zero, List.setIfInBounds_toArray, List.set_cons_zero, List.set_cons_succ])
  refine wpAnyH_take (i := 1) (v := ?_) rfl (by kernel_rfl) (by kernel_rfl) (by kernel_rfl) (fun _ _ _ h => h) (Or.inl ⟨by kernel_rfl, ?_⟩) hS ?_
  rotate_left
  · intro w hSw; (try dsimp only at hSw); go_simp; try (with_reducible rfl)
  (try simp only [Act.put, List.getElem_toArray, List.getElem_cons_succ, List.getElem_cons_zero, List.setIfInBounds_toArray, List.set_cons_zero, List.set_cons_succ])
  refine wpAnyH_take (i := 2) (v := ?_) rfl (by kernel_rfl) (by kernel_rfl) (by kernel_rfl) (fun _ _ _ h => h) (Or.inl ⟨by kernel_rfl, ?_⟩) hS ?_
  rotate_left
  · intro w hSw; (try dsimp only at hSw); go_simp; try (with_reducible rfl)
  (try simp only [Act.put, List.getElem_toArray, List.getElem_cons_succ, List.getElem_cons_zero, List.setIfInBounds_toArray, List.set_cons_zero, List.set_cons_succ])
  refine wpAnyH_take (i := 3) (v := ?_) rfl (by kernel_rfl) (by kernel_rfl) (by kernel_rfl) (fun _ _ _ h => h) (Or.inl ⟨by kernel_rfl, ?_⟩) hS ?_
  rotate_left
  · intro w hSw; (try dsimp only at hSw); go_simp; try (with_reducible rfl)
  (try simp only [Act.put, List.getElem_toArray, List.getElem_cons_succ, List.getElem_cons_zero, List.setIfInBounds_toArray, List.set_cons_zero, List.set_cons_succ])
  refine wpAnyH_take (i := 4) (v := ?_) rfl (by kernel_rfl) (by kernel_rfl) (by kernel_rfl) (fun _ _ _ h => h) (Or.inl ⟨by kernel_rfl, ?_⟩) hS ?_
  rotate_left
  · intro w hSw; (try dsimp only at hSw); go_simp; try (with_reducible rfl)
  (try simp only [Act.put, List.getElem_toArray, List.getElem_cons_succ, List.getElem_cons_zero, List.setIfInBounds_toArray, List.set_cons_zero, List.set_cons_succ])
  refine wpAnyH_take (i := 5) (v := ?_) rfl (by kernel_rfl) (by kernel_rfl) (by kernel_rfl) (fun _ _ _ h => h) (Or.inl ⟨by kernel_rfl, ?_⟩) hS ?_
  rotate_left
  · intro w hSw; (try dsimp only at hSw); go_simp; try (with_reducible rfl)
  (try simp only [Act.put, List.getElem_toArray, List.getElem_cons_succ, List.getElem_cons_zero, List.setIfInBounds_toArray, List.set_cons_zero, List.set_cons_succ])
  refine wpAnyH_take (i := 6) (v := ?_) rfl (by kernel_rfl) (by kernel_rfl) (by kernel_rfl) (fun _ _ _ h => h) (Or.inl ⟨by kernel_rfl, ?_⟩) hS ?_
  rotate_left
  · intro w hSw; (try dsimp only at hSw); go_simp; try (with_reducible rfl)
  (try simp only [Act.put, List.getElem_toArray, List.getElem_cons_succ, List.getElem_cons_zero, List.setIfInBounds_toArray, List.set_cons_zero, List.set_cons_succ])
  refine wpAnyH_take (i := 7) (v := ?_) rfl (by kernel_rfl) (by kernel_rfl) (by kernel_rfl) (fun _ _ _ h => h) (Or.inl ⟨by kernel_rfl, ?_⟩) hS ?_
  rotate_left
  · intro w hSw; (try dsimp only at hSw); go_simp; try (with_reducible rfl)
  (try simp only [Act.put, List.getElem_toArray, List.getElem_cons_succ, List.getElem_cons_zero, List.setIfInBounds_toArray, List.set_cons_zero, List.set_cons_succ])
  refine wpAnyH_take (i := 8) (v := ?_) rfl (by kernel_rfl) (by kernel_rfl) (by kernel_rfl) (fun _ _ _ h => h) (Or.inl ⟨by kernel_rfl, ?_⟩) hS ?_
  rotate_left
  · intro w hSw; (try dsimp only at hSw); go_simp; try (with_reducible rfl)
  (try simp only [Act.put, List.getElem_toArray, List.getElem_cons_succ, List.getElem_cons_zero, List.setIfInBounds_toArray, List.set_cons_zero, List.set_cons_succ])
  refine wpAnyH_take (i := 10) (v := ?_) rfl (by kernel_rfl) (by kernel_rfl) (by kernel_rfl) (fun _ _ _ h => h) (Or.inl ⟨by kernel_rfl, ?_⟩) hS ?_
  rotate_left
  · intro w hSw; (try dsimp only at hSw); go_simp; try (with_reducible rfl)
  (try simp only [Act.put, List.getElem_toArray, List.getElem_cons_succ, List.getElem_cons_zero, List.setIfInBounds_toArray, List.set_cons_zero, List.set_cons_succ])
  refine wpAnyH_take (i := 13) (v := ?_) rfl (by kernel_rfl) (by kernel_rfl) (by kernel_rfl) (fun _ _ _ h => h) (Or.inl ⟨by kernel_rfl, ?_⟩) hS ?_
  rotate_left
  · intro w hSw; (try dsimp only at hSw); go_simp; try (with_reducible rfl)
  (try simp only [Act.put, List.getElem_toArray, List.getElem_cons_succ, List.getElem_cons_zero, List.setIfInBounds_toArray, List.set_cons_zero, List.set_cons_succ])
  refine wpAnyH_ready (rs := [9]) (by kernel_rfl) (by simp) ?_
  refine AllReadyH.cons rfl (fun K1 hK1 => ?_) AllReadyH.nil
  have a0 : w2.drew.cell? ⟨w.heap.size, 17, none⟩ = some (.int .u64 ((K) 16 : Nat)) := X2d.out.1.cell 17 _ rfl
  have a1 := X2d.out.1.frozen 17
  go_simp
  have X3 : Hid (Tri w (w2.drew.setCell ⟨w.heap.size, 17, none⟩ (.int .u64 (c : Nat))) m (upd K 16 (c)) c v false) := X2d.out.doc (by rw [← (set_docC _ _ _).2.2.2.2.2.2.2.2.2.2.2.2.2.2.2.2.1]; exact X2d.out.1.set 17 _) ((Upon.refl _ _).set 17 _)
  refine hK1.out _ (w2.drew.setCell ⟨w.heap.size, 17, none⟩ (.int .u64 (c : Nat))) (X3.out.2.1.cell 1 _ rfl) (fun hS3 => ?_)
  clear hK1 K1 hS a0 a1
  generalize w2.drew.setCell ⟨w.heap.size, 17, none⟩ (.int .u64 (c : Nat)) = w3 at *
  (try simp only [Act.put, List.getElem_toArray, List.getElem_cons_succ, List.getElem_cons_zero, List.setIfInBounds_toArray, List.set_cons_zero, List.set_cons_succ])
  refine wpAnyH_take (i := 11) (v := ?_) rfl (by kernel_rfl) (by kernel_rfl) (by kernel_rfl) (fun _ _ _ h => h) (Or.inl ⟨by kernel_rfl, ?_⟩) hS3 ?_
  rotate_left
  · intro w hSw; (try dsimp only at hSw); go_simp; try (with_reducible rfl)
  (try simp only [Act.put, List.getElem_toArray, List.getElem_cons_succ, List.getElem_cons_zero, List.setIfInBounds_toArray, List.set_cons_zero, List.set_cons_succ])
  refine wpAnyH_ready (rs := [12]) (by kernel_rfl) (by simp) ?_
  refine AllReadyH.cons rfl (fun K1 hK1 => ?_) AllReadyH.nil
  have a0 : w3.cell? ⟨w.heap.size, 16, none⟩ = some (.int .u64 ((upd K 16 (c)) 15 : Nat)) := X3.out.1.cell 16 _ rfl
  have a1 := X3.out.1.frozen 16
  go_simp
  have X4 : Hid (Tri w (w3.setCell ⟨w.heap.size, 16, none⟩ (.int .u64 (lowN pc : Nat))) m (upd (upd K 16 (c)) 15 (lowN pc)) c v false) := X3.out.doc (by rw [← (set_docC _ _ _).2.2.2.2.2.2.2.2.2.2.2.2.2.2.2.1]; exact X3.out.1.set 16 _) ((Upon.refl _ _).set 16 _)
  refine hK1.out _ (w3.setCell ⟨w.heap.size, 16, none⟩ (.int .u64 (lowN pc : Nat))) (X4.out.2.1.cell 1 _ rfl) (fun hS4 => ?_)
  clear hK1 K1 hS3 a0 a1
  generalize w3.setCell ⟨w.heap.size, 16, none⟩ (.int .u64 (lowN pc : Nat)) = w4 at *
  (try simp only [Act.put, List.getElem_toArray, List.getElem_cons_succ, List.getElem_cons_zero, List.setIfInBounds_toArray, List.set_cons_zero, List.set_cons_succ])
  refine wpAnyH_take (i := 14) (v := ?_) rfl (by kernel_rfl) (by kernel_rfl) (by kernel_rfl) (fun _ _ _ h => h) (Or.inl ⟨by kernel_rfl, ?_⟩) hS4 ?_
  rotate_left
  · intro w hSw; (try dsimp only at hSw); go_simp; try (with_reducible rfl)
  (try simp only [Act.put, List.getElem_toArray, List.getElem_cons_succ, List.getElem_cons_zero, List.setIfInBounds_toArray, List.set_cons_zero, List.set_cons_succ])
  refine wpAnyH_ready (rs := [15]) (by kernel_rfl) (by simp) ?_
  refine AllReadyH.cons rfl (fun K1 hK1 => ?_) AllReadyH.nil
  have a0 : w4.cell? ⟨w.heap.size, 18, none⟩ = some (.int .u64 ((upd (upd K 16 (c)) 15 (lowN pc)) 17 : Nat)) := X4.out.1.cell 18 _ rfl
  have a1 := X4.out.1.frozen 18
  go_simp
  have X5 : Hid (Tri w (w4.setCell ⟨w.heap.size, 18, none⟩ (.int .u64 (v : Nat))) m (upd (upd (upd K 16 (c)) 15 (lowN pc)) 17 v) c v false) := X4.out.doc (by rw [← (set_docC _ _ _).2.2.2.2.2.2.2.2.2.2.2.2.2.2.2.2.2.1]; exact X4.out.1.set 18 _) ((Upon.refl _ _).set 18 _)
  refine hK1.out _ (w4.setCell ⟨w.heap.size, 18, none⟩ (.int .u64 (v : Nat))) (X5.out.2.1.cell 1 _ rfl) (fun hS5 => ?_)
  clear hK1 K1 hS4 a0 a1
  generalize w4.setCell ⟨w.heap.size, 18, none⟩ (.int .u64 (v : Nat)) = w5 at *
  (try simp only [Act.put, List.getElem_toArray, List.getElem_cons_succ, List.getElem_cons_zero, List.setIfInBounds_toArray, List.set_cons_zero, List.set_cons_succ])
  refine wpAnyH_done (by kernel_rfl) ?_ _
  clear hS5 hlow
  have Y5 : Hid (Tri w w5 m (tellS K c v false pc) c v false) := X5.out
  clear X0 X0d X2 X2d X3 X4 X5
  generalize hL : tellS K c v false pc = L at *
  have HL : Hid (tellS K c v false pc = L) := hL
  clear hL
  go_upto_region 6 with fail
  go_cut [3] (fun r wx => r = .pointer (some ⟨w.heap.size, 0, none⟩) ∧ Tri w wx m (setK (L) 5 (isB (L) 1)) c v false)
  case first =>
    have Xd : Hid (Tri w w5.drew m (L) c v false) := Y5.out.step (below_drew1 _)
    refine wp_region_held_drew (S := fun _ => True) (by kernel_rfl) trivial ?_
    intro hS
    refine wpAnyH_ready (rs := [0, 1]) (by kernel_rfl) (by simp) ?_
    refine AllReadyH.cons rfl (fun K1 hK1 => ?_) (AllReadyH.cons rfl (fun K1 hK1 => ?_) AllReadyH.nil)
    · rw [if_pos (by kernel_rfl)]
      refine wp_load_doc _ rfl w.heap.size m (L) rfl Xd.out.1 ?_
      refine hK1.out _ _ trivial (fun hS => ?_)
      clear hK1 K1
      (try simp only [Act.put, List.getElem_toArray, List.getElem_cons_succ, List.getElem_cons_zero, List.setIfInBounds_toArray, List.set_cons_zero, List.set_cons_succ])
      refine wpAnyH_ready (rs := [1]) (by kernel_rfl) (by simp) ?_
      refine AllReadyH.cons rfl (fun K1 hK1 => ?_) AllReadyH.nil
      rw [if_pos (by kernel_rfl)]
      refine wp_load_doc _ rfl w.heap.size m (L) rfl Xd.out.1 ?_
      refine hK1.out _ _ trivial (fun hS => ?_)
      clear hK1 K1
      (try simp only [Act.put, List.getElem_toArray, List.getElem_cons_succ, List.getElem_cons_zero, List.setIfInBounds_toArray, List.set_cons_zero, List.set_cons_succ])
      refine wpAnyH_ready (rs := [2]) (by kernel_rfl) (by simp) ?_
      refine AllReadyH.cons rfl (fun K1 hK1 => ?_) AllReadyH.nil
      go_simp
      refine (dis_any m (L) 1 HKL.out _).mono ?_
      rintro e v1 ⟨rfl, hb⟩
      have Y1 : Hid (Tri w v1 m (L) c v false) := Xd.out.step hb
      clear hb
      refine hK1.out _ _ trivial (fun hS => ?_)
      clear hK1 K1
      (try simp only [Act.put, List.getElem_toArray, List.getElem_cons_succ, List.getElem_cons_zero, List.setIfInBounds_toArray, List.set_cons_zero, List.set_cons_succ])
      refine wpAnyH_ready (rs := [3]) (by kernel_rfl) (by simp) ?_
      refine AllReadyH.cons rfl (fun K1 hK1 => ?_) AllReadyH.nil
      go_simp
      refine (dset_any m (L) 5 (isB (L) 1) HKL.out _).mono ?_
      rintro e v2 ⟨rfl, hb⟩
      have Y2 : Hid (Tri w v2 m (L) c v false) := Y1.out.step hb
      clear hb
      refine hK1.out _ _ trivial (fun hS => ?_)
      clear hK1 K1
      (try simp only [Act.put, List.getElem_toArray, List.getElem_cons_succ, List.getElem_cons_zero, List.setIfInBounds_toArray, List.set_cons_zero, List.set_cons_succ])
      refine wpAnyH_ready (rs := [4]) (by kernel_rfl) (by simp) ?_
      refine AllReadyH.cons rfl (fun K1 hK1 => ?_) AllReadyH.nil
      rw [if_pos (by kernel_rfl)]
      refine wp_store_doc _ _ rfl w.heap.size m (setK (L) 5 (isB (L) 1)) (docC m (L)) rfl rfl Y2.out.1 rfl ?_
      intro W7 B7 U7
      have Z7 : Hid (Tri w W7 m (setK (L) 5 (isB (L) 1)) c v false) := Y2.out.doc B7 U7
      refine hK1.out _ _ trivial (fun hS => ?_)
      clear hK1 K1 B7 U7
      (try simp only [Act.put, List.getElem_toArray, List.getElem_cons_succ, List.getElem_cons_zero, List.setIfInBounds_toArray, List.set_cons_zero, List.set_cons_succ])
      refine wpAnyH_done (by kernel_rfl) ?_ _
      clear hS
      go_wp2_with fail
      go_meet
      exact ⟨rfl, Z7.out⟩
    · rw [if_pos (by kernel_rfl)]
      refine wp_load_doc _ rfl w.heap.size m (L) rfl Xd.out.1 ?_
      refine hK1.out _ _ trivial (fun hS => ?_)
      clear hK1 K1
      (try simp only [Act.put, List.getElem_toArray, List.getElem_cons_succ, List.getElem_cons_zero, List.setIfInBounds_toArray, List.set_cons_zero, List.set_cons_succ])
      refine wpAnyH_ready (rs := [0, 2]) (by kernel_rfl) (by simp) ?_
      refine AllReadyH.cons rfl (fun K1 hK1 => ?_) (AllReadyH.cons rfl (fun K1 hK1 => ?_) AllReadyH.nil)
      · rw [if_pos (by kernel_rfl)]
        refine wp_load_doc _ rfl w.heap.size m (L) rfl Xd.out.1 ?_
        refine hK1.out _ _ trivial (fun hS => ?_)
        clear hK1 K1
        (try simp only [Act.put, List.getElem_toArray, List.getElem_cons_succ, List.getElem_cons_zero, List.setIfInBounds_toArray, List.set_cons_zero, List.set_cons_succ])
        refine wpAnyH_ready (rs := [2]) (by kernel_rfl) (by simp) ?_
        refine AllReadyH.cons rfl (fun K1 hK1 => ?_) AllReadyH.nil
        go_simp
        refine (dis_any m (L) 1 HKL.out _).mono ?_
        rintro e v1 ⟨rfl, hb⟩
        have Y1 : Hid (Tri w v1 m (L) c v false) := Xd.out.step hb
        clear hb
        refine hK1.out _ _ trivial (fun hS => ?_)
        clear hK1 K1
        (try simp only [Act.put, List.getElem_toArray, List.getElem_cons_succ, List.getElem_cons_zero, List.setIfInBounds_toArray, List.set_cons_zero, List.set_cons_succ])
        refine wpAnyH_ready (rs := [3]) (by kernel_rfl) (by simp) ?_
        refine AllReadyH.cons rfl (fun K1 hK1 => ?_) AllReadyH.nil
        go_simp
        refine (dset_any m (L) 5 (isB (L) 1) HKL.out _).mono ?_
        rintro e v2 ⟨rfl, hb⟩
        have Y2 : Hid (Tri w v2 m (L) c v false) := Y1.out.step hb
        clear hb
        refine hK1.out _ _ trivial (fun hS => ?_)
        clear hK1 K1
        (try simp only [Act.put, List.getElem_toArray, List.getElem_cons_succ, List.getElem_cons_zero, List.setIfInBounds_toArray, List.set_cons_zero, List.set_cons_succ])
        refine wpAnyH_ready (rs := [4]) (by kernel_rfl) (by simp) ?_
        refine AllReadyH.cons rfl (fun K1 hK1 => ?_) AllReadyH.nil
        rw [if_pos (by kernel_rfl)]
        refine wp_store_doc _ _ rfl w.heap.size m (setK (L) 5 (isB (L) 1)) (docC m (L)) rfl rfl Y2.out.1 rfl ?_
        intro W7 B7 U7
        have Z7 : Hid (Tri w W7 m (setK (L) 5 (isB (L) 1)) c v false) := Y2.out.doc B7 U7
        refine hK1.out _ _ trivial (fun hS => ?_)
        clear hK1 K1 B7 U7
        (try simp only [Act.put, List.getElem_toArray, List.getElem_cons_succ, List.getElem_cons_zero, List.setIfInBounds_toArray, List.set_cons_zero, List.set_cons_succ])
        refine wpAnyH_done (by kernel_rfl) ?_ _
        clear hS
        go_wp2_with fail
        go_meet
        exact ⟨rfl, Z7.out⟩
      · go_simp
        refine (dis_any m (L) 1 HKL.out _).mono ?_
        rintro e v1 ⟨rfl, hb⟩
        have Y1 : Hid (Tri w v1 m (L) c v false) := Xd.out.step hb
        clear hb
        refine hK1.out _ _ trivial (fun hS => ?_)
        clear hK1 K1
        (try simp only [Act.put, List.getElem_toArray, List.getElem_cons_succ, List.getElem_cons_zero, List.setIfInBounds_toArray, List.set_cons_zero, List.set_cons_succ])
        refine wpAnyH_ready (rs := [0]) (by kernel_rfl) (by simp) ?_
        refine AllReadyH.cons rfl (fun K1 hK1 => ?_) AllReadyH.nil
        rw [if_pos (by kernel_rfl)]
        refine wp_load_doc _ rfl w.heap.size m (L) rfl Y1.out.1 ?_
        refine hK1.out _ _ trivial (fun hS => ?_)
        clear hK1 K1
        (try simp only [Act.put, List.getElem_toArray, List.getElem_cons_succ, List.getElem_cons_zero, List.setIfInBounds_toArray, List.set_cons_zero, List.set_cons_succ])
        refine wpAnyH_ready (rs := [3]) (by kernel_rfl) (by simp) ?_
        refine AllReadyH.cons rfl (fun K1 hK1 => ?_) AllReadyH.nil
        go_simp
        refine (dset_any m (L) 5 (isB (L) 1) HKL.out _).mono ?_
        rintro e v2 ⟨rfl, hb⟩
        have Y2 : Hid (Tri w v2 m (L) c v false) := Y1.out.step hb
        clear hb
        refine hK1.out _ _ trivial (fun hS => ?_)
        clear hK1 K1
        (try simp only [Act.put, List.getElem_toArray, List.getElem_cons_succ, List.getElem_cons_zero, List.setIfInBounds_toArray, List.set_cons_zero, List.set_cons_succ])
        refine wpAnyH_ready (rs := [4]) (by kernel_rfl) (by simp) ?_
        refine AllReadyH.cons rfl (fun K1 hK1 => ?_) AllReadyH.nil
        rw [if_pos (by kernel_rfl)]
        refine wp_store_doc _ _ rfl w.heap.size m (setK (L) 5 (isB (L) 1)) (docC m (L)) rfl rfl Y2.out.1 rfl ?_
        intro W7 B7 U7
        have Z7 : Hid (Tri w W7 m (setK (L) 5 (isB (L) 1)) c v false) := Y2.out.doc B7 U7
        refine hK1.out _ _ trivial (fun hS => ?_)
        clear hK1 K1 B7 U7
        (try simp only [Act.put, List.getElem_toArray, List.getElem_cons_succ, List.getElem_cons_zero, List.setIfInBounds_toArray, List.set_cons_zero, List.set_cons_succ])
        refine wpAnyH_done (by kernel_rfl) ?_ _
        clear hS
        go_wp2_with fail
        go_meet
        exact ⟨rfl, Z7.out⟩
  case rest =>
  obtain ⟨rfl, ht⟩ := hcut
  have X6 : Hid (Tri w wc m (setK (L) 5 (isB (L) 1)) c v false) := ht
  clear ht
  have HK6 : Hid (Ok (setK L 5 (isB L 1))) := setK_ok HKL.out _ _
  go_upto_region 7 with fail
  refine wp_region_list ?_
  refine wpList_load_doc rfl _ rfl w.heap.size m (setK L 5 (isB L 1)) rfl X6.out.1 ?_
  refine wpList_step (fun KK hKK => ?_)
  go_simp
  refine (dset_any m (setK L 5 (isB L 1)) 1 false HK6.out _).mono ?_
  rintro e v1 ⟨rfl, hb⟩
  have X7a : Hid (Tri w v1 m (setK L 5 (isB L 1)) c v false) := X6.out.step hb
  clear hb
  refine hKK _ _ ?_
  clear hKK KK
  refine wpList_store_doc rfl _ _ rfl w.heap.size m (setK (setK L 5 (isB L 1)) 1 false) (docC m (setK L 5 (isB L 1))) rfl rfl X7a.out.1 rfl ?_
  intro W7 B7 U7
  have X7 : Hid (Tri w W7 m (setK (setK L 5 (isB L 1)) 1 false) c v false) := X7a.out.doc B7 U7
  clear B7 U7 X7a
  have HK7 : Hid (Ok (setK (setK L 5 (isB L 1)) 1 false)) := setK_ok HK6.out _ _
  have n0 : W7.cell? ⟨w.heap.size, 0, none⟩ = some (.int .i64 (m : Int)) := X7.out.1.cell 0 _ rfl
  go_upto_region 8 with fail
  refine wp_region_list ?_
  refine wpList_load_doc rfl _ rfl w.heap.size m (setK (setK L 5 (isB L 1)) 1 false) rfl X7.out.1 ?_
  (refine wpList_step (fun KK hKK => ?_); go_simp; refine hKK _ _ ?_; clear hKK KK)
  (refine wpList_step (fun KK hKK => ?_); go_simp; refine hKK _ _ ?_; clear hKK KK)
  (refine wpList_step (fun KK hKK => ?_); go_simp; refine hKK _ _ ?_; clear hKK KK)
  refine wpList_step (fun KK hKK => ?_)
  go_simp
  refine (dset_any m (setK (setK L 5 (isB L 1)) 1 false) 8 ((m : Int) == 1) HK7.out _).mono ?_
  rintro e v8 ⟨rfl, hb⟩
  have X8a : Hid (Tri w v8 m (setK (setK L 5 (isB L 1)) 1 false) c v false) := X7.out.step hb
  clear hb
  refine hKK _ _ ?_
  clear hKK KK
  refine wpList_store_doc rfl _ _ rfl w.heap.size m (setK (setK (setK L 5 (isB L 1)) 1 false) 8 ((m : Int) == 1)) (docC m (setK (setK L 5 (isB L 1)) 1 false)) rfl rfl X8a.out.1 rfl ?_
  intro W8 B7 U7
  have X8 : Hid (Tri w W8 m (setK (setK (setK L 5 (isB L 1)) 1 false) 8 ((m : Int) == 1)) c v false) := X8a.out.doc B7 U7
  clear B7 U7 X8a
  clear n0
  have X8m : Hid (Tri w W8 m (markS L m) c v false) := X8.out
  have n0 : W8.cell? ⟨w.heap.size, 0, none⟩ = some (.int .i64 (m : Int)) := X8m.out.1.cell 0 _ rfl
  have n1 := X8m.out.1.frozen 0
  go_upto_region 15 with fail
  have X9 : Hid (Tri w (W8.setCell ⟨w.heap.size, 0, none⟩ (.int .i64 1)) 1 (markS L m) c v false) := X8m.out.doc (by rw [← mode_docC (m : Int) 1 _]; exact X8m.out.1.set 0 _) ((Upon.refl _ _).set 0 _)
  generalize W8.setCell ⟨w.heap.size, 0, none⟩ (.int .i64 1) = W9 at *
  clear n0 n1 X8 X8m X7 X6 Y5
  have t0 : W9.cell? ⟨w.heap.size + 1, 0, none⟩ = some (.int .i64 (c : Int)) := X9.out.2.1.cell 0 _ rfl
  have t2 : W9.cell? ⟨w.heap.size + 1, 2, none⟩ = some (.bool false) := X9.out.2.1.cell 2 _ rfl
  have HML : Hid (markS (tellS K c v false pc) m = markS L m) := by show _ = _; rw [HL.out]
  clear HKL HK6 HK7
  generalize markS L m = M at *
  by_cases hb : K 12 % 2 = 1
  · have e1 := odd_yes (K 12) hb
    have e2 := odd_yes2 (K 12) hb
    have HB2 : Hid (K 12 % 2 = 1) := hb
    clear hb
    go_upto_region 18 with fail
    refine wp_region_list ?_
    refine wpList_load_doc rfl _ rfl w.heap.size 1 M rfl X9.out.1 ?_
    (refine wpList_step (fun KK hKK => ?_); go_simp; refine hKK _ _ ?_; clear hKK KK)
    refine wpList_store_doc rfl _ _ rfl (w.heap.size + 2) 1 M zeroD rfl rfl X9.out.2.2.1 zeroD_size ?_
    intro W10 B10 U10
    have T9 : Hid (Box 34 W10 (w.heap.size + 2) (docC 1 M) ∧ Below w.heap.size w W10) := ⟨B10, X9.out.2.2.2.trans (U10.below (by omega) X9.out.2.2.2.size)⟩
    clear B10 U10
    go_wp2_with fail
    exact bodyPost_ret (v := .tuple #[.agg (docC 1 M), .int .u64 (lowN (K 12) : Nat)]) (resultsD2 (p := 6) (t := 7) rfl _ _ (w.heap.size + 2) 1 M rfl T9.out.1) rfl ⟨(by rw [HML.out]; exact tup_eq (place_plain _ _)), T9.out.2⟩
  · have e1 := odd_no (K 12) hb
    obtain ⟨e2, e3⟩ := odd_no2 (K 12) hb
    have HB2 : Hid (¬ K 12 % 2 = 1) := hb
    clear hb
    go_upto_region 18 with fail
    refine wp_region_list ?_
    refine wpList_load_doc rfl _ rfl w.heap.size 1 M rfl X9.out.1 ?_
    (refine wpList_step (fun KK hKK => ?_); go_simp; refine hKK _ _ ?_; clear hKK KK)
    refine wpList_store_doc rfl _ _ rfl (w.heap.size + 2) 1 M zeroD rfl rfl X9.out.2.2.1 zeroD_size ?_
    intro W10 B10 U10
    have T9 : Hid (Box 34 W10 (w.heap.size + 2) (docC 1 M) ∧ Below w.heap.size w W10) := ⟨B10, X9.out.2.2.2.trans (U10.below (by omega) X9.out.2.2.2.size)⟩
    clear B10 U10
    go_wp2_with fail
    exact bodyPost_ret (v := .tuple #[.agg (docC 1 M), .int .u64 (lowN (K 12) : Nat)]) (resultsD2 (p := 6) (t := 7) rfl _ _ (w.heap.size + 2) 1 M rfl T9.out.1) rfl ⟨(by rw [HML.out]; exact tup_eq (place_plain _ _)), T9.out.2⟩
end Go.Proofs.Ytdljceeoofhfnaa
