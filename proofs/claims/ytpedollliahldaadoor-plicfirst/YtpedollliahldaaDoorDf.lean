/- The document's call Load. -/
import Derived.Test.YtpedollliahldaaDoorDe
namespace Go.Proofs.YtpedollliahldaaDoor
open Go.RowKit
set_option linter.unusedVariables false
set_option linter.unusedSimpArgs false
set_option maxRecDepth 100000
theorem dload_no (S : St) (a : Nat) (n : Int) (ha : a < 18446744073709551616) (h : mayB a n = false) (w : World) : Calls Tryd.prog 28 #[.agg (docC S), .int .u64 (a : Int), .int .i64 n] w fun e w' => e = .returned (.tuple #[.agg (docC (S)), .int .u64 0, .bool false]) ∧ Below w.heap.size w w' := by
  have hm := dmay_any a n ha
  rw [h] at hm
  clear h ha
  go_enter Tryd.func28, Tryd.ntmps28
  go_upto_region 0 with fail
  refine wp_region_list ?_
  refine wpList_enter2 _ _ rfl rfl rfl rfl rfl ?_
  intro W hT0
  have T0 : Hid (Two w W (docC (S)) (docC zeroS)) := hT0
  clear hT0
  go_wp2_with fail
  refine (hm _).mono ?_
  rintro e w' ⟨rfl, hw⟩
  rw [hw]
  clear hw w'
  go_upto_region 2 with fail
  refine wp_region_list ?_
  refine wpList_load_doc rfl _ rfl w.heap.size (S) rfl T0.out.1 ?_
  refine wpList_store_doc rfl _ _ rfl (w.heap.size + 1) (S) (docC zeroS) rfl rfl T0.out.2.1 (by rw [docC_size, docC_size]) ?_
  intro W9 B9 U9
  have T9 : Hid (Box 34 W9 (w.heap.size + 1) (docC (S)) ∧ Below w.heap.size w W9) := ⟨B9, T0.out.2.2.trans (U9.below (Nat.le_succ _) T0.out.2.2.size)⟩
  clear B9 U9
  go_wp2_with fail
  exact bodyPost_ret (v := .tuple #[.agg (docC (S)), .int .u64 0, .bool false]) (resultsD3 (p := 6) (t := 7) (u := 8) rfl _ _ (w.heap.size + 1) (S) rfl T9.out.1) rfl ⟨rfl, T9.out.2⟩
set_option maxHeartbeats 2000000 in
theorem dload_prio (S : St) (hS : S.Ok) (i : Nat) (hi : i < 32) (w : World) : Calls Tryd.prog 28 #[.agg (docC S), .int .u64 ((4 * i : Nat) : Int), .int .i64 4] w fun e w' => e = .returned (.tuple #[.agg (docC (S)), .int .u64 (S.prio i : Nat), .bool true]) ∧ Below w.heap.size w w' := by
  have hm := dmay_any (4 * i) 4 (by omega)
  rw [show mayB (4 * i) 4 = true from by simp [mayB]; omega] at hm
  have hq1 : ((4 * i : Nat) : Int) / 4 = (i : Int) := by omega
  have hq2 : ((4 * i : Nat) : Int).tdiv 4 = (i : Int) := by rw [Int.tdiv_eq_ediv_of_nonneg (by omega)]; omega
  have hq3 : IntKind.u64.wrap (i : Int) = (i : Int) := by rw [wrap_u64]; omega
  have hq4 : ((4 * i : Nat) : Int) < 128 := by omega
  have hq5 : (i : Int) < 32 := by omega
  have hq6 : IntKind.u64.wrap ((S.prio i : Nat) : Int) = (S.prio i : Nat) := by rw [wrap_u64]; have := hS.1 i; omega
  have HI : Hid (i < 32) := hi
  clear hi hS
  generalize ((4 * i : Nat) : Int) = a at *
  go_enter Tryd.func28, Tryd.ntmps28
  go_upto_region 0 with fail
  refine wp_region_list ?_
  refine wpList_enter2 _ _ rfl rfl rfl rfl rfl ?_
  intro W hT0
  have T0 : Hid (Two w W (docC (S)) (docC zeroS)) := hT0
  clear hT0
  go_wp2_with fail
  refine (hm _).mono ?_
  rintro e w' ⟨rfl, hw⟩
  rw [hw]
  clear hw w'
  go_upto_region 4 with fail
  have Xd : Hid (Two w W.drew (docC S) (docC zeroS)) := T0.out.step (Below.drew (Below.refl _ _))
  refine wp_region_held_drew (S := fun V => Box 34 V w.heap.size (docC S) ∧ V.cell? ⟨w.heap.size, i, none⟩ = some (.int .i64 (S.prio i : Nat))) (by kernel_rfl) ⟨Xd.out.1, Xd.out.1.dprio i HI.out⟩ ?_
  intro hS
  refine wpAnyH_take (i := 0) (v := .agg (docC S)) rfl (by kernel_rfl) (by kernel_rfl) (by kernel_rfl) (fun _ _ _ h => h) (Or.inl ⟨by kernel_rfl, fun V hV => yield_doc hV.1 _ rfl rfl⟩) hS ?_
  (try simp only [Act.put, List.getElem_toArray, List.getElem_cons_succ, List.getElem_cons_zero, List.setIfInBounds_toArray, List.set_cons_zero, List.set_cons_succ])
  refine wpAnyH_take (i := 1) (v := ?_) rfl (by kernel_rfl) (by kernel_rfl) (by kernel_rfl) (fun _ _ _ h => h) (Or.inl ⟨by kernel_rfl, ?_⟩) hS ?_
  rotate_left
  · intro w hSw; (try dsimp only at hSw); go_simp; try (with_reducible rfl)
  (try simp only [Act.put, List.getElem_toArray, List.getElem_cons_succ, List.getElem_cons_zero, List.setIfInBounds_toArray, List.set_cons_zero, List.set_cons_succ])
  refine wpAnyH_take (i := 2) (v := ?_) rfl (by kernel_rfl) (by kernel_rfl) (by kernel_rfl) (fun _ _ _ h => h) (Or.inl ⟨by kernel_rfl, ?_⟩) hS ?_
  rotate_left
  · intro w hSw; (try dsimp only at hSw); go_simp; try (with_reducible rfl)
  (try simp only [Act.put, List.getElem_toArray, List.getElem_cons_succ, List.getElem_cons_zero, List.setIfInBounds_toArray, List.set_cons_zero, List.set_cons_succ])
  refine wpAnyH_take (i := 3) (v := ?_) rfl (by kernel_rfl) (by kernel_rfl) (by kernel_rfl) (fun _ _ _ h => h) (Or.inl ⟨by kernel_rfl, ?_⟩) hS ?_
  rotate_left
  · intro w hSw; (try dsimp only at hSw); go_simp; try (with_reducible rfl)
  (try simp only [Act.put, List.getElem_toArray, List.getElem_cons_succ, List.getElem_cons_zero, List.setIfInBounds_toArray, List.set_cons_zero, List.set_cons_succ])
  refine wpAnyH_take (i := 4) (v := ?_) rfl (by kernel_rfl) (by kernel_rfl) (by kernel_rfl) (fun _ _ _ h => h) (Or.inl ⟨by kernel_rfl, ?_⟩) hS ?_
  rotate_left
  · intro w hSw; (try dsimp only at hSw); go_simp; try (with_reducible rfl)
  (try simp only [Act.put, List.getElem_toArray, List.getElem_cons_succ, List.getElem_cons_zero, List.setIfInBounds_toArray, List.set_cons_zero, List.set_cons_succ])
  refine wpAnyH_take (i := 5) (v := ?_) rfl (by kernel_rfl) (by kernel_rfl) (by kernel_rfl) (fun _ _ _ h => h) (Or.inl ⟨by kernel_rfl, ?_⟩) hS ?_
  rotate_left
  · intro w hSw; (try dsimp only at hSw); go_simp; try (with_reducible rfl)
  (try simp only [Act.put, List.getElem_toArray, List.getElem_cons_succ, List.getElem_cons_zero, List.setIfInBounds_toArray, List.set_cons_zero, List.set_cons_succ])
  refine wpAnyH_take (i := 6) (v := ?_) rfl (by kernel_rfl) (by kernel_rfl) (by kernel_rfl) (fun _ _ _ h => h) (Or.inl ⟨by kernel_rfl, ?_⟩) hS ?_
  rotate_left
  · intro w hSw; (try dsimp only at hSw); go_simp; try (with_reducible rfl)
  (try simp only [Act.put, List.getElem_toArray, List.getElem_cons_succ, List.getElem_cons_zero, List.setIfInBounds_toArray, List.set_cons_zero, List.set_cons_succ])
  refine wpAnyH_ready (rs := [7]) (by kernel_rfl) (by simp) ?_
  refine AllReadyH.cons rfl (fun K1 hK1 => ?_) AllReadyH.nil
  rw [if_pos (by kernel_rfl)]
  refine wp_store_doc _ _ rfl (w.heap.size + 1) S (docC zeroS) rfl rfl Xd.out.2.1 (by rw [docC_size, docC_size]) ?_
  intro W9 B9 U9
  have Xs : Hid (Two w W9 (docC S) (docC S)) := ⟨U9.box Xd.out.1 (by omega), B9, Xd.out.2.2.trans (U9.below (Nat.le_succ _) Xd.out.2.2.size)⟩
  have T9 : Hid (Box 34 W9 (w.heap.size + 1) (docC S) ∧ Below w.heap.size w W9) := Xs.out.2
  clear B9 U9
  refine hK1.out _ _ ⟨Xs.out.1, Xs.out.1.dprio i HI.out⟩ (fun hS9 => ?_)
  clear hK1 K1 hS
  (try simp only [Act.put, List.getElem_toArray, List.getElem_cons_succ, List.getElem_cons_zero, List.setIfInBounds_toArray, List.set_cons_zero, List.set_cons_succ])
  refine wpAnyH_take (i := 8) (v := ?_) rfl (by kernel_rfl) (by kernel_rfl) (by kernel_rfl) (fun _ _ _ h => h) (Or.inl ⟨by kernel_rfl, ?_⟩) hS9 ?_
  rotate_left
  · intro w hSw; (try dsimp only at hSw); go_simp; try (with_reducible rfl)
  (try simp only [Act.put, List.getElem_toArray, List.getElem_cons_succ, List.getElem_cons_zero, List.setIfInBounds_toArray, List.set_cons_zero, List.set_cons_succ])
  refine wpAnyH_take (i := 9) (v := ?_) rfl (by kernel_rfl) (by kernel_rfl) (by kernel_rfl) (fun _ _ _ h => h) (Or.inl ⟨by kernel_rfl, ?_⟩) hS9 ?_
  rotate_left
  · intro w hSw; (try dsimp only at hSw); go_simp; try (with_reducible rfl)
  (try simp only [Act.put, List.getElem_toArray, List.getElem_cons_succ, List.getElem_cons_zero, List.setIfInBounds_toArray, List.set_cons_zero, List.set_cons_succ])
  refine wpAnyH_done (by kernel_rfl) ?_ _
  clear hS9
  go_wp2_with fail
  exact bodyPost_ret (v := .tuple #[.agg (docC (S)), .int .u64 (S.prio i : Nat), .bool true]) (resultsD3 (p := 6) (t := 7) (u := 8) rfl _ _ (w.heap.size + 1) (S) rfl T9.out.1) rfl ⟨rfl, T9.out.2⟩
set_option maxHeartbeats 2000000 in
theorem dload_waits (S : St) (hS : S.Ok) (w : World) : Calls Tryd.prog 28 #[.agg (docC S), .int .u64 4096, .int .i64 4] w fun e w' => e = .returned (.tuple #[.agg (docC (S)), .int .u64 (S.waits : Nat), .bool true]) ∧ Below w.heap.size w w' := by
  have hm : ∀ w, Calls Tryd.prog 39 #[.int .u64 4096, .int .i64 4] w fun e w' => e = .returned (.bool true) ∧ w' = w := fun w => dmay_any 4096 4 (by decide) w
  have hd := dword_any S.waits hS.2.2.1
  clear hS
  go_enter Tryd.func28, Tryd.ntmps28
  go_upto_region 0 with fail
  refine wp_region_list ?_
  refine wpList_enter2 _ _ rfl rfl rfl rfl rfl ?_
  intro W hT0
  have T0 : Hid (Two w W (docC (S)) (docC zeroS)) := hT0
  clear hT0
  go_wp2_with fail
  refine (hm _).mono ?_
  rintro e w' ⟨rfl, hw⟩
  rw [hw]
  clear hw w'
  go_upto_region 6 with fail
  have Xd : Hid (Two w W.drew (docC S) (docC zeroS)) := T0.out.step (Below.drew (Below.refl _ _))
  refine wp_region_held_drew (S := fun V => Box 34 V w.heap.size (docC S)) (by kernel_rfl) Xd.out.1 ?_
  intro hS
  refine wpAnyH_take (i := 0) (v := .agg (docC S)) rfl (by kernel_rfl) (by kernel_rfl) (by kernel_rfl) (fun _ _ _ h => h) (Or.inl ⟨by kernel_rfl, fun V hV => yield_doc hV _ rfl rfl⟩) hS ?_
  (try simp only [Act.put, List.getElem_toArray, List.getElem_cons_succ, List.getElem_cons_zero, List.setIfInBounds_toArray, List.set_cons_zero, List.set_cons_succ])
  refine wpAnyH_take (i := 1) (v := ?_) rfl (by kernel_rfl) (by kernel_rfl) (by kernel_rfl) (fun _ _ _ h => h) (Or.inl ⟨by kernel_rfl, ?_⟩) hS ?_
  rotate_left
  · intro w hSw; (try dsimp only at hSw); go_simp; try (with_reducible rfl)
  (try simp only [Act.put, List.getElem_toArray, List.getElem_cons_succ, List.getElem_cons_zero, List.setIfInBounds_toArray, List.set_cons_zero, List.set_cons_succ])
  refine wpAnyH_take (i := 2) (v := .agg (marksC S.waits)) rfl (by kernel_rfl) (by kernel_rfl) (by kernel_rfl) (fun _ _ _ h => h) (Or.inl ⟨by kernel_rfl, fun V hV => yield_marks w.heap.size 64 S.waits (fun i hi => Box.dwaits hV i hi) _ rfl rfl⟩) hS ?_
  (try simp only [Act.put, List.getElem_toArray, List.getElem_cons_succ, List.getElem_cons_zero, List.setIfInBounds_toArray, List.set_cons_zero, List.set_cons_succ])
  refine wpAnyH_ready (rs := [3]) (by kernel_rfl) (by simp) ?_
  refine AllReadyH.cons rfl (fun K1 hK1 => ?_) AllReadyH.nil
  go_simp
  refine (hd _).mono ?_
  rintro e w3 ⟨rfl, hb⟩
  have X3 : Hid (Two w w3 (docC S) (docC zeroS)) := Xd.out.step hb
  clear hb
  refine hK1.out _ _ X3.out.1 (fun hS3 => ?_)
  clear hK1 K1 hS
  (try simp only [Act.put, List.getElem_toArray, List.getElem_cons_succ, List.getElem_cons_zero, List.setIfInBounds_toArray, List.set_cons_zero, List.set_cons_succ])
  refine wpAnyH_ready (rs := [4]) (by kernel_rfl) (by simp) ?_
  refine AllReadyH.cons rfl (fun K1 hK1 => ?_) AllReadyH.nil
  rw [if_pos (by kernel_rfl)]
  refine wp_store_doc _ _ rfl (w.heap.size + 1) S (docC zeroS) rfl rfl X3.out.2.1 (by rw [docC_size, docC_size]) ?_
  intro W9 B9 U9
  have Xs : Hid (Two w W9 (docC S) (docC S)) := ⟨U9.box X3.out.1 (by omega), B9, X3.out.2.2.trans (U9.below (Nat.le_succ _) X3.out.2.2.size)⟩
  have T9 : Hid (Box 34 W9 (w.heap.size + 1) (docC S) ∧ Below w.heap.size w W9) := Xs.out.2
  clear B9 U9
  refine hK1.out _ _ Xs.out.1 (fun hS9 => ?_)
  clear hK1 K1 hS3
  (try simp only [Act.put, List.getElem_toArray, List.getElem_cons_succ, List.getElem_cons_zero, List.setIfInBounds_toArray, List.set_cons_zero, List.set_cons_succ])
  refine wpAnyH_take (i := 5) (v := ?_) rfl (by kernel_rfl) (by kernel_rfl) (by kernel_rfl) (fun _ _ _ h => h) (Or.inl ⟨by kernel_rfl, ?_⟩) hS9 ?_
  rotate_left
  · intro w hSw; (try dsimp only at hSw); go_simp; try (with_reducible rfl)
  (try simp only [Act.put, List.getElem_toArray, List.getElem_cons_succ, List.getElem_cons_zero, List.setIfInBounds_toArray, List.set_cons_zero, List.set_cons_succ])
  refine wpAnyH_take (i := 6) (v := ?_) rfl (by kernel_rfl) (by kernel_rfl) (by kernel_rfl) (fun _ _ _ h => h) (Or.inl ⟨by kernel_rfl, ?_⟩) hS9 ?_
  rotate_left
  · intro w hSw; (try dsimp only at hSw); go_simp; try (with_reducible rfl)
  (try simp only [Act.put, List.getElem_toArray, List.getElem_cons_succ, List.getElem_cons_zero, List.setIfInBounds_toArray, List.set_cons_zero, List.set_cons_succ])
  refine wpAnyH_done (by kernel_rfl) ?_ _
  clear hS9
  go_wp2_with fail
  exact bodyPost_ret (v := .tuple #[.agg (docC (S)), .int .u64 (S.waits : Nat), .bool true]) (resultsD3 (p := 6) (t := 7) (u := 8) rfl _ _ (w.heap.size + 1) (S) rfl T9.out.1) rfl ⟨rfl, T9.out.2⟩
set_option maxHeartbeats 2000000 in
theorem dload_lets0 (S : St) (hS : S.Ok) (w : World) : Calls Tryd.prog 28 #[.agg (docC S), .int .u64 8192, .int .i64 4] w fun e w' => e = .returned (.tuple #[.agg (docC (S)), .int .u64 (S.lets 0 : Nat), .bool true]) ∧ Below w.heap.size w w' := by
  have hm : ∀ w, Calls Tryd.prog 39 #[.int .u64 8192, .int .i64 4] w fun e w' => e = .returned (.bool true) ∧ w' = w := fun w => dmay_any 8192 4 (by decide) w
  have hd := dword_any (S.lets 0) (hS.2.2.2.2.1 0)
  have hz : IntKind.u64.wrap ((IntKind.u64.wrap 0).tdiv 128) = 0 := by decide
  clear hS
  go_enter Tryd.func28, Tryd.ntmps28
  go_upto_region 0 with fail
  refine wp_region_list ?_
  refine wpList_enter2 _ _ rfl rfl rfl rfl rfl ?_
  intro W hT0
  have T0 : Hid (Two w W (docC (S)) (docC zeroS)) := hT0
  clear hT0
  go_wp2_with fail
  refine (hm _).mono ?_
  rintro e w' ⟨rfl, hw⟩
  rw [hw]
  clear hw w'
  go_upto_region 8 with fail
  have Xd : Hid (Two w W.drew (docC S) (docC zeroS)) := T0.out.step (Below.drew (Below.refl _ _))
  refine wp_region_held_drew (S := fun V => Box 34 V w.heap.size (docC S)) (by kernel_rfl) Xd.out.1 ?_
  intro hS
  refine wpAnyH_take (i := 0) (v := .agg (docC S)) rfl (by kernel_rfl) (by kernel_rfl) (by kernel_rfl) (fun _ _ _ h => h) (Or.inl ⟨by kernel_rfl, fun V hV => yield_doc hV _ rfl rfl⟩) hS ?_
  (try simp only [Act.put, List.getElem_toArray, List.getElem_cons_succ, List.getElem_cons_zero, List.setIfInBounds_toArray, List.set_cons_zero, List.set_cons_succ])
  refine wpAnyH_take (i := 1) (v := ?_) rfl (by kernel_rfl) (by kernel_rfl) (by kernel_rfl) (fun _ _ _ h => h) (Or.inl ⟨by kernel_rfl, ?_⟩) hS ?_
  rotate_left
  · intro w hSw; (try dsimp only at hSw); go_simp; try (with_reducible rfl)
  (try simp only [Act.put, List.getElem_toArray, List.getElem_cons_succ, List.getElem_cons_zero, List.setIfInBounds_toArray, List.set_cons_zero, List.set_cons_succ])
  refine wpAnyH_take (i := 2) (v := ?_) rfl (by kernel_rfl) (by kernel_rfl) (by kernel_rfl) (fun _ _ _ h => h) (Or.inl ⟨by kernel_rfl, ?_⟩) hS ?_
  rotate_left
  · intro w hSw; (try dsimp only at hSw); go_simp; try (with_reducible rfl)
  (try simp only [Act.put, List.getElem_toArray, List.getElem_cons_succ, List.getElem_cons_zero, List.setIfInBounds_toArray, List.set_cons_zero, List.set_cons_succ])
  refine wpAnyH_take (i := 3) (v := ?_) rfl (by kernel_rfl) (by kernel_rfl) (by kernel_rfl) (fun _ _ _ h => h) (Or.inl ⟨by kernel_rfl, ?_⟩) hS ?_
  rotate_left
  · intro w hSw; (try dsimp only at hSw); go_simp; try (with_reducible rfl)
  (try simp only [Act.put, List.getElem_toArray, List.getElem_cons_succ, List.getElem_cons_zero, List.setIfInBounds_toArray, List.set_cons_zero, List.set_cons_succ])
  refine wpAnyH_take (i := 4) (v := ?_) rfl (by kernel_rfl) (by kernel_rfl) (by kernel_rfl) (fun _ _ _ h => h) (Or.inl ⟨by kernel_rfl, ?_⟩) hS ?_
  rotate_left
  · intro w hSw; (try dsimp only at hSw); go_simp; try (with_reducible rfl)
  (try simp only [Act.put, List.getElem_toArray, List.getElem_cons_succ, List.getElem_cons_zero, List.setIfInBounds_toArray, List.set_cons_zero, List.set_cons_succ])
  refine wpAnyH_take (i := 5) (v := ?_) rfl (by kernel_rfl) (by kernel_rfl) (by kernel_rfl) (fun _ _ _ h => h) (Or.inl ⟨by kernel_rfl, ?_⟩) hS ?_
  rotate_left
  · intro w hSw; (try dsimp only at hSw); go_simp; try (with_reducible rfl)
  (try simp only [Act.put, List.getElem_toArray, List.getElem_cons_succ, List.getElem_cons_zero, List.setIfInBounds_toArray, List.set_cons_zero, List.set_cons_succ])
  refine wpAnyH_take (i := 6) (v := .agg (marksC (S.lets 0))) rfl (by kernel_rfl) (by kernel_rfl) (by kernel_rfl) (fun _ _ _ h => h) (Or.inl ⟨by kernel_rfl, fun V hV => yield_marks w.heap.size 128 (S.lets 0) (fun i hi => Box.dlets hV 0 i (by omega) hi) _ rfl rfl⟩) hS ?_
  (try simp only [Act.put, List.getElem_toArray, List.getElem_cons_succ, List.getElem_cons_zero, List.setIfInBounds_toArray, List.set_cons_zero, List.set_cons_succ])
  refine wpAnyH_ready (rs := [7]) (by kernel_rfl) (by simp) ?_
  refine AllReadyH.cons rfl (fun K1 hK1 => ?_) AllReadyH.nil
  go_simp
  refine (hd _).mono ?_
  rintro e w3 ⟨rfl, hb⟩
  have X3 : Hid (Two w w3 (docC S) (docC zeroS)) := Xd.out.step hb
  clear hb
  refine hK1.out _ _ X3.out.1 (fun hS3 => ?_)
  clear hK1 K1 hS
  (try simp only [Act.put, List.getElem_toArray, List.getElem_cons_succ, List.getElem_cons_zero, List.setIfInBounds_toArray, List.set_cons_zero, List.set_cons_succ])
  refine wpAnyH_ready (rs := [8]) (by kernel_rfl) (by simp) ?_
  refine AllReadyH.cons rfl (fun K1 hK1 => ?_) AllReadyH.nil
  rw [if_pos (by kernel_rfl)]
  refine wp_store_doc _ _ rfl (w.heap.size + 1) S (docC zeroS) rfl rfl X3.out.2.1 (by rw [docC_size, docC_size]) ?_
  intro W9 B9 U9
  have Xs : Hid (Two w W9 (docC S) (docC S)) := ⟨U9.box X3.out.1 (by omega), B9, X3.out.2.2.trans (U9.below (Nat.le_succ _) X3.out.2.2.size)⟩
  have T9 : Hid (Box 34 W9 (w.heap.size + 1) (docC S) ∧ Below w.heap.size w W9) := Xs.out.2
  clear B9 U9
  refine hK1.out _ _ Xs.out.1 (fun hS9 => ?_)
  clear hK1 K1 hS3
  (try simp only [Act.put, List.getElem_toArray, List.getElem_cons_succ, List.getElem_cons_zero, List.setIfInBounds_toArray, List.set_cons_zero, List.set_cons_succ])
  refine wpAnyH_take (i := 9) (v := ?_) rfl (by kernel_rfl) (by kernel_rfl) (by kernel_rfl) (fun _ _ _ h => h) (Or.inl ⟨by kernel_rfl, ?_⟩) hS9 ?_
  rotate_left
  · intro w hSw; (try dsimp only at hSw); go_simp; try (with_reducible rfl)
  (try simp only [Act.put, List.getElem_toArray, List.getElem_cons_succ, List.getElem_cons_zero, List.setIfInBounds_toArray, List.set_cons_zero, List.set_cons_succ])
  refine wpAnyH_take (i := 10) (v := ?_) rfl (by kernel_rfl) (by kernel_rfl) (by kernel_rfl) (fun _ _ _ h => h) (Or.inl ⟨by kernel_rfl, ?_⟩) hS9 ?_
  rotate_left
  · intro w hSw; (try dsimp only at hSw); go_simp; try (with_reducible rfl)
  (try simp only [Act.put, List.getElem_toArray, List.getElem_cons_succ, List.getElem_cons_zero, List.setIfInBounds_toArray, List.set_cons_zero, List.set_cons_succ])
  refine wpAnyH_done (by kernel_rfl) ?_ _
  clear hS9
  go_wp2_with fail
  exact bodyPost_ret (v := .tuple #[.agg (docC (S)), .int .u64 (S.lets 0 : Nat), .bool true]) (resultsD3 (p := 6) (t := 7) (u := 8) rfl _ _ (w.heap.size + 1) (S) rfl T9.out.1) rfl ⟨rfl, T9.out.2⟩
set_option maxHeartbeats 2000000 in
theorem dload_lets1 (S : St) (hS : S.Ok) (w : World) : Calls Tryd.prog 28 #[.agg (docC S), .int .u64 8320, .int .i64 4] w fun e w' => e = .returned (.tuple #[.agg (docC (S)), .int .u64 (S.lets 1 : Nat), .bool true]) ∧ Below w.heap.size w w' := by
  have hm : ∀ w, Calls Tryd.prog 39 #[.int .u64 8320, .int .i64 4] w fun e w' => e = .returned (.bool true) ∧ w' = w := fun w => dmay_any 8320 4 (by decide) w
  have hd := dword_any (S.lets 1) (hS.2.2.2.2.1 1)
  have hz : IntKind.u64.wrap ((IntKind.u64.wrap 128).tdiv 128) = 1 := by decide
  clear hS
  go_enter Tryd.func28, Tryd.ntmps28
  go_upto_region 0 with fail
  refine wp_region_list ?_
  refine wpList_enter2 _ _ rfl rfl rfl rfl rfl ?_
  intro W hT0
  have T0 : Hid (Two w W (docC (S)) (docC zeroS)) := hT0
  clear hT0
  go_wp2_with fail
  refine (hm _).mono ?_
  rintro e w' ⟨rfl, hw⟩
  rw [hw]
  clear hw w'
  go_upto_region 8 with fail
  have Xd : Hid (Two w W.drew (docC S) (docC zeroS)) := T0.out.step (Below.drew (Below.refl _ _))
  refine wp_region_held_drew (S := fun V => Box 34 V w.heap.size (docC S)) (by kernel_rfl) Xd.out.1 ?_
  intro hS
  refine wpAnyH_take (i := 0) (v := .agg (docC S)) rfl (by kernel_rfl) (by kernel_rfl) (by kernel_rfl) (fun _ _ _ h => h) (Or.inl ⟨by kernel_rfl, fun V hV => yield_doc hV _ rfl rfl⟩) hS ?_
  (try simp only [Act.put, List.getElem_toArray, List.getElem_cons_succ, List.getElem_cons_zero, List.setIfInBounds_toArray, List.set_cons_zero, List.set_cons_succ])
  refine wpAnyH_take (i := 1) (v := ?_) rfl (by kernel_rfl) (by kernel_rfl) (by kernel_rfl) (fun _ _ _ h => h) (Or.inl ⟨by kernel_rfl, ?_⟩) hS ?_
  rotate_left
  · intro w hSw; (try dsimp only at hSw); go_simp; try (with_reducible rfl)
  (try simp only [Act.put, List.getElem_toArray, List.getElem_cons_succ, List.getElem_cons_zero, List.setIfInBounds_toArray, List.set_cons_zero, List.set_cons_succ])
  refine wpAnyH_take (i := 2) (v := ?_) rfl (by kernel_rfl) (by kernel_rfl) (by kernel_rfl) (fun _ _ _ h => h) (Or.inl ⟨by kernel_rfl, ?_⟩) hS ?_
  rotate_left
  · intro w hSw; (try dsimp only at hSw); go_simp; try (with_reducible rfl)
  (try simp only [Act.put, List.getElem_toArray, List.getElem_cons_succ, List.getElem_cons_zero, List.setIfInBounds_toArray, List.set_cons_zero, List.set_cons_succ])
  refine wpAnyH_take (i := 3) (v := ?_) rfl (by kernel_rfl) (by kernel_rfl) (by kernel_rfl) (fun _ _ _ h => h) (Or.inl ⟨by kernel_rfl, ?_⟩) hS ?_
  rotate_left
  · intro w hSw; (try dsimp only at hSw); go_simp; try (with_reducible rfl)
  (try simp only [Act.put, List.getElem_toArray, List.getElem_cons_succ, List.getElem_cons_zero, List.setIfInBounds_toArray, List.set_cons_zero, List.set_cons_succ])
  refine wpAnyH_take (i := 4) (v := ?_) rfl (by kernel_rfl) (by kernel_rfl) (by kernel_rfl) (fun _ _ _ h => h) (Or.inl ⟨by kernel_rfl, ?_⟩) hS ?_
  rotate_left
  · intro w hSw; (try dsimp only at hSw); go_simp; try (with_reducible rfl)
  (try simp only [Act.put, List.getElem_toArray, List.getElem_cons_succ, List.getElem_cons_zero, List.setIfInBounds_toArray, List.set_cons_zero, List.set_cons_succ])
  refine wpAnyH_take (i := 5) (v := ?_) rfl (by kernel_rfl) (by kernel_rfl) (by kernel_rfl) (fun _ _ _ h => h) (Or.inl ⟨by kernel_rfl, ?_⟩) hS ?_
  rotate_left
  · intro w hSw; (try dsimp only at hSw); go_simp; try (with_reducible rfl)
  (try simp only [Act.put, List.getElem_toArray, List.getElem_cons_succ, List.getElem_cons_zero, List.setIfInBounds_toArray, List.set_cons_zero, List.set_cons_succ])
  refine wpAnyH_take (i := 6) (v := .agg (marksC (S.lets 1))) rfl (by kernel_rfl) (by kernel_rfl) (by kernel_rfl) (fun _ _ _ h => h) (Or.inl ⟨by kernel_rfl, fun V hV => yield_marks w.heap.size 160 (S.lets 1) (fun i hi => Box.dlets hV 1 i (by omega) hi) _ rfl rfl⟩) hS ?_
  (try simp only [Act.put, List.getElem_toArray, List.getElem_cons_succ, List.getElem_cons_zero, List.setIfInBounds_toArray, List.set_cons_zero, List.set_cons_succ])
  refine wpAnyH_ready (rs := [7]) (by kernel_rfl) (by simp) ?_
  refine AllReadyH.cons rfl (fun K1 hK1 => ?_) AllReadyH.nil
  go_simp
  refine (hd _).mono ?_
  rintro e w3 ⟨rfl, hb⟩
  have X3 : Hid (Two w w3 (docC S) (docC zeroS)) := Xd.out.step hb
  clear hb
  refine hK1.out _ _ X3.out.1 (fun hS3 => ?_)
  clear hK1 K1 hS
  (try simp only [Act.put, List.getElem_toArray, List.getElem_cons_succ, List.getElem_cons_zero, List.setIfInBounds_toArray, List.set_cons_zero, List.set_cons_succ])
  refine wpAnyH_ready (rs := [8]) (by kernel_rfl) (by simp) ?_
  refine AllReadyH.cons rfl (fun K1 hK1 => ?_) AllReadyH.nil
  rw [if_pos (by kernel_rfl)]
  refine wp_store_doc _ _ rfl (w.heap.size + 1) S (docC zeroS) rfl rfl X3.out.2.1 (by rw [docC_size, docC_size]) ?_
  intro W9 B9 U9
  have Xs : Hid (Two w W9 (docC S) (docC S)) := ⟨U9.box X3.out.1 (by omega), B9, X3.out.2.2.trans (U9.below (Nat.le_succ _) X3.out.2.2.size)⟩
  have T9 : Hid (Box 34 W9 (w.heap.size + 1) (docC S) ∧ Below w.heap.size w W9) := Xs.out.2
  clear B9 U9
  refine hK1.out _ _ Xs.out.1 (fun hS9 => ?_)
  clear hK1 K1 hS3
  (try simp only [Act.put, List.getElem_toArray, List.getElem_cons_succ, List.getElem_cons_zero, List.setIfInBounds_toArray, List.set_cons_zero, List.set_cons_succ])
  refine wpAnyH_take (i := 9) (v := ?_) rfl (by kernel_rfl) (by kernel_rfl) (by kernel_rfl) (fun _ _ _ h => h) (Or.inl ⟨by kernel_rfl, ?_⟩) hS9 ?_
  rotate_left
  · intro w hSw; (try dsimp only at hSw); go_simp; try (with_reducible rfl)
  (try simp only [Act.put, List.getElem_toArray, List.getElem_cons_succ, List.getElem_cons_zero, List.setIfInBounds_toArray, List.set_cons_zero, List.set_cons_succ])
  refine wpAnyH_take (i := 10) (v := ?_) rfl (by kernel_rfl) (by kernel_rfl) (by kernel_rfl) (fun _ _ _ h => h) (Or.inl ⟨by kernel_rfl, ?_⟩) hS9 ?_
  rotate_left
  · intro w hSw; (try dsimp only at hSw); go_simp; try (with_reducible rfl)
  (try simp only [Act.put, List.getElem_toArray, List.getElem_cons_succ, List.getElem_cons_zero, List.setIfInBounds_toArray, List.set_cons_zero, List.set_cons_succ])
  refine wpAnyH_done (by kernel_rfl) ?_ _
  clear hS9
  go_wp2_with fail
  exact bodyPost_ret (v := .tuple #[.agg (docC (S)), .int .u64 (S.lets 1 : Nat), .bool true]) (resultsD3 (p := 6) (t := 7) (u := 8) rfl _ _ (w.heap.size + 1) (S) rfl T9.out.1) rfl ⟨rfl, T9.out.2⟩
set_option maxHeartbeats 2000000 in
theorem dload_least0 (S : St) (hS : S.Ok) (w : World) : Calls Tryd.prog 28 #[.agg (docC S), .int .u64 2097152, .int .i64 4] w fun e w' => e = .returned (.tuple #[.agg (docC (S)), .int .u64 (S.least 0 : Nat), .bool true]) ∧ Below w.heap.size w w' := by
  have hm : ∀ w, Calls Tryd.prog 39 #[.int .u64 2097152, .int .i64 4] w fun e w' => e = .returned (.bool true) ∧ w' = w := fun w => dmay_any 2097152 4 (by decide) w
  have hq6 : IntKind.u64.wrap ((S.least 0 : Nat) : Int) = (S.least 0 : Nat) := by rw [wrap_u64]; have := hS.2.2.2.2.2 0; omega
  have hz : IntKind.u64.wrap ((IntKind.u64.wrap 0).tdiv 4096) = 0 := by decide
  clear hS
  go_enter Tryd.func28, Tryd.ntmps28
  go_upto_region 0 with fail
  refine wp_region_list ?_
  refine wpList_enter2 _ _ rfl rfl rfl rfl rfl ?_
  intro W hT0
  have T0 : Hid (Two w W (docC (S)) (docC zeroS)) := hT0
  clear hT0
  go_wp2_with fail
  refine (hm _).mono ?_
  rintro e w' ⟨rfl, hw⟩
  rw [hw]
  clear hw w'
  go_upto_region 10 with fail
  have Xd : Hid (Two w W.drew (docC S) (docC zeroS)) := T0.out.step (Below.drew (Below.refl _ _))
  refine wp_region_held_drew (S := fun V => Box 34 V w.heap.size (docC S) ∧ V.cell? ⟨w.heap.size, 192, none⟩ = some (.int .i64 (S.least 0 : Nat))) (by kernel_rfl) ⟨Xd.out.1, Xd.out.1.dleast 0 (by omega)⟩ ?_
  intro hS
  refine wpAnyH_take (i := 0) (v := .agg (docC S)) rfl (by kernel_rfl) (by kernel_rfl) (by kernel_rfl) (fun _ _ _ h => h) (Or.inl ⟨by kernel_rfl, fun V hV => yield_doc hV.1 _ rfl rfl⟩) hS ?_
  (try simp only [Act.put, List.getElem_toArray, List.getElem_cons_succ, List.getElem_cons_zero, List.setIfInBounds_toArray, List.set_cons_zero, List.set_cons_succ])
  refine wpAnyH_take (i := 1) (v := ?_) rfl (by kernel_rfl) (by kernel_rfl) (by kernel_rfl) (fun _ _ _ h => h) (Or.inl ⟨by kernel_rfl, ?_⟩) hS ?_
  rotate_left
  · intro w hSw; (try dsimp only at hSw); go_simp; try (with_reducible rfl)
  (try simp only [Act.put, List.getElem_toArray, List.getElem_cons_succ, List.getElem_cons_zero, List.setIfInBounds_toArray, List.set_cons_zero, List.set_cons_succ])
  refine wpAnyH_take (i := 2) (v := ?_) rfl (by kernel_rfl) (by kernel_rfl) (by kernel_rfl) (fun _ _ _ h => h) (Or.inl ⟨by kernel_rfl, ?_⟩) hS ?_
  rotate_left
  · intro w hSw; (try dsimp only at hSw); go_simp; try (with_reducible rfl)
  (try simp only [Act.put, List.getElem_toArray, List.getElem_cons_succ, List.getElem_cons_zero, List.setIfInBounds_toArray, List.set_cons_zero, List.set_cons_succ])
  refine wpAnyH_take (i := 3) (v := ?_) rfl (by kernel_rfl) (by kernel_rfl) (by kernel_rfl) (fun _ _ _ h => h) (Or.inl ⟨by kernel_rfl, ?_⟩) hS ?_
  rotate_left
  · intro w hSw; (try dsimp only at hSw); go_simp; try (with_reducible rfl)
  (try simp only [Act.put, List.getElem_toArray, List.getElem_cons_succ, List.getElem_cons_zero, List.setIfInBounds_toArray, List.set_cons_zero, List.set_cons_succ])
  refine wpAnyH_take (i := 4) (v := ?_) rfl (by kernel_rfl) (by kernel_rfl) (by kernel_rfl) (fun _ _ _ h => h) (Or.inl ⟨by kernel_rfl, ?_⟩) hS ?_
  rotate_left
  · intro w hSw; (try dsimp only at hSw); go_simp; try (with_reducible rfl)
  (try simp only [Act.put, List.getElem_toArray, List.getElem_cons_succ, List.getElem_cons_zero, List.setIfInBounds_toArray, List.set_cons_zero, List.set_cons_succ])
  refine wpAnyH_take (i := 5) (v := ?_) rfl (by kernel_rfl) (by kernel_rfl) (by kernel_rfl) (fun _ _ _ h => h) (Or.inl ⟨by kernel_rfl, ?_⟩) hS ?_
  rotate_left
  · intro w hSw; (try dsimp only at hSw); go_simp; try (with_reducible rfl)
  (try simp only [Act.put, List.getElem_toArray, List.getElem_cons_succ, List.getElem_cons_zero, List.setIfInBounds_toArray, List.set_cons_zero, List.set_cons_succ])
  refine wpAnyH_take (i := 6) (v := ?_) rfl (by kernel_rfl) (by kernel_rfl) (by kernel_rfl) (fun _ _ _ h => h) (Or.inl ⟨by kernel_rfl, ?_⟩) hS ?_
  rotate_left
  · intro w hSw; (try dsimp only at hSw); go_simp; try (with_reducible rfl)
  (try simp only [Act.put, List.getElem_toArray, List.getElem_cons_succ, List.getElem_cons_zero, List.setIfInBounds_toArray, List.set_cons_zero, List.set_cons_succ])
  refine wpAnyH_take (i := 7) (v := ?_) rfl (by kernel_rfl) (by kernel_rfl) (by kernel_rfl) (fun _ _ _ h => h) (Or.inl ⟨by kernel_rfl, ?_⟩) hS ?_
  rotate_left
  · intro w hSw; (try dsimp only at hSw); go_simp; try (with_reducible rfl)
  (try simp only [Act.put, List.getElem_toArray, List.getElem_cons_succ, List.getElem_cons_zero, List.setIfInBounds_toArray, List.set_cons_zero, List.set_cons_succ])
  refine wpAnyH_ready (rs := [8]) (by kernel_rfl) (by simp) ?_
  refine AllReadyH.cons rfl (fun K1 hK1 => ?_) AllReadyH.nil
  rw [if_pos (by kernel_rfl)]
  refine wp_store_doc _ _ rfl (w.heap.size + 1) S (docC zeroS) rfl rfl Xd.out.2.1 (by rw [docC_size, docC_size]) ?_
  intro W9 B9 U9
  have Xs : Hid (Two w W9 (docC S) (docC S)) := ⟨U9.box Xd.out.1 (by omega), B9, Xd.out.2.2.trans (U9.below (Nat.le_succ _) Xd.out.2.2.size)⟩
  have T9 : Hid (Box 34 W9 (w.heap.size + 1) (docC S) ∧ Below w.heap.size w W9) := Xs.out.2
  clear B9 U9
  refine hK1.out _ _ ⟨Xs.out.1, Xs.out.1.dleast 0 (by omega)⟩ (fun hS9 => ?_)
  clear hK1 K1 hS
  (try simp only [Act.put, List.getElem_toArray, List.getElem_cons_succ, List.getElem_cons_zero, List.setIfInBounds_toArray, List.set_cons_zero, List.set_cons_succ])
  refine wpAnyH_take (i := 9) (v := ?_) rfl (by kernel_rfl) (by kernel_rfl) (by kernel_rfl) (fun _ _ _ h => h) (Or.inl ⟨by kernel_rfl, ?_⟩) hS9 ?_
  rotate_left
  · intro w hSw; (try dsimp only at hSw); go_simp; try (with_reducible rfl)
  (try simp only [Act.put, List.getElem_toArray, List.getElem_cons_succ, List.getElem_cons_zero, List.setIfInBounds_toArray, List.set_cons_zero, List.set_cons_succ])
  refine wpAnyH_take (i := 10) (v := ?_) rfl (by kernel_rfl) (by kernel_rfl) (by kernel_rfl) (fun _ _ _ h => h) (Or.inl ⟨by kernel_rfl, ?_⟩) hS9 ?_
  rotate_left
  · intro w hSw; (try dsimp only at hSw); go_simp; try (with_reducible rfl)
  (try simp only [Act.put, List.getElem_toArray, List.getElem_cons_succ, List.getElem_cons_zero, List.setIfInBounds_toArray, List.set_cons_zero, List.set_cons_succ])
  refine wpAnyH_done (by kernel_rfl) ?_ _
  clear hS9
  go_wp2_with fail
  exact bodyPost_ret (v := .tuple #[.agg (docC (S)), .int .u64 (S.least 0 : Nat), .bool true]) (resultsD3 (p := 6) (t := 7) (u := 8) rfl _ _ (w.heap.size + 1) (S) rfl T9.out.1) rfl ⟨rfl, T9.out.2⟩
set_option maxHeartbeats 2000000 in
theorem dload_least1 (S : St) (hS : S.Ok) (w : World) : Calls Tryd.prog 28 #[.agg (docC S), .int .u64 2101248, .int .i64 4] w fun e w' => e = .returned (.tuple #[.agg (docC (S)), .int .u64 (S.least 1 : Nat), .bool true]) ∧ Below w.heap.size w w' := by
  have hm : ∀ w, Calls Tryd.prog 39 #[.int .u64 2101248, .int .i64 4] w fun e w' => e = .returned (.bool true) ∧ w' = w := fun w => dmay_any 2101248 4 (by decide) w
  have hq6 : IntKind.u64.wrap ((S.least 1 : Nat) : Int) = (S.least 1 : Nat) := by rw [wrap_u64]; have := hS.2.2.2.2.2 1; omega
  have hz : IntKind.u64.wrap ((IntKind.u64.wrap 4096).tdiv 4096) = 1 := by decide
  clear hS
  go_enter Tryd.func28, Tryd.ntmps28
  go_upto_region 0 with fail
  refine wp_region_list ?_
  refine wpList_enter2 _ _ rfl rfl rfl rfl rfl ?_
  intro W hT0
  have T0 : Hid (Two w W (docC (S)) (docC zeroS)) := hT0
  clear hT0
  go_wp2_with fail
  refine (hm _).mono ?_
  rintro e w' ⟨rfl, hw⟩
  rw [hw]
  clear hw w'
  go_upto_region 10 with fail
  have Xd : Hid (Two w W.drew (docC S) (docC zeroS)) := T0.out.step (Below.drew (Below.refl _ _))
  refine wp_region_held_drew (S := fun V => Box 34 V w.heap.size (docC S) ∧ V.cell? ⟨w.heap.size, 193, none⟩ = some (.int .i64 (S.least 1 : Nat))) (by kernel_rfl) ⟨Xd.out.1, Xd.out.1.dleast 1 (by omega)⟩ ?_
  intro hS
  refine wpAnyH_take (i := 0) (v := .agg (docC S)) rfl (by kernel_rfl) (by kernel_rfl) (by kernel_rfl) (fun _ _ _ h => h) (Or.inl ⟨by kernel_rfl, fun V hV => yield_doc hV.1 _ rfl rfl⟩) hS ?_
  (try simp only [Act.put, List.getElem_toArray, List.getElem_cons_succ, List.getElem_cons_zero, List.setIfInBounds_toArray, List.set_cons_zero, List.set_cons_succ])
  refine wpAnyH_take (i := 1) (v := ?_) rfl (by kernel_rfl) (by kernel_rfl) (by kernel_rfl) (fun _ _ _ h => h) (Or.inl ⟨by kernel_rfl, ?_⟩) hS ?_
  rotate_left
  · intro w hSw; (try dsimp only at hSw); go_simp; try (with_reducible rfl)
  (try simp only [Act.put, List.getElem_toArray, List.getElem_cons_succ, List.getElem_cons_zero, List.setIfInBounds_toArray, List.set_cons_zero, List.set_cons_succ])
  refine wpAnyH_take (i := 2) (v := ?_) rfl (by kernel_rfl) (by kernel_rfl) (by kernel_rfl) (fun _ _ _ h => h) (Or.inl ⟨by kernel_rfl, ?_⟩) hS ?_
  rotate_left
  · intro w hSw; (try dsimp only at hSw); go_simp; try (with_reducible rfl)
  (try simp only [Act.put, List.getElem_toArray, List.getElem_cons_succ, List.getElem_cons_zero, List.setIfInBounds_toArray, List.set_cons_zero, List.set_cons_succ])
  refine wpAnyH_take (i := 3) (v := ?_) rfl (by kernel_rfl) (by kernel_rfl) (by kernel_rfl) (fun _ _ _ h => h) (Or.inl ⟨by kernel_rfl, ?_⟩) hS ?_
  rotate_left
  · intro w hSw; (try dsimp only at hSw); go_simp; try (with_reducible rfl)
  (try simp only [Act.put, List.getElem_toArray, List.getElem_cons_succ, List.getElem_cons_zero, List.setIfInBounds_toArray, List.set_cons_zero, List.set_cons_succ])
  refine wpAnyH_take (i := 4) (v := ?_) rfl (by kernel_rfl) (by kernel_rfl) (by kernel_rfl) (fun _ _ _ h => h) (Or.inl ⟨by kernel_rfl, ?_⟩) hS ?_
  rotate_left
  · intro w hSw; (try dsimp only at hSw); go_simp; try (with_reducible rfl)
  (try simp only [Act.put, List.getElem_toArray, List.getElem_cons_succ, List.getElem_cons_zero, List.setIfInBounds_toArray, List.set_cons_zero, List.set_cons_succ])
  refine wpAnyH_take (i := 5) (v := ?_) rfl (by kernel_rfl) (by kernel_rfl) (by kernel_rfl) (fun _ _ _ h => h) (Or.inl ⟨by kernel_rfl, ?_⟩) hS ?_
  rotate_left
  · intro w hSw; (try dsimp only at hSw); go_simp; try (with_reducible rfl)
  (try simp only [Act.put, List.getElem_toArray, List.getElem_cons_succ, List.getElem_cons_zero, List.setIfInBounds_toArray, List.set_cons_zero, List.set_cons_succ])
  refine wpAnyH_take (i := 6) (v := ?_) rfl (by kernel_rfl) (by kernel_rfl) (by kernel_rfl) (fun _ _ _ h => h) (Or.inl ⟨by kernel_rfl, ?_⟩) hS ?_
  rotate_left
  · intro w hSw; (try dsimp only at hSw); go_simp; try (with_reducible rfl)
  (try simp only [Act.put, List.getElem_toArray, List.getElem_cons_succ, List.getElem_cons_zero, List.setIfInBounds_toArray, List.set_cons_zero, List.set_cons_succ])
  refine wpAnyH_take (i := 7) (v := ?_) rfl (by kernel_rfl) (by kernel_rfl) (by kernel_rfl) (fun _ _ _ h => h) (Or.inl ⟨by kernel_rfl, ?_⟩) hS ?_
  rotate_left
  · intro w hSw; (try dsimp only at hSw); go_simp; try (with_reducible rfl)
  (try simp only [Act.put, List.getElem_toArray, List.getElem_cons_succ, List.getElem_cons_zero, List.setIfInBounds_toArray, List.set_cons_zero, List.set_cons_succ])
  refine wpAnyH_ready (rs := [8]) (by kernel_rfl) (by simp) ?_
  refine AllReadyH.cons rfl (fun K1 hK1 => ?_) AllReadyH.nil
  rw [if_pos (by kernel_rfl)]
  refine wp_store_doc _ _ rfl (w.heap.size + 1) S (docC zeroS) rfl rfl Xd.out.2.1 (by rw [docC_size, docC_size]) ?_
  intro W9 B9 U9
  have Xs : Hid (Two w W9 (docC S) (docC S)) := ⟨U9.box Xd.out.1 (by omega), B9, Xd.out.2.2.trans (U9.below (Nat.le_succ _) Xd.out.2.2.size)⟩
  have T9 : Hid (Box 34 W9 (w.heap.size + 1) (docC S) ∧ Below w.heap.size w W9) := Xs.out.2
  clear B9 U9
  refine hK1.out _ _ ⟨Xs.out.1, Xs.out.1.dleast 1 (by omega)⟩ (fun hS9 => ?_)
  clear hK1 K1 hS
  (try simp only [Act.put, List.getElem_toArray, List.getElem_cons_succ, List.getElem_cons_zero, List.setIfInBounds_toArray, List.set_cons_zero, List.set_cons_succ])
  refine wpAnyH_take (i := 9) (v := ?_) rfl (by kernel_rfl) (by kernel_rfl) (by kernel_rfl) (fun _ _ _ h => h) (Or.inl ⟨by kernel_rfl, ?_⟩) hS9 ?_
  rotate_left
  · intro w hSw; (try dsimp only at hSw); go_simp; try (with_reducible rfl)
  (try simp only [Act.put, List.getElem_toArray, List.getElem_cons_succ, List.getElem_cons_zero, List.setIfInBounds_toArray, List.set_cons_zero, List.set_cons_succ])
  refine wpAnyH_take (i := 10) (v := ?_) rfl (by kernel_rfl) (by kernel_rfl) (by kernel_rfl) (fun _ _ _ h => h) (Or.inl ⟨by kernel_rfl, ?_⟩) hS9 ?_
  rotate_left
  · intro w hSw; (try dsimp only at hSw); go_simp; try (with_reducible rfl)
  (try simp only [Act.put, List.getElem_toArray, List.getElem_cons_succ, List.getElem_cons_zero, List.setIfInBounds_toArray, List.set_cons_zero, List.set_cons_succ])
  refine wpAnyH_done (by kernel_rfl) ?_ _
  clear hS9
  go_wp2_with fail
  exact bodyPost_ret (v := .tuple #[.agg (docC (S)), .int .u64 (S.least 1 : Nat), .bool true]) (resultsD3 (p := 6) (t := 7) (u := 8) rfl _ _ (w.heap.size + 1) (S) rfl T9.out.1) rfl ⟨rfl, T9.out.2⟩
set_option maxHeartbeats 2000000 in
theorem dload_claim0 (S : St) (hS : S.Ok) (w : World) : Calls Tryd.prog 28 #[.agg (docC S), .int .u64 2097156, .int .i64 4] w fun e w' => e = .returned (.tuple #[.agg (docC (takeS S 0)), .int .u64 (firstN S 0 : Nat), .bool true]) ∧ Below w.heap.size w w' := by
  have hm : ∀ w, Calls Tryd.prog 39 #[.int .u64 2097156, .int .i64 4] w fun e w' => e = .returned (.bool true) ∧ w' = w := fun w => dmay_any 2097156 4 (by decide) w
  have hd : ∀ V, Calls Tryd.prog 26 #[.agg (docC S), .int .i64 0] V fun e w' => e = .returned (.tuple #[.agg (docC (takeS S 0)), .int .i64 (firstN S 0 : Nat)]) ∧ Below V.heap.size V w' := fun V => dtake_any S 0 (by omega) V
  have hq6 : IntKind.u64.wrap ((firstN S 0 : Nat) : Int) = (firstN S 0 : Nat) := by rw [wrap_u64]; have := firstN_lt S 0; omega
  clear hS
  go_enter Tryd.func28, Tryd.ntmps28
  go_upto_region 0 with fail
  refine wp_region_list ?_
  refine wpList_enter2 _ _ rfl rfl rfl rfl rfl ?_
  intro W hT0
  have T0 : Hid (Two w W (docC (S)) (docC zeroS)) := hT0
  clear hT0
  go_wp2_with fail
  refine (hm _).mono ?_
  rintro e w' ⟨rfl, hw⟩
  rw [hw]
  clear hw w'
  go_upto_region 12 with fail
  refine wp_region_list ?_
  refine wpList_load_doc rfl _ rfl w.heap.size (S) rfl T0.out.1 ?_
  (refine wpList_step (fun KK hKK => ?_); go_simp; refine hKK _ _ ?_; clear hKK KK)
  (refine wpList_step (fun KK hKK => ?_); go_simp; refine hKK _ _ ?_; clear hKK KK)
  (refine wpList_step (fun KK hKK => ?_); go_simp; refine hKK _ _ ?_; clear hKK KK)
  (refine wpList_step (fun KK hKK => ?_); go_simp; refine hKK _ _ ?_; clear hKK KK)
  refine wpList_step (fun KK hKK => ?_)
  go_simp
  refine (hd _).mono ?_
  rintro e w2 ⟨rfl, hb2⟩
  have T2 : Hid (Two w w2 (docC S) (docC zeroS)) := T0.out.step hb2
  clear hb2 T0 hd
  refine hKK _ _ ?_
  clear hKK KK
  (refine wpList_step (fun KK hKK => ?_); go_simp; refine hKK _ _ ?_; clear hKK KK)
  refine wpList_extract_at rfl _ _ _ _ rfl rfl rfl ?_
  refine wpList_extract_at rfl _ _ _ _ rfl rfl rfl ?_
  refine wpList_alloc_zero 34 (docC zeroS) 194 infoz34 rfl rfl ?_
  have B3 : Box 34 (w2.alloc (.cells (docC zeroS) 34)) w2.heap.size (docC zeroS) := Box.new 34 w2 _
  have T3 : Hid (Two w (w2.alloc (.cells (docC zeroS) 34)) (docC S) (docC zeroS)) := T2.out.step ((Below.refl _ _).alloc (Nat.le_refl _) _)
  have hlt : Hid (w.heap.size + 1 < w2.heap.size) := T2.out.2.1.lt
  generalize w2.alloc (.cells (docC zeroS) 34) = W3 at *
  generalize w2.heap.size = qb at *
  refine wpList_store_doc rfl _ _ rfl qb (takeS S 0) (docC zeroS) rfl rfl B3 (by rw [docC_size, docC_size]) ?_
  intro W4 B4 U4
  have T4 : Hid (Two w W4 (docC S) (docC zeroS) ∧ Box 34 W4 qb (docC (takeS S 0))) := ⟨⟨U4.box T3.out.1 (by have := hlt.out; omega), U4.box T3.out.2.1 (by have := hlt.out; omega), T3.out.2.2.trans (U4.below (by have := hlt.out; omega) T3.out.2.2.size)⟩, B4⟩
  clear B3 B4 U4 T3 T2
  go_upto_region 13 with fail
  refine wp_region_list ?_
  refine wpList_load_doc rfl _ rfl qb (takeS S 0) rfl T4.out.2 ?_
  (refine wpList_step (fun KK hKK => ?_); go_simp; refine hKK _ _ ?_; clear hKK KK)
  (refine wpList_step (fun KK hKK => ?_); go_simp; refine hKK _ _ ?_; clear hKK KK)
  refine wpList_store_doc rfl _ _ rfl (w.heap.size + 1) (takeS S 0) (docC zeroS) rfl rfl T4.out.1.2.1 (by rw [docC_size, docC_size]) ?_
  intro W9 B9 U9
  have T9 : Hid (Box 34 W9 (w.heap.size + 1) (docC (takeS S 0)) ∧ Below w.heap.size w W9) := ⟨B9, T4.out.1.2.2.trans (U9.below (Nat.le_succ _) T4.out.1.2.2.size)⟩
  clear B9 U9
  go_wp2_with fail
  exact bodyPost_ret (v := .tuple #[.agg (docC (takeS S 0)), .int .u64 (firstN S 0 : Nat), .bool true]) (resultsD3 (p := 6) (t := 7) (u := 8) rfl _ _ (w.heap.size + 1) (takeS S 0) rfl T9.out.1) rfl ⟨rfl, T9.out.2⟩
set_option maxHeartbeats 2000000 in
theorem dload_claim1 (S : St) (hS : S.Ok) (w : World) : Calls Tryd.prog 28 #[.agg (docC S), .int .u64 2101252, .int .i64 4] w fun e w' => e = .returned (.tuple #[.agg (docC (takeS S 1)), .int .u64 (firstN S 1 : Nat), .bool true]) ∧ Below w.heap.size w w' := by
  have hm : ∀ w, Calls Tryd.prog 39 #[.int .u64 2101252, .int .i64 4] w fun e w' => e = .returned (.bool true) ∧ w' = w := fun w => dmay_any 2101252 4 (by decide) w
  have hd : ∀ V, Calls Tryd.prog 26 #[.agg (docC S), .int .i64 1] V fun e w' => e = .returned (.tuple #[.agg (docC (takeS S 1)), .int .i64 (firstN S 1 : Nat)]) ∧ Below V.heap.size V w' := fun V => dtake_any S 1 (by omega) V
  have hq6 : IntKind.u64.wrap ((firstN S 1 : Nat) : Int) = (firstN S 1 : Nat) := by rw [wrap_u64]; have := firstN_lt S 1; omega
  clear hS
  go_enter Tryd.func28, Tryd.ntmps28
  go_upto_region 0 with fail
  refine wp_region_list ?_
  refine wpList_enter2 _ _ rfl rfl rfl rfl rfl ?_
  intro W hT0
  have T0 : Hid (Two w W (docC (S)) (docC zeroS)) := hT0
  clear hT0
  go_wp2_with fail
  refine (hm _).mono ?_
  rintro e w' ⟨rfl, hw⟩
  rw [hw]
  clear hw w'
  go_upto_region 12 with fail
  refine wp_region_list ?_
  refine wpList_load_doc rfl _ rfl w.heap.size (S) rfl T0.out.1 ?_
  (refine wpList_step (fun KK hKK => ?_); go_simp; refine hKK _ _ ?_; clear hKK KK)
  (refine wpList_step (fun KK hKK => ?_); go_simp; refine hKK _ _ ?_; clear hKK KK)
  (refine wpList_step (fun KK hKK => ?_); go_simp; refine hKK _ _ ?_; clear hKK KK)
  (refine wpList_step (fun KK hKK => ?_); go_simp; refine hKK _ _ ?_; clear hKK KK)
  refine wpList_step (fun KK hKK => ?_)
  go_simp
  refine (hd _).mono ?_
  rintro e w2 ⟨rfl, hb2⟩
  have T2 : Hid (Two w w2 (docC S) (docC zeroS)) := T0.out.step hb2
  clear hb2 T0 hd
  refine hKK _ _ ?_
  clear hKK KK
  (refine wpList_step (fun KK hKK => ?_); go_simp; refine hKK _ _ ?_; clear hKK KK)
  refine wpList_extract_at rfl _ _ _ _ rfl rfl rfl ?_
  refine wpList_extract_at rfl _ _ _ _ rfl rfl rfl ?_
  refine wpList_alloc_zero 34 (docC zeroS) 194 infoz34 rfl rfl ?_
  have B3 : Box 34 (w2.alloc (.cells (docC zeroS) 34)) w2.heap.size (docC zeroS) := Box.new 34 w2 _
  have T3 : Hid (Two w (w2.alloc (.cells (docC zeroS) 34)) (docC S) (docC zeroS)) := T2.out.step ((Below.refl _ _).alloc (Nat.le_refl _) _)
  have hlt : Hid (w.heap.size + 1 < w2.heap.size) := T2.out.2.1.lt
  generalize w2.alloc (.cells (docC zeroS) 34) = W3 at *
  generalize w2.heap.size = qb at *
  refine wpList_store_doc rfl _ _ rfl qb (takeS S 1) (docC zeroS) rfl rfl B3 (by rw [docC_size, docC_size]) ?_
  intro W4 B4 U4
  have T4 : Hid (Two w W4 (docC S) (docC zeroS) ∧ Box 34 W4 qb (docC (takeS S 1))) := ⟨⟨U4.box T3.out.1 (by have := hlt.out; omega), U4.box T3.out.2.1 (by have := hlt.out; omega), T3.out.2.2.trans (U4.below (by have := hlt.out; omega) T3.out.2.2.size)⟩, B4⟩
  clear B3 B4 U4 T3 T2
  go_upto_region 13 with fail
  refine wp_region_list ?_
  refine wpList_load_doc rfl _ rfl qb (takeS S 1) rfl T4.out.2 ?_
  (refine wpList_step (fun KK hKK => ?_); go_simp; refine hKK _ _ ?_; clear hKK KK)
  (refine wpList_step (fun KK hKK => ?_); go_simp; refine hKK _ _ ?_; clear hKK KK)
  refine wpList_store_doc rfl _ _ rfl (w.heap.size + 1) (takeS S 1) (docC zeroS) rfl rfl T4.out.1.2.1 (by rw [docC_size, docC_size]) ?_
  intro W9 B9 U9
  have T9 : Hid (Box 34 W9 (w.heap.size + 1) (docC (takeS S 1)) ∧ Below w.heap.size w W9) := ⟨B9, T4.out.1.2.2.trans (U9.below (Nat.le_succ _) T4.out.1.2.2.size)⟩
  clear B9 U9
  go_wp2_with fail
  exact bodyPost_ret (v := .tuple #[.agg (docC (takeS S 1)), .int .u64 (firstN S 1 : Nat), .bool true]) (resultsD3 (p := 6) (t := 7) (u := 8) rfl _ _ (w.heap.size + 1) (takeS S 1) rfl T9.out.1) rfl ⟨rfl, T9.out.2⟩
set_option maxHeartbeats 2000000 in
theorem dload_none (S : St) (a : Nat) (ha : a < 18446744073709551616) (h : mayB a 4 = true) (h1 : 128 ≤ a) (hne : a ≠ 4096 ∧ a ≠ 8192 ∧ a ≠ 8320 ∧ a ≠ 2097152 ∧ a ≠ 2101248 ∧ a ≠ 2097156 ∧ a ≠ 2101252) (w : World) : Calls Tryd.prog 28 #[.agg (docC S), .int .u64 (a : Int), .int .i64 4] w fun e w' => e = .returned (.tuple #[.agg (docC (S)), .int .u64 0, .bool true]) ∧ Below w.heap.size w w' := by
  have hm := dmay_any a 4 ha
  rw [h] at hm
  have hl : ¬ (a : Int) < 128 := by omega
  have e4096 : ((a : Int) == 4096) = false := by simp; omega
  have e8192 : ((a : Int) == 8192) = false := by simp; omega
  have e8320 : ((a : Int) == 8320) = false := by simp; omega
  have e2097152 : ((a : Int) == 2097152) = false := by simp; omega
  have e2101248 : ((a : Int) == 2101248) = false := by simp; omega
  have e2097156 : ((a : Int) == 2097156) = false := by simp; omega
  have e2101252 : ((a : Int) == 2101252) = false := by simp; omega
  clear h ha h1 hne
  go_enter Tryd.func28, Tryd.ntmps28
  go_upto_region 0 with fail
  refine wp_region_list ?_
  refine wpList_enter2 _ _ rfl rfl rfl rfl rfl ?_
  intro W hT0
  have T0 : Hid (Two w W (docC (S)) (docC zeroS)) := hT0
  clear hT0
  go_wp2_with fail
  refine (hm _).mono ?_
  rintro e w' ⟨rfl, hw⟩
  rw [hw]
  clear hw w'
  go_upto_region 14 with fail
  refine wp_region_list ?_
  refine wpList_load_doc rfl _ rfl w.heap.size (S) rfl T0.out.1 ?_
  refine wpList_store_doc rfl _ _ rfl (w.heap.size + 1) (S) (docC zeroS) rfl rfl T0.out.2.1 (by rw [docC_size, docC_size]) ?_
  intro W9 B9 U9
  have T9 : Hid (Box 34 W9 (w.heap.size + 1) (docC (S)) ∧ Below w.heap.size w W9) := ⟨B9, T0.out.2.2.trans (U9.below (Nat.le_succ _) T0.out.2.2.size)⟩
  clear B9 U9
  go_wp2_with fail
  exact bodyPost_ret (v := .tuple #[.agg (docC (S)), .int .u64 0, .bool true]) (resultsD3 (p := 6) (t := 7) (u := 8) rfl _ _ (w.heap.size + 1) (S) rfl T9.out.1) rfl ⟨rfl, T9.out.2⟩
end Go.Proofs.YtpedollliahldaaDoor
