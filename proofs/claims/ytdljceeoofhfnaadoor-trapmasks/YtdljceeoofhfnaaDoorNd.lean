/- The document's call Next of layer 9. -/
import Derived.Test.YtdljceeoofhfnaaDoorNp
import Derived.Test.YtdljceeoofhfnaaDoorDSm
namespace Go.Proofs.YtdljceeoofhfnaaDoor
open Go.RowKit Go.Maps
set_option linter.unusedVariables false
set_option linter.unusedSimpArgs false
set_option maxRecDepth 100000
/-- the document's file, a result: each in a box of its own -/
def Dn (w W : World) (m : Int) (K : Nat → Nat) : Prop := Box 32 W w.heap.size (docC m K) ∧ Box 36 W (w.heap.size + 1) zeroT ∧ Below w.heap.size w W
theorem Dn.step {w W W' : World} {m : Int} {K : Nat → Nat} (h : Dn w W m K) (hb : Below W.heap.size W W') : Dn w W' m K := ⟨h.1.step hb, h.2.1.step hb, h.2.2.trans (hb.mono h.2.2.size)⟩
theorem dn_boxes (w : World) (a b : Array Value) : Box 32 ((w.alloc (.cells a 32)).alloc (.cells b 36)) w.heap.size a ∧ Box 36 ((w.alloc (.cells a 32)).alloc (.cells b 36)) (w.heap.size + 1) b ∧ Below w.heap.size w ((w.alloc (.cells a 32)).alloc (.cells b 36)) := by
  refine ⟨(Box.new 32 w _).alloc _, ?_, ((Below.refl _ _).alloc (Nat.le_refl _) _).alloc (by simp) _⟩
  have h := Box.new 36 (w.alloc (.cells a 32)) b
  simpa using h
theorem dn_new (w : World) (m : Int) (K : Nat → Nat) : Dn w ((w.alloc (.cells (docC m K) 32)).alloc (.cells #[.int .i64 0, .int .u64 0, .bool false] 36)) m K := dn_boxes w _ _
set_option maxHeartbeats 8000000 in
theorem dnext_0 (K : Nat → Nat) (hK : Ok K) (w : World) : Calls Tryd.prog 8 #[.agg (docC 0 K)] w fun e w' => e = .returned (tellT (nextN 0 K)) ∧ Below w.heap.size w w' := by
  have X0 : Hid (Dn w ((w.alloc (.cells (docC 0 K) 32)).alloc (.cells #[.int .i64 0, .int .u64 0, .bool false] 36)) 0 K) := dn_new w _ _
  have HP : Hid (∀ V, Calls Tryd.prog 20 #[.agg (docC 0 K)] V fun e w' => e = .returned (.int .u64 (K 1 ||| K 2 : Nat)) ∧ Below V.heap.size V w') := fun V => dpend_any 0 K hK V
  have HA0 : Hid (∀ V, Calls Tryd.prog 18 #[.int .u64 ((K 1 ||| K 2 : Nat) : Int), .int .u64 ((K 5 : Nat) : Int)] V fun e w' => e = .returned (.int .u64 (rdyN K : Nat)) ∧ Below V.heap.size V w') := fun V => rand_any _ _ (or_lt _ _ (hK _) (hK _)) (hK _) V
  have hn := not_bits (K 4) (hK _)
  have HA1 : Hid (∀ V, Calls Tryd.prog 18 #[.int .u64 ((rdyN K : Nat) : Int), .int .u64 ((18446744073709551615 - K 4 : Nat) : Int)] V fun e w' => e = .returned (.int .u64 ((rdyN K &&& (18446744073709551615 - K 4) : Nat) : Int)) ∧ Below V.heap.size V w') := fun V => rand_any _ _ (rdy_lt hK) (by omega) V
  have HA2 : Hid (∀ V, Calls Tryd.prog 18 #[.int .u64 ((rdyN K : Nat) : Int), .int .u64 ((K 4 : Nat) : Int)] V fun e w' => e = .returned (.int .u64 ((rdyN K &&& K 4 : Nat) : Int)) ∧ Below V.heap.size V w') := fun V => rand_any _ _ (rdy_lt hK) (hK _) V
  have HF1 : Hid (∀ V, Calls Tryd.prog 21 #[.int .u64 ((rdyN K &&& (18446744073709551615 - K 4) : Nat) : Int)] V fun e w' => e = .returned (.int .i64 (dfN (ownN K))) ∧ Below V.heap.size V w') := fun V => dfirst_any _ (and_lt _ _ (rdy_lt hK)) V
  have HF2 : Hid (∀ V, Calls Tryd.prog 21 #[.int .u64 ((rdyN K &&& K 4 : Nat) : Int)] V fun e w' => e = .returned (.int .i64 (dfN (othN K))) ∧ Below V.heap.size V w') := fun V => dfirst_any _ (and_lt _ _ (rdy_lt hK)) V
  have HI3 : Hid (∀ V, Calls Tryd.prog 22 #[.agg (docC 0 K), .int .i64 3] V fun e w' => e = .returned (.bool (isB K 3)) ∧ Below V.heap.size V w') := fun V => dis_any 0 K 3 hK V
  have HI1 : Hid (∀ V, Calls Tryd.prog 22 #[.agg (docC 0 K), .int .i64 1] V fun e w' => e = .returned (.bool (isB K 1)) ∧ Below V.heap.size V w') := fun V => dis_any 0 K 1 hK V
  unfold nextN mayO mayS
  generalize ownN K = own at *
  generalize othN K = oth at *
  generalize isB K 3 = mie at *
  generalize isB K 1 = sie at *
  generalize rdyN K &&& (18446744073709551615 - K 4) = x1 at *
  generalize rdyN K &&& K 4 = x2 at *
  generalize rdyN K = rd at *
  generalize ((18446744073709551615 - K 4 : Nat) : Int) = nk at *
  generalize K 1 ||| K 2 = pd at *
  obtain ⟨R, hR⟩ : ∃ R : Nat, R = (if ((decide ((0 : Int) < 3) || mie) = true ∧ own ≠ 0) then own else if (((0 : Int) == 0 || ((0 : Int) == 1 && sie)) = true) then oth else 0) := ⟨_, rfl⟩
  rw [← hR]
  have HR : Hid (R = (if ((decide ((0 : Int) < 3) || mie) = true ∧ own ≠ 0) then own else if (((0 : Int) == 0 || ((0 : Int) == 1 && sie)) = true) then oth else 0)) := hR
  clear hR hK
  obtain ⟨dow, hdow⟩ : ∃ d, dfN own = d := ⟨_, rfl⟩
  obtain ⟨dot, hdot⟩ : ∃ d, dfN oth = d := ⟨_, rfl⟩
  rw [hdow] at HF1
  rw [hdot] at HF2
  have HDW : Hid (dfN own = dow) := hdow
  have HDT : Hid (dfN oth = dot) := hdot
  clear hdow hdot
  go_enter Tryd.func8, Tryd.ntmps8
  go_upto_region 1 with fail
  generalize ((w.alloc (.cells (docC 0 K) 32)).alloc (.cells #[.int .i64 0, .int .u64 0, .bool false] 36)) = W at *
  have X0d : Hid (Dn w W.drew 0 K) := X0.out.step (below_drew1 _)
  refine wp_region_held_drew (S := fun V => V.cell? ⟨w.heap.size, 6, none⟩ = some (.int .u64 (K 5 : Nat)) ∧ Box 32 V w.heap.size (docC 0 K)) (by kernel_rfl) ⟨X0d.out.1.cell 6 _ rfl, X0d.out.1⟩ ?_
  intro hS
  refine wpAnyH_take (i := 0) (v := .agg (docC 0 K)) rfl (by kernel_rfl) (by kernel_rfl) (by kernel_rfl) (fun _ _ _ h => h) (Or.inl ⟨by kernel_rfl, fun V hV => yield_docB hV.2 _ rfl rfl⟩) hS ?_
  (try simp only [Act.put, List.getElem_toArray, List.getElem_cons_succ, List.getElem_cons_zero, List.setIfInBounds_toArray, List.set_cons_zero, List.set_cons_succ])
  refine wpAnyH_take (i := 2) (v := ?_) rfl (by kernel_rfl) (by kernel_rfl) (by kernel_rfl) (fun _ _ _ h => h) (Or.inl ⟨by kernel_rfl, ?_⟩) hS ?_
  rotate_left
  · intro w hSw; (try dsimp only at hSw); go_simp; try (with_reducible rfl)
  (try simp only [Act.put, List.getElem_toArray, List.getElem_cons_succ, List.getElem_cons_zero, List.setIfInBounds_toArray, List.set_cons_zero, List.set_cons_succ])
  refine wpAnyH_take (i := 3) (v := ?_) rfl (by kernel_rfl) (by kernel_rfl) (by kernel_rfl) (fun _ _ _ h => h) (Or.inl ⟨by kernel_rfl, ?_⟩) hS ?_
  rotate_left
  · intro w hSw; (try dsimp only at hSw); go_simp; try (with_reducible rfl)
  (try simp only [Act.put, List.getElem_toArray, List.getElem_cons_succ, List.getElem_cons_zero, List.setIfInBounds_toArray, List.set_cons_zero, List.set_cons_succ])
  refine wpAnyH_take (i := 4) (v := ?_) rfl (by kernel_rfl) (by kernel_rfl) (by kernel_rfl) (fun _ _ _ h => h) (Or.inl ⟨by kernel_rfl, ?_⟩) hS ?_
  rotate_left
  · intro w hSw; (try dsimp only at hSw); go_simp; try (with_reducible rfl)
  (try simp only [Act.put, List.getElem_toArray, List.getElem_cons_succ, List.getElem_cons_zero, List.setIfInBounds_toArray, List.set_cons_zero, List.set_cons_succ])
  refine wpAnyH_ready (rs := [1]) (by kernel_rfl) (by simp) ?_
  refine AllReadyH.cons rfl (fun K1 hK1 => ?_) AllReadyH.nil
  go_simp
  refine (HP.out _).mono ?_
  rintro e w1 ⟨rfl, hb⟩
  have X1 : Hid (Dn w w1 0 K) := X0d.out.step hb
  clear hb
  refine hK1.out _ _ ⟨X1.out.1.cell 6 _ rfl, X1.out.1⟩ (fun hS2 => ?_)
  clear hK1 K1 hS
  (try simp only [Act.put, List.getElem_toArray, List.getElem_cons_succ, List.getElem_cons_zero, List.setIfInBounds_toArray, List.set_cons_zero, List.set_cons_succ])
  refine wpAnyH_ready (rs := [5]) (by kernel_rfl) (by simp) ?_
  refine AllReadyH.cons rfl (fun K1 hK1 => ?_) AllReadyH.nil
  go_simp
  refine (HA0.out _).mono ?_
  rintro e w2 ⟨rfl, hb⟩
  have X2 : Hid (Dn w w2 0 K) := X1.out.step hb
  clear hb
  refine hK1.out _ _ ⟨X2.out.1.cell 6 _ rfl, X2.out.1⟩ (fun hS3 => ?_)
  clear hK1 K1 hS2
  (try simp only [Act.put, List.getElem_toArray, List.getElem_cons_succ, List.getElem_cons_zero, List.setIfInBounds_toArray, List.set_cons_zero, List.set_cons_succ])
  refine wpAnyH_take (i := 6) (v := ?_) rfl (by kernel_rfl) (by kernel_rfl) (by kernel_rfl) (fun _ _ _ h => h) (Or.inl ⟨by kernel_rfl, ?_⟩) hS3 ?_
  rotate_left
  · intro w hSw; (try dsimp only at hSw); go_simp; try (with_reducible rfl)
  (try simp only [Act.put, List.getElem_toArray, List.getElem_cons_succ, List.getElem_cons_zero, List.setIfInBounds_toArray, List.set_cons_zero, List.set_cons_succ])
  refine wpAnyH_done (by kernel_rfl) ?_ _
  clear hS3 X0 X0d X1
  have c4 : w2.cell? ⟨w.heap.size, 5, none⟩ = some (.int .u64 (K 4 : Nat)) := X2.out.1.cell 5 _ rfl
  go_wp2_with fail
  refine (HA1.out _).mono ?_
  rintro e w3 ⟨rfl, hb⟩
  have X3 : Hid (Dn w w3 0 K) := X2.out.step hb
  clear hb
  clear c4
  go_wp2_with fail
  refine (HF1.out _).mono ?_
  rintro e w4 ⟨rfl, hb⟩
  have X4 : Hid (Dn w w4 0 K) := X3.out.step hb
  clear hb
  have c4 : w4.cell? ⟨w.heap.size, 5, none⟩ = some (.int .u64 (K 4 : Nat)) := X4.out.1.cell 5 _ rfl
  go_wp2_with fail
  refine (HA2.out _).mono ?_
  rintro e w5 ⟨rfl, hb⟩
  have X5 : Hid (Dn w w5 0 K) := X4.out.step hb
  clear hb
  clear c4
  go_wp2_with fail
  refine (HF2.out _).mono ?_
  rintro e w6 ⟨rfl, hb⟩
  have X6 : Hid (Dn w w6 0 K) := X5.out.step hb
  clear hb
  have c0 : w6.cell? ⟨w.heap.size, 0, none⟩ = some (.int .i64 0) := X6.out.1.cell 0 _ rfl
  clear X2 X3 X4 X5
  by_cases ho : own = 0
  · have hd : dow = -1 := by rw [← HDW.out]; unfold dfN; rw [if_pos ho]
    have HN0 : Hid (own = 0) := ho
    subst hd
    clear ho
    by_cases ht : oth = 0
    · have hd : dot = -1 := by rw [← HDT.out]; unfold dfN; rw [if_pos ht]
      have HT0 : Hid (oth = 0) := ht
      subst hd
      clear ht
      go_upto_region 8 with fail
      refine wp_region_list ?_
      (refine wpList_step (fun KK hKK => ?_); go_simp; refine hKK _ _ ?_; clear hKK KK)
      refine wpList_store_trap rfl _ _ rfl (w.heap.size + 1) 0 0 false zeroT rfl rfl X6.out.2.1 zT_size ?_
      intro W9 B9 U9
      have T9 : Hid (Box 36 W9 (w.heap.size + 1) (trapC 0 0 false) ∧ Below w.heap.size w W9) := ⟨B9, X6.out.2.2.trans (U9.below (Nat.le_succ _) X6.out.2.2.size)⟩
      clear B9 U9
      go_wp2_with fail
      exact bodyPost_ret (v := .tuple #[.agg (trapC 0 0 false), .bool false]) (resultsT2 (p := 2) (t := 3) rfl _ _ (w.heap.size + 1) 0 0 false rfl T9.out.1) rfl ⟨by rw [show R = 0 from by rw [HR.out]; simp [HN0.out, HT0.out]]; exact tell_none, T9.out.2⟩
    · have hd : dot = (oth : Int) := by rw [← HDT.out]; unfold dfN; rw [if_neg ht]
      have HTZ : Hid (oth ≠ 0) := ht
      have g0 : (0 : Int) ≤ (oth : Int) := by omega
      subst hd
      clear ht
      go_upto_region 7 with fail
      refine wp_region_list ?_
      (refine wpList_step (fun KK hKK => ?_); go_simp; refine hKK _ _ ?_; clear hKK KK)
      (refine wpList_step (fun KK hKK => ?_); go_simp; refine hKK _ _ ?_; clear hKK KK)
      refine wpList_store_trap rfl _ _ rfl (w.heap.size + 1) oth 0 true zeroT rfl rfl X6.out.2.1 zT_size ?_
      intro W9 B9 U9
      have T9 : Hid (Box 36 W9 (w.heap.size + 1) (trapC oth 0 true) ∧ Below w.heap.size w W9) := ⟨B9, X6.out.2.2.trans (U9.below (Nat.le_succ _) X6.out.2.2.size)⟩
      clear B9 U9
      go_wp2_with fail
      exact bodyPost_ret (v := .tuple #[.agg (trapC oth 0 true), .bool true]) (resultsT2 (p := 2) (t := 3) rfl _ _ (w.heap.size + 1) oth 0 true rfl T9.out.1) rfl ⟨by rw [show R = oth from by rw [HR.out]; simp [HN0.out]]; exact tell_some oth HTZ.out, T9.out.2⟩
  · have hd : dow = (own : Int) := by rw [← HDW.out]; unfold dfN; rw [if_neg ho]
    have HNZ : Hid (own ≠ 0) := ho
    have g1 : (0 : Int) ≤ (own : Int) := by omega
    subst hd
    clear ho
    go_upto_region 5 with fail
    refine wp_region_list ?_
    (refine wpList_step (fun KK hKK => ?_); go_simp; refine hKK _ _ ?_; clear hKK KK)
    (refine wpList_step (fun KK hKK => ?_); go_simp; refine hKK _ _ ?_; clear hKK KK)
    refine wpList_store_trap rfl _ _ rfl (w.heap.size + 1) own 0 true zeroT rfl rfl X6.out.2.1 zT_size ?_
    intro W9 B9 U9
    have T9 : Hid (Box 36 W9 (w.heap.size + 1) (trapC own 0 true) ∧ Below w.heap.size w W9) := ⟨B9, X6.out.2.2.trans (U9.below (Nat.le_succ _) X6.out.2.2.size)⟩
    clear B9 U9
    go_wp2_with fail
    exact bodyPost_ret (v := .tuple #[.agg (trapC own 0 true), .bool true]) (resultsT2 (p := 2) (t := 3) rfl _ _ (w.heap.size + 1) own 0 true rfl T9.out.1) rfl ⟨by rw [show R = own from by rw [HR.out]; rw [if_pos ⟨by first | rfl | simp, HNZ.out⟩]]; exact tell_some own HNZ.out, T9.out.2⟩
set_option maxHeartbeats 8000000 in
theorem dnext_1 (K : Nat → Nat) (hK : Ok K) (w : World) : Calls Tryd.prog 8 #[.agg (docC 1 K)] w fun e w' => e = .returned (tellT (nextN 1 K)) ∧ Below w.heap.size w w' := by
  have X0 : Hid (Dn w ((w.alloc (.cells (docC 1 K) 32)).alloc (.cells #[.int .i64 0, .int .u64 0, .bool false] 36)) 1 K) := dn_new w _ _
  have HP : Hid (∀ V, Calls Tryd.prog 20 #[.agg (docC 1 K)] V fun e w' => e = .returned (.int .u64 (K 1 ||| K 2 : Nat)) ∧ Below V.heap.size V w') := fun V => dpend_any 1 K hK V
  have HA0 : Hid (∀ V, Calls Tryd.prog 18 #[.int .u64 ((K 1 ||| K 2 : Nat) : Int), .int .u64 ((K 5 : Nat) : Int)] V fun e w' => e = .returned (.int .u64 (rdyN K : Nat)) ∧ Below V.heap.size V w') := fun V => rand_any _ _ (or_lt _ _ (hK _) (hK _)) (hK _) V
  have hn := not_bits (K 4) (hK _)
  have HA1 : Hid (∀ V, Calls Tryd.prog 18 #[.int .u64 ((rdyN K : Nat) : Int), .int .u64 ((18446744073709551615 - K 4 : Nat) : Int)] V fun e w' => e = .returned (.int .u64 ((rdyN K &&& (18446744073709551615 - K 4) : Nat) : Int)) ∧ Below V.heap.size V w') := fun V => rand_any _ _ (rdy_lt hK) (by omega) V
  have HA2 : Hid (∀ V, Calls Tryd.prog 18 #[.int .u64 ((rdyN K : Nat) : Int), .int .u64 ((K 4 : Nat) : Int)] V fun e w' => e = .returned (.int .u64 ((rdyN K &&& K 4 : Nat) : Int)) ∧ Below V.heap.size V w') := fun V => rand_any _ _ (rdy_lt hK) (hK _) V
  have HF1 : Hid (∀ V, Calls Tryd.prog 21 #[.int .u64 ((rdyN K &&& (18446744073709551615 - K 4) : Nat) : Int)] V fun e w' => e = .returned (.int .i64 (dfN (ownN K))) ∧ Below V.heap.size V w') := fun V => dfirst_any _ (and_lt _ _ (rdy_lt hK)) V
  have HF2 : Hid (∀ V, Calls Tryd.prog 21 #[.int .u64 ((rdyN K &&& K 4 : Nat) : Int)] V fun e w' => e = .returned (.int .i64 (dfN (othN K))) ∧ Below V.heap.size V w') := fun V => dfirst_any _ (and_lt _ _ (rdy_lt hK)) V
  have HI3 : Hid (∀ V, Calls Tryd.prog 22 #[.agg (docC 1 K), .int .i64 3] V fun e w' => e = .returned (.bool (isB K 3)) ∧ Below V.heap.size V w') := fun V => dis_any 1 K 3 hK V
  have HI1 : Hid (∀ V, Calls Tryd.prog 22 #[.agg (docC 1 K), .int .i64 1] V fun e w' => e = .returned (.bool (isB K 1)) ∧ Below V.heap.size V w') := fun V => dis_any 1 K 1 hK V
  unfold nextN mayO mayS
  generalize ownN K = own at *
  generalize othN K = oth at *
  generalize isB K 3 = mie at *
  generalize isB K 1 = sie at *
  generalize rdyN K &&& (18446744073709551615 - K 4) = x1 at *
  generalize rdyN K &&& K 4 = x2 at *
  generalize rdyN K = rd at *
  generalize ((18446744073709551615 - K 4 : Nat) : Int) = nk at *
  generalize K 1 ||| K 2 = pd at *
  obtain ⟨R, hR⟩ : ∃ R : Nat, R = (if ((decide ((1 : Int) < 3) || mie) = true ∧ own ≠ 0) then own else if (((1 : Int) == 0 || ((1 : Int) == 1 && sie)) = true) then oth else 0) := ⟨_, rfl⟩
  rw [← hR]
  have HR : Hid (R = (if ((decide ((1 : Int) < 3) || mie) = true ∧ own ≠ 0) then own else if (((1 : Int) == 0 || ((1 : Int) == 1 && sie)) = true) then oth else 0)) := hR
  clear hR hK
  obtain ⟨dow, hdow⟩ : ∃ d, dfN own = d := ⟨_, rfl⟩
  obtain ⟨dot, hdot⟩ : ∃ d, dfN oth = d := ⟨_, rfl⟩
  rw [hdow] at HF1
  rw [hdot] at HF2
  have HDW : Hid (dfN own = dow) := hdow
  have HDT : Hid (dfN oth = dot) := hdot
  clear hdow hdot
  go_enter Tryd.func8, Tryd.ntmps8
  go_upto_region 1 with fail
  generalize ((w.alloc (.cells (docC 1 K) 32)).alloc (.cells #[.int .i64 0, .int .u64 0, .bool false] 36)) = W at *
  have X0d : Hid (Dn w W.drew 1 K) := X0.out.step (below_drew1 _)
  refine wp_region_held_drew (S := fun V => V.cell? ⟨w.heap.size, 6, none⟩ = some (.int .u64 (K 5 : Nat)) ∧ Box 32 V w.heap.size (docC 1 K)) (by kernel_rfl) ⟨X0d.out.1.cell 6 _ rfl, X0d.out.1⟩ ?_
  intro hS
  refine wpAnyH_take (i := 0) (v := .agg (docC 1 K)) rfl (by kernel_rfl) (by kernel_rfl) (by kernel_rfl) (fun _ _ _ h => h) (Or.inl ⟨by kernel_rfl, fun V hV => yield_docB hV.2 _ rfl rfl⟩) hS ?_
  (try simp only [Act.put, List.getElem_toArray, List.getElem_cons_succ, List.getElem_cons_zero, List.setIfInBounds_toArray, List.set_cons_zero, List.set_cons_succ])
  refine wpAnyH_take (i := 2) (v := ?_) rfl (by kernel_rfl) (by kernel_rfl) (by kernel_rfl) (fun _ _ _ h => h) (Or.inl ⟨by kernel_rfl, ?_⟩) hS ?_
  rotate_left
  · intro w hSw; (try dsimp only at hSw); go_simp; try (with_reducible rfl)
  (try simp only [Act.put, List.getElem_toArray, List.getElem_cons_succ, List.getElem_cons_zero, List.setIfInBounds_toArray, List.set_cons_zero, List.set_cons_succ])
  refine wpAnyH_take (i := 3) (v := ?_) rfl (by kernel_rfl) (by kernel_rfl) (by kernel_rfl) (fun _ _ _ h => h) (Or.inl ⟨by kernel_rfl, ?_⟩) hS ?_
  rotate_left
  · intro w hSw; (try dsimp only at hSw); go_simp; try (with_reducible rfl)
  (try simp only [Act.put, List.getElem_toArray, List.getElem_cons_succ, List.getElem_cons_zero, List.setIfInBounds_toArray, List.set_cons_zero, List.set_cons_succ])
  refine wpAnyH_take (i := 4) (v := ?_) rfl (by kernel_rfl) (by kernel_rfl) (by kernel_rfl) (fun _ _ _ h => h) (Or.inl ⟨by kernel_rfl, ?_⟩) hS ?_
  rotate_left
  · intro w hSw; (try dsimp only at hSw); go_simp; try (with_reducible rfl)
  (try simp only [Act.put, List.getElem_toArray, List.getElem_cons_succ, List.getElem_cons_zero, List.setIfInBounds_toArray, List.set_cons_zero, List.set_cons_succ])
  refine wpAnyH_ready (rs := [1]) (by kernel_rfl) (by simp) ?_
  refine AllReadyH.cons rfl (fun K1 hK1 => ?_) AllReadyH.nil
  go_simp
  refine (HP.out _).mono ?_
  rintro e w1 ⟨rfl, hb⟩
  have X1 : Hid (Dn w w1 1 K) := X0d.out.step hb
  clear hb
  refine hK1.out _ _ ⟨X1.out.1.cell 6 _ rfl, X1.out.1⟩ (fun hS2 => ?_)
  clear hK1 K1 hS
  (try simp only [Act.put, List.getElem_toArray, List.getElem_cons_succ, List.getElem_cons_zero, List.setIfInBounds_toArray, List.set_cons_zero, List.set_cons_succ])
  refine wpAnyH_ready (rs := [5]) (by kernel_rfl) (by simp) ?_
  refine AllReadyH.cons rfl (fun K1 hK1 => ?_) AllReadyH.nil
  go_simp
  refine (HA0.out _).mono ?_
  rintro e w2 ⟨rfl, hb⟩
  have X2 : Hid (Dn w w2 1 K) := X1.out.step hb
  clear hb
  refine hK1.out _ _ ⟨X2.out.1.cell 6 _ rfl, X2.out.1⟩ (fun hS3 => ?_)
  clear hK1 K1 hS2
  (try simp only [Act.put, List.getElem_toArray, List.getElem_cons_succ, List.getElem_cons_zero, List.setIfInBounds_toArray, List.set_cons_zero, List.set_cons_succ])
  refine wpAnyH_take (i := 6) (v := ?_) rfl (by kernel_rfl) (by kernel_rfl) (by kernel_rfl) (fun _ _ _ h => h) (Or.inl ⟨by kernel_rfl, ?_⟩) hS3 ?_
  rotate_left
  · intro w hSw; (try dsimp only at hSw); go_simp; try (with_reducible rfl)
  (try simp only [Act.put, List.getElem_toArray, List.getElem_cons_succ, List.getElem_cons_zero, List.setIfInBounds_toArray, List.set_cons_zero, List.set_cons_succ])
  refine wpAnyH_done (by kernel_rfl) ?_ _
  clear hS3 X0 X0d X1
  have c4 : w2.cell? ⟨w.heap.size, 5, none⟩ = some (.int .u64 (K 4 : Nat)) := X2.out.1.cell 5 _ rfl
  go_wp2_with fail
  refine (HA1.out _).mono ?_
  rintro e w3 ⟨rfl, hb⟩
  have X3 : Hid (Dn w w3 1 K) := X2.out.step hb
  clear hb
  clear c4
  go_wp2_with fail
  refine (HF1.out _).mono ?_
  rintro e w4 ⟨rfl, hb⟩
  have X4 : Hid (Dn w w4 1 K) := X3.out.step hb
  clear hb
  have c4 : w4.cell? ⟨w.heap.size, 5, none⟩ = some (.int .u64 (K 4 : Nat)) := X4.out.1.cell 5 _ rfl
  go_wp2_with fail
  refine (HA2.out _).mono ?_
  rintro e w5 ⟨rfl, hb⟩
  have X5 : Hid (Dn w w5 1 K) := X4.out.step hb
  clear hb
  clear c4
  go_wp2_with fail
  refine (HF2.out _).mono ?_
  rintro e w6 ⟨rfl, hb⟩
  have X6 : Hid (Dn w w6 1 K) := X5.out.step hb
  clear hb
  have c0 : w6.cell? ⟨w.heap.size, 0, none⟩ = some (.int .i64 1) := X6.out.1.cell 0 _ rfl
  clear X2 X3 X4 X5
  by_cases ho : own = 0
  · have hd : dow = -1 := by rw [← HDW.out]; unfold dfN; rw [if_pos ho]
    have HN0 : Hid (own = 0) := ho
    subst hd
    clear ho
    by_cases ht : oth = 0
    · have hd : dot = -1 := by rw [← HDT.out]; unfold dfN; rw [if_pos ht]
      have HT0 : Hid (oth = 0) := ht
      subst hd
      clear ht
      go_upto_region 8 with fail
      refine wp_region_list ?_
      (refine wpList_step (fun KK hKK => ?_); go_simp; refine hKK _ _ ?_; clear hKK KK)
      refine wpList_store_trap rfl _ _ rfl (w.heap.size + 1) 0 0 false zeroT rfl rfl X6.out.2.1 zT_size ?_
      intro W9 B9 U9
      have T9 : Hid (Box 36 W9 (w.heap.size + 1) (trapC 0 0 false) ∧ Below w.heap.size w W9) := ⟨B9, X6.out.2.2.trans (U9.below (Nat.le_succ _) X6.out.2.2.size)⟩
      clear B9 U9
      go_wp2_with fail
      exact bodyPost_ret (v := .tuple #[.agg (trapC 0 0 false), .bool false]) (resultsT2 (p := 2) (t := 3) rfl _ _ (w.heap.size + 1) 0 0 false rfl T9.out.1) rfl ⟨by rw [show R = 0 from by rw [HR.out]; simp [HN0.out, HT0.out]]; exact tell_none, T9.out.2⟩
    · have hd : dot = (oth : Int) := by rw [← HDT.out]; unfold dfN; rw [if_neg ht]
      have HTZ : Hid (oth ≠ 0) := ht
      have g0 : (0 : Int) ≤ (oth : Int) := by omega
      subst hd
      clear ht
      go_upto_region 6 with fail
      refine wp_region_list ?_
      iterate 11 (refine wpList_step (fun KK hKK => ?_); go_simp; refine hKK _ _ ?_; clear hKK KK)
      refine wpList_load_docG (by first | rfl | kernel_rfl) _ rfl w.heap.size 1 K rfl X6.out.1 ?_
      refine wpList_step (fun KK hKK => ?_)
      go_simp
      refine (HI1.out _).mono ?_
      rintro e w8 ⟨rfl, hb8⟩
      have X8 : Hid (Dn w w8 1 K) := X6.out.step hb8
      clear hb8 c0
      refine hKK _ _ ?_
      clear hKK KK
      cases sie
      · go_upto_region 8 with fail
        refine wp_region_list ?_
        (refine wpList_step (fun KK hKK => ?_); go_simp; refine hKK _ _ ?_; clear hKK KK)
        refine wpList_store_trap rfl _ _ rfl (w.heap.size + 1) 0 0 false zeroT rfl rfl X8.out.2.1 zT_size ?_
        intro W9 B9 U9
        have T9 : Hid (Box 36 W9 (w.heap.size + 1) (trapC 0 0 false) ∧ Below w.heap.size w W9) := ⟨B9, X8.out.2.2.trans (U9.below (Nat.le_succ _) X8.out.2.2.size)⟩
        clear B9 U9
        go_wp2_with fail
        exact bodyPost_ret (v := .tuple #[.agg (trapC 0 0 false), .bool false]) (resultsT2 (p := 2) (t := 3) rfl _ _ (w.heap.size + 1) 0 0 false rfl T9.out.1) rfl ⟨by rw [show R = 0 from by rw [HR.out]; simp [HN0.out]]; exact tell_none, T9.out.2⟩
      · go_upto_region 7 with fail
        refine wp_region_list ?_
        (refine wpList_step (fun KK hKK => ?_); go_simp; refine hKK _ _ ?_; clear hKK KK)
        (refine wpList_step (fun KK hKK => ?_); go_simp; refine hKK _ _ ?_; clear hKK KK)
        refine wpList_store_trap rfl _ _ rfl (w.heap.size + 1) oth 0 true zeroT rfl rfl X8.out.2.1 zT_size ?_
        intro W9 B9 U9
        have T9 : Hid (Box 36 W9 (w.heap.size + 1) (trapC oth 0 true) ∧ Below w.heap.size w W9) := ⟨B9, X8.out.2.2.trans (U9.below (Nat.le_succ _) X8.out.2.2.size)⟩
        clear B9 U9
        go_wp2_with fail
        exact bodyPost_ret (v := .tuple #[.agg (trapC oth 0 true), .bool true]) (resultsT2 (p := 2) (t := 3) rfl _ _ (w.heap.size + 1) oth 0 true rfl T9.out.1) rfl ⟨by rw [show R = oth from by rw [HR.out]; simp [HN0.out]]; exact tell_some oth HTZ.out, T9.out.2⟩
  · have hd : dow = (own : Int) := by rw [← HDW.out]; unfold dfN; rw [if_neg ho]
    have HNZ : Hid (own ≠ 0) := ho
    have g1 : (0 : Int) ≤ (own : Int) := by omega
    subst hd
    clear ho
    go_upto_region 5 with fail
    refine wp_region_list ?_
    (refine wpList_step (fun KK hKK => ?_); go_simp; refine hKK _ _ ?_; clear hKK KK)
    (refine wpList_step (fun KK hKK => ?_); go_simp; refine hKK _ _ ?_; clear hKK KK)
    refine wpList_store_trap rfl _ _ rfl (w.heap.size + 1) own 0 true zeroT rfl rfl X6.out.2.1 zT_size ?_
    intro W9 B9 U9
    have T9 : Hid (Box 36 W9 (w.heap.size + 1) (trapC own 0 true) ∧ Below w.heap.size w W9) := ⟨B9, X6.out.2.2.trans (U9.below (Nat.le_succ _) X6.out.2.2.size)⟩
    clear B9 U9
    go_wp2_with fail
    exact bodyPost_ret (v := .tuple #[.agg (trapC own 0 true), .bool true]) (resultsT2 (p := 2) (t := 3) rfl _ _ (w.heap.size + 1) own 0 true rfl T9.out.1) rfl ⟨by rw [show R = own from by rw [HR.out]; rw [if_pos ⟨by first | rfl | simp, HNZ.out⟩]]; exact tell_some own HNZ.out, T9.out.2⟩
set_option maxHeartbeats 8000000 in
theorem dnext_3 (K : Nat → Nat) (hK : Ok K) (w : World) : Calls Tryd.prog 8 #[.agg (docC 3 K)] w fun e w' => e = .returned (tellT (nextN 3 K)) ∧ Below w.heap.size w w' := by
  have X0 : Hid (Dn w ((w.alloc (.cells (docC 3 K) 32)).alloc (.cells #[.int .i64 0, .int .u64 0, .bool false] 36)) 3 K) := dn_new w _ _
  have HP : Hid (∀ V, Calls Tryd.prog 20 #[.agg (docC 3 K)] V fun e w' => e = .returned (.int .u64 (K 1 ||| K 2 : Nat)) ∧ Below V.heap.size V w') := fun V => dpend_any 3 K hK V
  have HA0 : Hid (∀ V, Calls Tryd.prog 18 #[.int .u64 ((K 1 ||| K 2 : Nat) : Int), .int .u64 ((K 5 : Nat) : Int)] V fun e w' => e = .returned (.int .u64 (rdyN K : Nat)) ∧ Below V.heap.size V w') := fun V => rand_any _ _ (or_lt _ _ (hK _) (hK _)) (hK _) V
  have hn := not_bits (K 4) (hK _)
  have HA1 : Hid (∀ V, Calls Tryd.prog 18 #[.int .u64 ((rdyN K : Nat) : Int), .int .u64 ((18446744073709551615 - K 4 : Nat) : Int)] V fun e w' => e = .returned (.int .u64 ((rdyN K &&& (18446744073709551615 - K 4) : Nat) : Int)) ∧ Below V.heap.size V w') := fun V => rand_any _ _ (rdy_lt hK) (by omega) V
  have HA2 : Hid (∀ V, Calls Tryd.prog 18 #[.int .u64 ((rdyN K : Nat) : Int), .int .u64 ((K 4 : Nat) : Int)] V fun e w' => e = .returned (.int .u64 ((rdyN K &&& K 4 : Nat) : Int)) ∧ Below V.heap.size V w') := fun V => rand_any _ _ (rdy_lt hK) (hK _) V
  have HF1 : Hid (∀ V, Calls Tryd.prog 21 #[.int .u64 ((rdyN K &&& (18446744073709551615 - K 4) : Nat) : Int)] V fun e w' => e = .returned (.int .i64 (dfN (ownN K))) ∧ Below V.heap.size V w') := fun V => dfirst_any _ (and_lt _ _ (rdy_lt hK)) V
  have HF2 : Hid (∀ V, Calls Tryd.prog 21 #[.int .u64 ((rdyN K &&& K 4 : Nat) : Int)] V fun e w' => e = .returned (.int .i64 (dfN (othN K))) ∧ Below V.heap.size V w') := fun V => dfirst_any _ (and_lt _ _ (rdy_lt hK)) V
  have HI3 : Hid (∀ V, Calls Tryd.prog 22 #[.agg (docC 3 K), .int .i64 3] V fun e w' => e = .returned (.bool (isB K 3)) ∧ Below V.heap.size V w') := fun V => dis_any 3 K 3 hK V
  have HI1 : Hid (∀ V, Calls Tryd.prog 22 #[.agg (docC 3 K), .int .i64 1] V fun e w' => e = .returned (.bool (isB K 1)) ∧ Below V.heap.size V w') := fun V => dis_any 3 K 1 hK V
  unfold nextN mayO mayS
  generalize ownN K = own at *
  generalize othN K = oth at *
  generalize isB K 3 = mie at *
  generalize isB K 1 = sie at *
  generalize rdyN K &&& (18446744073709551615 - K 4) = x1 at *
  generalize rdyN K &&& K 4 = x2 at *
  generalize rdyN K = rd at *
  generalize ((18446744073709551615 - K 4 : Nat) : Int) = nk at *
  generalize K 1 ||| K 2 = pd at *
  obtain ⟨R, hR⟩ : ∃ R : Nat, R = (if ((decide ((3 : Int) < 3) || mie) = true ∧ own ≠ 0) then own else if (((3 : Int) == 0 || ((3 : Int) == 1 && sie)) = true) then oth else 0) := ⟨_, rfl⟩
  rw [← hR]
  have HR : Hid (R = (if ((decide ((3 : Int) < 3) || mie) = true ∧ own ≠ 0) then own else if (((3 : Int) == 0 || ((3 : Int) == 1 && sie)) = true) then oth else 0)) := hR
  clear hR hK
  obtain ⟨dow, hdow⟩ : ∃ d, dfN own = d := ⟨_, rfl⟩
  obtain ⟨dot, hdot⟩ : ∃ d, dfN oth = d := ⟨_, rfl⟩
  rw [hdow] at HF1
  rw [hdot] at HF2
  have HDW : Hid (dfN own = dow) := hdow
  have HDT : Hid (dfN oth = dot) := hdot
  clear hdow hdot
  go_enter Tryd.func8, Tryd.ntmps8
  go_upto_region 1 with fail
  generalize ((w.alloc (.cells (docC 3 K) 32)).alloc (.cells #[.int .i64 0, .int .u64 0, .bool false] 36)) = W at *
  have X0d : Hid (Dn w W.drew 3 K) := X0.out.step (below_drew1 _)
  refine wp_region_held_drew (S := fun V => V.cell? ⟨w.heap.size, 6, none⟩ = some (.int .u64 (K 5 : Nat)) ∧ Box 32 V w.heap.size (docC 3 K)) (by kernel_rfl) ⟨X0d.out.1.cell 6 _ rfl, X0d.out.1⟩ ?_
  intro hS
  refine wpAnyH_take (i := 0) (v := .agg (docC 3 K)) rfl (by kernel_rfl) (by kernel_rfl) (by kernel_rfl) (fun _ _ _ h => h) (Or.inl ⟨by kernel_rfl, fun V hV => yield_docB hV.2 _ rfl rfl⟩) hS ?_
  (try simp only [Act.put, List.getElem_toArray, List.getElem_cons_succ, List.getElem_cons_zero, List.setIfInBounds_toArray, List.set_cons_zero, List.set_cons_succ])
  refine wpAnyH_take (i := 2) (v := ?_) rfl (by kernel_rfl) (by kernel_rfl) (by kernel_rfl) (fun _ _ _ h => h) (Or.inl ⟨by kernel_rfl, ?_⟩) hS ?_
  rotate_left
  · intro w hSw; (try dsimp only at hSw); go_simp; try (with_reducible rfl)
  (try simp only [Act.put, List.getElem_toArray, List.getElem_cons_succ, List.getElem_cons_zero, List.setIfInBounds_toArray, List.set_cons_zero, List.set_cons_succ])
  refine wpAnyH_take (i := 3) (v := ?_) rfl (by kernel_rfl) (by kernel_rfl) (by kernel_rfl) (fun _ _ _ h => h) (Or.inl ⟨by kernel_rfl, ?_⟩) hS ?_
  rotate_left
  · intro w hSw; (try dsimp only at hSw); go_simp; try (with_reducible rfl)
  (try simp only [Act.put, List.getElem_toArray, List.getElem_cons_succ, List.getElem_cons_zero, List.setIfInBounds_toArray, List.set_cons_zero, List.set_cons_succ])
  refine wpAnyH_take (i := 4) (v := ?_) rfl (by kernel_rfl) (by kernel_rfl) (by kernel_rfl) (fun _ _ _ h => h) (Or.inl ⟨by kernel_rfl, ?_⟩) hS ?_
  rotate_left
  · intro w hSw; (try dsimp only at hSw); go_simp; try (with_reducible rfl)
  (try simp only [Act.put, List.getElem_toArray, List.getElem_cons_succ, List.getElem_cons_zero, List.setIfInBounds_toArray, List.set_cons_zero, List.set_cons_succ])
  refine wpAnyH_ready (rs := [1]) (by kernel_rfl) (by simp) ?_
  refine AllReadyH.cons rfl (fun K1 hK1 => ?_) AllReadyH.nil
  go_simp
  refine (HP.out _).mono ?_
  rintro e w1 ⟨rfl, hb⟩
  have X1 : Hid (Dn w w1 3 K) := X0d.out.step hb
  clear hb
  refine hK1.out _ _ ⟨X1.out.1.cell 6 _ rfl, X1.out.1⟩ (fun hS2 => ?_)
  clear hK1 K1 hS
  (try simp only [Act.put, List.getElem_toArray, List.getElem_cons_succ, List.getElem_cons_zero, List.setIfInBounds_toArray, List.set_cons_zero, List.set_cons_succ])
  refine wpAnyH_ready (rs := [5]) (by kernel_rfl) (by simp) ?_
  refine AllReadyH.cons rfl (fun K1 hK1 => ?_) AllReadyH.nil
  go_simp
  refine (HA0.out _).mono ?_
  rintro e w2 ⟨rfl, hb⟩
  have X2 : Hid (Dn w w2 3 K) := X1.out.step hb
  clear hb
  refine hK1.out _ _ ⟨X2.out.1.cell 6 _ rfl, X2.out.1⟩ (fun hS3 => ?_)
  clear hK1 K1 hS2
  (try simp only [Act.put, List.getElem_toArray, List.getElem_cons_succ, List.getElem_cons_zero, List.setIfInBounds_toArray, List.set_cons_zero, List.set_cons_succ])
  refine wpAnyH_take (i := 6) (v := ?_) rfl (by kernel_rfl) (by kernel_rfl) (by kernel_rfl) (fun _ _ _ h => h) (Or.inl ⟨by kernel_rfl, ?_⟩) hS3 ?_
  rotate_left
  · intro w hSw; (try dsimp only at hSw); go_simp; try (with_reducible rfl)
  (try simp only [Act.put, List.getElem_toArray, List.getElem_cons_succ, List.getElem_cons_zero, List.setIfInBounds_toArray, List.set_cons_zero, List.set_cons_succ])
  refine wpAnyH_done (by kernel_rfl) ?_ _
  clear hS3 X0 X0d X1
  have c4 : w2.cell? ⟨w.heap.size, 5, none⟩ = some (.int .u64 (K 4 : Nat)) := X2.out.1.cell 5 _ rfl
  go_wp2_with fail
  refine (HA1.out _).mono ?_
  rintro e w3 ⟨rfl, hb⟩
  have X3 : Hid (Dn w w3 3 K) := X2.out.step hb
  clear hb
  clear c4
  go_wp2_with fail
  refine (HF1.out _).mono ?_
  rintro e w4 ⟨rfl, hb⟩
  have X4 : Hid (Dn w w4 3 K) := X3.out.step hb
  clear hb
  have c4 : w4.cell? ⟨w.heap.size, 5, none⟩ = some (.int .u64 (K 4 : Nat)) := X4.out.1.cell 5 _ rfl
  go_wp2_with fail
  refine (HA2.out _).mono ?_
  rintro e w5 ⟨rfl, hb⟩
  have X5 : Hid (Dn w w5 3 K) := X4.out.step hb
  clear hb
  clear c4
  go_wp2_with fail
  refine (HF2.out _).mono ?_
  rintro e w6 ⟨rfl, hb⟩
  have X6 : Hid (Dn w w6 3 K) := X5.out.step hb
  clear hb
  have c0 : w6.cell? ⟨w.heap.size, 0, none⟩ = some (.int .i64 3) := X6.out.1.cell 0 _ rfl
  clear X2 X3 X4 X5
  by_cases ho : own = 0
  · have hd : dow = -1 := by rw [← HDW.out]; unfold dfN; rw [if_pos ho]
    have HN0 : Hid (own = 0) := ho
    subst hd
    clear ho
    by_cases ht : oth = 0
    · have hd : dot = -1 := by rw [← HDT.out]; unfold dfN; rw [if_pos ht]
      have HT0 : Hid (oth = 0) := ht
      subst hd
      clear ht
      go_upto_region 8 with fail
      refine wp_region_list ?_
      (refine wpList_step (fun KK hKK => ?_); go_simp; refine hKK _ _ ?_; clear hKK KK)
      refine wpList_store_trap rfl _ _ rfl (w.heap.size + 1) 0 0 false zeroT rfl rfl X6.out.2.1 zT_size ?_
      intro W9 B9 U9
      have T9 : Hid (Box 36 W9 (w.heap.size + 1) (trapC 0 0 false) ∧ Below w.heap.size w W9) := ⟨B9, X6.out.2.2.trans (U9.below (Nat.le_succ _) X6.out.2.2.size)⟩
      clear B9 U9
      go_wp2_with fail
      exact bodyPost_ret (v := .tuple #[.agg (trapC 0 0 false), .bool false]) (resultsT2 (p := 2) (t := 3) rfl _ _ (w.heap.size + 1) 0 0 false rfl T9.out.1) rfl ⟨by rw [show R = 0 from by rw [HR.out]; simp [HN0.out]]; exact tell_none, T9.out.2⟩
    · have hd : dot = (oth : Int) := by rw [← HDT.out]; unfold dfN; rw [if_neg ht]
      have HTZ : Hid (oth ≠ 0) := ht
      have g0 : (0 : Int) ≤ (oth : Int) := by omega
      subst hd
      clear ht
      go_upto_region 8 with fail
      refine wp_region_list ?_
      (refine wpList_step (fun KK hKK => ?_); go_simp; refine hKK _ _ ?_; clear hKK KK)
      refine wpList_store_trap rfl _ _ rfl (w.heap.size + 1) 0 0 false zeroT rfl rfl X6.out.2.1 zT_size ?_
      intro W9 B9 U9
      have T9 : Hid (Box 36 W9 (w.heap.size + 1) (trapC 0 0 false) ∧ Below w.heap.size w W9) := ⟨B9, X6.out.2.2.trans (U9.below (Nat.le_succ _) X6.out.2.2.size)⟩
      clear B9 U9
      go_wp2_with fail
      exact bodyPost_ret (v := .tuple #[.agg (trapC 0 0 false), .bool false]) (resultsT2 (p := 2) (t := 3) rfl _ _ (w.heap.size + 1) 0 0 false rfl T9.out.1) rfl ⟨by rw [show R = 0 from by rw [HR.out]; simp [HN0.out]]; exact tell_none, T9.out.2⟩
  · have hd : dow = (own : Int) := by rw [← HDW.out]; unfold dfN; rw [if_neg ho]
    have HNZ : Hid (own ≠ 0) := ho
    have g1 : (0 : Int) ≤ (own : Int) := by omega
    subst hd
    clear ho
    go_upto_region 4 with fail
    refine wp_region_list ?_
    iterate 7 (refine wpList_step (fun KK hKK => ?_); go_simp; refine hKK _ _ ?_; clear hKK KK)
    refine wpList_load_docG (by first | rfl | kernel_rfl) _ rfl w.heap.size 3 K rfl X6.out.1 ?_
    refine wpList_step (fun KK hKK => ?_)
    go_simp
    refine (HI3.out _).mono ?_
    rintro e w7 ⟨rfl, hb7⟩
    have X7 : Hid (Dn w w7 3 K) := X6.out.step hb7
    clear hb7 c0
    have c0 : w7.cell? ⟨w.heap.size, 0, none⟩ = some (.int .i64 3) := X7.out.1.cell 0 _ rfl
    refine hKK _ _ ?_
    clear hKK KK
    cases mie
    · by_cases ht : oth = 0
      · have hd : dot = -1 := by rw [← HDT.out]; unfold dfN; rw [if_pos ht]
        have HT0 : Hid (oth = 0) := ht
        subst hd
        clear ht
        go_upto_region 8 with fail
        refine wp_region_list ?_
        (refine wpList_step (fun KK hKK => ?_); go_simp; refine hKK _ _ ?_; clear hKK KK)
        refine wpList_store_trap rfl _ _ rfl (w.heap.size + 1) 0 0 false zeroT rfl rfl X7.out.2.1 zT_size ?_
        intro W9 B9 U9
        have T9 : Hid (Box 36 W9 (w.heap.size + 1) (trapC 0 0 false) ∧ Below w.heap.size w W9) := ⟨B9, X7.out.2.2.trans (U9.below (Nat.le_succ _) X7.out.2.2.size)⟩
        clear B9 U9
        go_wp2_with fail
        exact bodyPost_ret (v := .tuple #[.agg (trapC 0 0 false), .bool false]) (resultsT2 (p := 2) (t := 3) rfl _ _ (w.heap.size + 1) 0 0 false rfl T9.out.1) rfl ⟨by rw [show R = 0 from by rw [HR.out]; simp]; exact tell_none, T9.out.2⟩
      · have hd : dot = (oth : Int) := by rw [← HDT.out]; unfold dfN; rw [if_neg ht]
        have HTZ : Hid (oth ≠ 0) := ht
        have g0 : (0 : Int) ≤ (oth : Int) := by omega
        subst hd
        clear ht
        go_upto_region 8 with fail
        refine wp_region_list ?_
        (refine wpList_step (fun KK hKK => ?_); go_simp; refine hKK _ _ ?_; clear hKK KK)
        refine wpList_store_trap rfl _ _ rfl (w.heap.size + 1) 0 0 false zeroT rfl rfl X7.out.2.1 zT_size ?_
        intro W9 B9 U9
        have T9 : Hid (Box 36 W9 (w.heap.size + 1) (trapC 0 0 false) ∧ Below w.heap.size w W9) := ⟨B9, X7.out.2.2.trans (U9.below (Nat.le_succ _) X7.out.2.2.size)⟩
        clear B9 U9
        go_wp2_with fail
        exact bodyPost_ret (v := .tuple #[.agg (trapC 0 0 false), .bool false]) (resultsT2 (p := 2) (t := 3) rfl _ _ (w.heap.size + 1) 0 0 false rfl T9.out.1) rfl ⟨by rw [show R = 0 from by rw [HR.out]; simp]; exact tell_none, T9.out.2⟩
    · go_upto_region 5 with fail
      refine wp_region_list ?_
      (refine wpList_step (fun KK hKK => ?_); go_simp; refine hKK _ _ ?_; clear hKK KK)
      (refine wpList_step (fun KK hKK => ?_); go_simp; refine hKK _ _ ?_; clear hKK KK)
      refine wpList_store_trap rfl _ _ rfl (w.heap.size + 1) own 0 true zeroT rfl rfl X7.out.2.1 zT_size ?_
      intro W9 B9 U9
      have T9 : Hid (Box 36 W9 (w.heap.size + 1) (trapC own 0 true) ∧ Below w.heap.size w W9) := ⟨B9, X7.out.2.2.trans (U9.below (Nat.le_succ _) X7.out.2.2.size)⟩
      clear B9 U9
      go_wp2_with fail
      exact bodyPost_ret (v := .tuple #[.agg (trapC own 0 true), .bool true]) (resultsT2 (p := 2) (t := 3) rfl _ _ (w.heap.size + 1) own 0 true rfl T9.out.1) rfl ⟨by rw [show R = own from by rw [HR.out]; rw [if_pos ⟨by first | rfl | simp, HNZ.out⟩]]; exact tell_some own HNZ.out, T9.out.2⟩
end Go.Proofs.YtdljceeoofhfnaaDoor
