/- The program's call Next of layer 9. -/
import Derived.Test.YtdljceeoofhfnaaDoorNx
namespace Go.Proofs.YtdljceeoofhfnaaDoor
open Go.RowKit Go.Maps
set_option linter.unusedVariables false
set_option linter.unusedSimpArgs false
set_option maxRecDepth 100000
/-- what is pending and allowed; the first of the machine's own, of the supervisor's -/
def rdyN (K : Nat → Nat) : Nat := (K 1 ||| K 2) &&& K 5
def ownN (K : Nat → Nat) : Nat := firstN (rdyN K &&& (18446744073709551615 - K 4))
def othN (K : Nat → Nat) : Nat := firstN (rdyN K &&& K 4)
def mayO (m : Int) (K : Nat → Nat) : Bool := decide (m < 3) || isB K 3
def mayS (m : Int) (K : Nat → Nat) : Bool := m == 0 || (m == 1 && isB K 1)
def nextN (m : Int) (K : Nat → Nat) : Nat := if mayO m K = true ∧ ownN K ≠ 0 then ownN K else if mayS m K = true then othN K else 0
theorem rdy_lt {K : Nat → Nat} (h : Ok K) : rdyN K < 18446744073709551616 := and_lt _ _ (or_lt _ _ (h _) (h _))
/-- the program's file, a result of the call's own -/
def Un (w W : World) (b : Nat) (m : Int) (K : Nat → Nat) : Prop := Box 29 W b (fileC m K) ∧ Tz w W ∧ Ord W
theorem Un.step {w W W' : World} {b : Nat} {m : Int} {K : Nat → Nat} (h : Un w W b m K) (hb : Below W.heap.size W W') : Un w W' b m K := ⟨h.1.step hb, h.2.1.step hb, h.2.2.below hb⟩
set_option maxHeartbeats 8000000 in
theorem next_0 (K : Nat → Nat) (b : Nat) (hK : Ok K) (w : World) (hO : Ord w) (hB : Box 29 w b (fileC 0 K)) : Calls Tryd.prog 7 #[.pointer (some ⟨b, 0, none⟩)] w fun e w' => e = .returned (tellT (nextN 0 K)) ∧ Below w.heap.size w w' := by
  have hb0 : Below w.heap.size w (w.alloc (.cells #[.int .i64 0, .int .u64 0, .bool false] 36)) := (Below.refl _ _).alloc (Nat.le_refl _) _
  have X0 : Hid (Un w (w.alloc (.cells #[.int .i64 0, .int .u64 0, .bool false] 36)) b 0 K) := ⟨hB.step hb0, ⟨Box.new _ _ _, hb0⟩, hO.below hb0⟩
  have HP : Hid (∀ V, Box 29 V b (fileC 0 K) → Calls Tryd.prog 10 #[.pointer (some ⟨b, 0, none⟩)] V fun e w' => e = .returned (.int .u64 (K 1 ||| K 2 : Nat)) ∧ Below V.heap.size V w') := fun V hV => pending_any 0 K b hK V hV
  have hand : bits .and .u64 ((K 1 ||| K 2 : Nat) : Int) ((K 5 : Nat) : Int) = ((rdyN K : Nat) : Int) := bits_and_u64_nat _ _ (or_lt _ _ (hK _) (hK _)) (hK _)
  have hown : bits .andNot .u64 ((rdyN K : Nat) : Int) ((K 4 : Nat) : Int) = ((rdyN K &&& (18446744073709551615 - K 4) : Nat) : Int) := u64_andNot_nat _ _ (rdy_lt hK) (hK _)
  have hoth : bits .and .u64 ((rdyN K : Nat) : Int) ((K 4 : Nat) : Int) = ((rdyN K &&& K 4 : Nat) : Int) := bits_and_u64_nat _ _ (rdy_lt hK) (hK _)
  have HF1 : Hid (∀ V, Ord V → Calls Tryd.prog 19 #[.int .u64 ((rdyN K &&& (18446744073709551615 - K 4) : Nat) : Int)] V fun e w' => e = .returned (tellT (ownN K)) ∧ Below V.heap.size V w') := fun V hV => first_any _ (and_lt _ _ (rdy_lt hK)) V hV
  have HF2 : Hid (∀ V, Ord V → Calls Tryd.prog 19 #[.int .u64 ((rdyN K &&& K 4 : Nat) : Int)] V fun e w' => e = .returned (tellT (othN K)) ∧ Below V.heap.size V w') := fun V hV => first_any _ (and_lt _ _ (rdy_lt hK)) V hV
  have HI3 : Hid (∀ V, Box 29 V b (fileC 0 K) → Calls Tryd.prog 11 #[.pointer (some ⟨b, 0, none⟩), .int .i64 3] V fun e w' => e = .returned (.bool (isB K 3)) ∧ Below V.heap.size V w') := fun V hV => isb_any 0 K 3 b hK V hV
  have HI1 : Hid (∀ V, Box 29 V b (fileC 0 K) → Calls Tryd.prog 11 #[.pointer (some ⟨b, 0, none⟩), .int .i64 1] V fun e w' => e = .returned (.bool (isB K 1)) ∧ Below V.heap.size V w') := fun V hV => isb_any 0 K 1 b hK V hV
  unfold nextN mayO mayS
  generalize ownN K = own at *
  generalize othN K = oth at *
  generalize isB K 3 = mie at *
  generalize isB K 1 = sie at *
  generalize rdyN K &&& (18446744073709551615 - K 4) = x1 at *
  generalize rdyN K &&& K 4 = x2 at *
  generalize rdyN K = rd at *
  generalize K 1 ||| K 2 = pd at *
  obtain ⟨R, hR⟩ : ∃ R : Nat, R = (if ((decide ((0 : Int) < 3) || mie) = true ∧ own ≠ 0) then own else if (((0 : Int) == 0 || ((0 : Int) == 1 && sie)) = true) then oth else 0) := ⟨_, rfl⟩
  rw [← hR]
  have HR : Hid (R = (if ((decide ((0 : Int) < 3) || mie) = true ∧ own ≠ 0) then own else if (((0 : Int) == 0 || ((0 : Int) == 1 && sie)) = true) then oth else 0)) := hR
  clear hR hK hO hB hb0
  go_enter Tryd.func7, Tryd.ntmps7
  go_upto_region 1 with fail
  generalize w.alloc (.cells #[.int .i64 0, .int .u64 0, .bool false] 36) = W at *
  have X0d : Hid (Un w W.drew b 0 K) := X0.out.step (below_drew1 _)
  refine wp_region_held_drew (S := fun V => V.cell? ⟨b, 4, none⟩ = some (.int .u64 (K 5 : Nat))) (by kernel_rfl) (X0d.out.1.cell 4 _ rfl) ?_
  intro hS
  refine wpAnyH_take (i := 0) (v := ?_) rfl (by kernel_rfl) (by kernel_rfl) (by kernel_rfl) (fun _ _ _ h => h) (Or.inl ⟨by kernel_rfl, ?_⟩) hS ?_
  rotate_left
  · intro w hSw; (try dsimp only at hSw); go_simp; try (with_reducible rfl)
  (try simp only [Act.put, List.getElem_toArray, List.getElem_cons_succ, List.getElem_cons_zero, List.setIfInBounds_toArray, List.set_cons_zero, List.set_cons_succ])
  refine wpAnyH_take (i := 2) (v := ?_) rfl (by kernel_rfl) (by kernel_rfl) (by kernel_rfl) (fun _ _ _ h => h) (Or.inl ⟨by kernel_rfl, ?_⟩) hS ?_
  rotate_left
  · intro w hSw; (try dsimp only at hSw); go_simp; try (with_reducible rfl)
  (try simp only [Act.put, List.getElem_toArray, List.getElem_cons_succ, List.getElem_cons_zero, List.setIfInBounds_toArray, List.set_cons_zero, List.set_cons_succ])
  refine wpAnyH_take (i := 3) (v := ?_) rfl (by kernel_rfl) (by kernel_rfl) (by kernel_rfl) (fun _ _ _ h => h) (Or.inl ⟨by kernel_rfl, ?_⟩) hS ?_
  rotate_left
  · intro w hSw; (try dsimp only at hSw); go_simp; try (with_reducible rfl)
  (try simp only [Act.put, List.getElem_toArray, List.getElem_cons_succ, List.getElem_cons_zero, List.setIfInBounds_toArray, List.set_cons_zero, List.set_cons_succ])
  refine wpAnyH_take (i := 4) (v := ?_) rfl (by kernel_rfl) (by kernel_rfl) (by kernel_rfl) (fun _ _ _ h => h) (Or.inl ⟨by kernel_rfl, ?_⟩) hS ?_
  rotate_left
  · intro w hSw; (try dsimp only at hSw); go_simp; try (with_reducible rfl)
  (try simp only [Act.put, List.getElem_toArray, List.getElem_cons_succ, List.getElem_cons_zero, List.setIfInBounds_toArray, List.set_cons_zero, List.set_cons_succ])
  refine wpAnyH_take (i := 5) (v := ?_) rfl (by kernel_rfl) (by kernel_rfl) (by kernel_rfl) (fun _ _ _ h => h) (Or.inl ⟨by kernel_rfl, ?_⟩) hS ?_
  rotate_left
  · intro w hSw; (try dsimp only at hSw); go_simp; try (with_reducible rfl)
  (try simp only [Act.put, List.getElem_toArray, List.getElem_cons_succ, List.getElem_cons_zero, List.setIfInBounds_toArray, List.set_cons_zero, List.set_cons_succ])
  refine wpAnyH_ready (rs := [1]) (by kernel_rfl) (by simp) ?_
  refine AllReadyH.cons rfl (fun K1 hK1 => ?_) AllReadyH.nil
  go_simp
  refine (HP.out _ X0d.out.1).mono ?_
  rintro e w1 ⟨rfl, hb1⟩
  have X1 : Hid (Un w w1 b 0 K) := X0d.out.step hb1
  clear hb1
  refine hK1.out _ _ (X1.out.1.cell 4 _ rfl) (fun hS2 => ?_)
  clear hK1 K1 hS
  (try simp only [Act.put, List.getElem_toArray, List.getElem_cons_succ, List.getElem_cons_zero, List.setIfInBounds_toArray, List.set_cons_zero, List.set_cons_succ])
  refine wpAnyH_take (i := 6) (v := ?_) rfl (by kernel_rfl) (by kernel_rfl) (by kernel_rfl) (fun _ _ _ h => h) (Or.inl ⟨by kernel_rfl, ?_⟩) hS2 ?_
  rotate_left
  · intro w hSw; (try dsimp only at hSw); go_simp; try (with_reducible rfl)
  (try simp only [Act.put, List.getElem_toArray, List.getElem_cons_succ, List.getElem_cons_zero, List.setIfInBounds_toArray, List.set_cons_zero, List.set_cons_succ])
  refine wpAnyH_take (i := 7) (v := ?_) rfl (by kernel_rfl) (by kernel_rfl) (by kernel_rfl) (fun _ _ _ h => h) (Or.inl ⟨by kernel_rfl, ?_⟩) hS2 ?_
  rotate_left
  · intro w hSw; (try dsimp only at hSw); go_simp; try (with_reducible rfl)
  (try simp only [Act.put, List.getElem_toArray, List.getElem_cons_succ, List.getElem_cons_zero, List.setIfInBounds_toArray, List.set_cons_zero, List.set_cons_succ])
  refine wpAnyH_done (by kernel_rfl) ?_ _
  clear hS2
  have c0 : w1.cell? ⟨b, 0, none⟩ = some (.int .i64 0) := X1.out.1.cell 0 _ rfl
  have c4 : w1.cell? ⟨b, 3, none⟩ = some (.int .u64 (K 4 : Nat)) := X1.out.1.cell 3 _ rfl
  go_wp2_with fail
  refine (HF1.out _ X1.out.2.2).mono ?_
  rintro e w3 ⟨rfl, hb3⟩
  have X3 : Hid (Un w w3 b 0 K) := X1.out.step hb3
  clear hb3 c0 c4
  unfold tellT
  rename_i KK hKK
  refine hKK _ _ ?_
  clear hKK
  (refine wpList_step (fun KK hKK => ?_); go_simp; refine hKK _ _ ?_; clear hKK KK)
  refine wpList_extract_at rfl _ _ _ _ rfl rfl rfl ?_
  refine wpList_extract_at rfl _ _ _ _ rfl rfl rfl ?_
  refine wpList_alloc_trap rfl rfl ?_
  intro W4 hW4
  have B4 : Box 36 W4 w3.heap.size zeroT := by rw [hW4]; exact Box.new _ _ _
  have L4 : Below w3.heap.size w3 W4 := by rw [hW4]; exact (Below.refl _ _).alloc (Nat.le_refl _) _
  clear hW4
  refine wpList_store_trap rfl _ _ rfl w3.heap.size own 0 (nzB own) zeroT rfl rfl B4 zT_size ?_
  intro W5 B5 U5
  have X5 : Hid ((Un w W5 b 0 K) ∧ Box 36 W5 w3.heap.size (trapC own 0 (nzB own))) := ⟨X3.out.step (L4.trans (U5.below (Nat.le_refl _) L4.size)), B5⟩
  clear B4 L4 B5 U5
  generalize w3.heap.size = tb at *
  by_cases ho : own = 0
  · have hz : nzB own = false := by rw [ho]; rfl
    have HN0 : Hid (own = 0) := ho
    rw [hz]
    have Y5 : Hid (Un w W5 b 0 K) := X5.out.1
    clear hz X5 ho
    have d0 : W5.cell? ⟨b, 0, none⟩ = some (.int .i64 0) := Y5.out.1.cell 0 _ rfl
    have d4 : W5.cell? ⟨b, 3, none⟩ = some (.int .u64 (K 4 : Nat)) := Y5.out.1.cell 3 _ rfl
    go_wp2_with fail
    refine (HF2.out _ Y5.out.2.2).mono ?_
    rintro e w7 ⟨rfl, hb7⟩
    have X7 : Hid (Un w w7 b 0 K) := Y5.out.step hb7
    clear hb7 d0 d4
    unfold tellT
    rename_i KK hKK
    refine hKK _ _ ?_
    clear hKK
    refine wpList_extract_at rfl _ _ _ _ rfl rfl rfl ?_
    refine wpList_extract_at rfl _ _ _ _ rfl rfl rfl ?_
    refine wpList_store_trap rfl _ _ rfl w.heap.size oth 0 (nzB oth) zeroT rfl rfl X7.out.2.1.1 zT_size ?_
    intro W9 B9 U9
    have T9 : Hid (Box 36 W9 w.heap.size (trapC oth 0 (nzB oth)) ∧ Below w.heap.size w W9) := ⟨B9, X7.out.2.1.2.trans (U9.below (Nat.le_refl _) X7.out.2.1.2.size)⟩
    clear B9 U9
    go_wp2_with fail
    exact bodyPost_ret (v := .tuple #[.agg (trapC oth 0 (nzB oth)), .bool (nzB oth)]) (resultsT2 (p := 2) (t := 3) rfl _ _ w.heap.size oth 0 (nzB oth) rfl T9.out.1) rfl ⟨by rw [show R = oth from by rw [HR.out]; simp [HN0.out]]; rfl, T9.out.2⟩
  · have hz : nzB own = true := decide_eq_true ho
    have X5t : Hid ((Un w W5 b 0 K) ∧ Box 36 W5 tb (trapC own 0 true)) := by rw [← hz]; exact X5.out
    have HO2 : Hid (own ≠ 0) := ho
    rw [hz]
    clear hz X5 ho
    go_upto_region 5 with fail
    refine wp_region_list ?_
    refine wpList_load_trap rfl _ rfl tb own 0 true rfl X5t.out.2 ?_
    have X6 : Hid (Un w W5 b 0 K) := X5t.out.1
    refine wpList_store_trap rfl _ _ rfl w.heap.size own 0 true zeroT rfl rfl X6.out.2.1.1 zT_size ?_
    intro W9 B9 U9
    have T9 : Hid (Box 36 W9 w.heap.size (trapC own 0 true) ∧ Below w.heap.size w W9) := ⟨B9, X6.out.2.1.2.trans (U9.below (Nat.le_refl _) X6.out.2.1.2.size)⟩
    clear B9 U9
    go_wp2_with fail
    exact bodyPost_ret (v := .tuple #[.agg (trapC own 0 true), .bool true]) (resultsT2 (p := 2) (t := 3) rfl _ _ w.heap.size own 0 true rfl T9.out.1) rfl ⟨by rw [show R = own from by rw [HR.out]; rw [if_pos ⟨by first | rfl | simp, HO2.out⟩]]; exact tell_some own HO2.out, T9.out.2⟩
set_option maxHeartbeats 8000000 in
theorem next_1 (K : Nat → Nat) (b : Nat) (hK : Ok K) (w : World) (hO : Ord w) (hB : Box 29 w b (fileC 1 K)) : Calls Tryd.prog 7 #[.pointer (some ⟨b, 0, none⟩)] w fun e w' => e = .returned (tellT (nextN 1 K)) ∧ Below w.heap.size w w' := by
  have hb0 : Below w.heap.size w (w.alloc (.cells #[.int .i64 0, .int .u64 0, .bool false] 36)) := (Below.refl _ _).alloc (Nat.le_refl _) _
  have X0 : Hid (Un w (w.alloc (.cells #[.int .i64 0, .int .u64 0, .bool false] 36)) b 1 K) := ⟨hB.step hb0, ⟨Box.new _ _ _, hb0⟩, hO.below hb0⟩
  have HP : Hid (∀ V, Box 29 V b (fileC 1 K) → Calls Tryd.prog 10 #[.pointer (some ⟨b, 0, none⟩)] V fun e w' => e = .returned (.int .u64 (K 1 ||| K 2 : Nat)) ∧ Below V.heap.size V w') := fun V hV => pending_any 1 K b hK V hV
  have hand : bits .and .u64 ((K 1 ||| K 2 : Nat) : Int) ((K 5 : Nat) : Int) = ((rdyN K : Nat) : Int) := bits_and_u64_nat _ _ (or_lt _ _ (hK _) (hK _)) (hK _)
  have hown : bits .andNot .u64 ((rdyN K : Nat) : Int) ((K 4 : Nat) : Int) = ((rdyN K &&& (18446744073709551615 - K 4) : Nat) : Int) := u64_andNot_nat _ _ (rdy_lt hK) (hK _)
  have hoth : bits .and .u64 ((rdyN K : Nat) : Int) ((K 4 : Nat) : Int) = ((rdyN K &&& K 4 : Nat) : Int) := bits_and_u64_nat _ _ (rdy_lt hK) (hK _)
  have HF1 : Hid (∀ V, Ord V → Calls Tryd.prog 19 #[.int .u64 ((rdyN K &&& (18446744073709551615 - K 4) : Nat) : Int)] V fun e w' => e = .returned (tellT (ownN K)) ∧ Below V.heap.size V w') := fun V hV => first_any _ (and_lt _ _ (rdy_lt hK)) V hV
  have HF2 : Hid (∀ V, Ord V → Calls Tryd.prog 19 #[.int .u64 ((rdyN K &&& K 4 : Nat) : Int)] V fun e w' => e = .returned (tellT (othN K)) ∧ Below V.heap.size V w') := fun V hV => first_any _ (and_lt _ _ (rdy_lt hK)) V hV
  have HI3 : Hid (∀ V, Box 29 V b (fileC 1 K) → Calls Tryd.prog 11 #[.pointer (some ⟨b, 0, none⟩), .int .i64 3] V fun e w' => e = .returned (.bool (isB K 3)) ∧ Below V.heap.size V w') := fun V hV => isb_any 1 K 3 b hK V hV
  have HI1 : Hid (∀ V, Box 29 V b (fileC 1 K) → Calls Tryd.prog 11 #[.pointer (some ⟨b, 0, none⟩), .int .i64 1] V fun e w' => e = .returned (.bool (isB K 1)) ∧ Below V.heap.size V w') := fun V hV => isb_any 1 K 1 b hK V hV
  unfold nextN mayO mayS
  generalize ownN K = own at *
  generalize othN K = oth at *
  generalize isB K 3 = mie at *
  generalize isB K 1 = sie at *
  generalize rdyN K &&& (18446744073709551615 - K 4) = x1 at *
  generalize rdyN K &&& K 4 = x2 at *
  generalize rdyN K = rd at *
  generalize K 1 ||| K 2 = pd at *
  obtain ⟨R, hR⟩ : ∃ R : Nat, R = (if ((decide ((1 : Int) < 3) || mie) = true ∧ own ≠ 0) then own else if (((1 : Int) == 0 || ((1 : Int) == 1 && sie)) = true) then oth else 0) := ⟨_, rfl⟩
  rw [← hR]
  have HR : Hid (R = (if ((decide ((1 : Int) < 3) || mie) = true ∧ own ≠ 0) then own else if (((1 : Int) == 0 || ((1 : Int) == 1 && sie)) = true) then oth else 0)) := hR
  clear hR hK hO hB hb0
  go_enter Tryd.func7, Tryd.ntmps7
  go_upto_region 1 with fail
  generalize w.alloc (.cells #[.int .i64 0, .int .u64 0, .bool false] 36) = W at *
  have X0d : Hid (Un w W.drew b 1 K) := X0.out.step (below_drew1 _)
  refine wp_region_held_drew (S := fun V => V.cell? ⟨b, 4, none⟩ = some (.int .u64 (K 5 : Nat))) (by kernel_rfl) (X0d.out.1.cell 4 _ rfl) ?_
  intro hS
  refine wpAnyH_take (i := 0) (v := ?_) rfl (by kernel_rfl) (by kernel_rfl) (by kernel_rfl) (fun _ _ _ h => h) (Or.inl ⟨by kernel_rfl, ?_⟩) hS ?_
  rotate_left
  · intro w hSw; (try dsimp only at hSw); go_simp; try (with_reducible rfl)
  (try simp only [Act.put, List.getElem_toArray, List.getElem_cons_succ, List.getElem_cons_zero, List.setIfInBounds_toArray, List.set_cons_zero, List.set_cons_succ])
  refine wpAnyH_take (i := 2) (v := ?_) rfl (by kernel_rfl) (by kernel_rfl) (by kernel_rfl) (fun _ _ _ h => h) (Or.inl ⟨by kernel_rfl, ?_⟩) hS ?_
  rotate_left
  · intro w hSw; (try dsimp only at hSw); go_simp; try (with_reducible rfl)
  (try simp only [Act.put, List.getElem_toArray, List.getElem_cons_succ, List.getElem_cons_zero, List.setIfInBounds_toArray, List.set_cons_zero, List.set_cons_succ])
  refine wpAnyH_take (i := 3) (v := ?_) rfl (by kernel_rfl) (by kernel_rfl) (by kernel_rfl) (fun _ _ _ h => h) (Or.inl ⟨by kernel_rfl, ?_⟩) hS ?_
  rotate_left
  · intro w hSw; (try dsimp only at hSw); go_simp; try (with_reducible rfl)
  (try simp only [Act.put, List.getElem_toArray, List.getElem_cons_succ, List.getElem_cons_zero, List.setIfInBounds_toArray, List.set_cons_zero, List.set_cons_succ])
  refine wpAnyH_take (i := 4) (v := ?_) rfl (by kernel_rfl) (by kernel_rfl) (by kernel_rfl) (fun _ _ _ h => h) (Or.inl ⟨by kernel_rfl, ?_⟩) hS ?_
  rotate_left
  · intro w hSw; (try dsimp only at hSw); go_simp; try (with_reducible rfl)
  (try simp only [Act.put, List.getElem_toArray, List.getElem_cons_succ, List.getElem_cons_zero, List.setIfInBounds_toArray, List.set_cons_zero, List.set_cons_succ])
  refine wpAnyH_take (i := 5) (v := ?_) rfl (by kernel_rfl) (by kernel_rfl) (by kernel_rfl) (fun _ _ _ h => h) (Or.inl ⟨by kernel_rfl, ?_⟩) hS ?_
  rotate_left
  · intro w hSw; (try dsimp only at hSw); go_simp; try (with_reducible rfl)
  (try simp only [Act.put, List.getElem_toArray, List.getElem_cons_succ, List.getElem_cons_zero, List.setIfInBounds_toArray, List.set_cons_zero, List.set_cons_succ])
  refine wpAnyH_ready (rs := [1]) (by kernel_rfl) (by simp) ?_
  refine AllReadyH.cons rfl (fun K1 hK1 => ?_) AllReadyH.nil
  go_simp
  refine (HP.out _ X0d.out.1).mono ?_
  rintro e w1 ⟨rfl, hb1⟩
  have X1 : Hid (Un w w1 b 1 K) := X0d.out.step hb1
  clear hb1
  refine hK1.out _ _ (X1.out.1.cell 4 _ rfl) (fun hS2 => ?_)
  clear hK1 K1 hS
  (try simp only [Act.put, List.getElem_toArray, List.getElem_cons_succ, List.getElem_cons_zero, List.setIfInBounds_toArray, List.set_cons_zero, List.set_cons_succ])
  refine wpAnyH_take (i := 6) (v := ?_) rfl (by kernel_rfl) (by kernel_rfl) (by kernel_rfl) (fun _ _ _ h => h) (Or.inl ⟨by kernel_rfl, ?_⟩) hS2 ?_
  rotate_left
  · intro w hSw; (try dsimp only at hSw); go_simp; try (with_reducible rfl)
  (try simp only [Act.put, List.getElem_toArray, List.getElem_cons_succ, List.getElem_cons_zero, List.setIfInBounds_toArray, List.set_cons_zero, List.set_cons_succ])
  refine wpAnyH_take (i := 7) (v := ?_) rfl (by kernel_rfl) (by kernel_rfl) (by kernel_rfl) (fun _ _ _ h => h) (Or.inl ⟨by kernel_rfl, ?_⟩) hS2 ?_
  rotate_left
  · intro w hSw; (try dsimp only at hSw); go_simp; try (with_reducible rfl)
  (try simp only [Act.put, List.getElem_toArray, List.getElem_cons_succ, List.getElem_cons_zero, List.setIfInBounds_toArray, List.set_cons_zero, List.set_cons_succ])
  refine wpAnyH_done (by kernel_rfl) ?_ _
  clear hS2
  have c0 : w1.cell? ⟨b, 0, none⟩ = some (.int .i64 1) := X1.out.1.cell 0 _ rfl
  have c4 : w1.cell? ⟨b, 3, none⟩ = some (.int .u64 (K 4 : Nat)) := X1.out.1.cell 3 _ rfl
  go_wp2_with fail
  refine (HF1.out _ X1.out.2.2).mono ?_
  rintro e w3 ⟨rfl, hb3⟩
  have X3 : Hid (Un w w3 b 1 K) := X1.out.step hb3
  clear hb3 c0 c4
  unfold tellT
  rename_i KK hKK
  refine hKK _ _ ?_
  clear hKK
  (refine wpList_step (fun KK hKK => ?_); go_simp; refine hKK _ _ ?_; clear hKK KK)
  refine wpList_extract_at rfl _ _ _ _ rfl rfl rfl ?_
  refine wpList_extract_at rfl _ _ _ _ rfl rfl rfl ?_
  refine wpList_alloc_trap rfl rfl ?_
  intro W4 hW4
  have B4 : Box 36 W4 w3.heap.size zeroT := by rw [hW4]; exact Box.new _ _ _
  have L4 : Below w3.heap.size w3 W4 := by rw [hW4]; exact (Below.refl _ _).alloc (Nat.le_refl _) _
  clear hW4
  refine wpList_store_trap rfl _ _ rfl w3.heap.size own 0 (nzB own) zeroT rfl rfl B4 zT_size ?_
  intro W5 B5 U5
  have X5 : Hid ((Un w W5 b 1 K) ∧ Box 36 W5 w3.heap.size (trapC own 0 (nzB own))) := ⟨X3.out.step (L4.trans (U5.below (Nat.le_refl _) L4.size)), B5⟩
  clear B4 L4 B5 U5
  generalize w3.heap.size = tb at *
  by_cases ho : own = 0
  · have hz : nzB own = false := by rw [ho]; rfl
    have HN0 : Hid (own = 0) := ho
    rw [hz]
    have Y5 : Hid (Un w W5 b 1 K) := X5.out.1
    clear hz X5 ho
    have d0 : W5.cell? ⟨b, 0, none⟩ = some (.int .i64 1) := Y5.out.1.cell 0 _ rfl
    go_wp2_with fail
    refine (HI1.out _ Y5.out.1).mono ?_
    rintro e w6 ⟨rfl, hb6⟩
    have X6 : Hid (Un w w6 b 1 K) := Y5.out.step hb6
    clear hb6 d0
    have d0 : w6.cell? ⟨b, 0, none⟩ = some (.int .i64 1) := X6.out.1.cell 0 _ rfl
    cases sie
    · go_upto_region 8 with fail
      refine wp_region_list ?_
      (refine wpList_step (fun KK hKK => ?_); go_simp; refine hKK _ _ ?_; clear hKK KK)
      refine wpList_store_trap rfl _ _ rfl w.heap.size 0 0 false zeroT rfl rfl X6.out.2.1.1 zT_size ?_
      intro W9 B9 U9
      have T9 : Hid (Box 36 W9 w.heap.size (trapC 0 0 false) ∧ Below w.heap.size w W9) := ⟨B9, X6.out.2.1.2.trans (U9.below (Nat.le_refl _) X6.out.2.1.2.size)⟩
      clear B9 U9
      go_wp2_with fail
      exact bodyPost_ret (v := .tuple #[.agg (trapC 0 0 false), .bool false]) (resultsT2 (p := 2) (t := 3) rfl _ _ w.heap.size 0 0 false rfl T9.out.1) rfl ⟨by rw [show R = 0 from by rw [HR.out]; simp [HN0.out]]; exact tell_none, T9.out.2⟩
    · have d4 : w6.cell? ⟨b, 3, none⟩ = some (.int .u64 (K 4 : Nat)) := X6.out.1.cell 3 _ rfl
      go_wp2_with fail
      refine (HF2.out _ X6.out.2.2).mono ?_
      rintro e w7 ⟨rfl, hb7⟩
      have X7 : Hid (Un w w7 b 1 K) := X6.out.step hb7
      clear hb7 d0 d4
      unfold tellT
      rename_i KK hKK
      refine hKK _ _ ?_
      clear hKK
      refine wpList_extract_at rfl _ _ _ _ rfl rfl rfl ?_
      refine wpList_extract_at rfl _ _ _ _ rfl rfl rfl ?_
      refine wpList_store_trap rfl _ _ rfl w.heap.size oth 0 (nzB oth) zeroT rfl rfl X7.out.2.1.1 zT_size ?_
      intro W9 B9 U9
      have T9 : Hid (Box 36 W9 w.heap.size (trapC oth 0 (nzB oth)) ∧ Below w.heap.size w W9) := ⟨B9, X7.out.2.1.2.trans (U9.below (Nat.le_refl _) X7.out.2.1.2.size)⟩
      clear B9 U9
      go_wp2_with fail
      exact bodyPost_ret (v := .tuple #[.agg (trapC oth 0 (nzB oth)), .bool (nzB oth)]) (resultsT2 (p := 2) (t := 3) rfl _ _ w.heap.size oth 0 (nzB oth) rfl T9.out.1) rfl ⟨by rw [show R = oth from by rw [HR.out]; simp [HN0.out]]; rfl, T9.out.2⟩
  · have hz : nzB own = true := decide_eq_true ho
    have X5t : Hid ((Un w W5 b 1 K) ∧ Box 36 W5 tb (trapC own 0 true)) := by rw [← hz]; exact X5.out
    have HO2 : Hid (own ≠ 0) := ho
    rw [hz]
    clear hz X5 ho
    go_upto_region 5 with fail
    refine wp_region_list ?_
    refine wpList_load_trap rfl _ rfl tb own 0 true rfl X5t.out.2 ?_
    have X6 : Hid (Un w W5 b 1 K) := X5t.out.1
    refine wpList_store_trap rfl _ _ rfl w.heap.size own 0 true zeroT rfl rfl X6.out.2.1.1 zT_size ?_
    intro W9 B9 U9
    have T9 : Hid (Box 36 W9 w.heap.size (trapC own 0 true) ∧ Below w.heap.size w W9) := ⟨B9, X6.out.2.1.2.trans (U9.below (Nat.le_refl _) X6.out.2.1.2.size)⟩
    clear B9 U9
    go_wp2_with fail
    exact bodyPost_ret (v := .tuple #[.agg (trapC own 0 true), .bool true]) (resultsT2 (p := 2) (t := 3) rfl _ _ w.heap.size own 0 true rfl T9.out.1) rfl ⟨by rw [show R = own from by rw [HR.out]; rw [if_pos ⟨by first | rfl | simp, HO2.out⟩]]; exact tell_some own HO2.out, T9.out.2⟩
set_option maxHeartbeats 8000000 in
theorem next_3 (K : Nat → Nat) (b : Nat) (hK : Ok K) (w : World) (hO : Ord w) (hB : Box 29 w b (fileC 3 K)) : Calls Tryd.prog 7 #[.pointer (some ⟨b, 0, none⟩)] w fun e w' => e = .returned (tellT (nextN 3 K)) ∧ Below w.heap.size w w' := by
  have hb0 : Below w.heap.size w (w.alloc (.cells #[.int .i64 0, .int .u64 0, .bool false] 36)) := (Below.refl _ _).alloc (Nat.le_refl _) _
  have X0 : Hid (Un w (w.alloc (.cells #[.int .i64 0, .int .u64 0, .bool false] 36)) b 3 K) := ⟨hB.step hb0, ⟨Box.new _ _ _, hb0⟩, hO.below hb0⟩
  have HP : Hid (∀ V, Box 29 V b (fileC 3 K) → Calls Tryd.prog 10 #[.pointer (some ⟨b, 0, none⟩)] V fun e w' => e = .returned (.int .u64 (K 1 ||| K 2 : Nat)) ∧ Below V.heap.size V w') := fun V hV => pending_any 3 K b hK V hV
  have hand : bits .and .u64 ((K 1 ||| K 2 : Nat) : Int) ((K 5 : Nat) : Int) = ((rdyN K : Nat) : Int) := bits_and_u64_nat _ _ (or_lt _ _ (hK _) (hK _)) (hK _)
  have hown : bits .andNot .u64 ((rdyN K : Nat) : Int) ((K 4 : Nat) : Int) = ((rdyN K &&& (18446744073709551615 - K 4) : Nat) : Int) := u64_andNot_nat _ _ (rdy_lt hK) (hK _)
  have hoth : bits .and .u64 ((rdyN K : Nat) : Int) ((K 4 : Nat) : Int) = ((rdyN K &&& K 4 : Nat) : Int) := bits_and_u64_nat _ _ (rdy_lt hK) (hK _)
  have HF1 : Hid (∀ V, Ord V → Calls Tryd.prog 19 #[.int .u64 ((rdyN K &&& (18446744073709551615 - K 4) : Nat) : Int)] V fun e w' => e = .returned (tellT (ownN K)) ∧ Below V.heap.size V w') := fun V hV => first_any _ (and_lt _ _ (rdy_lt hK)) V hV
  have HF2 : Hid (∀ V, Ord V → Calls Tryd.prog 19 #[.int .u64 ((rdyN K &&& K 4 : Nat) : Int)] V fun e w' => e = .returned (tellT (othN K)) ∧ Below V.heap.size V w') := fun V hV => first_any _ (and_lt _ _ (rdy_lt hK)) V hV
  have HI3 : Hid (∀ V, Box 29 V b (fileC 3 K) → Calls Tryd.prog 11 #[.pointer (some ⟨b, 0, none⟩), .int .i64 3] V fun e w' => e = .returned (.bool (isB K 3)) ∧ Below V.heap.size V w') := fun V hV => isb_any 3 K 3 b hK V hV
  have HI1 : Hid (∀ V, Box 29 V b (fileC 3 K) → Calls Tryd.prog 11 #[.pointer (some ⟨b, 0, none⟩), .int .i64 1] V fun e w' => e = .returned (.bool (isB K 1)) ∧ Below V.heap.size V w') := fun V hV => isb_any 3 K 1 b hK V hV
  unfold nextN mayO mayS
  generalize ownN K = own at *
  generalize othN K = oth at *
  generalize isB K 3 = mie at *
  generalize isB K 1 = sie at *
  generalize rdyN K &&& (18446744073709551615 - K 4) = x1 at *
  generalize rdyN K &&& K 4 = x2 at *
  generalize rdyN K = rd at *
  generalize K 1 ||| K 2 = pd at *
  obtain ⟨R, hR⟩ : ∃ R : Nat, R = (if ((decide ((3 : Int) < 3) || mie) = true ∧ own ≠ 0) then own else if (((3 : Int) == 0 || ((3 : Int) == 1 && sie)) = true) then oth else 0) := ⟨_, rfl⟩
  rw [← hR]
  have HR : Hid (R = (if ((decide ((3 : Int) < 3) || mie) = true ∧ own ≠ 0) then own else if (((3 : Int) == 0 || ((3 : Int) == 1 && sie)) = true) then oth else 0)) := hR
  clear hR hK hO hB hb0
  go_enter Tryd.func7, Tryd.ntmps7
  go_upto_region 1 with fail
  generalize w.alloc (.cells #[.int .i64 0, .int .u64 0, .bool false] 36) = W at *
  have X0d : Hid (Un w W.drew b 3 K) := X0.out.step (below_drew1 _)
  refine wp_region_held_drew (S := fun V => V.cell? ⟨b, 4, none⟩ = some (.int .u64 (K 5 : Nat))) (by kernel_rfl) (X0d.out.1.cell 4 _ rfl) ?_
  intro hS
  refine wpAnyH_take (i := 0) (v := ?_) rfl (by kernel_rfl) (by kernel_rfl) (by kernel_rfl) (fun _ _ _ h => h) (Or.inl ⟨by kernel_rfl, ?_⟩) hS ?_
  rotate_left
  · intro w hSw; (try dsimp only at hSw); go_simp; try (with_reducible rfl)
  (try simp only [Act.put, List.getElem_toArray, List.getElem_cons_succ, List.getElem_cons_zero, List.setIfInBounds_toArray, List.set_cons_zero, List.set_cons_succ])
  refine wpAnyH_take (i := 2) (v := ?_) rfl (by kernel_rfl) (by kernel_rfl) (by kernel_rfl) (fun _ _ _ h => h) (Or.inl ⟨by kernel_rfl, ?_⟩) hS ?_
  rotate_left
  · intro w hSw; (try dsimp only at hSw); go_simp; try (with_reducible rfl)
  (try simp only [Act.put, List.getElem_toArray, List.getElem_cons_succ, List.getElem_cons_zero, List.setIfInBounds_toArray, List.set_cons_zero, List.set_cons_succ])
  refine wpAnyH_take (i := 3) (v := ?_) rfl (by kernel_rfl) (by kernel_rfl) (by kernel_rfl) (fun _ _ _ h => h) (Or.inl ⟨by kernel_rfl, ?_⟩) hS ?_
  rotate_left
  · intro w hSw; (try dsimp only at hSw); go_simp; try (with_reducible rfl)
  (try simp only [Act.put, List.getElem_toArray, List.getElem_cons_succ, List.getElem_cons_zero, List.setIfInBounds_toArray, List.set_cons_zero, List.set_cons_succ])
  refine wpAnyH_take (i := 4) (v := ?_) rfl (by kernel_rfl) (by kernel_rfl) (by kernel_rfl) (fun _ _ _ h => h) (Or.inl ⟨by kernel_rfl, ?_⟩) hS ?_
  rotate_left
  · intro w hSw; (try dsimp only at hSw); go_simp; try (with_reducible rfl)
  (try simp only [Act.put, List.getElem_toArray, List.getElem_cons_succ, List.getElem_cons_zero, List.setIfInBounds_toArray, List.set_cons_zero, List.set_cons_succ])
  refine wpAnyH_take (i := 5) (v := ?_) rfl (by kernel_rfl) (by kernel_rfl) (by kernel_rfl) (fun _ _ _ h => h) (Or.inl ⟨by kernel_rfl, ?_⟩) hS ?_
  rotate_left
  · intro w hSw; (try dsimp only at hSw); go_simp; try (with_reducible rfl)
  (try simp only [Act.put, List.getElem_toArray, List.getElem_cons_succ, List.getElem_cons_zero, List.setIfInBounds_toArray, List.set_cons_zero, List.set_cons_succ])
  refine wpAnyH_ready (rs := [1]) (by kernel_rfl) (by simp) ?_
  refine AllReadyH.cons rfl (fun K1 hK1 => ?_) AllReadyH.nil
  go_simp
  refine (HP.out _ X0d.out.1).mono ?_
  rintro e w1 ⟨rfl, hb1⟩
  have X1 : Hid (Un w w1 b 3 K) := X0d.out.step hb1
  clear hb1
  refine hK1.out _ _ (X1.out.1.cell 4 _ rfl) (fun hS2 => ?_)
  clear hK1 K1 hS
  (try simp only [Act.put, List.getElem_toArray, List.getElem_cons_succ, List.getElem_cons_zero, List.setIfInBounds_toArray, List.set_cons_zero, List.set_cons_succ])
  refine wpAnyH_take (i := 6) (v := ?_) rfl (by kernel_rfl) (by kernel_rfl) (by kernel_rfl) (fun _ _ _ h => h) (Or.inl ⟨by kernel_rfl, ?_⟩) hS2 ?_
  rotate_left
  · intro w hSw; (try dsimp only at hSw); go_simp; try (with_reducible rfl)
  (try simp only [Act.put, List.getElem_toArray, List.getElem_cons_succ, List.getElem_cons_zero, List.setIfInBounds_toArray, List.set_cons_zero, List.set_cons_succ])
  refine wpAnyH_take (i := 7) (v := ?_) rfl (by kernel_rfl) (by kernel_rfl) (by kernel_rfl) (fun _ _ _ h => h) (Or.inl ⟨by kernel_rfl, ?_⟩) hS2 ?_
  rotate_left
  · intro w hSw; (try dsimp only at hSw); go_simp; try (with_reducible rfl)
  (try simp only [Act.put, List.getElem_toArray, List.getElem_cons_succ, List.getElem_cons_zero, List.setIfInBounds_toArray, List.set_cons_zero, List.set_cons_succ])
  refine wpAnyH_done (by kernel_rfl) ?_ _
  clear hS2
  have c0 : w1.cell? ⟨b, 0, none⟩ = some (.int .i64 3) := X1.out.1.cell 0 _ rfl
  have c4 : w1.cell? ⟨b, 3, none⟩ = some (.int .u64 (K 4 : Nat)) := X1.out.1.cell 3 _ rfl
  go_wp2_with fail
  refine (HI3.out _ X1.out.1).mono ?_
  rintro e w2 ⟨rfl, hb2⟩
  have X2 : Hid (Un w w2 b 3 K) := X1.out.step hb2
  clear hb2 c0 c4
  have c0 : w2.cell? ⟨b, 0, none⟩ = some (.int .i64 3) := X2.out.1.cell 0 _ rfl
  have c4 : w2.cell? ⟨b, 3, none⟩ = some (.int .u64 (K 4 : Nat)) := X2.out.1.cell 3 _ rfl
  cases mie
  · have HN0 : Hid (True) := trivial
    clear c0 c4
    have d0 : w2.cell? ⟨b, 0, none⟩ = some (.int .i64 3) := X2.out.1.cell 0 _ rfl
    go_upto_region 8 with fail
    refine wp_region_list ?_
    (refine wpList_step (fun KK hKK => ?_); go_simp; refine hKK _ _ ?_; clear hKK KK)
    refine wpList_store_trap rfl _ _ rfl w.heap.size 0 0 false zeroT rfl rfl X2.out.2.1.1 zT_size ?_
    intro W9 B9 U9
    have T9 : Hid (Box 36 W9 w.heap.size (trapC 0 0 false) ∧ Below w.heap.size w W9) := ⟨B9, X2.out.2.1.2.trans (U9.below (Nat.le_refl _) X2.out.2.1.2.size)⟩
    clear B9 U9
    go_wp2_with fail
    exact bodyPost_ret (v := .tuple #[.agg (trapC 0 0 false), .bool false]) (resultsT2 (p := 2) (t := 3) rfl _ _ w.heap.size 0 0 false rfl T9.out.1) rfl ⟨by rw [show R = 0 from by rw [HR.out]; simp]; exact tell_none, T9.out.2⟩
  · go_wp2_with fail
    refine (HF1.out _ X2.out.2.2).mono ?_
    rintro e w3 ⟨rfl, hb3⟩
    have X3 : Hid (Un w w3 b 3 K) := X2.out.step hb3
    clear hb3 c0 c4
    unfold tellT
    rename_i KK hKK
    refine hKK _ _ ?_
    clear hKK
    (refine wpList_step (fun KK hKK => ?_); go_simp; refine hKK _ _ ?_; clear hKK KK)
    refine wpList_extract_at rfl _ _ _ _ rfl rfl rfl ?_
    refine wpList_extract_at rfl _ _ _ _ rfl rfl rfl ?_
    refine wpList_alloc_trap rfl rfl ?_
    intro W4 hW4
    have B4 : Box 36 W4 w3.heap.size zeroT := by rw [hW4]; exact Box.new _ _ _
    have L4 : Below w3.heap.size w3 W4 := by rw [hW4]; exact (Below.refl _ _).alloc (Nat.le_refl _) _
    clear hW4
    refine wpList_store_trap rfl _ _ rfl w3.heap.size own 0 (nzB own) zeroT rfl rfl B4 zT_size ?_
    intro W5 B5 U5
    have X5 : Hid ((Un w W5 b 3 K) ∧ Box 36 W5 w3.heap.size (trapC own 0 (nzB own))) := ⟨X3.out.step (L4.trans (U5.below (Nat.le_refl _) L4.size)), B5⟩
    clear B4 L4 B5 U5
    generalize w3.heap.size = tb at *
    by_cases ho : own = 0
    · have hz : nzB own = false := by rw [ho]; rfl
      have HN0 : Hid (own = 0) := ho
      rw [hz]
      have Y5 : Hid (Un w W5 b 3 K) := X5.out.1
      clear hz X5 ho
      have d0 : W5.cell? ⟨b, 0, none⟩ = some (.int .i64 3) := Y5.out.1.cell 0 _ rfl
      go_upto_region 8 with fail
      refine wp_region_list ?_
      (refine wpList_step (fun KK hKK => ?_); go_simp; refine hKK _ _ ?_; clear hKK KK)
      refine wpList_store_trap rfl _ _ rfl w.heap.size 0 0 false zeroT rfl rfl Y5.out.2.1.1 zT_size ?_
      intro W9 B9 U9
      have T9 : Hid (Box 36 W9 w.heap.size (trapC 0 0 false) ∧ Below w.heap.size w W9) := ⟨B9, Y5.out.2.1.2.trans (U9.below (Nat.le_refl _) Y5.out.2.1.2.size)⟩
      clear B9 U9
      go_wp2_with fail
      exact bodyPost_ret (v := .tuple #[.agg (trapC 0 0 false), .bool false]) (resultsT2 (p := 2) (t := 3) rfl _ _ w.heap.size 0 0 false rfl T9.out.1) rfl ⟨by rw [show R = 0 from by rw [HR.out]; simp [HN0.out]]; exact tell_none, T9.out.2⟩
    · have hz : nzB own = true := decide_eq_true ho
      have X5t : Hid ((Un w W5 b 3 K) ∧ Box 36 W5 tb (trapC own 0 true)) := by rw [← hz]; exact X5.out
      have HO2 : Hid (own ≠ 0) := ho
      rw [hz]
      clear hz X5 ho
      go_upto_region 5 with fail
      refine wp_region_list ?_
      refine wpList_load_trap rfl _ rfl tb own 0 true rfl X5t.out.2 ?_
      have X6 : Hid (Un w W5 b 3 K) := X5t.out.1
      refine wpList_store_trap rfl _ _ rfl w.heap.size own 0 true zeroT rfl rfl X6.out.2.1.1 zT_size ?_
      intro W9 B9 U9
      have T9 : Hid (Box 36 W9 w.heap.size (trapC own 0 true) ∧ Below w.heap.size w W9) := ⟨B9, X6.out.2.1.2.trans (U9.below (Nat.le_refl _) X6.out.2.1.2.size)⟩
      clear B9 U9
      go_wp2_with fail
      exact bodyPost_ret (v := .tuple #[.agg (trapC own 0 true), .bool true]) (resultsT2 (p := 2) (t := 3) rfl _ _ w.heap.size own 0 true rfl T9.out.1) rfl ⟨by rw [show R = own from by rw [HR.out]; rw [if_pos ⟨by first | rfl | simp, HO2.out⟩]]; exact tell_some own HO2.out, T9.out.2⟩
end Go.Proofs.YtdljceeoofhfnaaDoor
