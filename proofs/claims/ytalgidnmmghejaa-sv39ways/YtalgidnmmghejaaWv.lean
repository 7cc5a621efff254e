/- How an access is made as a program runs: package sv39's Of; the document's Is. -/
import Derived.Test.YtalgidnmmghejaaLa
import Derived.Test.YtalgidnmmghejaaLy
namespace Go.Proofs.Ytalgidnmmghejaa.E
open Go.RowKit Go.Maps
set_option linter.unusedVariables false
set_option linter.unusedSimpArgs false
set_option maxRecDepth 100000
def isB (K : Nat → Nat) (j : Int) : Bool := ((getN (K 0) j 1 : Int) == 1)
theorem get2_le (x : Nat) : getN x 11 2 ≤ 3 := by
  have h := getN_in x 11 2 (by omega)
  rw [show ((11 : Nat) : Int) = 11 from rfl, show (min (2 : Int) 64).toNat = 2 from by decide] at h
  omega
theorem prev_any (m : Int) (K : Nat → Nat) (v b : Nat) (hv : v ≤ 3) (he : getN (K 0) 11 2 = v) (hK : Ok K) (w : World) (hB : Box 49 w b (fileC m K)) : Calls Try.prog 49 #[.pointer (some ⟨b, 0, none⟩)] w fun e w' => e = .returned (.int .i64 (v : Int)) ∧ Below w.heap.size w w' := by
  have c0 : w.cell? ⟨b, 1, none⟩ = some (.int .u64 (K 0 : Nat)) := hB.cell 1 _ rfl
  have hg : ∀ V, Calls Try.prog 33 #[.int .u64 (K 0 : Nat), .int .i64 11, .int .i64 2] V fun e w' => e = .returned (.int .u64 (v : Nat)) ∧ Below V.heap.size V w' := fun V => by
    have h := get_all (K 0) 11 2 (hK _) V V (Below.refl _ _)
    rw [he] at h
    exact h
  have hw : IntKind.i64.wrap (v : Int) = v := by simp [IntKind.wrap, IntKind.signed, IntKind.bits]; omega
  clear hB hK he
  go_enter Try.func49, Try.ntmps49
  go_wp2_with fail
  refine (hg _).mono ?_
  rintro e w1 ⟨rfl, hb1⟩
  go_wp2_with fail
  go_ret
  exact ⟨rfl, hb1⟩
theorem dis_any (m : Int) (K : Nat → Nat) (j : Int) (hK : Ok K) (w : World) : Calls Try.prog 16 #[.agg (docC m K), .int .i64 j] w fun e w' => e = .returned (.bool (isB K j)) ∧ Below w.heap.size w w' := by
  have HX : Hid (Box 52 (w.alloc (.cells (docC m K) 52)) w.heap.size (docC m K) ∧ Below w.heap.size w (w.alloc (.cells (docC m K) 52))) := ⟨Box.new _ _ _, (Below.refl _ _).alloc (Nat.le_refl _) _⟩
  have HB : Hid (∀ V, Calls Try.prog 46 #[.agg (docC m K), .int .i64 0, .int .i64 j] V fun e w' => e = .returned (.bool (isB K j)) ∧ Below V.heap.size V w') := fun V => dbit_any m K 0 j hK (by omega) V
  generalize isB K j = y at *
  clear hK
  go_enter Try.func16, Try.ntmps16
  go_upto_region 1 with fail
  generalize w.alloc (.cells (docC m K) 52) = W at *
  refine wp_region_list ?_
  refine wpList_load_doc rfl _ rfl w.heap.size m K rfl HX.out.1 ?_
  (refine wpList_step (fun KK hKK => ?_); go_simp; refine hKK _ _ ?_; clear hKK KK)
  refine wpList_step (fun KK hKK => ?_)
  go_simp
  refine (HB.out _).mono ?_
  rintro e w1 ⟨rfl, hb1⟩
  refine hKK _ _ ?_
  clear hKK KK
  go_wp2_with fail
  go_ret
  exact ⟨rfl, HX.out.2.trans (hb1.mono HX.out.2.size)⟩
/-- the mode that counts -/
def wmode (kind m : Int) (K : Nat → Nat) : Int := if (!(kind == 0) && (m == 3) && isB K 17) = true then (getN (K 0) 11 2 : Nat) else m
/-- the result's box, and another one behind it -/
def Ow (w V : World) (p : Nat) (c : Array Value) : Prop := At 40 w V zw ∧ Box 40 V p c ∧ w.heap.size < p
theorem Ow.step {w V V' : World} {p : Nat} {c : Array Value} (h : Ow w V p c) (hb : Below V.heap.size V V') : Ow w V' p c := ⟨h.1.step hb, h.2.1.step hb, h.2.2⟩
theorem Ow.new {w V : World} (h : At 40 w V zw) (c : Array Value) : Ow w (V.alloc (.cells c 40)) V.heap.size c := ⟨h.step ((Below.refl _ _).alloc (Nat.le_refl _) _), Box.new _ _ _, (Array.getElem?_eq_some_iff.1 h.1).1⟩
theorem Ow.upon {w V V' : World} {p : Nat} {c c' : Array Value} (h : Ow w V p c) (hb : Box 40 V' p c') (hu : Upon p V V') : Ow w V' p c' := by
  have hlt : w.heap.size < V.heap.size := (Array.getElem?_eq_some_iff.1 h.1.1).1
  have hp := h.2.2
  exact ⟨⟨(hu.2 _ hlt (by omega)).trans h.1.1, h.1.2.trans (hu.below (by omega) h.1.2.size)⟩, hb, h.2.2⟩
set_option maxHeartbeats 4000000 in
theorem sof_any (m kind : Int) (K : Nat → Nat) (b : Nat) (hK : Ok K) (w : World) (hB : Box 49 w b (fileC m K)) (md : Int) (hmd : Hid (md = wmode kind m K)) : Calls Try.prog 18 #[.pointer (some ⟨b, 0, none⟩), .int .i64 kind] w fun e w' => e = .returned (.agg #[.int .u64 (K 18 : Nat), .int .i64 kind, .int .i64 md, .bool (isB K 18), .bool (isB K 19)]) ∧ Below w.heap.size w w' := by
  have hbl := hB.lt
  have HBx : Hid (∀ V, Below w.heap.size w V → Box 49 V b (fileC m K)) := fun V hV => hB.step hV
  have HS : Hid (∀ V, Below w.heap.size w V → V.cell? ⟨b, 19, none⟩ = some (.int .u64 (K 18 : Nat)) ∧ V.cell? ⟨b, 0, none⟩ = some (.int .i64 m)) := fun V hV => ⟨(hB.step hV).cell 19 _ rfl, (hB.step hV).cell 0 _ rfl⟩
  have HI : Hid (∀ (j : Int) V, Below w.heap.size w V → Calls Try.prog 23 #[.pointer (some ⟨b, 0, none⟩), .int .i64 j] V fun e w' => e = .returned (.bool (isB K j)) ∧ Below V.heap.size V w') := fun j V hV => is_any m K j b hK V (hB.step hV)
  have HP : Hid (∀ V, Below w.heap.size w V → Calls Try.prog 49 #[.pointer (some ⟨b, 0, none⟩)] V fun e w' => e = .returned (.int .i64 (getN (K 0) 11 2 : Nat)) ∧ Below V.heap.size V w') := fun V hV => prev_any m K _ b (get2_le _) rfl hK V (hB.step hV)
  have X0 : Hid (At 40 w (w.alloc (.cells #[.int .u64 0, .int .i64 0, .int .i64 0, .bool false, .bool false] 40)) zw) := At.new _ _ _
  clear hB hK hbl
  go_enter Try.func18, Try.ntmps18
  go_upto_region 1 with fail
  generalize w.alloc (.cells #[.int .u64 0, .int .i64 0, .int .i64 0, .bool false, .bool false] 40) = V0 at *
  go_cut [5] (fun x wx => ∃ p5 : Nat, x = .pointer (some ⟨p5, 0, none⟩) ∧ Ow w wx p5 #[.int .u64 (K 18 : Nat), .int .i64 kind, .int .i64 m, .bool (isB K 18), .bool (isB K 19)])
  case first =>
    have Xd : Hid (At 40 w V0.drew zw) := X0.out.drew
    refine wp_region_held_drew (S := fun V => V.cell? ⟨b, 19, none⟩ = some (.int .u64 (K 18 : Nat)) ∧ V.cell? ⟨b, 0, none⟩ = some (.int .i64 m)) (by kernel_rfl) (HS.out _ Xd.out.2) ?_
    intro hS
    generalize V0.drew = wd at *
    refine wpAnyH_take (i := 0) (v := ?_) rfl (by kernel_rfl) (by kernel_rfl) (by kernel_rfl) (fun _ _ _ h => h) (Or.inl ⟨by kernel_rfl, ?_⟩) hS ?_
    rotate_left
    · intro w hSw; (try dsimp only at hSw); go_simp; try (with_reducible rfl)
    (try simp only [Act.put, List.getElem_toArray, List.getElem_cons_succ, List.getElem_cons_zero, List.setIfInBounds_toArray, List.set_cons_zero, List.set_cons_succ])
    refine wpAnyH_take (i := 1) (v := ?_) rfl (by kernel_rfl) (by kernel_rfl) (by kernel_rfl) (fun _ _ _ h => h) (Or.inl ⟨by kernel_rfl, ?_⟩) hS ?_
    rotate_left
    · intro w hSw; (try dsimp only at hSw); go_simp; try (with_reducible rfl)
    (try simp only [Act.put, List.getElem_toArray, List.getElem_cons_succ, List.getElem_cons_zero, List.setIfInBounds_toArray, List.set_cons_zero, List.set_cons_succ])
    refine wpAnyH_take (i := 2) (v := ?_) rfl (by kernel_rfl) (by kernel_rfl) (by kernel_rfl) (fun _ _ _ h => h) (Or.inl ⟨by kernel_rfl, ?_⟩) hS ?_
    rotate_left
    · intro w hSw; (try dsimp only at hSw); go_simp; try (with_reducible rfl)
    (try simp only [Act.put, List.getElem_toArray, List.getElem_cons_succ, List.getElem_cons_zero, List.setIfInBounds_toArray, List.set_cons_zero, List.set_cons_succ])
    refine wpAnyH_take (i := 3) (v := ?_) rfl (by kernel_rfl) (by kernel_rfl) (by kernel_rfl) (fun _ _ _ h => h) (Or.inl ⟨by kernel_rfl, ?_⟩) hS ?_
    rotate_left
    · intro w hSw; (try dsimp only at hSw); go_simp; try (with_reducible rfl)
    (try simp only [Act.put, List.getElem_toArray, List.getElem_cons_succ, List.getElem_cons_zero, List.setIfInBounds_toArray, List.set_cons_zero, List.set_cons_succ])
    refine wpAnyH_take (i := 4) (v := ?_) rfl (by kernel_rfl) (by kernel_rfl) (by kernel_rfl) (fun _ _ _ h => h) (Or.inl ⟨by kernel_rfl, ?_⟩) hS ?_
    rotate_left
    · intro w hSw; (try dsimp only at hSw); go_simp; try (with_reducible rfl)
    (try simp only [Act.put, List.getElem_toArray, List.getElem_cons_succ, List.getElem_cons_zero, List.setIfInBounds_toArray, List.set_cons_zero, List.set_cons_succ])
    refine wpAnyH_take (i := 5) (v := ?_) rfl (by kernel_rfl) (by kernel_rfl) (by kernel_rfl) (fun _ _ _ h => h) (Or.inl ⟨by kernel_rfl, ?_⟩) hS ?_
    rotate_left
    · intro w hSw; (try dsimp only at hSw); go_simp; try (with_reducible rfl)
    (try simp only [Act.put, List.getElem_toArray, List.getElem_cons_succ, List.getElem_cons_zero, List.setIfInBounds_toArray, List.set_cons_zero, List.set_cons_succ])
    refine wpAnyH_take (i := 6) (v := ?_) rfl (by kernel_rfl) (by kernel_rfl) (by kernel_rfl) (fun _ _ _ h => h) (Or.inl ⟨by kernel_rfl, ?_⟩) hS ?_
    rotate_left
    · intro w hSw; (try dsimp only at hSw); go_simp; try (with_reducible rfl)
    (try simp only [Act.put, List.getElem_toArray, List.getElem_cons_succ, List.getElem_cons_zero, List.setIfInBounds_toArray, List.set_cons_zero, List.set_cons_succ])
    refine wpAnyH_take (i := 7) (v := ?_) rfl (by kernel_rfl) (by kernel_rfl) (by kernel_rfl) (fun _ _ _ h => h) (Or.inl ⟨by kernel_rfl, ?_⟩) hS ?_
    rotate_left
    · intro w hSw; (try dsimp only at hSw); go_simp; try (with_reducible rfl)
    (try simp only [Act.put, List.getElem_toArray, List.getElem_cons_succ, List.getElem_cons_zero, List.setIfInBounds_toArray, List.set_cons_zero, List.set_cons_succ])
    refine wpAnyH_take (i := 8) (v := ?_) rfl (by kernel_rfl) (by kernel_rfl) (by kernel_rfl) (fun _ _ _ h => h) (Or.inl ⟨by kernel_rfl, ?_⟩) hS ?_
    rotate_left
    · intro w hSw; (try dsimp only at hSw); go_simp; try (with_reducible rfl)
    (try simp only [Act.put, List.getElem_toArray, List.getElem_cons_succ, List.getElem_cons_zero, List.setIfInBounds_toArray, List.set_cons_zero, List.set_cons_succ])
    refine wpAnyH_take (i := 9) (v := ?_) rfl (by kernel_rfl) (by kernel_rfl) (by kernel_rfl) (fun _ _ _ h => h) (Or.inl ⟨by kernel_rfl, ?_⟩) hS ?_
    rotate_left
    · intro w hSw; (try dsimp only at hSw); go_simp; try (with_reducible rfl)
    (try simp only [Act.put, List.getElem_toArray, List.getElem_cons_succ, List.getElem_cons_zero, List.setIfInBounds_toArray, List.set_cons_zero, List.set_cons_succ])
    refine wpAnyH_take (i := 11) (v := ?_) rfl (by kernel_rfl) (by kernel_rfl) (by kernel_rfl) (fun _ _ _ h => h) (Or.inl ⟨by kernel_rfl, ?_⟩) hS ?_
    rotate_left
    · intro w hSw; (try dsimp only at hSw); go_simp; try (with_reducible rfl)
    (try simp only [Act.put, List.getElem_toArray, List.getElem_cons_succ, List.getElem_cons_zero, List.setIfInBounds_toArray, List.set_cons_zero, List.set_cons_succ])
    refine wpAnyH_ready (rs := [10, 14]) (by kernel_rfl) (by simp) ?_
    refine AllReadyH.cons rfl (fun K1 hK1 => ?_) (AllReadyH.cons rfl (fun K1 hK1 => ?_) AllReadyH.nil)
    · go_simp
      refine (HI.out 18 _ Xd.out.2).mono ?_
      rintro e w21 ⟨rfl, hb⟩
      have X21 : Hid (At 40 w w21 zw) := Xd.out.step hb
      clear hb
      refine hK1.out _ _ (HS.out _ X21.out.2) (fun hS21 => ?_)
      clear hK1 K1 hS
      (try simp only [Act.put, List.getElem_toArray, List.getElem_cons_succ, List.getElem_cons_zero, List.setIfInBounds_toArray, List.set_cons_zero, List.set_cons_succ])
      refine wpAnyH_ready (rs := [12, 14]) (by kernel_rfl) (by simp) ?_
      refine AllReadyH.cons rfl (fun K1 hK1 => ?_) (AllReadyH.cons rfl (fun K1 hK1 => ?_) AllReadyH.nil)
      · go_simp
        refine (HI.out 19 _ X21.out.2).mono ?_
        rintro e w22 ⟨rfl, hb⟩
        have X22 : Hid (At 40 w w22 zw) := X21.out.step hb
        clear hb
        refine hK1.out _ _ (HS.out _ X22.out.2) (fun hS22 => ?_)
        clear hK1 K1 hS21
        (try simp only [Act.put, List.getElem_toArray, List.getElem_cons_succ, List.getElem_cons_zero, List.setIfInBounds_toArray, List.set_cons_zero, List.set_cons_succ])
        refine wpAnyH_take (i := 13) (v := ?_) rfl (by kernel_rfl) (by kernel_rfl) (by kernel_rfl) (fun _ _ _ h => h) (Or.inl ⟨by kernel_rfl, ?_⟩) hS22 ?_
        rotate_left
        · intro w hSw; (try dsimp only at hSw); go_simp; try (with_reducible rfl)
        (try simp only [Act.put, List.getElem_toArray, List.getElem_cons_succ, List.getElem_cons_zero, List.setIfInBounds_toArray, List.set_cons_zero, List.set_cons_succ])
        refine wpAnyH_ready (rs := [14]) (by kernel_rfl) (by simp) ?_
        refine AllReadyH.cons rfl (fun K1 hK1 => ?_) AllReadyH.nil
        go_simp
        have X23 : Hid (Ow w (w22.alloc (.cells zw 40)) w22.heap.size zw) := Ow.new X22.out _
        refine hK1.out _ (w22.alloc (.cells zw 40)) (HS.out _ X23.out.1.2) (fun hS23 => ?_)
        clear hK1 K1 hS22
        (try simp only [Act.put, List.getElem_toArray, List.getElem_cons_succ, List.getElem_cons_zero, List.setIfInBounds_toArray, List.set_cons_zero, List.set_cons_succ])
        generalize w22.heap.size = p5 at *
        generalize w22.alloc (.cells zw 40) = w23 at *
        refine wpAnyH_ready (rs := [15]) (by kernel_rfl) (by simp) ?_
        refine AllReadyH.cons rfl (fun K1 hK1 => ?_) AllReadyH.nil
        have y0 := X23.out.2.1.cell 0 _ rfl
        have z0 := X23.out.2.1.frozen 0
        have y1 := X23.out.2.1.cell 1 _ rfl
        have z1 := X23.out.2.1.frozen 1
        have y2 := X23.out.2.1.cell 2 _ rfl
        have z2 := X23.out.2.1.frozen 2
        have y3 := X23.out.2.1.cell 3 _ rfl
        have z3 := X23.out.2.1.frozen 3
        have y4 := X23.out.2.1.cell 4 _ rfl
        have z4 := X23.out.2.1.frozen 4
        go_simp
        have X24 : Hid (Ow w (((((w23.setCell ⟨p5, 0, none⟩ (.int .u64 (K 18 : Nat))).setCell ⟨p5, 1, none⟩ (.int .i64 kind)).setCell ⟨p5, 2, none⟩ (.int .i64 m)).setCell ⟨p5, 3, none⟩ (.bool (isB K 18))).setCell ⟨p5, 4, none⟩ (.bool (isB K 19))) p5 #[.int .u64 (K 18 : Nat), .int .i64 kind, .int .i64 m, .bool (isB K 18), .bool (isB K 19)]) := X23.out.upon ((((((X23.out.2.1.set 0 _).set 1 _).set 2 _).set 3 _).set 4 _)) ((((((Upon.refl _ _).set 0 _).set 1 _).set 2 _).set 3 _).set 4 _)
        refine hK1.out _ (((((w23.setCell ⟨p5, 0, none⟩ (.int .u64 (K 18 : Nat))).setCell ⟨p5, 1, none⟩ (.int .i64 kind)).setCell ⟨p5, 2, none⟩ (.int .i64 m)).setCell ⟨p5, 3, none⟩ (.bool (isB K 18))).setCell ⟨p5, 4, none⟩ (.bool (isB K 19))) (HS.out _ X24.out.1.2) (fun hS24 => ?_)
        clear hK1 K1 hS23 y0 z0 y1 z1 y2 z2 y3 z3 y4 z4
        (try simp only [Act.put, List.getElem_toArray, List.getElem_cons_succ, List.getElem_cons_zero, List.setIfInBounds_toArray, List.set_cons_zero, List.set_cons_succ])
        generalize ((((w23.setCell ⟨p5, 0, none⟩ (.int .u64 (K 18 : Nat))).setCell ⟨p5, 1, none⟩ (.int .i64 kind)).setCell ⟨p5, 2, none⟩ (.int .i64 m)).setCell ⟨p5, 3, none⟩ (.bool (isB K 18))).setCell ⟨p5, 4, none⟩ (.bool (isB K 19)) = w24 at *
        refine wpAnyH_done (by kernel_rfl) ?_ _
        clear hS24
        go_wp2_with fail
        go_meet
        exact ⟨p5, rfl, X24.out⟩
      · go_simp
        have X22 : Hid (Ow w (w21.alloc (.cells zw 40)) w21.heap.size zw) := Ow.new X21.out _
        refine hK1.out _ (w21.alloc (.cells zw 40)) (HS.out _ X22.out.1.2) (fun hS22 => ?_)
        clear hK1 K1 hS21
        (try simp only [Act.put, List.getElem_toArray, List.getElem_cons_succ, List.getElem_cons_zero, List.setIfInBounds_toArray, List.set_cons_zero, List.set_cons_succ])
        generalize w21.heap.size = p5 at *
        generalize w21.alloc (.cells zw 40) = w22 at *
        refine wpAnyH_ready (rs := [12]) (by kernel_rfl) (by simp) ?_
        refine AllReadyH.cons rfl (fun K1 hK1 => ?_) AllReadyH.nil
        go_simp
        refine (HI.out 19 _ X22.out.1.2).mono ?_
        rintro e w23 ⟨rfl, hb⟩
        have X23 : Hid (Ow w w23 p5 zw) := X22.out.step hb
        clear hb
        refine hK1.out _ _ (HS.out _ X23.out.1.2) (fun hS23 => ?_)
        clear hK1 K1 hS22
        (try simp only [Act.put, List.getElem_toArray, List.getElem_cons_succ, List.getElem_cons_zero, List.setIfInBounds_toArray, List.set_cons_zero, List.set_cons_succ])
        refine wpAnyH_take (i := 13) (v := ?_) rfl (by kernel_rfl) (by kernel_rfl) (by kernel_rfl) (fun _ _ _ h => h) (Or.inl ⟨by kernel_rfl, ?_⟩) hS23 ?_
        rotate_left
        · intro w hSw; (try dsimp only at hSw); go_simp; try (with_reducible rfl)
        (try simp only [Act.put, List.getElem_toArray, List.getElem_cons_succ, List.getElem_cons_zero, List.setIfInBounds_toArray, List.set_cons_zero, List.set_cons_succ])
        refine wpAnyH_ready (rs := [15]) (by kernel_rfl) (by simp) ?_
        refine AllReadyH.cons rfl (fun K1 hK1 => ?_) AllReadyH.nil
        have y0 := X23.out.2.1.cell 0 _ rfl
        have z0 := X23.out.2.1.frozen 0
        have y1 := X23.out.2.1.cell 1 _ rfl
        have z1 := X23.out.2.1.frozen 1
        have y2 := X23.out.2.1.cell 2 _ rfl
        have z2 := X23.out.2.1.frozen 2
        have y3 := X23.out.2.1.cell 3 _ rfl
        have z3 := X23.out.2.1.frozen 3
        have y4 := X23.out.2.1.cell 4 _ rfl
        have z4 := X23.out.2.1.frozen 4
        go_simp
        have X24 : Hid (Ow w (((((w23.setCell ⟨p5, 0, none⟩ (.int .u64 (K 18 : Nat))).setCell ⟨p5, 1, none⟩ (.int .i64 kind)).setCell ⟨p5, 2, none⟩ (.int .i64 m)).setCell ⟨p5, 3, none⟩ (.bool (isB K 18))).setCell ⟨p5, 4, none⟩ (.bool (isB K 19))) p5 #[.int .u64 (K 18 : Nat), .int .i64 kind, .int .i64 m, .bool (isB K 18), .bool (isB K 19)]) := X23.out.upon ((((((X23.out.2.1.set 0 _).set 1 _).set 2 _).set 3 _).set 4 _)) ((((((Upon.refl _ _).set 0 _).set 1 _).set 2 _).set 3 _).set 4 _)
        refine hK1.out _ (((((w23.setCell ⟨p5, 0, none⟩ (.int .u64 (K 18 : Nat))).setCell ⟨p5, 1, none⟩ (.int .i64 kind)).setCell ⟨p5, 2, none⟩ (.int .i64 m)).setCell ⟨p5, 3, none⟩ (.bool (isB K 18))).setCell ⟨p5, 4, none⟩ (.bool (isB K 19))) (HS.out _ X24.out.1.2) (fun hS24 => ?_)
        clear hK1 K1 hS23 y0 z0 y1 z1 y2 z2 y3 z3 y4 z4
        (try simp only [Act.put, List.getElem_toArray, List.getElem_cons_succ, List.getElem_cons_zero, List.setIfInBounds_toArray, List.set_cons_zero, List.set_cons_succ])
        generalize ((((w23.setCell ⟨p5, 0, none⟩ (.int .u64 (K 18 : Nat))).setCell ⟨p5, 1, none⟩ (.int .i64 kind)).setCell ⟨p5, 2, none⟩ (.int .i64 m)).setCell ⟨p5, 3, none⟩ (.bool (isB K 18))).setCell ⟨p5, 4, none⟩ (.bool (isB K 19)) = w24 at *
        refine wpAnyH_done (by kernel_rfl) ?_ _
        clear hS24
        go_wp2_with fail
        go_meet
        exact ⟨p5, rfl, X24.out⟩
    · go_simp
      have X21 : Hid (Ow w (wd.alloc (.cells zw 40)) wd.heap.size zw) := Ow.new Xd.out _
      refine hK1.out _ (wd.alloc (.cells zw 40)) (HS.out _ X21.out.1.2) (fun hS21 => ?_)
      clear hK1 K1 hS
      (try simp only [Act.put, List.getElem_toArray, List.getElem_cons_succ, List.getElem_cons_zero, List.setIfInBounds_toArray, List.set_cons_zero, List.set_cons_succ])
      generalize wd.heap.size = p5 at *
      generalize wd.alloc (.cells zw 40) = w21 at *
      refine wpAnyH_ready (rs := [10]) (by kernel_rfl) (by simp) ?_
      refine AllReadyH.cons rfl (fun K1 hK1 => ?_) AllReadyH.nil
      go_simp
      refine (HI.out 18 _ X21.out.1.2).mono ?_
      rintro e w22 ⟨rfl, hb⟩
      have X22 : Hid (Ow w w22 p5 zw) := X21.out.step hb
      clear hb
      refine hK1.out _ _ (HS.out _ X22.out.1.2) (fun hS22 => ?_)
      clear hK1 K1 hS21
      (try simp only [Act.put, List.getElem_toArray, List.getElem_cons_succ, List.getElem_cons_zero, List.setIfInBounds_toArray, List.set_cons_zero, List.set_cons_succ])
      refine wpAnyH_ready (rs := [12]) (by kernel_rfl) (by simp) ?_
      refine AllReadyH.cons rfl (fun K1 hK1 => ?_) AllReadyH.nil
      go_simp
      refine (HI.out 19 _ X22.out.1.2).mono ?_
      rintro e w23 ⟨rfl, hb⟩
      have X23 : Hid (Ow w w23 p5 zw) := X22.out.step hb
      clear hb
      refine hK1.out _ _ (HS.out _ X23.out.1.2) (fun hS23 => ?_)
      clear hK1 K1 hS22
      (try simp only [Act.put, List.getElem_toArray, List.getElem_cons_succ, List.getElem_cons_zero, List.setIfInBounds_toArray, List.set_cons_zero, List.set_cons_succ])
      refine wpAnyH_take (i := 13) (v := ?_) rfl (by kernel_rfl) (by kernel_rfl) (by kernel_rfl) (fun _ _ _ h => h) (Or.inl ⟨by kernel_rfl, ?_⟩) hS23 ?_
      rotate_left
      · intro w hSw; (try dsimp only at hSw); go_simp; try (with_reducible rfl)
      (try simp only [Act.put, List.getElem_toArray, List.getElem_cons_succ, List.getElem_cons_zero, List.setIfInBounds_toArray, List.set_cons_zero, List.set_cons_succ])
      refine wpAnyH_ready (rs := [15]) (by kernel_rfl) (by simp) ?_
      refine AllReadyH.cons rfl (fun K1 hK1 => ?_) AllReadyH.nil
      have y0 := X23.out.2.1.cell 0 _ rfl
      have z0 := X23.out.2.1.frozen 0
      have y1 := X23.out.2.1.cell 1 _ rfl
      have z1 := X23.out.2.1.frozen 1
      have y2 := X23.out.2.1.cell 2 _ rfl
      have z2 := X23.out.2.1.frozen 2
      have y3 := X23.out.2.1.cell 3 _ rfl
      have z3 := X23.out.2.1.frozen 3
      have y4 := X23.out.2.1.cell 4 _ rfl
      have z4 := X23.out.2.1.frozen 4
      go_simp
      have X24 : Hid (Ow w (((((w23.setCell ⟨p5, 0, none⟩ (.int .u64 (K 18 : Nat))).setCell ⟨p5, 1, none⟩ (.int .i64 kind)).setCell ⟨p5, 2, none⟩ (.int .i64 m)).setCell ⟨p5, 3, none⟩ (.bool (isB K 18))).setCell ⟨p5, 4, none⟩ (.bool (isB K 19))) p5 #[.int .u64 (K 18 : Nat), .int .i64 kind, .int .i64 m, .bool (isB K 18), .bool (isB K 19)]) := X23.out.upon ((((((X23.out.2.1.set 0 _).set 1 _).set 2 _).set 3 _).set 4 _)) ((((((Upon.refl _ _).set 0 _).set 1 _).set 2 _).set 3 _).set 4 _)
      refine hK1.out _ (((((w23.setCell ⟨p5, 0, none⟩ (.int .u64 (K 18 : Nat))).setCell ⟨p5, 1, none⟩ (.int .i64 kind)).setCell ⟨p5, 2, none⟩ (.int .i64 m)).setCell ⟨p5, 3, none⟩ (.bool (isB K 18))).setCell ⟨p5, 4, none⟩ (.bool (isB K 19))) (HS.out _ X24.out.1.2) (fun hS24 => ?_)
      clear hK1 K1 hS23 y0 z0 y1 z1 y2 z2 y3 z3 y4 z4
      (try simp only [Act.put, List.getElem_toArray, List.getElem_cons_succ, List.getElem_cons_zero, List.setIfInBounds_toArray, List.set_cons_zero, List.set_cons_succ])
      generalize ((((w23.setCell ⟨p5, 0, none⟩ (.int .u64 (K 18 : Nat))).setCell ⟨p5, 1, none⟩ (.int .i64 kind)).setCell ⟨p5, 2, none⟩ (.int .i64 m)).setCell ⟨p5, 3, none⟩ (.bool (isB K 18))).setCell ⟨p5, 4, none⟩ (.bool (isB K 19)) = w24 at *
      refine wpAnyH_done (by kernel_rfl) ?_ _
      clear hS24
      go_wp2_with fail
      go_meet
      exact ⟨p5, rfl, X24.out⟩
  case rest =>
  obtain ⟨p5, rfl, ht⟩ := hcut
  have X1 : Hid (Ow w wc p5 #[.int .u64 (K 18 : Nat), .int .i64 kind, .int .i64 m, .bool (isB K 18), .bool (isB K 19)]) := ht
  clear ht X0
  have g0 := (HS.out _ X1.out.1.2).2
  by_cases k0 : kind = 0
  · have k1 : (kind == 0) = true := by simp [k0]
    have k2 : (kind != 0) = false := by simp [k0]
    have HR : Hid (md = m) := by show md = m; rw [hmd.out]; unfold wmode; rw [if_neg (by simp [k0])]
    clear k0
    have y0 := X1.out.2.1.cell 0 _ rfl
    have y1 := X1.out.2.1.cell 1 _ rfl
    have y2 := X1.out.2.1.cell 2 _ rfl
    have y3 := X1.out.2.1.cell 3 _ rfl
    have y4 := X1.out.2.1.cell 4 _ rfl
    have d0 := cellOf X1.out.1.1 0 _ rfl
    have z0 := frozenOf X1.out.1.1 0
    have d1 := cellOf X1.out.1.1 1 _ rfl
    have z1 := frozenOf X1.out.1.1 1
    have d2 := cellOf X1.out.1.1 2 _ rfl
    have z2 := frozenOf X1.out.1.1 2
    have d3 := cellOf X1.out.1.1 3 _ rfl
    have z3 := frozenOf X1.out.1.1 3
    have d4 := cellOf X1.out.1.1 4 _ rfl
    have z4 := frozenOf X1.out.1.1 4
    go_wp2_with fail
    refine bodyPost_ret (v := .agg #[.int .u64 (K 18 : Nat), .int .i64 kind, .int .i64 m, .bool (isB K 18), .bool (isB K 19)]) (by simp [results, Try.results18, go_sem, d0, d1, d2, d3, d4]) rfl ⟨by rw [HR.out], ?_⟩
    exact ((((X1.out.1.2.setCell (p := ⟨w.heap.size, 0, none⟩) (Nat.le_refl _) _).setCell (p := ⟨w.heap.size, 1, none⟩) (Nat.le_refl _) _).setCell (p := ⟨w.heap.size, 2, none⟩) (Nat.le_refl _) _).setCell (p := ⟨w.heap.size, 3, none⟩) (Nat.le_refl _) _).setCell (p := ⟨w.heap.size, 4, none⟩) (Nat.le_refl _) _
  have k1 : (kind == 0) = false := by simp [k0]
  have k2 : (kind != 0) = true := by simp [k0]
  by_cases m3 : m = 3
  case neg =>
    have m1 : (m == 3) = false := by simp [m3]
    have HR : Hid (md = m) := by show md = m; rw [hmd.out]; unfold wmode; rw [if_neg (by simp [m3])]
    clear m3 k0
    have y0 := X1.out.2.1.cell 0 _ rfl
    have y1 := X1.out.2.1.cell 1 _ rfl
    have y2 := X1.out.2.1.cell 2 _ rfl
    have y3 := X1.out.2.1.cell 3 _ rfl
    have y4 := X1.out.2.1.cell 4 _ rfl
    have d0 := cellOf X1.out.1.1 0 _ rfl
    have z0 := frozenOf X1.out.1.1 0
    have d1 := cellOf X1.out.1.1 1 _ rfl
    have z1 := frozenOf X1.out.1.1 1
    have d2 := cellOf X1.out.1.1 2 _ rfl
    have z2 := frozenOf X1.out.1.1 2
    have d3 := cellOf X1.out.1.1 3 _ rfl
    have z3 := frozenOf X1.out.1.1 3
    have d4 := cellOf X1.out.1.1 4 _ rfl
    have z4 := frozenOf X1.out.1.1 4
    go_wp2_with fail
    refine bodyPost_ret (v := .agg #[.int .u64 (K 18 : Nat), .int .i64 kind, .int .i64 m, .bool (isB K 18), .bool (isB K 19)]) (by simp [results, Try.results18, go_sem, d0, d1, d2, d3, d4]) rfl ⟨by rw [HR.out], ?_⟩
    exact ((((X1.out.1.2.setCell (p := ⟨w.heap.size, 0, none⟩) (Nat.le_refl _) _).setCell (p := ⟨w.heap.size, 1, none⟩) (Nat.le_refl _) _).setCell (p := ⟨w.heap.size, 2, none⟩) (Nat.le_refl _) _).setCell (p := ⟨w.heap.size, 3, none⟩) (Nat.le_refl _) _).setCell (p := ⟨w.heap.size, 4, none⟩) (Nat.le_refl _) _
  have m1 : (m == 3) = true := by simp [m3]
  cases hi : isB K 17 with
  | false =>
    have HR : Hid (md = m) := by show md = m; rw [hmd.out]; unfold wmode; rw [if_neg (by simp [hi])]
    have H17 := HI.out 17
    rw [hi] at H17
    clear m3 k0 hi
    go_wp2_with fail
    refine (H17 _ X1.out.1.2).mono ?_
    rintro e w5 ⟨rfl, hb⟩
    have X5 : Hid (Ow w w5 p5 #[.int .u64 (K 18 : Nat), .int .i64 kind, .int .i64 m, .bool (isB K 18), .bool (isB K 19)]) := X1.out.step hb
    clear hb
    have y0 := X5.out.2.1.cell 0 _ rfl
    have y1 := X5.out.2.1.cell 1 _ rfl
    have y2 := X5.out.2.1.cell 2 _ rfl
    have y3 := X5.out.2.1.cell 3 _ rfl
    have y4 := X5.out.2.1.cell 4 _ rfl
    have d0 := cellOf X5.out.1.1 0 _ rfl
    have z0 := frozenOf X5.out.1.1 0
    have d1 := cellOf X5.out.1.1 1 _ rfl
    have z1 := frozenOf X5.out.1.1 1
    have d2 := cellOf X5.out.1.1 2 _ rfl
    have z2 := frozenOf X5.out.1.1 2
    have d3 := cellOf X5.out.1.1 3 _ rfl
    have z3 := frozenOf X5.out.1.1 3
    have d4 := cellOf X5.out.1.1 4 _ rfl
    have z4 := frozenOf X5.out.1.1 4
    go_wp2_with fail
    refine bodyPost_ret (v := .agg #[.int .u64 (K 18 : Nat), .int .i64 kind, .int .i64 m, .bool (isB K 18), .bool (isB K 19)]) (by simp [results, Try.results18, go_sem, d0, d1, d2, d3, d4]) rfl ⟨by rw [HR.out], ?_⟩
    exact ((((X5.out.1.2.setCell (p := ⟨w.heap.size, 0, none⟩) (Nat.le_refl _) _).setCell (p := ⟨w.heap.size, 1, none⟩) (Nat.le_refl _) _).setCell (p := ⟨w.heap.size, 2, none⟩) (Nat.le_refl _) _).setCell (p := ⟨w.heap.size, 3, none⟩) (Nat.le_refl _) _).setCell (p := ⟨w.heap.size, 4, none⟩) (Nat.le_refl _) _
  | true =>
    have HR : Hid (md = (getN (K 0) 11 2 : Nat)) := by show md = _; rw [hmd.out]; unfold wmode; rw [if_pos (by simp [hi, k0, m3])]
    have H17 := HI.out 17
    rw [hi] at H17
    clear m3 k0 hi
    go_wp2_with fail
    refine (H17 _ X1.out.1.2).mono ?_
    rintro e w5 ⟨rfl, hb⟩
    have X5 : Hid (Ow w w5 p5 #[.int .u64 (K 18 : Nat), .int .i64 kind, .int .i64 m, .bool (isB K 18), .bool (isB K 19)]) := X1.out.step hb
    clear hb
    go_wp2_with fail
    refine (HP.out _ X5.out.1.2).mono ?_
    rintro e w6 ⟨rfl, hb⟩
    have X6 : Hid (Ow w w6 p5 #[.int .u64 (K 18 : Nat), .int .i64 kind, .int .i64 m, .bool (isB K 18), .bool (isB K 19)]) := X5.out.step hb
    clear hb
    have u2 := X6.out.2.1.cell 2 _ rfl
    have v2 := X6.out.2.1.frozen 2
    generalize getN (K 0) 11 2 = gg at *
    go_upto_region 4 with fail
    have X7 : Hid (Ow w (w6.setCell ⟨p5, 2, none⟩ (.int .i64 (gg : Nat))) p5 #[.int .u64 (K 18 : Nat), .int .i64 kind, .int .i64 (gg : Nat), .bool (isB K 18), .bool (isB K 19)]) := X6.out.upon (X6.out.2.1.set 2 _) ((Upon.refl _ _).set 2 _)
    generalize w6.setCell ⟨p5, 2, none⟩ (.int .i64 (gg : Nat)) = V7 at *
    clear u2 v2
    have y0 := X7.out.2.1.cell 0 _ rfl
    have y1 := X7.out.2.1.cell 1 _ rfl
    have y2 := X7.out.2.1.cell 2 _ rfl
    have y3 := X7.out.2.1.cell 3 _ rfl
    have y4 := X7.out.2.1.cell 4 _ rfl
    have d0 := cellOf X7.out.1.1 0 _ rfl
    have z0 := frozenOf X7.out.1.1 0
    have d1 := cellOf X7.out.1.1 1 _ rfl
    have z1 := frozenOf X7.out.1.1 1
    have d2 := cellOf X7.out.1.1 2 _ rfl
    have z2 := frozenOf X7.out.1.1 2
    have d3 := cellOf X7.out.1.1 3 _ rfl
    have z3 := frozenOf X7.out.1.1 3
    have d4 := cellOf X7.out.1.1 4 _ rfl
    have z4 := frozenOf X7.out.1.1 4
    go_wp2_with fail
    refine bodyPost_ret (v := .agg #[.int .u64 (K 18 : Nat), .int .i64 kind, .int .i64 (gg : Nat), .bool (isB K 18), .bool (isB K 19)]) (by simp [results, Try.results18, go_sem, d0, d1, d2, d3, d4]) rfl ⟨by rw [HR.out], ?_⟩
    exact ((((X7.out.1.2.setCell (p := ⟨w.heap.size, 0, none⟩) (Nat.le_refl _) _).setCell (p := ⟨w.heap.size, 1, none⟩) (Nat.le_refl _) _).setCell (p := ⟨w.heap.size, 2, none⟩) (Nat.le_refl _) _).setCell (p := ⟨w.heap.size, 3, none⟩) (Nat.le_refl _) _).setCell (p := ⟨w.heap.size, 4, none⟩) (Nat.le_refl _) _
end Go.Proofs.Ytalgidnmmghejaa.E
