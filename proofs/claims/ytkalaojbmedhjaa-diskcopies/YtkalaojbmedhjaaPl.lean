/- The statements' call played: any script leaves a disk and the document's one alike, or is not tried. -/
import Derived.Test.YtkalaojbmedhjaaAw
import Derived.Test.YtkalaojbmedhjaaOp
namespace Go.Proofs.Ytkalaojbmedhjaa
open Go.RowKit Go.Maps
set_option linter.unusedVariables false
set_option linter.unusedSimpArgs false
set_option maxRecDepth 100000
/-- the state of 'played': the disk, the document's bytes, the box of the document's disk, the result's box -/
def Py (W V : World) (db bm b9 N : Nat) (g gb : Nat) (K Kb : Dk) (R : Array Value) : Prop := DiskAt V db bm K ∧ DocAt V g N K ∧ Box 28 V b9 (docC Kb gb N) ∧ Box 28 V W.heap.size R ∧ Below W.heap.size W V ∧ W.heap.size ≤ db ∧ W.heap.size ≤ bm ∧ W.heap.size < b9 ∧ W.heap.size ≤ g
section
variable {W V V' : World} {db bm b9 N g gb g2 q : Nat} {K Kb K2 : Dk} {R c : Array Value}
theorem Py.step (h : Py W V db bm b9 N g gb K Kb R) (hb : Below V.heap.size V V') : Py W V' db bm b9 N g gb K Kb R := by
  obtain ⟨h1, h2, h3, h4, h5, h6⟩ := h
  exact ⟨h1.step hb, h2.step hb, h3.step hb, h4.step hb, h5.trans (hb.mono h5.size), h6⟩
theorem disk_box_ne {b : Nat} (h : DiskAt V db bm K) (hb : Box 28 V b c) : b ≠ db ∧ b ≠ bm := by
  constructor
  · rintro rfl
    have h1 := h.1
    unfold Box at h1 hb
    rw [h1] at hb
    simp at hb
  · rintro rfl
    obtain ⟨D, ⟨es, clock, e1, _⟩, _⟩ := h.2.1
    unfold Box at hb
    rw [e1] at hb
    cases hb
theorem Py.do (h : Py W V db bm b9 N g gb K Kb R) (hd : DiskAt V' db bm K2) (hg : DocAt V' g2 N K2) (hq : g2 = g ∨ V.heap.size ≤ g2) (ht : Two db bm V V') : Py W V' db bm b9 N g2 gb K2 Kb R := by
  obtain ⟨h1, h2, h3, h4, h5, h6, h7, h8, h9⟩ := h
  have n1 := disk_box_ne h1 h3
  have n2 := disk_box_ne h1 h4
  have := h5.size
  exact ⟨hd, hg, ht.box h3 n1.1 n1.2, ht.box h4 n2.1 n2.2, h5.trans (ht.below h6 h7 h5.size), h6, h7, h8, by rcases hq with rfl | hq <;> omega⟩
/-- a box that is none of these is written -/
theorem Py.other (h : Py W V db bm b9 N g gb K Kb R) (hb : Box 28 V q c) (hu : Upon q V V') (h1 : q ≠ b9) (h2 : W.heap.size < q) : Py W V' db bm b9 N g gb K Kb R := by
  obtain ⟨g1, g2, g3, g4, g5, g6, g7, g8, g9⟩ := h
  have n1 := disk_box_ne g1 hb
  exact ⟨g1.upon hu (Ne.symm n1.1) (Ne.symm n1.2), g2.upon hu (doc_box_ne g2 hb), hu.box g3 (Ne.symm h1), hu.box g4 (by omega), g5.trans (hu.below (by omega) g5.size), g6, g7, g8, g9⟩
theorem Py.box (h : Py W V db bm b9 N g gb K Kb R) (hx : Box 28 V' b9 (docC K g N)) (hu : Upon b9 V V') : Py W V' db bm b9 N g g K K R := by
  obtain ⟨g1, g2, g3, g4, g5, g6, g7, g8, g9⟩ := h
  have n1 := disk_box_ne g1 g3
  exact ⟨g1.upon hu (Ne.symm n1.1) (Ne.symm n1.2), g2.upon hu (doc_box_ne g2 g3), hx, hu.box g4 (by omega), g5.trans (hu.below (by omega) g5.size), g6, g7, g8, g9⟩
theorem Py.res (h : Py W V db bm b9 N g gb K Kb R) (hx : Box 28 V' W.heap.size c) (hu : Upon W.heap.size V V') : Py W V' db bm b9 N g gb K Kb c := by
  obtain ⟨g1, g2, g3, g4, g5, g6, g7, g8, g9⟩ := h
  have n1 := disk_box_ne g1 g4
  exact ⟨g1.upon hu (Ne.symm n1.1) (Ne.symm n1.2), g2.upon hu (doc_box_ne g2 g4), hu.box g3 (by omega), hx, g5.trans (hu.below (Nat.le_refl _) g5.size), g6, g7, g8, g9⟩
end
theorem four_later {W w : World} {b o : Nat} {x0 x1 x2 x3 : Value} (h : W.cell? ⟨b, o, none⟩ = some x0 ∧ W.cell? ⟨b, o + 1, none⟩ = some x1 ∧ W.cell? ⟨b, o + 2, none⟩ = some x2 ∧ W.cell? ⟨b, o + 3, none⟩ = some x3) (hb : Below W.heap.size W w) :
    w.cell? ⟨b, o, none⟩ = some x0 ∧ w.cell? ⟨b, o + 1, none⟩ = some x1 ∧ w.cell? ⟨b, o + 2, none⟩ = some x2 ∧ w.cell? ⟨b, o + 3, none⟩ = some x3 := by
  have hlt : b < W.heap.size := block_lt_of_cell h.1
  have cc : ∀ q, w.cell? ⟨b, q, none⟩ = W.cell? ⟨b, q, none⟩ := fun q => World.cell?_of_block (a := ⟨b, q, none⟩) (hb.block b hlt)
  rw [cc, cc, cc, cc]
  exact h
/-- what 'played' leaves -/
def Left (W w' : World) (l : Bool) (pv : Value) (g : Nat) (K : Dk) : Prop :=
  Below W.heap.size W w' ∧ K.count = 4 ∧ K.locked = l ∧ (pv = .pointer none ∨ ∃ db bm, pv = .pointer (some ⟨db, 0, none⟩) ∧ DiskAt w' db bm K ∧ DocAt w' g 2048 K ∧ W.heap.size ≤ db ∧ W.heap.size ≤ bm ∧ W.heap.size ≤ g)
set_option maxHeartbeats 8000000 in
theorem played_any (lk : Bool) (av : Option Addr) (len cap : Nat) (ops : Nat → OpD) (w : World) (hsc : ScriptIn w (.slice av len cap) len ops) :
    Calls Try.prog 9 #[.bool lk, .slice av len cap] w fun e w' => ∃ pv g K, e = .returned (.tuple #[pv, .agg (docC K g 2048), .bool true]) ∧ Left w w' lk pv g K := by
  have hlen : len ≤ 9223372036854775807 := by
    rcases hsc with ⟨rfl, _⟩ | ⟨b, off, cap, _, h, _⟩
    · omega
    · exact h
  have HS : Hid (ScriptIn w (.slice av len cap) len ops) := hsc
  clear hsc
  have CN : Hid (∀ V, Calls Try.prog 11 #[.int .u64 4, .bool lk] V fun e w' => ∃ db bm, e = .returned (.tuple #[.pointer (some ⟨db, 0, none⟩), .int .i64 0]) ∧ DiskAt w' db bm (newK 4 lk) ∧ V.heap.size ≤ db ∧ V.heap.size ≤ bm ∧ Below V.heap.size V w') := fun V => new_yes 4 lk (by omega) (by omega) V
  go_enter Try.func9, Try.ntmps9
  go_upto_region 0 with fail
  refine wp_region_list ?_
  (refine wpList_step (fun KK hKK => ?_); go_simp; refine hKK _ _ ?_; clear hKK KK)
  refine wpList_alloc_zero 28 zeroC 5 zinfo28 rfl rfl ?_
  have X0 : Hid (Box 28 (w.alloc (.cells zeroC 28)) w.heap.size zeroC ∧ Below w.heap.size w (w.alloc (.cells zeroC 28))) := ⟨Box.new 28 w _, (Below.refl _ _).alloc (Nat.le_refl _) _⟩
  generalize w.alloc (.cells zeroC 28) = W0 at *
  go_wp2_with fail
  refine (CN.out _).mono ?_
  rintro e w1 ⟨db, bm, rfl, h1, g1, g2, b1⟩
  have X1 : Hid (DiskAt w1 db bm (newK 4 lk) ∧ Box 28 w1 w.heap.size zeroC ∧ Below w.heap.size w w1 ∧ w.heap.size < db ∧ w.heap.size < bm) := by
    have h0 := X0.out.1.lt
    exact ⟨h1, X0.out.1.step b1, X0.out.2.trans (b1.mono X0.out.2.size), by omega, by omega⟩
  clear h1 g1 g2 b1 X0
  go_wp2_with fail
  refine (dnew4 lk _).mono ?_
  rintro e w2 ⟨g, rfl, h2, g2, b2⟩
  have X2 : Hid (DiskAt w2 db bm (newK 4 lk) ∧ Box 28 w2 w.heap.size zeroC ∧ Below w.heap.size w w2 ∧ w.heap.size < db ∧ w.heap.size < bm ∧ DocAt w2 g 2048 (newK 4 lk) ∧ w.heap.size < g) := by
    have h0 := X1.out.2.1.lt
    exact ⟨X1.out.1.step b2, X1.out.2.1.step b2, X1.out.2.2.1.trans (b2.mono X1.out.2.2.1.size), X1.out.2.2.2.1, X1.out.2.2.2.2, h2, by omega⟩
  clear h2 g2 b2 X1
  rename_i KK hKK
  refine hKK _ _ ?_
  clear hKK
  refine wpList_alloc_zero 28 zeroC 5 zinfo28 rfl rfl ?_
  refine wpList_store28 rfl _ _ rfl w2.heap.size (newK 4 lk) g 2048 zeroC rfl rfl (Box.new 28 w2 _) rfl ?_
  intro W3 B3 U3
  have hb9 : w.heap.size < w2.heap.size := X2.out.2.1.lt
  have Y : Hid (Py w W3 db bm w2.heap.size 2048 g g (newK 4 lk) (newK 4 lk) zeroC) := by
    have b3 : Below w2.heap.size w2 W3 := (((Below.refl _ _).alloc (Nat.le_refl _) _ : Below w2.heap.size w2 (w2.alloc (.cells zeroC 28)))).trans (U3.below (Nat.le_refl _) (by simp))
    obtain ⟨x1, x2, x3, x4, x5, x6, x7⟩ := X2.out
    exact ⟨x1.step b3, x6.step b3, B3, x2.step b3, x3.trans (b3.mono x3.size), by omega, by omega, hb9, by omega⟩
  clear B3 U3 X2
  generalize w2.heap.size = b9 at *
  go_wp2_with fail
  go_loopw [10] (fun i wr => ∃ (j g : Nat) (K : Dk), j ≤ len ∧ j ≤ 12 ∧ i = .int .i64 j ∧ K.count = 4 ∧ K.locked = lk ∧ Py w wr db bm b9 2048 g g K K zeroC) (fun i _ => 12 - (intOf i).toNat)
  case atStart => exact ⟨0, g, newK 4 lk, Nat.zero_le _, by omega, rfl, rfl, rfl, Y.out⟩
  case round =>
    obtain ⟨j, g, K, hj, hj12, rfl, hcc, hlk, hpy⟩ := hrel
    clear Y
    have X : Hid (Py w wr db bm b9 2048 g g K K zeroC) := hpy
    have HC : Hid (K.count = 4 ∧ K.locked = lk) := ⟨hcc, hlk⟩
    clear hpy hcc hlk
    by_cases hgo : j < len ∧ j < 12
    · obtain ⟨hg1, hg2⟩ := hgo
      have hgi1 : (j : Int) < len := by omega
      have hgi2 : (j : Int) < 12 := by omega
      rcases HS.out with ⟨h0, _⟩ | ⟨sb, off, cs, hv, _, hops⟩
      · omega
      simp only [Value.slice.injEq] at hv
      obtain ⟨rfl, -, rfl⟩ := hv
      obtain ⟨hoc, hin, hl⟩ := hops j hg1
      clear hops
      generalize ops j = o at *
      obtain ⟨z, x, n, a, l, c⟩ := o
      simp only at hoc hl
      have HO : Hid (w.cell? ⟨sb, off + j * 4, none⟩ = some (.int .i64 z) ∧ w.cell? ⟨sb, off + j * 4 + 1, none⟩ = some (.int .u64 (x : Nat)) ∧ w.cell? ⟨sb, off + j * 4 + 2, none⟩ = some (.int .i64 n) ∧ w.cell? ⟨sb, off + j * 4 + 3, none⟩ = some (.slice a l c)) := hoc
      have HI : Hid (OpD.In ⟨z, x, n, a, l, c⟩ (fun q => w.heap.size ≤ q) w) := hin
      obtain ⟨k0, k1, k2, k3⟩ := four_later hoc X.out.2.2.2.2.1
      clear hoc hin
      have CS : Hid (∀ V, Calls Try.prog 15 #[.agg #[.int .i64 z, .int .u64 (x : Nat), .int .i64 n, .slice a l c]] V fun e w' => e = .returned (.bool (smallB n l)) ∧ Below V.heap.size V w') := fun V => small_any ⟨z, x, n, a, l, c⟩ hl V
      have HJ : Hid (j + 1 ≤ len ∧ j + 1 ≤ 12) := ⟨hg1, hg2⟩
      cases hsm : smallB n l with
      | false =>
        have HSm : Hid (smallB n l = false) := hsm
        clear hsm
        go_wp2_with fail
        refine (CS.out _).mono ?_
        rw [HSm.out]
        rintro e w3 ⟨rfl, hb3⟩
        have X3 : Hid (Py w w3 db bm b9 2048 g g K K zeroC) := X.out.step hb3
        clear hb3 X k0 k1 k2 k3
        go_upto_region 9 with fail
        have Xd : Hid (Py w w3.drew db bm b9 2048 g g K K zeroC) := X3.out.step (Below.drew (Below.refl _ _))
        refine wp_region_held_drew (S := fun V => Box 28 V b9 (docC K g 2048)) (by kernel_rfl) Xd.out.2.2.1 ?_
        intro hS
        clear X3
        generalize w3.drew = Vd at *
        refine wpAnyH_take (i := 0) (v := .agg (docC K g 2048)) rfl (by kernel_rfl) (by kernel_rfl) (by kernel_rfl) (fun _ _ _ h => h) (Or.inl ⟨by kernel_rfl, fun V hV => yield28 hV _ rfl rfl⟩) hS ?_
        (try simp only [Act.put, List.getElem_toArray, List.getElem_cons_succ, List.getElem_cons_zero, List.setIfInBounds_toArray, List.set_cons_zero, List.set_cons_succ])
        refine wpAnyH_take (i := 1) (v := ?_) rfl (by kernel_rfl) (by kernel_rfl) (by kernel_rfl) (fun _ _ _ h => h) (Or.inl ⟨by kernel_rfl, ?_⟩) hS ?_
        rotate_left
        · intro w hSw; (try dsimp only at hSw); go_simp; try (with_reducible rfl)
        (try simp only [Act.put, List.getElem_toArray, List.getElem_cons_succ, List.getElem_cons_zero, List.setIfInBounds_toArray, List.set_cons_zero, List.set_cons_succ])
        refine wpAnyH_ready (rs := [2]) (by kernel_rfl) (by simp) ?_
        refine AllReadyH.cons rfl (fun HH0 HH1 => ?_) AllReadyH.nil
        rw [if_pos (by kernel_rfl)]
        refine wp_store28 _ _ rfl w.heap.size K g 2048 zeroC rfl rfl Xd.out.2.2.2.1 rfl ?_
        intro W9 B9 U9
        have X9 : Hid (Py w W9 db bm b9 2048 g g K K (docC K g 2048)) := Xd.out.res B9 U9
        clear B9 U9 Xd
        refine HH1.out _ _ X9.out.2.2.1 (fun hS9 => ?_)
        clear HH1 HH0 hS
        (try simp only [Act.put, List.getElem_toArray, List.getElem_cons_succ, List.getElem_cons_zero, List.setIfInBounds_toArray, List.set_cons_zero, List.set_cons_succ])
        refine wpAnyH_take (i := 3) (v := ?_) rfl (by kernel_rfl) (by kernel_rfl) (by kernel_rfl) (fun _ _ _ h => h) (Or.inl ⟨by kernel_rfl, ?_⟩) hS9 ?_
        rotate_left
        · intro w hSw; (try dsimp only at hSw); go_simp; try (with_reducible rfl)
        (try simp only [Act.put, List.getElem_toArray, List.getElem_cons_succ, List.getElem_cons_zero, List.setIfInBounds_toArray, List.set_cons_zero, List.set_cons_succ])
        refine wpAnyH_done (by kernel_rfl) ?_ _
        clear hS9
        go_wp2_with fail
        exact bodyPost_ret (v := .tuple #[.pointer none, .agg (docC K g 2048), .bool true]) (results3b (t := 4) (p := 5) (u := 6) rfl _ _ w.heap.size K g 2048 rfl X9.out.2.2.2.1) rfl ⟨_, g, K, rfl, X9.out.2.2.2.2.1, HC.out.1, HC.out.2, .inl rfl⟩
      | true =>
        have HSm : Hid (smallB n l = true) := hsm
        clear hsm
        go_wp2_with fail
        refine (CS.out _).mono ?_
        rw [HSm.out]
        rintro e w3 ⟨rfl, hb3⟩
        have X3 : Hid (Py w w3 db bm b9 2048 g g K K zeroC) := X.out.step hb3
        clear hb3 X k0 k1 k2 k3 CS
        clear hj hj12 hg1 hg2 hl
        go_upto_region 10 with fail
        have Xd : Hid (Py w w3.drew db bm b9 2048 g g K K zeroC) := X3.out.step (Below.drew (Below.refl _ _))
        refine wp_region_held_drew (S := fun V => Box 28 V b9 (docC K g 2048) ∧ V.cell? ⟨sb, off + j * 4, none⟩ = some (.int .i64 z) ∧ V.cell? ⟨sb, off + j * 4 + 1, none⟩ = some (.int .u64 (x : Nat)) ∧ V.cell? ⟨sb, off + j * 4 + 2, none⟩ = some (.int .i64 n) ∧ V.cell? ⟨sb, off + j * 4 + 3, none⟩ = some (.slice a l c)) (by kernel_rfl) ⟨Xd.out.2.2.1, four_later HO.out Xd.out.2.2.2.2.1⟩ ?_
        intro hS
        clear X3
        generalize w3.drew = Vd at *
        refine wpAnyH_take (i := 0) (v := ?_) rfl (by kernel_rfl) (by kernel_rfl) (by kernel_rfl) (fun _ _ _ h => h) (Or.inl ⟨by kernel_rfl, ?_⟩) hS ?_
        rotate_left
        · intro w hSw; (try dsimp only at hSw); go_simp; try (with_reducible rfl)
        (try simp only [Act.put, List.getElem_toArray, List.getElem_cons_succ, List.getElem_cons_zero, List.setIfInBounds_toArray, List.set_cons_zero, List.set_cons_succ])
        refine wpAnyH_take (i := 1) (v := .agg (docC K g 2048)) rfl (by kernel_rfl) (by kernel_rfl) (by kernel_rfl) (fun _ _ _ h => h) (Or.inl ⟨by kernel_rfl, fun V hV => yield28 hV.1 _ rfl rfl⟩) hS ?_
        (try simp only [Act.put, List.getElem_toArray, List.getElem_cons_succ, List.getElem_cons_zero, List.setIfInBounds_toArray, List.set_cons_zero, List.set_cons_succ])
        refine wpAnyH_take (i := 2) (v := ?_) rfl (by kernel_rfl) (by kernel_rfl) (by kernel_rfl) (fun _ _ _ h => h) (Or.inl ⟨by kernel_rfl, ?_⟩) hS ?_
        rotate_left
        · intro w hSw; (try dsimp only at hSw); go_simp; try (with_reducible rfl)
        (try simp only [Act.put, List.getElem_toArray, List.getElem_cons_succ, List.getElem_cons_zero, List.setIfInBounds_toArray, List.set_cons_zero, List.set_cons_succ])
        refine wpAnyH_take (i := 3) (v := ?_) rfl (by kernel_rfl) (by kernel_rfl) (by kernel_rfl) (fun _ _ _ h => h) (Or.inl ⟨by kernel_rfl, ?_⟩) hS ?_
        rotate_left
        · intro w hSw; (try dsimp only at hSw); go_simp; try (with_reducible rfl)
        (try simp only [Act.put, List.getElem_toArray, List.getElem_cons_succ, List.getElem_cons_zero, List.setIfInBounds_toArray, List.set_cons_zero, List.set_cons_succ])
        refine wpAnyH_take (i := 4) (v := ?_) rfl (by kernel_rfl) (by kernel_rfl) (by kernel_rfl) (fun _ _ _ h => h) (Or.inl ⟨by kernel_rfl, ?_⟩) hS ?_
        rotate_left
        · intro w hSw; (try dsimp only at hSw); go_simp; try (with_reducible rfl)
        (try simp only [Act.put, List.getElem_toArray, List.getElem_cons_succ, List.getElem_cons_zero, List.setIfInBounds_toArray, List.set_cons_zero, List.set_cons_succ])
        refine wpAnyH_take (i := 5) (v := ?_) rfl (by kernel_rfl) (by kernel_rfl) (by kernel_rfl) (fun _ _ _ h => h) (Or.inl ⟨by kernel_rfl, ?_⟩) hS ?_
        rotate_left
        · intro w hSw; (try dsimp only at hSw); go_simp; try (with_reducible rfl)
        (try simp only [Act.put, List.getElem_toArray, List.getElem_cons_succ, List.getElem_cons_zero, List.setIfInBounds_toArray, List.set_cons_zero, List.set_cons_succ])
        refine wpAnyH_ready (rs := [6, 10]) (by kernel_rfl) (by simp) ?_
        refine AllReadyH.cons rfl (fun HH0 HH1 => ?_) (AllReadyH.cons rfl (fun HH0 HH1 => ?_) AllReadyH.nil)
        · have _hm : True := trivial
          go_simp
          refine (do_any K db bm g 2048 x z n a l c _ Xd.out.1 Xd.out.2.1 (HI.out.later Xd.out.2.2.2.2.1 (fun k hk => by rcases hk with rfl | rfl; exact Xd.out.2.2.2.2.2.1; exact Xd.out.2.2.2.2.2.2.1)) HSm.out).mono ?_
          rintro e w20 ⟨g2, K2, rfl, hd, hg, hq, ht, hc1, hc2⟩
          have HC2 : Hid (K2.count = 4 ∧ K2.locked = lk) := ⟨hc1.trans HC.out.1, hc2.trans HC.out.2⟩
          have X20 : Hid (Py w w20 db bm b9 2048 g2 g K2 K zeroC) := Xd.out.do hd hg hq ht
          clear hd hg hq ht hc1 hc2 Xd
          refine HH1.out _ _ ⟨X20.out.2.2.1, four_later HO.out X20.out.2.2.2.2.1⟩ (fun hS20 => ?_)
          clear HH1 HH0 hS
          (try simp only [Act.put, List.getElem_toArray, List.getElem_cons_succ, List.getElem_cons_zero, List.setIfInBounds_toArray, List.set_cons_zero, List.set_cons_succ])
          refine wpAnyH_take (i := 7) (v := ?_) rfl (by kernel_rfl) (by kernel_rfl) (by kernel_rfl) (fun _ _ _ h => h) (Or.inl ⟨by kernel_rfl, ?_⟩) hS20 ?_
          rotate_left
          · intro w hSw; (try dsimp only at hSw); go_simp; try (with_reducible rfl)
          (try simp only [Act.put, List.getElem_toArray, List.getElem_cons_succ, List.getElem_cons_zero, List.setIfInBounds_toArray, List.set_cons_zero, List.set_cons_succ])
          refine wpAnyH_take (i := 8) (v := ?_) rfl (by kernel_rfl) (by kernel_rfl) (by kernel_rfl) (fun _ _ _ h => h) (Or.inl ⟨by kernel_rfl, ?_⟩) hS20 ?_
          rotate_left
          · intro w hSw; (try dsimp only at hSw); go_simp; try (with_reducible rfl)
          (try simp only [Act.put, List.getElem_toArray, List.getElem_cons_succ, List.getElem_cons_zero, List.setIfInBounds_toArray, List.set_cons_zero, List.set_cons_succ])
          refine wpAnyH_take (i := 9) (v := ?_) rfl (by kernel_rfl) (by kernel_rfl) (by kernel_rfl) (fun _ _ _ h => h) (Or.inl ⟨by kernel_rfl, ?_⟩) hS20 ?_
          rotate_left
          · intro w hSw; (try dsimp only at hSw); go_simp; try (with_reducible rfl)
          (try simp only [Act.put, List.getElem_toArray, List.getElem_cons_succ, List.getElem_cons_zero, List.setIfInBounds_toArray, List.set_cons_zero, List.set_cons_succ])
          refine wpAnyH_ready (rs := [10]) (by kernel_rfl) (by simp) ?_
          refine AllReadyH.cons rfl (fun HH0 HH1 => ?_) AllReadyH.nil
          rw [if_pos (by kernel_rfl)]
          refine wp_alloc_zero 28 zeroC 5 zinfo28 rfl ?_
          have X21 : Hid (Py w (w20.alloc (.cells zeroC 28)) db bm b9 2048 g2 g K2 K zeroC ∧ Box 28 (w20.alloc (.cells zeroC 28)) w20.heap.size zeroC ∧ w20.heap.size ≠ b9 ∧ w.heap.size < w20.heap.size) := by
            have h1 := X20.out.2.2.1.lt
            have h2 := X20.out.2.2.2.1.lt
            exact ⟨X20.out.step ((Below.refl _ _).alloc (Nat.le_refl _) _), Box.new 28 _ _, by omega, h2⟩
          clear X20
          generalize w20.alloc (.cells zeroC 28) = w21 at *
          generalize w20.heap.size = q at *
          refine HH1.out _ _ ⟨X21.out.1.2.2.1, four_later HO.out X21.out.1.2.2.2.2.1⟩ (fun hS21 => ?_)
          clear HH1 HH0 hS20
          (try simp only [Act.put, List.getElem_toArray, List.getElem_cons_succ, List.getElem_cons_zero, List.setIfInBounds_toArray, List.set_cons_zero, List.set_cons_succ])
          refine wpAnyH_ready (rs := [11]) (by kernel_rfl) (by simp) ?_
          refine AllReadyH.cons rfl (fun HH0 HH1 => ?_) AllReadyH.nil
          rw [if_pos (by kernel_rfl)]
          refine wp_store28 _ _ rfl q K2 g2 2048 zeroC rfl rfl X21.out.2.1 rfl ?_
          intro W9 B9 U9
          have X9 : Hid (Py w W9 db bm b9 2048 g2 g K2 K zeroC ∧ Box 28 W9 q (docC K2 g2 2048)) := ⟨X21.out.1.other X21.out.2.1 U9 X21.out.2.2.1 X21.out.2.2.2, B9⟩
          clear B9 U9 X21
          refine HH1.out _ _ ⟨X9.out.1.2.2.1, four_later HO.out X9.out.1.2.2.2.2.1⟩ (fun hS9 => ?_)
          clear HH1 HH0 hS21
          (try simp only [Act.put, List.getElem_toArray, List.getElem_cons_succ, List.getElem_cons_zero, List.setIfInBounds_toArray, List.set_cons_zero, List.set_cons_succ])
          refine wpAnyH_take (i := 12) (v := ?_) rfl (by kernel_rfl) (by kernel_rfl) (by kernel_rfl) (fun _ _ _ h => h) (Or.inl ⟨by kernel_rfl, ?_⟩) hS9 ?_
          rotate_left
          · intro w hSw; (try dsimp only at hSw); go_simp; try (with_reducible rfl)
          (try simp only [Act.put, List.getElem_toArray, List.getElem_cons_succ, List.getElem_cons_zero, List.setIfInBounds_toArray, List.set_cons_zero, List.set_cons_succ])
          refine wpAnyH_done (by kernel_rfl) ?_ _
          clear hS9
          go_upto_region 13 with fail
          refine wp_region_list ?_
          refine wpList_load28 rfl _ rfl q K2 g2 2048 rfl X9.out.2 ?_
          refine wpList_store28 rfl _ _ rfl b9 K2 g2 2048 (docC K g 2048) rfl rfl X9.out.1.2.2.1 rfl ?_
          intro W11 B11 U11
          have X11 : Hid (Py w W11 db bm b9 2048 g2 g2 K2 K2 zeroC) := X9.out.1.box B11 U11
          clear B11 U11 X9
          go_wp2_with fail
          go_roundw
          case rel => exact ⟨j + 1, g2, K2, HJ.out.1, HJ.out.2, by go_num, HC2.out.1, HC2.out.2, X11.out⟩
          case measure => simp [intOf]; have := HJ.out.2; omega
        · have _hm : True := trivial
          rw [if_pos (by kernel_rfl)]
          refine wp_alloc_zero 28 zeroC 5 zinfo28 rfl ?_
          have X20 : Hid (Py w (Vd.alloc (.cells zeroC 28)) db bm b9 2048 g g K K zeroC ∧ Box 28 (Vd.alloc (.cells zeroC 28)) Vd.heap.size zeroC ∧ Vd.heap.size ≠ b9 ∧ w.heap.size < Vd.heap.size) := by
            have h1 := Xd.out.2.2.1.lt
            have h2 := Xd.out.2.2.2.1.lt
            exact ⟨Xd.out.step ((Below.refl _ _).alloc (Nat.le_refl _) _), Box.new 28 _ _, by omega, h2⟩
          clear Xd
          generalize Vd.alloc (.cells zeroC 28) = w20 at *
          generalize Vd.heap.size = q at *
          refine HH1.out _ _ ⟨X20.out.1.2.2.1, four_later HO.out X20.out.1.2.2.2.2.1⟩ (fun hS20 => ?_)
          clear HH1 HH0 hS
          (try simp only [Act.put, List.getElem_toArray, List.getElem_cons_succ, List.getElem_cons_zero, List.setIfInBounds_toArray, List.set_cons_zero, List.set_cons_succ])
          refine wpAnyH_ready (rs := [6]) (by kernel_rfl) (by simp) ?_
          refine AllReadyH.cons rfl (fun HH0 HH1 => ?_) AllReadyH.nil
          go_simp
          refine (do_any K db bm g 2048 x z n a l c _ X20.out.1.1 X20.out.1.2.1 (HI.out.later X20.out.1.2.2.2.2.1 (fun k hk => by rcases hk with rfl | rfl; exact X20.out.1.2.2.2.2.2.1; exact X20.out.1.2.2.2.2.2.2.1)) HSm.out).mono ?_
          rintro e w21 ⟨g2, K2, rfl, hd, hg, hq, ht, hc1, hc2⟩
          have HC2 : Hid (K2.count = 4 ∧ K2.locked = lk) := ⟨hc1.trans HC.out.1, hc2.trans HC.out.2⟩
          have X21 : Hid (Py w w21 db bm b9 2048 g2 g K2 K zeroC ∧ Box 28 w21 q zeroC ∧ q ≠ b9 ∧ w.heap.size < q) := ⟨X20.out.1.do hd hg hq ht, ht.box X20.out.2.1 (disk_box_ne X20.out.1.1 X20.out.2.1).1 (disk_box_ne X20.out.1.1 X20.out.2.1).2, X20.out.2.2⟩
          clear hd hg hq ht hc1 hc2 X20
          refine HH1.out _ _ ⟨X21.out.1.2.2.1, four_later HO.out X21.out.1.2.2.2.2.1⟩ (fun hS21 => ?_)
          clear HH1 HH0 hS20
          (try simp only [Act.put, List.getElem_toArray, List.getElem_cons_succ, List.getElem_cons_zero, List.setIfInBounds_toArray, List.set_cons_zero, List.set_cons_succ])
          refine wpAnyH_take (i := 7) (v := ?_) rfl (by kernel_rfl) (by kernel_rfl) (by kernel_rfl) (fun _ _ _ h => h) (Or.inl ⟨by kernel_rfl, ?_⟩) hS21 ?_
          rotate_left
          · intro w hSw; (try dsimp only at hSw); go_simp; try (with_reducible rfl)
          (try simp only [Act.put, List.getElem_toArray, List.getElem_cons_succ, List.getElem_cons_zero, List.setIfInBounds_toArray, List.set_cons_zero, List.set_cons_succ])
          refine wpAnyH_take (i := 8) (v := ?_) rfl (by kernel_rfl) (by kernel_rfl) (by kernel_rfl) (fun _ _ _ h => h) (Or.inl ⟨by kernel_rfl, ?_⟩) hS21 ?_
          rotate_left
          · intro w hSw; (try dsimp only at hSw); go_simp; try (with_reducible rfl)
          (try simp only [Act.put, List.getElem_toArray, List.getElem_cons_succ, List.getElem_cons_zero, List.setIfInBounds_toArray, List.set_cons_zero, List.set_cons_succ])
          refine wpAnyH_take (i := 9) (v := ?_) rfl (by kernel_rfl) (by kernel_rfl) (by kernel_rfl) (fun _ _ _ h => h) (Or.inl ⟨by kernel_rfl, ?_⟩) hS21 ?_
          rotate_left
          · intro w hSw; (try dsimp only at hSw); go_simp; try (with_reducible rfl)
          (try simp only [Act.put, List.getElem_toArray, List.getElem_cons_succ, List.getElem_cons_zero, List.setIfInBounds_toArray, List.set_cons_zero, List.set_cons_succ])
          refine wpAnyH_ready (rs := [11]) (by kernel_rfl) (by simp) ?_
          refine AllReadyH.cons rfl (fun HH0 HH1 => ?_) AllReadyH.nil
          rw [if_pos (by kernel_rfl)]
          refine wp_store28 _ _ rfl q K2 g2 2048 zeroC rfl rfl X21.out.2.1 rfl ?_
          intro W9 B9 U9
          have X9 : Hid (Py w W9 db bm b9 2048 g2 g K2 K zeroC ∧ Box 28 W9 q (docC K2 g2 2048)) := ⟨X21.out.1.other X21.out.2.1 U9 X21.out.2.2.1 X21.out.2.2.2, B9⟩
          clear B9 U9 X21
          refine HH1.out _ _ ⟨X9.out.1.2.2.1, four_later HO.out X9.out.1.2.2.2.2.1⟩ (fun hS9 => ?_)
          clear HH1 HH0 hS21
          (try simp only [Act.put, List.getElem_toArray, List.getElem_cons_succ, List.getElem_cons_zero, List.setIfInBounds_toArray, List.set_cons_zero, List.set_cons_succ])
          refine wpAnyH_take (i := 12) (v := ?_) rfl (by kernel_rfl) (by kernel_rfl) (by kernel_rfl) (fun _ _ _ h => h) (Or.inl ⟨by kernel_rfl, ?_⟩) hS9 ?_
          rotate_left
          · intro w hSw; (try dsimp only at hSw); go_simp; try (with_reducible rfl)
          (try simp only [Act.put, List.getElem_toArray, List.getElem_cons_succ, List.getElem_cons_zero, List.setIfInBounds_toArray, List.set_cons_zero, List.set_cons_succ])
          refine wpAnyH_done (by kernel_rfl) ?_ _
          clear hS9
          go_upto_region 13 with fail
          refine wp_region_list ?_
          refine wpList_load28 rfl _ rfl q K2 g2 2048 rfl X9.out.2 ?_
          refine wpList_store28 rfl _ _ rfl b9 K2 g2 2048 (docC K g 2048) rfl rfl X9.out.1.2.2.1 rfl ?_
          intro W11 B11 U11
          have X11 : Hid (Py w W11 db bm b9 2048 g2 g2 K2 K2 zeroC) := X9.out.1.box B11 U11
          clear B11 U11 X9
          go_wp2_with fail
          go_roundw
          case rel => exact ⟨j + 1, g2, K2, HJ.out.1, HJ.out.2, by go_num, HC2.out.1, HC2.out.2, X11.out⟩
          case measure => simp [intOf]; have := HJ.out.2; omega
    · have hgo2 : ¬ ((j : Int) < len) ∨ ¬ ((j : Int) < 12) := by omega
      by_cases hq : (j : Int) < len
      · have hq2 : ¬ (j : Int) < 12 := by omega
        clear hgo hgo2
        go_upto_region 14 with fail
        have Xd : Hid (Py w wr.drew db bm b9 2048 g g K K zeroC) := X.out.step (Below.drew (Below.refl _ _))
        refine wp_region_held_drew (S := fun V => Box 28 V b9 (docC K g 2048)) (by kernel_rfl) Xd.out.2.2.1 ?_
        intro hS
        clear X
        generalize wr.drew = Vd at *
        refine wpAnyH_take (i := 0) (v := ?_) rfl (by kernel_rfl) (by kernel_rfl) (by kernel_rfl) (fun _ _ _ h => h) (Or.inl ⟨by kernel_rfl, ?_⟩) hS ?_
        rotate_left
        · intro w hSw; (try dsimp only at hSw); go_simp; try (with_reducible rfl)
        (try simp only [Act.put, List.getElem_toArray, List.getElem_cons_succ, List.getElem_cons_zero, List.setIfInBounds_toArray, List.set_cons_zero, List.set_cons_succ])
        refine wpAnyH_take (i := 1) (v := .agg (docC K g 2048)) rfl (by kernel_rfl) (by kernel_rfl) (by kernel_rfl) (fun _ _ _ h => h) (Or.inl ⟨by kernel_rfl, fun V hV => yield28 hV _ rfl rfl⟩) hS ?_
        (try simp only [Act.put, List.getElem_toArray, List.getElem_cons_succ, List.getElem_cons_zero, List.setIfInBounds_toArray, List.set_cons_zero, List.set_cons_succ])
        refine wpAnyH_take (i := 2) (v := ?_) rfl (by kernel_rfl) (by kernel_rfl) (by kernel_rfl) (fun _ _ _ h => h) (Or.inl ⟨by kernel_rfl, ?_⟩) hS ?_
        rotate_left
        · intro w hSw; (try dsimp only at hSw); go_simp; try (with_reducible rfl)
        (try simp only [Act.put, List.getElem_toArray, List.getElem_cons_succ, List.getElem_cons_zero, List.setIfInBounds_toArray, List.set_cons_zero, List.set_cons_succ])
        refine wpAnyH_ready (rs := [3]) (by kernel_rfl) (by simp) ?_
        refine AllReadyH.cons rfl (fun HH0 HH1 => ?_) AllReadyH.nil
        rw [if_pos (by kernel_rfl)]
        refine wp_store28 _ _ rfl w.heap.size K g 2048 zeroC rfl rfl Xd.out.2.2.2.1 rfl ?_
        intro W9 B9 U9
        have X9 : Hid (Py w W9 db bm b9 2048 g g K K (docC K g 2048)) := Xd.out.res B9 U9
        clear B9 U9 Xd
        refine HH1.out _ _ X9.out.2.2.1 (fun hS9 => ?_)
        clear HH1 HH0 hS
        (try simp only [Act.put, List.getElem_toArray, List.getElem_cons_succ, List.getElem_cons_zero, List.setIfInBounds_toArray, List.set_cons_zero, List.set_cons_succ])
        refine wpAnyH_take (i := 4) (v := ?_) rfl (by kernel_rfl) (by kernel_rfl) (by kernel_rfl) (fun _ _ _ h => h) (Or.inl ⟨by kernel_rfl, ?_⟩) hS9 ?_
        rotate_left
        · intro w hSw; (try dsimp only at hSw); go_simp; try (with_reducible rfl)
        (try simp only [Act.put, List.getElem_toArray, List.getElem_cons_succ, List.getElem_cons_zero, List.setIfInBounds_toArray, List.set_cons_zero, List.set_cons_succ])
        refine wpAnyH_done (by kernel_rfl) ?_ _
        clear hS9
        go_wp2_with fail
        exact bodyPost_ret (v := .tuple #[.pointer (some ⟨db, 0, none⟩), .agg (docC K g 2048), .bool true]) (results3b (t := 4) (p := 5) (u := 6) rfl _ _ w.heap.size K g 2048 rfl X9.out.2.2.2.1) rfl ⟨_, g, K, rfl, X9.out.2.2.2.2.1, HC.out.1, HC.out.2, .inr ⟨db, bm, rfl, X9.out.1, X9.out.2.1, X9.out.2.2.2.2.2.1, X9.out.2.2.2.2.2.2.1, X9.out.2.2.2.2.2.2.2.2⟩⟩
      · clear hgo hgo2
        go_upto_region 14 with fail
        have Xd : Hid (Py w wr.drew db bm b9 2048 g g K K zeroC) := X.out.step (Below.drew (Below.refl _ _))
        refine wp_region_held_drew (S := fun V => Box 28 V b9 (docC K g 2048)) (by kernel_rfl) Xd.out.2.2.1 ?_
        intro hS
        clear X
        generalize wr.drew = Vd at *
        refine wpAnyH_take (i := 0) (v := ?_) rfl (by kernel_rfl) (by kernel_rfl) (by kernel_rfl) (fun _ _ _ h => h) (Or.inl ⟨by kernel_rfl, ?_⟩) hS ?_
        rotate_left
        · intro w hSw; (try dsimp only at hSw); go_simp; try (with_reducible rfl)
        (try simp only [Act.put, List.getElem_toArray, List.getElem_cons_succ, List.getElem_cons_zero, List.setIfInBounds_toArray, List.set_cons_zero, List.set_cons_succ])
        refine wpAnyH_take (i := 1) (v := .agg (docC K g 2048)) rfl (by kernel_rfl) (by kernel_rfl) (by kernel_rfl) (fun _ _ _ h => h) (Or.inl ⟨by kernel_rfl, fun V hV => yield28 hV _ rfl rfl⟩) hS ?_
        (try simp only [Act.put, List.getElem_toArray, List.getElem_cons_succ, List.getElem_cons_zero, List.setIfInBounds_toArray, List.set_cons_zero, List.set_cons_succ])
        refine wpAnyH_take (i := 2) (v := ?_) rfl (by kernel_rfl) (by kernel_rfl) (by kernel_rfl) (fun _ _ _ h => h) (Or.inl ⟨by kernel_rfl, ?_⟩) hS ?_
        rotate_left
        · intro w hSw; (try dsimp only at hSw); go_simp; try (with_reducible rfl)
        (try simp only [Act.put, List.getElem_toArray, List.getElem_cons_succ, List.getElem_cons_zero, List.setIfInBounds_toArray, List.set_cons_zero, List.set_cons_succ])
        refine wpAnyH_ready (rs := [3]) (by kernel_rfl) (by simp) ?_
        refine AllReadyH.cons rfl (fun HH0 HH1 => ?_) AllReadyH.nil
        rw [if_pos (by kernel_rfl)]
        refine wp_store28 _ _ rfl w.heap.size K g 2048 zeroC rfl rfl Xd.out.2.2.2.1 rfl ?_
        intro W9 B9 U9
        have X9 : Hid (Py w W9 db bm b9 2048 g g K K (docC K g 2048)) := Xd.out.res B9 U9
        clear B9 U9 Xd
        refine HH1.out _ _ X9.out.2.2.1 (fun hS9 => ?_)
        clear HH1 HH0 hS
        (try simp only [Act.put, List.getElem_toArray, List.getElem_cons_succ, List.getElem_cons_zero, List.setIfInBounds_toArray, List.set_cons_zero, List.set_cons_succ])
        refine wpAnyH_take (i := 4) (v := ?_) rfl (by kernel_rfl) (by kernel_rfl) (by kernel_rfl) (fun _ _ _ h => h) (Or.inl ⟨by kernel_rfl, ?_⟩) hS9 ?_
        rotate_left
        · intro w hSw; (try dsimp only at hSw); go_simp; try (with_reducible rfl)
        (try simp only [Act.put, List.getElem_toArray, List.getElem_cons_succ, List.getElem_cons_zero, List.setIfInBounds_toArray, List.set_cons_zero, List.set_cons_succ])
        refine wpAnyH_done (by kernel_rfl) ?_ _
        clear hS9
        go_wp2_with fail
        exact bodyPost_ret (v := .tuple #[.pointer (some ⟨db, 0, none⟩), .agg (docC K g 2048), .bool true]) (results3b (t := 4) (p := 5) (u := 6) rfl _ _ w.heap.size K g 2048 rfl X9.out.2.2.2.1) rfl ⟨_, g, K, rfl, X9.out.2.2.2.2.1, HC.out.1, HC.out.2, .inr ⟨db, bm, rfl, X9.out.1, X9.out.2.1, X9.out.2.2.2.2.2.1, X9.out.2.2.2.2.2.2.1, X9.out.2.2.2.2.2.2.2.2⟩⟩
end Go.Proofs.Ytkalaojbmedhjaa
