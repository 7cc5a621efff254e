/- DiskCopies: a copy is alike in everything, and goes its own way; whether two hold the same is told. -/
import Derived.Test.YtkalaojbmedhjaaLa
namespace Go.Proofs.Ytkalaojbmedhjaa
open Go.RowKit Go.Maps
set_option linter.unusedVariables false
set_option linter.unusedSimpArgs false
set_option maxRecDepth 100000
/-- a disk with the document's one, a copy with its own document's one -/
def Cp (w V : World) (db bm g fb d2 m2 gc xb gb : Nat) (K Kc Kb : Dk) : Prop := (DiskAt V db bm K ∧ DocAt V g 2048 K ∧ Box 28 V fb (docC K g 2048)) ∧ (DiskAt V d2 m2 Kc ∧ DocAt V gc 2048 Kc ∧ Box 28 V xb (docC Kb gb 2048)) ∧ Below w.heap.size w V ∧ (w.heap.size ≤ d2 ∧ w.heap.size ≤ m2 ∧ w.heap.size ≤ xb) ∧ db ≠ d2 ∧ db ≠ m2 ∧ bm ≠ d2 ∧ bm ≠ m2 ∧ fb ≠ xb
section
variable {w V V' : World} {db bm g fb d2 m2 gc xb gb g2 q : Nat} {K Kc Kb K2 : Dk} {c : Array Value}
theorem Cp.step (h : Cp w V db bm g fb d2 m2 gc xb gb K Kc Kb) (hb : Below V.heap.size V V') : Cp w V' db bm g fb d2 m2 gc xb gb K Kc Kb := by
  obtain ⟨⟨h1, h2, h3⟩, ⟨h4, h5, h6⟩, h7, h8⟩ := h
  exact ⟨⟨h1.step hb, h2.step hb, h3.step hb⟩, ⟨h4.step hb, h5.step hb, h6.step hb⟩, h7.trans (hb.mono h7.size), h8⟩
theorem Cp.do (h : Cp w V db bm g fb d2 m2 gc xb gb K Kc Kb) (hd : DiskAt V' d2 m2 K2) (hg : DocAt V' g2 2048 K2) (ht : Two d2 m2 V V') : Cp w V' db bm g fb d2 m2 g2 xb gb K K2 Kb := by
  obtain ⟨⟨h1, h2, h3⟩, ⟨h4, h5, h6⟩, h7, h8, e1, e2, e3, e4, e5⟩ := h
  have n1 := h2.ne h4
  have n2 := disk_box_ne h4 h3
  have n3 := disk_box_ne h4 h6
  exact ⟨⟨h1.two ht e1 e2 e3 e4, h2.two ht n1.1 n1.2, ht.box h3 n2.1 n2.2⟩, ⟨hd, hg, ht.box h6 n3.1 n3.2⟩, h7.trans (ht.below h8.1 h8.2.1 h7.size), h8, e1, e2, e3, e4, e5⟩
theorem Cp.other (h : Cp w V db bm g fb d2 m2 gc xb gb K Kc Kb) (hb : Box 28 V q c) (hu : Upon q V V') (q1 : q ≠ fb) (q2 : q ≠ xb) (q3 : w.heap.size ≤ q) : Cp w V' db bm g fb d2 m2 gc xb gb K Kc Kb := by
  obtain ⟨⟨h1, h2, h3⟩, ⟨h4, h5, h6⟩, h7, h8⟩ := h
  have n1 := disk_box_ne h1 hb
  have n2 := disk_box_ne h4 hb
  exact ⟨⟨h1.upon hu (Ne.symm n1.1) (Ne.symm n1.2), h2.upon hu (doc_box_ne h2 hb), hu.box h3 (Ne.symm q1)⟩, ⟨h4.upon hu (Ne.symm n2.1) (Ne.symm n2.2), h5.upon hu (doc_box_ne h5 hb), hu.box h6 (Ne.symm q2)⟩, h7.trans (hu.below q3 h7.size), h8⟩
theorem Cp.box (h : Cp w V db bm g fb d2 m2 gc xb gb K Kc Kb) (hx : Box 28 V' xb (docC Kc gc 2048)) (hu : Upon xb V V') : Cp w V' db bm g fb d2 m2 gc xb gc K Kc Kc := by
  obtain ⟨⟨h1, h2, h3⟩, ⟨h4, h5, h6⟩, h7, h8, e1, e2, e3, e4, e5⟩ := h
  have n1 := disk_box_ne h1 h6
  have n2 := disk_box_ne h4 h6
  exact ⟨⟨h1.upon hu (Ne.symm n1.1) (Ne.symm n1.2), h2.upon hu (doc_box_ne h2 h6), hu.box h3 e5⟩, ⟨h4.upon hu (Ne.symm n2.1) (Ne.symm n2.2), h5.upon hu (doc_box_ne h5 h6), hx⟩, h7.trans (hu.below h8.2.2 h7.size), h8, e1, e2, e3, e4, e5⟩
end
theorem same_bytes {K Kc : Dk} (h1 : K.Ok) (h2 : Kc.Ok) (c1 : K.count = 4) (c2 : Kc.count = 4) : (∀ a, Kc.M a = K.M a) ↔ ∀ i, i < 2048 → Kc.M i = K.M i := by
  refine ⟨fun h i _ => h i, fun h a => ?_⟩
  by_cases ha : a < 2048
  · exact h a ha
  · rw [h1.out a (by rw [c1]; omega), h2.out a (by rw [c2]; omega)]
set_option maxHeartbeats 8000000 in
theorem copies_core (w : World) (lk : Bool) (v : Value) (len : Nat) (ops : Nat → OpD) (hsc : ScriptIn w v len ops) (v2 : Value) (len2 : Nat) (ops2 : Nat → OpD) (hsc2 : ScriptIn w v2 len2 ops2) : Calls Try.prog 7 #[.bool lk, v, v2] w fun e w' => e = .returned (.bool true) ∧ Below w.heap.size w w' := by
  obtain ⟨av, cap, rfl⟩ := script_form hsc
  obtain ⟨av2, cap2, rfl⟩ := script_form hsc2
  have hlen2 : len2 ≤ 9223372036854775807 := by
    rcases hsc2 with ⟨rfl, _⟩ | ⟨b, off, cap, _, h, _⟩
    · omega
    · exact h
  have HS : Hid (ScriptIn w (.slice av len cap) len ops) := hsc
  have HT : Hid (ScriptIn w (.slice av2 len2 cap2) len2 ops2) := hsc2
  clear hsc hsc2
  go_enter Try.func7, Try.ntmps7
  go_wp2_with fail
  refine (awake_any _).mono ?_
  rintro e w0 ⟨rfl, hb0⟩
  have Z0 : Hid (Below w.heap.size w w0) := hb0
  clear hb0
  go_upto_region 3 with fail
  refine wp_region_list ?_
  (refine wpList_step (fun KK hKK => ?_); go_simp; refine hKK _ _ ?_; clear hKK KK)
  (refine wpList_step (fun KK hKK => ?_); go_simp; refine hKK _ _ ?_; clear hKK KK)
  refine wpList_step (fun KK hKK => ?_)
  go_simp
  refine (played_any lk av len cap ops w0 (HS.out.up Z0.out)).mono ?_
  rintro e w2 ⟨pv, g, K, rfl, hL⟩
  have Z2 : Hid (Left w0 w2 lk pv g K) := hL
  clear hL
  refine hKK _ _ ?_
  clear hKK KK
  (refine wpList_step (fun KK hKK => ?_); go_simp; refine hKK _ _ ?_; clear hKK KK)
  refine wpList_extract_at rfl _ _ _ _ rfl rfl rfl ?_
  refine wpList_extract_at rfl _ _ _ _ rfl rfl rfl ?_
  refine wpList_extract_at rfl _ _ _ _ rfl rfl rfl ?_
  refine wpList_alloc_zero 28 zeroC 5 zinfo28 rfl rfl ?_
  (refine wpList_step (fun KK hKK => ?_); go_simp; refine hKK _ _ ?_; clear hKK KK)
  refine wpList_store28 rfl _ _ rfl w2.heap.size K g 2048 zeroC rfl rfl (Box.new 28 w2 _) rfl ?_
  intro W3 B3 U3
  have Y0 : Hid (Bg w W3 w2.heap.size lk pv g K) := bg_new Z0.out Z2.out B3 U3
  clear B3 U3 Z2 Z0
  generalize w2.heap.size = fb at *
  rcases Y0.out.2.2.2.2.2 with rfl | ⟨db, bm, rfl, hd, hg, hd1, hd2, _⟩
  · go_wp2_with fail
    go_ret
    exact ⟨rfl, Y0.out.2.1⟩
  · have X : Hid ((DiskAt W3 db bm K ∧ DocAt W3 g 2048 K ∧ Box 28 W3 fb (docC K g 2048)) ∧ Below w.heap.size w W3) := ⟨⟨hd, hg, Y0.out.1⟩, Y0.out.2.1⟩
    have HC : Hid (K.count = 4 ∧ K.locked = lk) := ⟨Y0.out.2.2.2.1, Y0.out.2.2.2.2.1⟩
    clear hd hg hd1 hd2 Y0 HS
    go_wp2_with fail
    refine (copy_any X.out.1.1).mono ?_
    rintro e w4 ⟨d2, m2, rfl, hd4, g1, g2, hb4⟩
    have X4 : Hid ((DiskAt w4 db bm K ∧ DocAt w4 g 2048 K ∧ Box 28 w4 fb (docC K g 2048)) ∧ Below w.heap.size w w4 ∧ DiskAt w4 d2 m2 K ∧ (w.heap.size ≤ d2 ∧ w.heap.size ≤ m2) ∧ db ≠ d2 ∧ db ≠ m2 ∧ bm ≠ d2 ∧ bm ≠ m2) := by
      have h1 := X.out.1.1.lt
      have h2 := X.out.2.size
      exact ⟨⟨X.out.1.1.step hb4, X.out.1.2.1.step hb4, X.out.1.2.2.step hb4⟩, X.out.2.trans (hb4.mono h2), hd4, ⟨by omega, by omega⟩, by omega, by omega, by omega, by omega⟩
    clear hd4 g1 g2 hb4 X
    go_upto_region 7 with fail
    refine wp_region_list ?_
    (refine wpList_step (fun KK hKK => ?_); go_simp; refine hKK _ _ ?_; clear hKK KK)
    (refine wpList_step (fun KK hKK => ?_); go_simp; refine hKK _ _ ?_; clear hKK KK)
    (refine wpList_step (fun KK hKK => ?_); go_simp; refine hKK _ _ ?_; clear hKK KK)
    (refine wpList_step (fun KK hKK => ?_); go_simp; refine hKK _ _ ?_; clear hKK KK)
    refine wpList_load28G (by first | rfl | kernel_rfl) _ rfl fb K g 2048 rfl X4.out.1.2.2 ?_
    refine wpList_step (fun KK hKK => ?_)
    go_simp
    refine (law_same K d2 m2 g 2048 _ X4.out.2.2.1 X4.out.1.2.1).mono ?_
    rintro e w5 ⟨rfl, hb5⟩
    have X5 : Hid ((DiskAt w5 db bm K ∧ DocAt w5 g 2048 K ∧ Box 28 w5 fb (docC K g 2048)) ∧ Below w.heap.size w w5 ∧ DiskAt w5 d2 m2 K ∧ (w.heap.size ≤ d2 ∧ w.heap.size ≤ m2) ∧ db ≠ d2 ∧ db ≠ m2 ∧ bm ≠ d2 ∧ bm ≠ m2) := ⟨⟨X4.out.1.1.step hb5, X4.out.1.2.1.step hb5, X4.out.1.2.2.step hb5⟩, X4.out.2.1.trans (hb5.mono X4.out.2.1.size), X4.out.2.2.1.step hb5, X4.out.2.2.2⟩
    clear hb5 X4
    refine hKK _ _ ?_
    clear hKK KK
    go_wp2_with fail
    refine (same_any X5.out.2.2.1 X5.out.1.1 rfl).mono ?_
    rintro e w6 ⟨r, rfl, hr, hb6⟩
    obtain rfl : r = true := hr.2 (fun _ => rfl)
    have X6 : Hid ((DiskAt w6 db bm K ∧ DocAt w6 g 2048 K ∧ Box 28 w6 fb (docC K g 2048)) ∧ Below w.heap.size w w6 ∧ DiskAt w6 d2 m2 K ∧ (w.heap.size ≤ d2 ∧ w.heap.size ≤ m2) ∧ db ≠ d2 ∧ db ≠ m2 ∧ bm ≠ d2 ∧ bm ≠ m2) := ⟨⟨X5.out.1.1.step hb6, X5.out.1.2.1.step hb6, X5.out.1.2.2.step hb6⟩, X5.out.2.1.trans (hb6.mono X5.out.2.1.size), X5.out.2.2.1.step hb6, X5.out.2.2.2⟩
    clear hb6 hr X5
    go_upto_region 9 with fail
    refine wp_region_list ?_
    refine wpList_load28 rfl _ rfl fb K g 2048 rfl X6.out.1.2.2 ?_
    refine wpList_alloc_zero 28 zeroC 5 zinfo28 rfl rfl ?_
    refine wpList_store28 rfl _ _ rfl w6.heap.size K g 2048 zeroC rfl rfl (Box.new 28 w6 _) rfl ?_
    intro W7 B7 U7
    have Y : Hid (Cp w W7 db bm g fb d2 m2 g w6.heap.size g K K K) := by
      have b3 : Below w6.heap.size w6 W7 := (((Below.refl _ _).alloc (Nat.le_refl _) _ : Below w6.heap.size w6 (w6.alloc (.cells zeroC 28)))).trans (U7.below (Nat.le_refl _) (by simp))
      obtain ⟨⟨x1, x2, x3⟩, x4, x5, x6, e1, e2, e3, e4⟩ := X6.out
      exact ⟨⟨x1.step b3, x2.step b3, x3.step b3⟩, ⟨x5.step b3, x2.step b3, B7⟩, x4.trans (b3.mono x4.size), ⟨x6.1, x6.2, x4.size⟩, e1, e2, e3, e4, by have := x3.lt; omega⟩
    clear B7 U7 X6
    generalize w6.heap.size = xb at *
    go_wp2_with fail
    go_loopw [12] (fun i wr => ∃ (j gc : Nat) (Kc : Dk), j ≤ len2 ∧ j ≤ 8 ∧ i = .int .i64 j ∧ Kc.count = 4 ∧ Cp w wr db bm g fb d2 m2 gc xb gc K Kc Kc) (fun i _ => 8 - (intOf i).toNat)
    case atStart => exact ⟨0, g, K, Nat.zero_le _, by omega, rfl, HC.out.1, Y.out⟩
    case round =>
      obtain ⟨j, gc, Kc, hj, hj8, rfl, hcc, hcp⟩ := hrel
      clear Y
      have X : Hid (Cp w wr db bm g fb d2 m2 gc xb gc K Kc Kc) := hcp
      have HCc : Hid (Kc.count = 4) := hcc
      clear hcp hcc
      by_cases hgo : j < len2 ∧ j < 8
      · obtain ⟨hg1, hg2⟩ := hgo
        have hgi1 : (j : Int) < len2 := by omega
        have hgi2 : (j : Int) < 8 := by omega
        rcases HT.out with ⟨h0, _⟩ | ⟨sb, off, cs, hv, _, hops⟩
        · omega
        simp only [Value.slice.injEq] at hv
        obtain ⟨rfl, -, rfl⟩ := hv
        obtain ⟨hoc, hin, hl⟩ := hops j hg1
        clear hops
        generalize ops2 j = o at *
        obtain ⟨z, x, n, a, l, c⟩ := o
        simp only at hoc hl
        have HO : Hid (w.cell? ⟨sb, off + j * 4, none⟩ = some (.int .i64 z) ∧ w.cell? ⟨sb, off + j * 4 + 1, none⟩ = some (.int .u64 (x : Nat)) ∧ w.cell? ⟨sb, off + j * 4 + 2, none⟩ = some (.int .i64 n) ∧ w.cell? ⟨sb, off + j * 4 + 3, none⟩ = some (.slice a l c)) := hoc
        have HI : Hid (OpD.In ⟨z, x, n, a, l, c⟩ (fun q => w.heap.size ≤ q) w) := hin
        obtain ⟨k0, k1, k2, k3⟩ := four_later hoc X.out.2.2.1
        clear hoc hin
        have CS : Hid (∀ V, Calls Try.prog 15 #[.agg #[.int .i64 z, .int .u64 (x : Nat), .int .i64 n, .slice a l c]] V fun e w' => e = .returned (.bool (smallB n l)) ∧ Below V.heap.size V w') := fun V => small_any ⟨z, x, n, a, l, c⟩ hl V
        have HJ : Hid (j + 1 ≤ len2 ∧ j + 1 ≤ 8) := ⟨hg1, hg2⟩
        cases hsm : smallB n l with
        | false =>
          have HSm : Hid (smallB n l = false) := hsm
          clear hsm
          go_wp2_with fail
          refine (CS.out _).mono ?_
          rw [HSm.out]
          rintro e w3 ⟨rfl, hb3⟩
          have X3 : Hid (Cp w w3 db bm g fb d2 m2 gc xb gc K Kc Kc) := X.out.step hb3
          clear hb3 X k0 k1 k2 k3
          go_wp2
          go_ret
          exact ⟨rfl, X3.out.2.2.1⟩
        | true =>
          have HSm : Hid (smallB n l = true) := hsm
          clear hsm
          go_wp2_with fail
          refine (CS.out _).mono ?_
          rw [HSm.out]
          rintro e w3 ⟨rfl, hb3⟩
          have X3 : Hid (Cp w w3 db bm g fb d2 m2 gc xb gc K Kc Kc) := X.out.step hb3
          clear hb3 X k0 k1 k2 k3 CS
          clear hj hj8 hg1 hg2 hl
          go_upto_region 15 with fail
          have Xd : Hid (Cp w w3.drew db bm g fb d2 m2 gc xb gc K Kc Kc) := X3.out.step (Below.drew (Below.refl _ _))
          refine wp_region_held_drew (S := fun V => Box 28 V xb (docC Kc gc 2048) ∧ V.cell? ⟨sb, off + j * 4, none⟩ = some (.int .i64 z) ∧ V.cell? ⟨sb, off + j * 4 + 1, none⟩ = some (.int .u64 (x : Nat)) ∧ V.cell? ⟨sb, off + j * 4 + 2, none⟩ = some (.int .i64 n) ∧ V.cell? ⟨sb, off + j * 4 + 3, none⟩ = some (.slice a l c)) (by kernel_rfl) ⟨Xd.out.2.1.2.2, four_later HO.out Xd.out.2.2.1⟩ ?_
          intro hS
          clear X3
          generalize w3.drew = Vd at *
          refine wpAnyH_take (i := 0) (v := ?_) rfl (by kernel_rfl) (by kernel_rfl) (by kernel_rfl) (fun _ _ _ h => h) (Or.inl ⟨by kernel_rfl, ?_⟩) hS ?_
          rotate_left
          · intro w hSw; (try dsimp only at hSw); go_simp; try (with_reducible rfl)
          (try simp only [Act.put, List.getElem_toArray, List.getElem_cons_succ, List.getElem_cons_zero, List.setIfInBounds_toArray, List.set_cons_zero, List.set_cons_succ])
          refine wpAnyH_take (i := 1) (v := .agg (docC Kc gc 2048)) rfl (by kernel_rfl) (by kernel_rfl) (by kernel_rfl) (fun _ _ _ h => h) (Or.inl ⟨by kernel_rfl, fun V hV => yield28 hV.1 _ rfl rfl⟩) hS ?_
          (try simp only [Act.put, List.getElem_toArray, List.getElem_cons_succ, List.getElem_cons_zero, List.setIfInBounds_toArray, List.set_cons_zero, List.set_cons_succ])
          refine wpAnyH_take (i := 2) (v := ?_) rfl (by kernel_rfl) (by kernel_rfl) (by kernel_rfl) (fun _ _ _ h => h) (Or.inl ⟨by kernel_rfl, ?_⟩) hS ?_
          rotate_left
          · intro w hSw; (try dsimp only at hSw); go_simp; try (with_reducible rfl)
          (try simp only [Act.put, List.getElem_toArray, List.getElem_cons_succ, List.getElem_cons_zero, List.setIfInBounds_toArray, List.set_cons_zero, List.set_cons_succ])
          refine wpAnyH_take (i := 3) (v := ?_) rfl (by kernel_rfl) (by kernel_rfl) (by kernel_rfl) (fun _ _ _ h => h) (Or.inl ⟨by kernel_rfl, ?_⟩) hS ?_
          rotate_left
          · intro w hSw; (try dsimp only at hSw); go_simp; try (with_reducible rfl)
          (try simp only [Act.put, List.getElem_toArray, List.getElem_cons_succ, List.getElem_cons_zero, List.setIfInBounds_toArray, List.set_cons_zero, List.set_cons_succ])
          refine wpAnyH_take (i := 4) (v := ?_) rfl (by kernel_rfl) (by kernel_rfl) (by kernel_rfl) (fun _ _ _ h => h) (Or.inl ⟨by kernel_rfl, ?_⟩) hS ?_
          rotate_left
          · intro w hSw; (try dsimp only at hSw); go_simp; try (with_reducible rfl)
          (try simp only [Act.put, List.getElem_toArray, List.getElem_cons_succ, List.getElem_cons_zero, List.setIfInBounds_toArray, List.set_cons_zero, List.set_cons_succ])
          refine wpAnyH_take (i := 5) (v := ?_) rfl (by kernel_rfl) (by kernel_rfl) (by kernel_rfl) (fun _ _ _ h => h) (Or.inl ⟨by kernel_rfl, ?_⟩) hS ?_
          rotate_left
          · intro w hSw; (try dsimp only at hSw); go_simp; try (with_reducible rfl)
          (try simp only [Act.put, List.getElem_toArray, List.getElem_cons_succ, List.getElem_cons_zero, List.setIfInBounds_toArray, List.set_cons_zero, List.set_cons_succ])
          refine wpAnyH_ready (rs := [6, 10]) (by kernel_rfl) (by simp) ?_
          refine AllReadyH.cons rfl (fun HH0 HH1 => ?_) (AllReadyH.cons rfl (fun HH0 HH1 => ?_) AllReadyH.nil)
          · have _hm : True := trivial
            go_simp
            refine (do_any Kc d2 m2 gc 2048 x z n a l c _ Xd.out.2.1.1 Xd.out.2.1.2.1 (HI.out.later Xd.out.2.2.1 (fun k hk => by rcases hk with rfl | rfl; exact Xd.out.2.2.2.1.1; exact Xd.out.2.2.2.1.2.1)) HSm.out).mono ?_
            rintro e w20 ⟨g2, K2, rfl, hd, hg, hq, ht, hc1, hc2⟩
            have HC2 : Hid (K2.count = 4) := hc1.trans HCc.out
            have X20 : Hid (Cp w w20 db bm g fb d2 m2 g2 xb gc K K2 Kc) := Xd.out.do hd hg ht
            clear hd hg hq ht hc1 hc2 Xd
            refine HH1.out _ _ ⟨X20.out.2.1.2.2, four_later HO.out X20.out.2.2.1⟩ (fun hS20 => ?_)
            clear HH1 HH0 hS
            (try simp only [Act.put, List.getElem_toArray, List.getElem_cons_succ, List.getElem_cons_zero, List.setIfInBounds_toArray, List.set_cons_zero, List.set_cons_succ])
            refine wpAnyH_take (i := 7) (v := ?_) rfl (by kernel_rfl) (by kernel_rfl) (by kernel_rfl) (fun _ _ _ h => h) (Or.inl ⟨by kernel_rfl, ?_⟩) hS20 ?_
            rotate_left
            · intro w hSw; (try dsimp only at hSw); go_simp; try (with_reducible rfl)
            (try simp only [Act.put, List.getElem_toArray, List.getElem_cons_succ, List.getElem_cons_zero, List.setIfInBounds_toArray, List.set_cons_zero, List.set_cons_succ])
            refine wpAnyH_take (i := 8) (v := ?_) rfl (by kernel_rfl) (by kernel_rfl) (by kernel_rfl) (fun _ _ _ h => h) (Or.inl ⟨by kernel_rfl, ?_⟩) hS20 ?_
            rotate_left
            · intro w hSw; (try dsimp only at hSw); go_simp; try (with_reducible rfl)
            (try simp only [Act.put, List.getElem_toArray, List.getElem_cons_succ, List.getElem_cons_zero, List.setIfInBounds_toArray, List.set_cons_zero, List.set_cons_succ])
            refine wpAnyH_take (i := 9) (v := ?_) rfl (by kernel_rfl) (by kernel_rfl) (by kernel_rfl) (fun _ _ _ h => h) (Or.inl ⟨by kernel_rfl, ?_⟩) hS20 ?_
            rotate_left
            · intro w hSw; (try dsimp only at hSw); go_simp; try (with_reducible rfl)
            (try simp only [Act.put, List.getElem_toArray, List.getElem_cons_succ, List.getElem_cons_zero, List.setIfInBounds_toArray, List.set_cons_zero, List.set_cons_succ])
            refine wpAnyH_ready (rs := [10]) (by kernel_rfl) (by simp) ?_
            refine AllReadyH.cons rfl (fun HH0 HH1 => ?_) AllReadyH.nil
            rw [if_pos (by kernel_rfl)]
            refine wp_alloc_zero 28 zeroC 5 zinfo28 rfl ?_
            have X21 : Hid (Cp w (w20.alloc (.cells zeroC 28)) db bm g fb d2 m2 g2 xb gc K K2 Kc ∧ Box 28 (w20.alloc (.cells zeroC 28)) w20.heap.size zeroC ∧ w20.heap.size ≠ fb ∧ w20.heap.size ≠ xb ∧ w.heap.size ≤ w20.heap.size) := by
              have h1 := X20.out.1.2.2.lt
              have h2 := X20.out.2.1.2.2.lt
              exact ⟨X20.out.step ((Below.refl _ _).alloc (Nat.le_refl _) _), Box.new 28 _ _, by omega, by omega, X20.out.2.2.1.size⟩
            clear X20
            generalize w20.alloc (.cells zeroC 28) = w21 at *
            generalize w20.heap.size = q at *
            refine HH1.out _ _ ⟨X21.out.1.2.1.2.2, four_later HO.out X21.out.1.2.2.1⟩ (fun hS21 => ?_)
            clear HH1 HH0 hS20
            (try simp only [Act.put, List.getElem_toArray, List.getElem_cons_succ, List.getElem_cons_zero, List.setIfInBounds_toArray, List.set_cons_zero, List.set_cons_succ])
            refine wpAnyH_ready (rs := [11]) (by kernel_rfl) (by simp) ?_
            refine AllReadyH.cons rfl (fun HH0 HH1 => ?_) AllReadyH.nil
            rw [if_pos (by kernel_rfl)]
            refine wp_store28 _ _ rfl q K2 g2 2048 zeroC rfl rfl X21.out.2.1 rfl ?_
            intro W9 B9 U9
            have X9 : Hid (Cp w W9 db bm g fb d2 m2 g2 xb gc K K2 Kc ∧ Box 28 W9 q (docC K2 g2 2048)) := ⟨X21.out.1.other X21.out.2.1 U9 X21.out.2.2.1 X21.out.2.2.2.1 X21.out.2.2.2.2, B9⟩
            clear B9 U9 X21
            refine HH1.out _ _ ⟨X9.out.1.2.1.2.2, four_later HO.out X9.out.1.2.2.1⟩ (fun hS9 => ?_)
            clear HH1 HH0 hS21
            (try simp only [Act.put, List.getElem_toArray, List.getElem_cons_succ, List.getElem_cons_zero, List.setIfInBounds_toArray, List.set_cons_zero, List.set_cons_succ])
            refine wpAnyH_take (i := 12) (v := ?_) rfl (by kernel_rfl) (by kernel_rfl) (by kernel_rfl) (fun _ _ _ h => h) (Or.inl ⟨by kernel_rfl, ?_⟩) hS9 ?_
            rotate_left
            · intro w hSw; (try dsimp only at hSw); go_simp; try (with_reducible rfl)
            (try simp only [Act.put, List.getElem_toArray, List.getElem_cons_succ, List.getElem_cons_zero, List.setIfInBounds_toArray, List.set_cons_zero, List.set_cons_succ])
            refine wpAnyH_done (by kernel_rfl) ?_ _
            clear hS9
            go_upto_region 18 with fail
            refine wp_region_list ?_
            refine wpList_load28 rfl _ rfl q K2 g2 2048 rfl X9.out.2 ?_
            refine wpList_store28 rfl _ _ rfl xb K2 g2 2048 (docC Kc gc 2048) rfl rfl X9.out.1.2.1.2.2 rfl ?_
            intro W11 B11 U11
            have X11 : Hid (Cp w W11 db bm g fb d2 m2 g2 xb g2 K K2 K2) := X9.out.1.box B11 U11
            clear B11 U11 X9
            go_wp2_with fail
            go_roundw
            case rel => exact ⟨j + 1, g2, K2, HJ.out.1, HJ.out.2, by go_num, HC2.out, X11.out⟩
            case measure => simp [intOf]; have := HJ.out.2; omega
          · have _hm : True := trivial
            rw [if_pos (by kernel_rfl)]
            refine wp_alloc_zero 28 zeroC 5 zinfo28 rfl ?_
            have X20 : Hid (Cp w (Vd.alloc (.cells zeroC 28)) db bm g fb d2 m2 gc xb gc K Kc Kc ∧ Box 28 (Vd.alloc (.cells zeroC 28)) Vd.heap.size zeroC ∧ Vd.heap.size ≠ fb ∧ Vd.heap.size ≠ xb ∧ w.heap.size ≤ Vd.heap.size) := by
              have h1 := Xd.out.1.2.2.lt
              have h2 := Xd.out.2.1.2.2.lt
              exact ⟨Xd.out.step ((Below.refl _ _).alloc (Nat.le_refl _) _), Box.new 28 _ _, by omega, by omega, Xd.out.2.2.1.size⟩
            clear Xd
            generalize Vd.alloc (.cells zeroC 28) = w20 at *
            generalize Vd.heap.size = q at *
            refine HH1.out _ _ ⟨X20.out.1.2.1.2.2, four_later HO.out X20.out.1.2.2.1⟩ (fun hS20 => ?_)
            clear HH1 HH0 hS
            (try simp only [Act.put, List.getElem_toArray, List.getElem_cons_succ, List.getElem_cons_zero, List.setIfInBounds_toArray, List.set_cons_zero, List.set_cons_succ])
            refine wpAnyH_ready (rs := [6]) (by kernel_rfl) (by simp) ?_
            refine AllReadyH.cons rfl (fun HH0 HH1 => ?_) AllReadyH.nil
            go_simp
            refine (do_any Kc d2 m2 gc 2048 x z n a l c _ X20.out.1.2.1.1 X20.out.1.2.1.2.1 (HI.out.later X20.out.1.2.2.1 (fun k hk => by rcases hk with rfl | rfl; exact X20.out.1.2.2.2.1.1; exact X20.out.1.2.2.2.1.2.1)) HSm.out).mono ?_
            rintro e w21 ⟨g2, K2, rfl, hd, hg, hq, ht, hc1, hc2⟩
            have HC2 : Hid (K2.count = 4) := hc1.trans HCc.out
            have X21 : Hid (Cp w w21 db bm g fb d2 m2 g2 xb gc K K2 Kc ∧ Box 28 w21 q zeroC ∧ q ≠ fb ∧ q ≠ xb ∧ w.heap.size ≤ q) := ⟨X20.out.1.do hd hg ht, ht.box X20.out.2.1 (disk_box_ne X20.out.1.2.1.1 X20.out.2.1).1 (disk_box_ne X20.out.1.2.1.1 X20.out.2.1).2, X20.out.2.2⟩
            clear hd hg hq ht hc1 hc2 X20
            refine HH1.out _ _ ⟨X21.out.1.2.1.2.2, four_later HO.out X21.out.1.2.2.1⟩ (fun hS21 => ?_)
            clear HH1 HH0 hS20
            (try simp only [Act.put, List.getElem_toArray, List.getElem_cons_succ, List.getElem_cons_zero, List.setIfInBounds_toArray, List.set_cons_zero, List.set_cons_succ])
            refine wpAnyH_take (i := 7) (v := ?_) rfl (by kernel_rfl) (by kernel_rfl) (by kernel_rfl) (fun _ _ _ h => h) (Or.inl ⟨by kernel_rfl, ?_⟩) hS21 ?_
            rotate_left
            · intro w hSw; (try dsimp only at hSw); go_simp; try (with_reducible rfl)
            (try simp only [Act.put, List.getElem_toArray, List.getElem_cons_succ, List.getElem_cons_zero, List.setIfInBounds_toArray, List.set_cons_zero, List.set_cons_succ])
            refine wpAnyH_take (i := 8) (v := ?_) rfl (by kernel_rfl) (by kernel_rfl) (by kernel_rfl) (fun _ _ _ h => h) (Or.inl ⟨by kernel_rfl, ?_⟩) hS21 ?_
            rotate_left
            · intro w hSw; (try dsimp only at hSw); go_simp; try (with_reducible rfl)
            (try simp only [Act.put, List.getElem_toArray, List.getElem_cons_succ, List.getElem_cons_zero, List.setIfInBounds_toArray, List.set_cons_zero, List.set_cons_succ])
            refine wpAnyH_take (i := 9) (v := ?_) rfl (by kernel_rfl) (by kernel_rfl) (by kernel_rfl) (fun _ _ _ h => h) (Or.inl ⟨by kernel_rfl, ?_⟩) hS21 ?_
            rotate_left
            · intro w hSw; (try dsimp only at hSw); go_simp; try (with_reducible rfl)
            (try simp only [Act.put, List.getElem_toArray, List.getElem_cons_succ, List.getElem_cons_zero, List.setIfInBounds_toArray, List.set_cons_zero, List.set_cons_succ])
            refine wpAnyH_ready (rs := [11]) (by kernel_rfl) (by simp) ?_
            refine AllReadyH.cons rfl (fun HH0 HH1 => ?_) AllReadyH.nil
            rw [if_pos (by kernel_rfl)]
            refine wp_store28 _ _ rfl q K2 g2 2048 zeroC rfl rfl X21.out.2.1 rfl ?_
            intro W9 B9 U9
            have X9 : Hid (Cp w W9 db bm g fb d2 m2 g2 xb gc K K2 Kc ∧ Box 28 W9 q (docC K2 g2 2048)) := ⟨X21.out.1.other X21.out.2.1 U9 X21.out.2.2.1 X21.out.2.2.2.1 X21.out.2.2.2.2, B9⟩
            clear B9 U9 X21
            refine HH1.out _ _ ⟨X9.out.1.2.1.2.2, four_later HO.out X9.out.1.2.2.1⟩ (fun hS9 => ?_)
            clear HH1 HH0 hS21
            (try simp only [Act.put, List.getElem_toArray, List.getElem_cons_succ, List.getElem_cons_zero, List.setIfInBounds_toArray, List.set_cons_zero, List.set_cons_succ])
            refine wpAnyH_take (i := 12) (v := ?_) rfl (by kernel_rfl) (by kernel_rfl) (by kernel_rfl) (fun _ _ _ h => h) (Or.inl ⟨by kernel_rfl, ?_⟩) hS9 ?_
            rotate_left
            · intro w hSw; (try dsimp only at hSw); go_simp; try (with_reducible rfl)
            (try simp only [Act.put, List.getElem_toArray, List.getElem_cons_succ, List.getElem_cons_zero, List.setIfInBounds_toArray, List.set_cons_zero, List.set_cons_succ])
            refine wpAnyH_done (by kernel_rfl) ?_ _
            clear hS9
            go_upto_region 18 with fail
            refine wp_region_list ?_
            refine wpList_load28 rfl _ rfl q K2 g2 2048 rfl X9.out.2 ?_
            refine wpList_store28 rfl _ _ rfl xb K2 g2 2048 (docC Kc gc 2048) rfl rfl X9.out.1.2.1.2.2 rfl ?_
            intro W11 B11 U11
            have X11 : Hid (Cp w W11 db bm g fb d2 m2 g2 xb g2 K K2 K2) := X9.out.1.box B11 U11
            clear B11 U11 X9
            go_wp2_with fail
            go_roundw
            case rel => exact ⟨j + 1, g2, K2, HJ.out.1, HJ.out.2, by go_num, HC2.out, X11.out⟩
            case measure => simp [intOf]; have := HJ.out.2; omega
      · have hgo2 : ¬ ((j : Int) < len2) ∨ ¬ ((j : Int) < 8) := by omega
        by_cases hq : (j : Int) < len2
        · have hq2 : ¬ (j : Int) < 8 := by omega
          clear hgo hgo2
          go_upto_region 19 with fail
          have Xd : Hid (Cp w wr.drew db bm g fb d2 m2 gc xb gc K Kc Kc) := X.out.step (Below.drew (Below.refl _ _))
          refine wp_region_held_drew (S := fun V => Box 28 V fb (docC K g 2048) ∧ Box 28 V xb (docC Kc gc 2048) ∧ V.cell? ⟨xb, 0, none⟩ = some (.slice (some ⟨gc, 0, none⟩) 2048 2048) ∧ V.cell? ⟨fb, 0, none⟩ = some (.slice (some ⟨g, 0, none⟩) 2048 2048)) (by kernel_rfl) ⟨Xd.out.1.2.2, Xd.out.2.1.2.2, Xd.out.2.1.2.2.cell 0 _ rfl, Xd.out.1.2.2.cell 0 _ rfl⟩ ?_
          intro hS
          clear X
          generalize wr.drew = Vd at *
          refine wpAnyH_take (i := 0) (v := ?_) rfl (by kernel_rfl) (by kernel_rfl) (by kernel_rfl) (fun _ _ _ h => h) (Or.inl ⟨by kernel_rfl, ?_⟩) hS ?_
          rotate_left
          · intro w hSw; (try dsimp only at hSw); go_simp; try (with_reducible rfl)
          (try simp only [Act.put, List.getElem_toArray, List.getElem_cons_succ, List.getElem_cons_zero, List.setIfInBounds_toArray, List.set_cons_zero, List.set_cons_succ])
          refine wpAnyH_take (i := 1) (v := .agg (docC K g 2048)) rfl (by kernel_rfl) (by kernel_rfl) (by kernel_rfl) (fun _ _ _ h => h) (Or.inl ⟨by kernel_rfl, fun V hV => yield28 hV.1 _ rfl rfl⟩) hS ?_
          (try simp only [Act.put, List.getElem_toArray, List.getElem_cons_succ, List.getElem_cons_zero, List.setIfInBounds_toArray, List.set_cons_zero, List.set_cons_succ])
          refine wpAnyH_ready (rs := [2]) (by kernel_rfl) (by simp) ?_
          refine AllReadyH.cons rfl (fun HH0 HH1 => ?_) AllReadyH.nil
          go_simp
          refine (law_same K db bm g 2048 _ Xd.out.1.1 Xd.out.1.2.1).mono ?_
          rintro e w31 ⟨rfl, hb⟩
          have X31 : Hid (Cp w w31 db bm g fb d2 m2 gc xb gc K Kc Kc) := Xd.out.step hb
          clear hb Xd
          refine HH1.out _ _ ⟨X31.out.1.2.2, X31.out.2.1.2.2, X31.out.2.1.2.2.cell 0 _ rfl, X31.out.1.2.2.cell 0 _ rfl⟩ (fun hS31 => ?_)
          clear HH1 HH0 hS
          (try simp only [Act.put, List.getElem_toArray, List.getElem_cons_succ, List.getElem_cons_zero, List.setIfInBounds_toArray, List.set_cons_zero, List.set_cons_succ])
          refine wpAnyH_take (i := 3) (v := ?_) rfl (by kernel_rfl) (by kernel_rfl) (by kernel_rfl) (fun _ _ _ h => h) (Or.inl ⟨by kernel_rfl, ?_⟩) hS31 ?_
          rotate_left
          · intro w hSw; (try dsimp only at hSw); go_simp; try (with_reducible rfl)
          (try simp only [Act.put, List.getElem_toArray, List.getElem_cons_succ, List.getElem_cons_zero, List.setIfInBounds_toArray, List.set_cons_zero, List.set_cons_succ])
          refine wpAnyH_take (i := 4) (v := ?_) rfl (by kernel_rfl) (by kernel_rfl) (by kernel_rfl) (fun _ _ _ h => h) (Or.inl ⟨by kernel_rfl, ?_⟩) hS31 ?_
          rotate_left
          · intro w hSw; (try dsimp only at hSw); go_simp; try (with_reducible rfl)
          (try simp only [Act.put, List.getElem_toArray, List.getElem_cons_succ, List.getElem_cons_zero, List.setIfInBounds_toArray, List.set_cons_zero, List.set_cons_succ])
          refine wpAnyH_take (i := 5) (v := .agg (docC Kc gc 2048)) rfl (by kernel_rfl) (by kernel_rfl) (by kernel_rfl) (fun _ _ _ h => h) (Or.inl ⟨by kernel_rfl, fun V hV => yield28 hV.2.1 _ rfl rfl⟩) hS31 ?_
          (try simp only [Act.put, List.getElem_toArray, List.getElem_cons_succ, List.getElem_cons_zero, List.setIfInBounds_toArray, List.set_cons_zero, List.set_cons_succ])
          refine wpAnyH_ready (rs := [6]) (by kernel_rfl) (by simp) ?_
          refine AllReadyH.cons rfl (fun HH0 HH1 => ?_) AllReadyH.nil
          go_simp
          refine (law_same Kc d2 m2 gc 2048 _ X31.out.2.1.1 X31.out.2.1.2.1).mono ?_
          rintro e w32 ⟨rfl, hb⟩
          have X32 : Hid (Cp w w32 db bm g fb d2 m2 gc xb gc K Kc Kc) := X31.out.step hb
          clear hb X31
          refine HH1.out _ _ ⟨X32.out.1.2.2, X32.out.2.1.2.2, X32.out.2.1.2.2.cell 0 _ rfl, X32.out.1.2.2.cell 0 _ rfl⟩ (fun hS32 => ?_)
          clear HH1 HH0 hS31
          (try simp only [Act.put, List.getElem_toArray, List.getElem_cons_succ, List.getElem_cons_zero, List.setIfInBounds_toArray, List.set_cons_zero, List.set_cons_succ])
          refine wpAnyH_take (i := 7) (v := ?_) rfl (by kernel_rfl) (by kernel_rfl) (by kernel_rfl) (fun _ _ _ h => h) (Or.inl ⟨by kernel_rfl, ?_⟩) hS32 ?_
          rotate_left
          · intro w hSw; (try dsimp only at hSw); go_simp; try (with_reducible rfl)
          (try simp only [Act.put, List.getElem_toArray, List.getElem_cons_succ, List.getElem_cons_zero, List.setIfInBounds_toArray, List.set_cons_zero, List.set_cons_succ])
          refine wpAnyH_take (i := 8) (v := ?_) rfl (by kernel_rfl) (by kernel_rfl) (by kernel_rfl) (fun _ _ _ h => h) (Or.inl ⟨by kernel_rfl, ?_⟩) hS32 ?_
          rotate_left
          · intro w hSw; (try dsimp only at hSw); go_simp; try (with_reducible rfl)
          (try simp only [Act.put, List.getElem_toArray, List.getElem_cons_succ, List.getElem_cons_zero, List.setIfInBounds_toArray, List.set_cons_zero, List.set_cons_succ])
          refine wpAnyH_take (i := 9) (v := ?_) rfl (by kernel_rfl) (by kernel_rfl) (by kernel_rfl) (fun _ _ _ h => h) (Or.inl ⟨by kernel_rfl, ?_⟩) hS32 ?_
          rotate_left
          · intro w hSw; (try dsimp only at hSw); go_simp; try (with_reducible rfl)
          (try simp only [Act.put, List.getElem_toArray, List.getElem_cons_succ, List.getElem_cons_zero, List.setIfInBounds_toArray, List.set_cons_zero, List.set_cons_succ])
          refine wpAnyH_take (i := 10) (v := ?_) rfl (by kernel_rfl) (by kernel_rfl) (by kernel_rfl) (fun _ _ _ h => h) (Or.inl ⟨by kernel_rfl, ?_⟩) hS32 ?_
          rotate_left
          · intro w hSw; (try dsimp only at hSw); go_simp; try (with_reducible rfl)
          (try simp only [Act.put, List.getElem_toArray, List.getElem_cons_succ, List.getElem_cons_zero, List.setIfInBounds_toArray, List.set_cons_zero, List.set_cons_succ])
          refine wpAnyH_take (i := 12) (v := ?_) rfl (by kernel_rfl) (by kernel_rfl) (by kernel_rfl) (fun _ _ _ h => h) (Or.inl ⟨by kernel_rfl, ?_⟩) hS32 ?_
          rotate_left
          · intro w hSw; (try dsimp only at hSw); go_simp; try (with_reducible rfl)
          (try simp only [Act.put, List.getElem_toArray, List.getElem_cons_succ, List.getElem_cons_zero, List.setIfInBounds_toArray, List.set_cons_zero, List.set_cons_succ])
          refine wpAnyH_take (i := 13) (v := ?_) rfl (by kernel_rfl) (by kernel_rfl) (by kernel_rfl) (fun _ _ _ h => h) (Or.inl ⟨by kernel_rfl, ?_⟩) hS32 ?_
          rotate_left
          · intro w hSw; (try dsimp only at hSw); go_simp; try (with_reducible rfl)
          (try simp only [Act.put, List.getElem_toArray, List.getElem_cons_succ, List.getElem_cons_zero, List.setIfInBounds_toArray, List.set_cons_zero, List.set_cons_succ])
          refine wpAnyH_take (i := 14) (v := ?_) rfl (by kernel_rfl) (by kernel_rfl) (by kernel_rfl) (fun _ _ _ h => h) (Or.inl ⟨by kernel_rfl, ?_⟩) hS32 ?_
          rotate_left
          · intro w hSw; (try dsimp only at hSw); go_simp; try (with_reducible rfl)
          (try simp only [Act.put, List.getElem_toArray, List.getElem_cons_succ, List.getElem_cons_zero, List.setIfInBounds_toArray, List.set_cons_zero, List.set_cons_succ])
          refine wpAnyH_take (i := 15) (v := ?_) rfl (by kernel_rfl) (by kernel_rfl) (by kernel_rfl) (fun _ _ _ h => h) (Or.inl ⟨by kernel_rfl, ?_⟩) hS32 ?_
          rotate_left
          · intro w hSw; (try dsimp only at hSw); go_simp; try (with_reducible rfl)
          (try simp only [Act.put, List.getElem_toArray, List.getElem_cons_succ, List.getElem_cons_zero, List.setIfInBounds_toArray, List.set_cons_zero, List.set_cons_succ])
          refine wpAnyH_ready (rs := [11]) (by kernel_rfl) (by simp) ?_
          refine AllReadyH.cons rfl (fun HH0 HH1 => ?_) AllReadyH.nil
          go_simp
          refine (same_any X32.out.2.1.1 X32.out.1.1 (HCc.out.trans HC.out.1.symm)).mono ?_
          rintro e w33 ⟨r1, rfl, hr1, hb⟩
          have R1 : Hid (r1 = true ↔ ∀ i, i < 2048 → Kc.M i = K.M i) := hr1.trans (same_bytes X32.out.1.1.2.2 X32.out.2.1.1.2.2 HC.out.1 HCc.out)
          clear hr1
          have X33 : Hid (Cp w w33 db bm g fb d2 m2 gc xb gc K Kc Kc) := X32.out.step hb
          clear hb X32
          refine HH1.out _ _ ⟨X33.out.1.2.2, X33.out.2.1.2.2, X33.out.2.1.2.2.cell 0 _ rfl, X33.out.1.2.2.cell 0 _ rfl⟩ (fun hS33 => ?_)
          clear HH1 HH0 hS32
          (try simp only [Act.put, List.getElem_toArray, List.getElem_cons_succ, List.getElem_cons_zero, List.setIfInBounds_toArray, List.set_cons_zero, List.set_cons_succ])
          refine wpAnyH_ready (rs := [16]) (by kernel_rfl) (by simp) ?_
          refine AllReadyH.cons rfl (fun HH0 HH1 => ?_) AllReadyH.nil
          go_simp
          refine (bytes_eq Kc.M K.M 2048 _ _ (by omega) _ (show Reads .u8 w33 (.slice (some ⟨gc, 0, none⟩) 2048 2048) 2048 Kc.M from RowAt.reads X33.out.2.1.2.1.1) (show Reads .u8 w33 (.slice (some ⟨g, 0, none⟩) 2048 2048) 2048 K.M from RowAt.reads X33.out.1.2.1.1)).mono ?_
          rintro e w34 ⟨r2, rfl, hr2, hb⟩
          have hrr : r2 = r1 := by rw [Bool.eq_iff_iff, R1.out]; exact hr2
          subst hrr
          clear hr2
          have X34 : Hid (Cp w w34 db bm g fb d2 m2 gc xb gc K Kc Kc) := X33.out.step hb
          clear hb X33
          refine HH1.out _ _ ⟨X34.out.1.2.2, X34.out.2.1.2.2, X34.out.2.1.2.2.cell 0 _ rfl, X34.out.1.2.2.cell 0 _ rfl⟩ (fun hS34 => ?_)
          clear HH1 HH0 hS33
          (try simp only [Act.put, List.getElem_toArray, List.getElem_cons_succ, List.getElem_cons_zero, List.setIfInBounds_toArray, List.set_cons_zero, List.set_cons_succ])
          have hxx : (r2 == r2) = true := by simp
          refine wpAnyH_take (i := 17) (v := ?_) rfl (by kernel_rfl) (by kernel_rfl) (by kernel_rfl) (fun _ _ _ h => h) (Or.inl ⟨by kernel_rfl, ?_⟩) hS34 ?_
          rotate_left
          · intro w hSw; (try dsimp only at hSw); go_simp; try (with_reducible rfl)
          (try simp only [Act.put, List.getElem_toArray, List.getElem_cons_succ, List.getElem_cons_zero, List.setIfInBounds_toArray, List.set_cons_zero, List.set_cons_succ])
          refine wpAnyH_take (i := 18) (v := ?_) rfl (by kernel_rfl) (by kernel_rfl) (by kernel_rfl) (fun _ _ _ h => h) (Or.inl ⟨by kernel_rfl, ?_⟩) hS34 ?_
          rotate_left
          · intro w hSw; (try dsimp only at hSw); go_simp; try (with_reducible rfl)
          (try simp only [Act.put, List.getElem_toArray, List.getElem_cons_succ, List.getElem_cons_zero, List.setIfInBounds_toArray, List.set_cons_zero, List.set_cons_succ])
          refine wpAnyH_take (i := 19) (v := ?_) rfl (by kernel_rfl) (by kernel_rfl) (by kernel_rfl) (fun _ _ _ h => h) (Or.inl ⟨by kernel_rfl, ?_⟩) hS34 ?_
          rotate_left
          · intro w hSw; (try dsimp only at hSw); go_simp; try (with_reducible rfl)
          (try simp only [Act.put, List.getElem_toArray, List.getElem_cons_succ, List.getElem_cons_zero, List.setIfInBounds_toArray, List.set_cons_zero, List.set_cons_succ])
          refine wpAnyH_done (by kernel_rfl) ?_ _
          clear hS34
          go_wp2
          go_ret
          exact ⟨by simp, X34.out.2.2.1⟩
        · clear hgo hgo2
          go_upto_region 19 with fail
          have Xd : Hid (Cp w wr.drew db bm g fb d2 m2 gc xb gc K Kc Kc) := X.out.step (Below.drew (Below.refl _ _))
          refine wp_region_held_drew (S := fun V => Box 28 V fb (docC K g 2048) ∧ Box 28 V xb (docC Kc gc 2048) ∧ V.cell? ⟨xb, 0, none⟩ = some (.slice (some ⟨gc, 0, none⟩) 2048 2048) ∧ V.cell? ⟨fb, 0, none⟩ = some (.slice (some ⟨g, 0, none⟩) 2048 2048)) (by kernel_rfl) ⟨Xd.out.1.2.2, Xd.out.2.1.2.2, Xd.out.2.1.2.2.cell 0 _ rfl, Xd.out.1.2.2.cell 0 _ rfl⟩ ?_
          intro hS
          clear X
          generalize wr.drew = Vd at *
          refine wpAnyH_take (i := 0) (v := ?_) rfl (by kernel_rfl) (by kernel_rfl) (by kernel_rfl) (fun _ _ _ h => h) (Or.inl ⟨by kernel_rfl, ?_⟩) hS ?_
          rotate_left
          · intro w hSw; (try dsimp only at hSw); go_simp; try (with_reducible rfl)
          (try simp only [Act.put, List.getElem_toArray, List.getElem_cons_succ, List.getElem_cons_zero, List.setIfInBounds_toArray, List.set_cons_zero, List.set_cons_succ])
          refine wpAnyH_take (i := 1) (v := .agg (docC K g 2048)) rfl (by kernel_rfl) (by kernel_rfl) (by kernel_rfl) (fun _ _ _ h => h) (Or.inl ⟨by kernel_rfl, fun V hV => yield28 hV.1 _ rfl rfl⟩) hS ?_
          (try simp only [Act.put, List.getElem_toArray, List.getElem_cons_succ, List.getElem_cons_zero, List.setIfInBounds_toArray, List.set_cons_zero, List.set_cons_succ])
          refine wpAnyH_ready (rs := [2]) (by kernel_rfl) (by simp) ?_
          refine AllReadyH.cons rfl (fun HH0 HH1 => ?_) AllReadyH.nil
          go_simp
          refine (law_same K db bm g 2048 _ Xd.out.1.1 Xd.out.1.2.1).mono ?_
          rintro e w31 ⟨rfl, hb⟩
          have X31 : Hid (Cp w w31 db bm g fb d2 m2 gc xb gc K Kc Kc) := Xd.out.step hb
          clear hb Xd
          refine HH1.out _ _ ⟨X31.out.1.2.2, X31.out.2.1.2.2, X31.out.2.1.2.2.cell 0 _ rfl, X31.out.1.2.2.cell 0 _ rfl⟩ (fun hS31 => ?_)
          clear HH1 HH0 hS
          (try simp only [Act.put, List.getElem_toArray, List.getElem_cons_succ, List.getElem_cons_zero, List.setIfInBounds_toArray, List.set_cons_zero, List.set_cons_succ])
          refine wpAnyH_take (i := 3) (v := ?_) rfl (by kernel_rfl) (by kernel_rfl) (by kernel_rfl) (fun _ _ _ h => h) (Or.inl ⟨by kernel_rfl, ?_⟩) hS31 ?_
          rotate_left
          · intro w hSw; (try dsimp only at hSw); go_simp; try (with_reducible rfl)
          (try simp only [Act.put, List.getElem_toArray, List.getElem_cons_succ, List.getElem_cons_zero, List.setIfInBounds_toArray, List.set_cons_zero, List.set_cons_succ])
          refine wpAnyH_take (i := 4) (v := ?_) rfl (by kernel_rfl) (by kernel_rfl) (by kernel_rfl) (fun _ _ _ h => h) (Or.inl ⟨by kernel_rfl, ?_⟩) hS31 ?_
          rotate_left
          · intro w hSw; (try dsimp only at hSw); go_simp; try (with_reducible rfl)
          (try simp only [Act.put, List.getElem_toArray, List.getElem_cons_succ, List.getElem_cons_zero, List.setIfInBounds_toArray, List.set_cons_zero, List.set_cons_succ])
          refine wpAnyH_take (i := 5) (v := .agg (docC Kc gc 2048)) rfl (by kernel_rfl) (by kernel_rfl) (by kernel_rfl) (fun _ _ _ h => h) (Or.inl ⟨by kernel_rfl, fun V hV => yield28 hV.2.1 _ rfl rfl⟩) hS31 ?_
          (try simp only [Act.put, List.getElem_toArray, List.getElem_cons_succ, List.getElem_cons_zero, List.setIfInBounds_toArray, List.set_cons_zero, List.set_cons_succ])
          refine wpAnyH_ready (rs := [6]) (by kernel_rfl) (by simp) ?_
          refine AllReadyH.cons rfl (fun HH0 HH1 => ?_) AllReadyH.nil
          go_simp
          refine (law_same Kc d2 m2 gc 2048 _ X31.out.2.1.1 X31.out.2.1.2.1).mono ?_
          rintro e w32 ⟨rfl, hb⟩
          have X32 : Hid (Cp w w32 db bm g fb d2 m2 gc xb gc K Kc Kc) := X31.out.step hb
          clear hb X31
          refine HH1.out _ _ ⟨X32.out.1.2.2, X32.out.2.1.2.2, X32.out.2.1.2.2.cell 0 _ rfl, X32.out.1.2.2.cell 0 _ rfl⟩ (fun hS32 => ?_)
          clear HH1 HH0 hS31
          (try simp only [Act.put, List.getElem_toArray, List.getElem_cons_succ, List.getElem_cons_zero, List.setIfInBounds_toArray, List.set_cons_zero, List.set_cons_succ])
          refine wpAnyH_take (i := 7) (v := ?_) rfl (by kernel_rfl) (by kernel_rfl) (by kernel_rfl) (fun _ _ _ h => h) (Or.inl ⟨by kernel_rfl, ?_⟩) hS32 ?_
          rotate_left
          · intro w hSw; (try dsimp only at hSw); go_simp; try (with_reducible rfl)
          (try simp only [Act.put, List.getElem_toArray, List.getElem_cons_succ, List.getElem_cons_zero, List.setIfInBounds_toArray, List.set_cons_zero, List.set_cons_succ])
          refine wpAnyH_take (i := 8) (v := ?_) rfl (by kernel_rfl) (by kernel_rfl) (by kernel_rfl) (fun _ _ _ h => h) (Or.inl ⟨by kernel_rfl, ?_⟩) hS32 ?_
          rotate_left
          · intro w hSw; (try dsimp only at hSw); go_simp; try (with_reducible rfl)
          (try simp only [Act.put, List.getElem_toArray, List.getElem_cons_succ, List.getElem_cons_zero, List.setIfInBounds_toArray, List.set_cons_zero, List.set_cons_succ])
          refine wpAnyH_take (i := 9) (v := ?_) rfl (by kernel_rfl) (by kernel_rfl) (by kernel_rfl) (fun _ _ _ h => h) (Or.inl ⟨by kernel_rfl, ?_⟩) hS32 ?_
          rotate_left
          · intro w hSw; (try dsimp only at hSw); go_simp; try (with_reducible rfl)
          (try simp only [Act.put, List.getElem_toArray, List.getElem_cons_succ, List.getElem_cons_zero, List.setIfInBounds_toArray, List.set_cons_zero, List.set_cons_succ])
          refine wpAnyH_take (i := 10) (v := ?_) rfl (by kernel_rfl) (by kernel_rfl) (by kernel_rfl) (fun _ _ _ h => h) (Or.inl ⟨by kernel_rfl, ?_⟩) hS32 ?_
          rotate_left
          · intro w hSw; (try dsimp only at hSw); go_simp; try (with_reducible rfl)
          (try simp only [Act.put, List.getElem_toArray, List.getElem_cons_succ, List.getElem_cons_zero, List.setIfInBounds_toArray, List.set_cons_zero, List.set_cons_succ])
          refine wpAnyH_take (i := 12) (v := ?_) rfl (by kernel_rfl) (by kernel_rfl) (by kernel_rfl) (fun _ _ _ h => h) (Or.inl ⟨by kernel_rfl, ?_⟩) hS32 ?_
          rotate_left
          · intro w hSw; (try dsimp only at hSw); go_simp; try (with_reducible rfl)
          (try simp only [Act.put, List.getElem_toArray, List.getElem_cons_succ, List.getElem_cons_zero, List.setIfInBounds_toArray, List.set_cons_zero, List.set_cons_succ])
          refine wpAnyH_take (i := 13) (v := ?_) rfl (by kernel_rfl) (by kernel_rfl) (by kernel_rfl) (fun _ _ _ h => h) (Or.inl ⟨by kernel_rfl, ?_⟩) hS32 ?_
          rotate_left
          · intro w hSw; (try dsimp only at hSw); go_simp; try (with_reducible rfl)
          (try simp only [Act.put, List.getElem_toArray, List.getElem_cons_succ, List.getElem_cons_zero, List.setIfInBounds_toArray, List.set_cons_zero, List.set_cons_succ])
          refine wpAnyH_take (i := 14) (v := ?_) rfl (by kernel_rfl) (by kernel_rfl) (by kernel_rfl) (fun _ _ _ h => h) (Or.inl ⟨by kernel_rfl, ?_⟩) hS32 ?_
          rotate_left
          · intro w hSw; (try dsimp only at hSw); go_simp; try (with_reducible rfl)
          (try simp only [Act.put, List.getElem_toArray, List.getElem_cons_succ, List.getElem_cons_zero, List.setIfInBounds_toArray, List.set_cons_zero, List.set_cons_succ])
          refine wpAnyH_take (i := 15) (v := ?_) rfl (by kernel_rfl) (by kernel_rfl) (by kernel_rfl) (fun _ _ _ h => h) (Or.inl ⟨by kernel_rfl, ?_⟩) hS32 ?_
          rotate_left
          · intro w hSw; (try dsimp only at hSw); go_simp; try (with_reducible rfl)
          (try simp only [Act.put, List.getElem_toArray, List.getElem_cons_succ, List.getElem_cons_zero, List.setIfInBounds_toArray, List.set_cons_zero, List.set_cons_succ])
          refine wpAnyH_ready (rs := [11]) (by kernel_rfl) (by simp) ?_
          refine AllReadyH.cons rfl (fun HH0 HH1 => ?_) AllReadyH.nil
          go_simp
          refine (same_any X32.out.2.1.1 X32.out.1.1 (HCc.out.trans HC.out.1.symm)).mono ?_
          rintro e w33 ⟨r1, rfl, hr1, hb⟩
          have R1 : Hid (r1 = true ↔ ∀ i, i < 2048 → Kc.M i = K.M i) := hr1.trans (same_bytes X32.out.1.1.2.2 X32.out.2.1.1.2.2 HC.out.1 HCc.out)
          clear hr1
          have X33 : Hid (Cp w w33 db bm g fb d2 m2 gc xb gc K Kc Kc) := X32.out.step hb
          clear hb X32
          refine HH1.out _ _ ⟨X33.out.1.2.2, X33.out.2.1.2.2, X33.out.2.1.2.2.cell 0 _ rfl, X33.out.1.2.2.cell 0 _ rfl⟩ (fun hS33 => ?_)
          clear HH1 HH0 hS32
          (try simp only [Act.put, List.getElem_toArray, List.getElem_cons_succ, List.getElem_cons_zero, List.setIfInBounds_toArray, List.set_cons_zero, List.set_cons_succ])
          refine wpAnyH_ready (rs := [16]) (by kernel_rfl) (by simp) ?_
          refine AllReadyH.cons rfl (fun HH0 HH1 => ?_) AllReadyH.nil
          go_simp
          refine (bytes_eq Kc.M K.M 2048 _ _ (by omega) _ (show Reads .u8 w33 (.slice (some ⟨gc, 0, none⟩) 2048 2048) 2048 Kc.M from RowAt.reads X33.out.2.1.2.1.1) (show Reads .u8 w33 (.slice (some ⟨g, 0, none⟩) 2048 2048) 2048 K.M from RowAt.reads X33.out.1.2.1.1)).mono ?_
          rintro e w34 ⟨r2, rfl, hr2, hb⟩
          have hrr : r2 = r1 := by rw [Bool.eq_iff_iff, R1.out]; exact hr2
          subst hrr
          clear hr2
          have X34 : Hid (Cp w w34 db bm g fb d2 m2 gc xb gc K Kc Kc) := X33.out.step hb
          clear hb X33
          refine HH1.out _ _ ⟨X34.out.1.2.2, X34.out.2.1.2.2, X34.out.2.1.2.2.cell 0 _ rfl, X34.out.1.2.2.cell 0 _ rfl⟩ (fun hS34 => ?_)
          clear HH1 HH0 hS33
          (try simp only [Act.put, List.getElem_toArray, List.getElem_cons_succ, List.getElem_cons_zero, List.setIfInBounds_toArray, List.set_cons_zero, List.set_cons_succ])
          have hxx : (r2 == r2) = true := by simp
          refine wpAnyH_take (i := 17) (v := ?_) rfl (by kernel_rfl) (by kernel_rfl) (by kernel_rfl) (fun _ _ _ h => h) (Or.inl ⟨by kernel_rfl, ?_⟩) hS34 ?_
          rotate_left
          · intro w hSw; (try dsimp only at hSw); go_simp; try (with_reducible rfl)
          (try simp only [Act.put, List.getElem_toArray, List.getElem_cons_succ, List.getElem_cons_zero, List.setIfInBounds_toArray, List.set_cons_zero, List.set_cons_succ])
          refine wpAnyH_take (i := 18) (v := ?_) rfl (by kernel_rfl) (by kernel_rfl) (by kernel_rfl) (fun _ _ _ h => h) (Or.inl ⟨by kernel_rfl, ?_⟩) hS34 ?_
          rotate_left
          · intro w hSw; (try dsimp only at hSw); go_simp; try (with_reducible rfl)
          (try simp only [Act.put, List.getElem_toArray, List.getElem_cons_succ, List.getElem_cons_zero, List.setIfInBounds_toArray, List.set_cons_zero, List.set_cons_succ])
          refine wpAnyH_take (i := 19) (v := ?_) rfl (by kernel_rfl) (by kernel_rfl) (by kernel_rfl) (fun _ _ _ h => h) (Or.inl ⟨by kernel_rfl, ?_⟩) hS34 ?_
          rotate_left
          · intro w hSw; (try dsimp only at hSw); go_simp; try (with_reducible rfl)
          (try simp only [Act.put, List.getElem_toArray, List.getElem_cons_succ, List.getElem_cons_zero, List.setIfInBounds_toArray, List.set_cons_zero, List.set_cons_succ])
          refine wpAnyH_done (by kernel_rfl) ?_ _
          clear hS34
          go_wp2
          go_ret
          exact ⟨by simp, X34.out.2.2.1⟩
end Go.Proofs.Ytkalaojbmedhjaa
