/- Texts put together. -/
import Derived.Test.YtmjdnocilbnoaaaGreatZf
import Derived.Test.YtmjdnocilbnoaaaGreatZg
import Derived.Test.YtmjdnocilbnoaaaGreatZb
import Derived.Test.YtmjdnocilbnoaaaGreatZc
/- The document's Walk, and where its segments lie. -/
namespace Go.Proofs.YtmjdnocilbnoaaaGreat
open Go.RowKit Go.Maps
set_option linter.unusedVariables false
set_option linter.unusedSimpArgs false
set_option maxRecDepth 100000
set_option maxHeartbeats 4000000 in
theorem dwalk_row {w0 w : World} {va : Option Addr} {nn vc : Nat} {M : Nat → Nat} (hM : ∀ a, M a ≤ 255) (hD : DDesc w0 va nn vc M) (n D A Uu : Nat) (hn : n ≤ 256) (hd : Int) (al : Bool) (hw : Below w0.heap.size w0 w) :
    Calls Tryz.prog 49 #[.agg #[.int .u64 8192, .slice va nn vc], .agg #[.int .i64 (n : Int), .int .u64 (D : Int), .int .u64 (A : Int), .int .u64 (Uu : Int)], .int .i64 hd, .bool al] w fun e w' => ∃ a L c, e = .returned (.tuple #[.agg #[.slice a L c, .int .u64 ((walkR M D n hd al).ta : Int), .int .u64 ((walkR M D n hd al).tl : Int)], .int .i64 ((walkR M D n hd al).e : Int)]) ∧ SegIn 0 w' (.slice a L c) (walkR M D n hd al).l ∧ Below w.heap.size w w' ∧ ∀ g, (Value.slice a L c).ownBlock = some g → w.heap.size ≤ g := by
  obtain ⟨cn, hcn⟩ : ∃ cn, walkR M D n hd al = cn := ⟨_, rfl⟩
  rw [hcn]
  obtain ⟨r, hr⟩ : ∃ r, alongR M D n n hd [] = r := ⟨_, rfl⟩
  have hra := along_all hM D n n hd [] (by simp)
  rw [hr] at hra
  have X0 : Hid (Dk w (((w.alloc (.cells #[.int .u64 8192, .slice va nn vc] 33)).alloc (.cells #[.int .i64 (n : Int), .int .u64 (D : Int), .int .u64 (A : Int), .int .u64 (Uu : Int)] 25)).alloc (.cells #[.slice none 0 0, .int .u64 0, .int .u64 0] 64)) va nn vc n D A Uu) := three_in w _ _ _
  have HCN : Hid (walkR M D n hd al = cn ∧ alongR M D n n hd [] = r) := ⟨hcn, hr⟩
  have HRA : Hid (r.d.Ok ∧ r.l.length ≤ 256) := ⟨hra.2.1, by have := hra.2.2; simp at this; omega⟩
  have HM : Hid ((∀ a, M a ≤ 255) ∧ DDesc w0 va nn vc M) := ⟨hM, hD⟩
  have W38 : Hid (∀ V, Below w.heap.size w V → Calls Tryz.prog 86 #[.agg #[.int .u64 8192, .slice va nn vc], .int .u64 (D : Int), .int .i64 (n : Int), .int .i64 hd, .int .i64 (n : Int), .agg #[.slice none 0 0, .int .u64 0, .int .u64 0]] V fun e w' => ∃ (d : De) (a' : Option Addr) (L' c' : Nat), e = .returned (.tuple #[.agg #[.int .u64 (d.a : Int), .int .u32 (d.l : Int), .int .u16 (d.f : Int), .int .u16 (d.x : Int)], .agg #[.slice a' L' c', .int .u64 0, .int .u64 0], .int .i64 (r.e : Int)]) ∧ (r.e = 0 → d = r.d ∧ SegIn 0 w' (.slice a' L' c') r.l ∧ ∀ g, (Value.slice a' L' c').ownBlock = some g → V.heap.size ≤ g) ∧ Below V.heap.size V w') := by
    intro V hV
    have := dalong_any hM hD D n hn n hn hd [] none 0 0 0 0 V (below_to hw hV) (segs_nil _ _) (by simp; omega)
    rw [hr] at this
    refine this.mono ?_
    rintro e w' ⟨d, a', L', c', he, h1, h2⟩
    exact ⟨d, a', L', c', he, fun h => ⟨(h1 h).1, (h1 h).2.1, fun g hg => ((h1 h).2.2 g hg).elim (fun h => by cases h) id⟩, h2⟩
  have HW0 : Hid (Below w0.heap.size w0 w) := hw
  clear hcn hr hra hM hD hw
  go_enter Tryz.func49, Tryz.ntmps49
  go_upto_region 1 with fail
  generalize ((w.alloc (.cells #[.int .u64 8192, .slice va nn vc] 33)).alloc (.cells #[.int .i64 (n : Int), .int .u64 (D : Int), .int .u64 (A : Int), .int .u64 (Uu : Int)] 25)).alloc (.cells #[.slice none 0 0, .int .u64 0, .int .u64 0] 64) = v0 at *
  obtain ⟨m0, m1, _, _⟩ := box_facts X0.out.1
  obtain ⟨l0, l1, l2, l3⟩ := box4_facts X0.out.2.1
  go_upto_region 2 with (go_at_call 86; refine (W38.out _ X0.out.2.2.2).mono ?_; rintro e w1 ⟨⟨da, dl, df, dx⟩, a1, L1, c1, rfl, hd1, hb1⟩; have X1 : Hid (Dk w w1 va nn vc n D A Uu) := X0.out.below hb1; have G1 : Hid (r.e = 0 → De.mk da dl df dx = r.d ∧ SegIn 0 w1 (.slice a1 L1 c1) r.l ∧ ∀ g, (Value.slice a1 L1 c1).ownBlock = some g → w.heap.size + 1 + 1 < g ∧ g < w1.heap.size) := fun h => ⟨(hd1 h).1, (hd1 h).2.1, fun g hg => ⟨by have := (hd1 h).2.2 g hg; have := (Array.getElem?_eq_some_iff.1 X0.out.2.2.1).1; omega, ((hd1 h).2.1.lt g hg).2⟩⟩; clear hd1 hb1 X0 m0 m1 l0 l1 l2 l3 W38; rename_i KK hKK; refine hKK _ _ ?_; clear hKK; (refine wpList_step (fun KK hKK => ?_); go_simp; refine hKK _ _ ?_; clear hKK KK); (refine wpList_step (fun KK hKK => ?_); go_simp; refine hKK _ _ ?_; clear hKK KK); (refine wpList_step (fun KK hKK => ?_); go_simp; refine hKK _ _ ?_; clear hKK KK); (refine wpList_step (fun KK hKK => ?_); go_simp; refine hKK _ _ ?_; clear hKK KK); (refine wpList_step (fun KK hKK => ?_); go_simp; refine hKK _ _ ?_; clear hKK KK); (refine wpList_step (fun KK hKK => ?_); go_simp; refine hKK _ _ ?_; clear hKK KK))
  have X2 : Hid (Dl w ((w1.alloc (.cells #[.int .u64 (da : Int), .int .u32 (dl : Int), .int .u16 (df : Int), .int .u16 (dx : Int)] 150)).alloc (.cells #[.slice a1 L1 c1, .int .u64 0, .int .u64 0] 64)) va nn vc n D A Uu w1.heap.size #[.int .u64 (da : Int), .int .u32 (dl : Int), .int .u16 (df : Int), .int .u16 (dx : Int)] (w1.heap.size + 1) #[.slice a1 L1 c1, .int .u64 0, .int .u64 0]) := X1.out.two _ _
  have hb2 : Below w1.heap.size w1 ((w1.alloc (.cells #[.int .u64 (da : Int), .int .u32 (dl : Int), .int .u16 (df : Int), .int .u16 (dx : Int)] 150)).alloc (.cells #[.slice a1 L1 c1, .int .u64 0, .int .u64 0] 64)) := ((Below.refl _ _).alloc (Nat.le_refl _) _).alloc (by simp) _
  have G2 : Hid (r.e = 0 → De.mk da dl df dx = r.d ∧ SegIn 0 ((w1.alloc (.cells #[.int .u64 (da : Int), .int .u32 (dl : Int), .int .u16 (df : Int), .int .u16 (dx : Int)] 150)).alloc (.cells #[.slice a1 L1 c1, .int .u64 0, .int .u64 0] 64)) (.slice a1 L1 c1) r.l ∧ ∀ g, (Value.slice a1 L1 c1).ownBlock = some g → w.heap.size + 1 + 1 < g ∧ g < w1.heap.size) := fun h => ⟨(G1.out h).1, (G1.out h).2.1.kept (fun g hg => hb2.block g ((G1.out h).2.2 g hg).2), (G1.out h).2.2⟩
  clear hb2 X1 G1
  have HPQ : Hid (w1.heap.size + 1 = w1.heap.size + 1) := rfl
  generalize (w1.alloc (.cells #[.int .u64 (da : Int), .int .u32 (dl : Int), .int .u16 (df : Int), .int .u16 (dx : Int)] 150)).alloc (.cells #[.slice a1 L1 c1, .int .u64 0, .int .u64 0] 64) = w2 at *
  generalize hq : w1.heap.size + 1 = q at *
  generalize w1.heap.size = p at *
  have HQ : Hid (q = p + 1) := hq.symm
  clear hq HPQ
  obtain ⟨re, hre⟩ : ∃ e, r.e = e := ⟨_, rfl⟩
  have HRE : Hid (r.e = re) := hre
  rw [hre] at G2
  rw [hre]
  clear hre
  by_cases hz : re = 0
  case neg =>
    have hz1 : ((re : Int) != 0) = true := by simp; omega
    have hz2 : ¬ (re : Int) = 0 := by omega
    have HE : Hid (cn = ⟨re, [], 0, 0⟩) := HCN.out.1.symm.trans (by rw [walk_err HCN.out.2 (by rw [HRE.out]; exact hz), HRE.out])
    clear hz
    go_upto_region 3 with fail
    refine wp_region_list ?_
    (refine wpList_step (fun KK hKK => ?_); go_simp; refine hKK _ _ ?_; clear hKK KK)
    (refine wpList_step (fun KK hKK => ?_); go_simp; refine hKK _ _ ?_; clear hKK KK)
    refine wpList_store_row rfl 64 _ _ rfl (w.heap.size + 1 + 1) #[.slice none 0 0, .int .u64 0, .int .u64 0] rfl rfl 64 #[.slice none 0 0, .int .u64 0, .int .u64 0] X2.out.1.2.2.1 info44 rfl (by simp [Value.oneCell']) ?_
    have HY : Hid (Below w.heap.size w (w2.setRow (w.heap.size + 1 + 1) #[.slice none 0 0, .int .u64 0, .int .u64 0]) ∧ (w2.setRow (w.heap.size + 1 + 1) #[.slice none 0 0, .int .u64 0, .int .u64 0]).heap[w.heap.size + 1 + 1]? = some (.cells #[.slice none 0 0, .int .u64 0, .int .u64 0] 64 (0, 0)) ∧ SegIn 0 (w2.setRow (w.heap.size + 1 + 1) #[.slice none 0 0, .int .u64 0, .int .u64 0]) (.slice none 0 0) []) := ⟨below_setRow X2.out.1.2.2.2 (by omega) _, setRow_heap _ _ _ _ _ _ X2.out.1.2.2.1, segs_nil _ _⟩
    generalize w2.setRow (w.heap.size + 1 + 1) #[.slice none 0 0, .int .u64 0, .int .u64 0] = w9 at *
    obtain ⟨k0, k1, k2⟩ := box3_facts HY.out.2.1
    go_wp2_with fail
    refine bodyPost_ret (v := .tuple #[.agg #[.slice none 0 0, .int .u64 0, .int .u64 0], .int .i64 (re : Int)]) (by simp [results, Tryz.results49, go_sem, k0, k1, k2]) rfl ?_
    rw [HE.out]
    exact ⟨none, 0, 0, rfl, HY.out.2.2, HY.out.1, (fun g hg => by cases hg)⟩
  subst hz
  have G3 : Hid (r.d = ⟨da, dl, df, dx⟩ ∧ SegIn 0 w2 (.slice a1 L1 c1) r.l ∧ ∀ g, (Value.slice a1 L1 c1).ownBlock = some g → w.heap.size + 1 + 1 < g ∧ g < p) := ⟨(G2.out rfl).1.symm, (G2.out rfl).2⟩
  clear G2
  rw [G3.out.1] at HRA
  have hf : df ≤ 65535 := HRA.out.1.f
  have hdl : dl ≤ 4294967295 := HRA.out.1.l
  obtain ⟨rl, hrl⟩ : ∃ e, r.l = e := ⟨_, rfl⟩
  have HRL : Hid (r.l = rl) := hrl
  rw [hrl] at G3 HRA
  clear hrl
  obtain ⟨d0, d1, d2, d3⟩ := box4_facts X2.out.2.1
  obtain ⟨f4, hf4⟩ : ∃ b, fl df 4 = b := ⟨_, rfl⟩
  have H4 : Hid (∀ V, Calls Tryz.prog 87 #[.agg #[.int .u64 (da : Int), .int .u32 (dl : Int), .int .u16 (df : Int), .int .u16 (dx : Int)], .int .u16 4] V fun e w' => e = .returned (.bool f4) ∧ Below V.heap.size V w') := by
    intro V; rw [← hf4]; exact flag4 da dl df dx hf V
  have HF4 : Hid (fl r.d.f 4 = f4) := by show fl r.d.f 4 = f4; rw [G3.out.1]; exact hf4
  clear hf4
  have GS : Hid (∀ V, Below w2.heap.size w2 V → SegIn 0 V (.slice a1 L1 c1) rl) := fun V hV => G3.out.2.1.kept (fun g hg => hV.block g (G3.out.2.1.lt g hg).2)
  cases f4 with
  | false =>
    have HE : Hid (cn = ⟨0, rl, 0, 0⟩) := HCN.out.1.symm.trans (by rw [walk_plain HCN.out.2 HRE.out HF4.out, HRL.out])
    go_upto_region 5 with (go_at_call 87; refine (H4.out _).mono ?_; rintro e w3 ⟨rfl, hb3⟩; have X3 : Hid (Dl w w3 va nn vc n D A Uu p #[.int .u64 (da : Int), .int .u32 (dl : Int), .int .u16 (df : Int), .int .u16 (dx : Int)] q #[.slice a1 L1 c1, .int .u64 0, .int .u64 0]) := X2.out.below hb3; have G4 : Hid (SegIn 0 w3 (.slice a1 L1 c1) rl) := GS.out _ hb3; clear hb3 d0 d1 d2 d3)
    clear X2
    obtain ⟨e0, e1, e2⟩ := box3_facts X3.out.2.2.1
    go_upto_region 5 with fail
    refine wp_region_list ?_
    (refine wpList_step (fun KK hKK => ?_); go_simp; refine hKK _ _ ?_; clear hKK KK)
    refine wpList_store_row rfl 64 _ _ rfl (w.heap.size + 1 + 1) #[.slice a1 L1 c1, .int .u64 0, .int .u64 0] rfl rfl 64 #[.slice none 0 0, .int .u64 0, .int .u64 0] X3.out.1.2.2.1 info44 rfl (by simp [Value.oneCell']) ?_
    have HY : Hid (Below w.heap.size w (w3.setRow (w.heap.size + 1 + 1) #[.slice a1 L1 c1, .int .u64 0, .int .u64 0]) ∧ (w3.setRow (w.heap.size + 1 + 1) #[.slice a1 L1 c1, .int .u64 0, .int .u64 0]).heap[w.heap.size + 1 + 1]? = some (.cells #[.slice a1 L1 c1, .int .u64 0, .int .u64 0] 64 (0, 0)) ∧ SegIn 0 (w3.setRow (w.heap.size + 1 + 1) #[.slice a1 L1 c1, .int .u64 0, .int .u64 0]) (.slice a1 L1 c1) rl) := ⟨below_setRow X3.out.1.2.2.2 (by omega) _, setRow_heap _ _ _ _ _ _ X3.out.1.2.2.1, G4.out.kept (fun g hg => setRow_other _ _ _ _ (by have := (G3.out.2.2 g hg).1; omega))⟩
    generalize w3.setRow (w.heap.size + 1 + 1) #[.slice a1 L1 c1, .int .u64 0, .int .u64 0] = w9 at *
    obtain ⟨k0, k1, k2⟩ := box3_facts HY.out.2.1
    go_wp2_with fail
    refine bodyPost_ret (v := .tuple #[.agg #[.slice a1 L1 c1, .int .u64 0, .int .u64 0], .int .i64 0]) (by simp [results, Tryz.results49, go_sem, k0, k1, k2]) rfl ?_
    rw [HE.out]
    exact ⟨a1, L1, c1, rfl, HY.out.2.2, HY.out.1, (fun g hg => by have := (G3.out.2.2 g hg).1; omega)⟩
  | true =>
    have A36 : True := trivial
    cases al with
    | false =>
      have HE : Hid (cn = ⟨153, [], 0, 0⟩) := HCN.out.1.symm.trans (walk_tab HCN.out.2 HRE.out HF4.out (tabE_nest rfl) (by decide))
      go_upto_region 7 with (go_at_call 87; refine (H4.out _).mono ?_; rintro e w3 ⟨rfl, hb3⟩; have X3 : Hid (Dl w w3 va nn vc n D A Uu p #[.int .u64 (da : Int), .int .u32 (dl : Int), .int .u16 (df : Int), .int .u16 (dx : Int)] q #[.slice a1 L1 c1, .int .u64 0, .int .u64 0]) := X2.out.below hb3; clear hb3 d0 d1 d2 d3)
      clear X2
      go_upto_region 7 with fail
      refine wp_region_list ?_
      (refine wpList_step (fun KK hKK => ?_); go_simp; refine hKK _ _ ?_; clear hKK KK)
      refine wpList_store_row rfl 64 _ _ rfl (w.heap.size + 1 + 1) #[.slice none 0 0, .int .u64 0, .int .u64 0] rfl rfl 64 #[.slice none 0 0, .int .u64 0, .int .u64 0] X3.out.1.2.2.1 info44 rfl (by simp [Value.oneCell']) ?_
      have HY : Hid (Below w.heap.size w (w3.setRow (w.heap.size + 1 + 1) #[.slice none 0 0, .int .u64 0, .int .u64 0]) ∧ (w3.setRow (w.heap.size + 1 + 1) #[.slice none 0 0, .int .u64 0, .int .u64 0]).heap[w.heap.size + 1 + 1]? = some (.cells #[.slice none 0 0, .int .u64 0, .int .u64 0] 64 (0, 0)) ∧ SegIn 0 (w3.setRow (w.heap.size + 1 + 1) #[.slice none 0 0, .int .u64 0, .int .u64 0]) (.slice none 0 0) []) := ⟨below_setRow X3.out.1.2.2.2 (by omega) _, setRow_heap _ _ _ _ _ _ X3.out.1.2.2.1, segs_nil _ _⟩
      generalize w3.setRow (w.heap.size + 1 + 1) #[.slice none 0 0, .int .u64 0, .int .u64 0] = w9 at *
      obtain ⟨k0, k1, k2⟩ := box3_facts HY.out.2.1
      go_wp2_with fail
      refine bodyPost_ret (v := .tuple #[.agg #[.slice none 0 0, .int .u64 0, .int .u64 0], .int .i64 153]) (by simp [results, Tryz.results49, go_sem, k0, k1, k2]) rfl ?_
      rw [HE.out]
      exact ⟨none, 0, 0, rfl, HY.out.2.2, HY.out.1, (fun g hg => by cases hg)⟩
    | true =>
      obtain ⟨f1, hf1⟩ : ∃ b, fl df 1 = b := ⟨_, rfl⟩
      have H1 : Hid (∀ V, Calls Tryz.prog 87 #[.agg #[.int .u64 (da : Int), .int .u32 (dl : Int), .int .u16 (df : Int), .int .u16 (dx : Int)], .int .u16 1] V fun e w' => e = .returned (.bool f1) ∧ Below V.heap.size V w') := by
        intro V; rw [← hf1]; exact flag1 da dl df dx hf V
      have HF1 : Hid ((!true || fl r.d.f 1) = f1) := by show fl r.d.f 1 = f1; rw [G3.out.1]; exact hf1
      clear hf1
      go_upto_region 6 with (go_at_call 87; refine (H4.out _).mono ?_; rintro e w3 ⟨rfl, hb3⟩; have X3 : Hid (Dl w w3 va nn vc n D A Uu p #[.int .u64 (da : Int), .int .u32 (dl : Int), .int .u16 (df : Int), .int .u16 (dx : Int)] q #[.slice a1 L1 c1, .int .u64 0, .int .u64 0] ∧ Below w2.heap.size w2 w3) := ⟨X2.out.below hb3, hb3⟩; clear hb3 d0 d1 d2 d3)
      clear X2
      obtain ⟨d0, d1, d2, d3⟩ := box4_facts X3.out.1.2.1
      cases f1 with
      | true =>
        have HE : Hid (cn = ⟨153, [], 0, 0⟩) := HCN.out.1.symm.trans (walk_tab HCN.out.2 HRE.out HF4.out (tabE_nest HF1.out) (by decide))
        go_upto_region 7 with (go_at_call 87; refine (H1.out _).mono ?_; rintro e w4 ⟨rfl, hb4⟩; have X4 : Hid (Dl w w4 va nn vc n D A Uu p #[.int .u64 (da : Int), .int .u32 (dl : Int), .int .u16 (df : Int), .int .u16 (dx : Int)] q #[.slice a1 L1 c1, .int .u64 0, .int .u64 0]) := X3.out.1.below hb4; clear hb4 d0 d1 d2 d3)
        clear X3
        go_upto_region 7 with fail
        refine wp_region_list ?_
        (refine wpList_step (fun KK hKK => ?_); go_simp; refine hKK _ _ ?_; clear hKK KK)
        refine wpList_store_row rfl 64 _ _ rfl (w.heap.size + 1 + 1) #[.slice none 0 0, .int .u64 0, .int .u64 0] rfl rfl 64 #[.slice none 0 0, .int .u64 0, .int .u64 0] X4.out.1.2.2.1 info44 rfl (by simp [Value.oneCell']) ?_
        have HY : Hid (Below w.heap.size w (w4.setRow (w.heap.size + 1 + 1) #[.slice none 0 0, .int .u64 0, .int .u64 0]) ∧ (w4.setRow (w.heap.size + 1 + 1) #[.slice none 0 0, .int .u64 0, .int .u64 0]).heap[w.heap.size + 1 + 1]? = some (.cells #[.slice none 0 0, .int .u64 0, .int .u64 0] 64 (0, 0)) ∧ SegIn 0 (w4.setRow (w.heap.size + 1 + 1) #[.slice none 0 0, .int .u64 0, .int .u64 0]) (.slice none 0 0) []) := ⟨below_setRow X4.out.1.2.2.2 (by omega) _, setRow_heap _ _ _ _ _ _ X4.out.1.2.2.1, segs_nil _ _⟩
        generalize w4.setRow (w.heap.size + 1 + 1) #[.slice none 0 0, .int .u64 0, .int .u64 0] = w9 at *
        obtain ⟨k0, k1, k2⟩ := box3_facts HY.out.2.1
        go_wp2_with fail
        refine bodyPost_ret (v := .tuple #[.agg #[.slice none 0 0, .int .u64 0, .int .u64 0], .int .i64 153]) (by simp [results, Tryz.results49, go_sem, k0, k1, k2]) rfl ?_
        rw [HE.out]
        exact ⟨none, 0, 0, rfl, HY.out.2.2, HY.out.1, (fun g hg => by cases hg)⟩
      | false =>
        go_upto_region 8 with (go_at_call 87; refine (H1.out _).mono ?_; rintro e w4 ⟨rfl, hb4⟩; have X4 : Hid (Dl w w4 va nn vc n D A Uu p #[.int .u64 (da : Int), .int .u32 (dl : Int), .int .u16 (df : Int), .int .u16 (dx : Int)] q #[.slice a1 L1 c1, .int .u64 0, .int .u64 0]) := X3.out.1.below hb4; have G4 : Hid (SegIn 0 w4 (.slice a1 L1 c1) rl) := GS.out _ (below_to X3.out.2 hb4); clear hb4 d0 d1 d2 d3)
        clear X3 GS H1 H4
        obtain ⟨d0, d1, d2, d3⟩ := box4_facts X4.out.2.1
        obtain ⟨y, hy⟩ : ∃ y, dl % 16 = y := ⟨_, rfl⟩
        have u2 : (dl : Int) % 16 = (y : Int) := by omega
        have u2' : (dl : Int).tmod 16 = (y : Int) := by rw [Int.tmod_eq_emod_of_nonneg (by omega)]; exact u2
        by_cases z0 : y = 0
        case neg =>
          have HE : Hid (cn = ⟨154, [], 0, 0⟩) := HCN.out.1.symm.trans (walk_tab HCN.out.2 HRE.out HF4.out (tabE_rows HF1.out (by rw [G3.out.1]; exact .inl (by rw [hy]; exact z0))) (by decide))
          have u3 : ((y : Int) != 0) = true := by simp; omega
          clear hy z0
          go_upto_region 9 with fail
          refine wp_region_list ?_
          (refine wpList_step (fun KK hKK => ?_); go_simp; refine hKK _ _ ?_; clear hKK KK)
          refine wpList_store_row rfl 64 _ _ rfl (w.heap.size + 1 + 1) #[.slice none 0 0, .int .u64 0, .int .u64 0] rfl rfl 64 #[.slice none 0 0, .int .u64 0, .int .u64 0] X4.out.1.2.2.1 info44 rfl (by simp [Value.oneCell']) ?_
          have HY : Hid (Below w.heap.size w (w4.setRow (w.heap.size + 1 + 1) #[.slice none 0 0, .int .u64 0, .int .u64 0]) ∧ (w4.setRow (w.heap.size + 1 + 1) #[.slice none 0 0, .int .u64 0, .int .u64 0]).heap[w.heap.size + 1 + 1]? = some (.cells #[.slice none 0 0, .int .u64 0, .int .u64 0] 64 (0, 0)) ∧ SegIn 0 (w4.setRow (w.heap.size + 1 + 1) #[.slice none 0 0, .int .u64 0, .int .u64 0]) (.slice none 0 0) []) := ⟨below_setRow X4.out.1.2.2.2 (by omega) _, setRow_heap _ _ _ _ _ _ X4.out.1.2.2.1, segs_nil _ _⟩
          generalize w4.setRow (w.heap.size + 1 + 1) #[.slice none 0 0, .int .u64 0, .int .u64 0] = w9 at *
          obtain ⟨k0, k1, k2⟩ := box3_facts HY.out.2.1
          go_wp2_with fail
          refine bodyPost_ret (v := .tuple #[.agg #[.slice none 0 0, .int .u64 0, .int .u64 0], .int .i64 154]) (by simp [results, Tryz.results49, go_sem, k0, k1, k2]) rfl ?_
          rw [HE.out]
          exact ⟨none, 0, 0, rfl, HY.out.2.2, HY.out.1, (fun g hg => by cases hg)⟩
        subst z0
        by_cases z1 : dl < 16
        case pos =>
          have HE : Hid (cn = ⟨154, [], 0, 0⟩) := HCN.out.1.symm.trans (walk_tab HCN.out.2 HRE.out HF4.out (tabE_rows HF1.out (by rw [G3.out.1]; exact .inr (.inl z1))) (by decide))
          have u4 : (dl : Int) < 16 := by omega
          clear hy z1
          go_upto_region 9 with fail
          refine wp_region_list ?_
          (refine wpList_step (fun KK hKK => ?_); go_simp; refine hKK _ _ ?_; clear hKK KK)
          refine wpList_store_row rfl 64 _ _ rfl (w.heap.size + 1 + 1) #[.slice none 0 0, .int .u64 0, .int .u64 0] rfl rfl 64 #[.slice none 0 0, .int .u64 0, .int .u64 0] X4.out.1.2.2.1 info44 rfl (by simp [Value.oneCell']) ?_
          have HY : Hid (Below w.heap.size w (w4.setRow (w.heap.size + 1 + 1) #[.slice none 0 0, .int .u64 0, .int .u64 0]) ∧ (w4.setRow (w.heap.size + 1 + 1) #[.slice none 0 0, .int .u64 0, .int .u64 0]).heap[w.heap.size + 1 + 1]? = some (.cells #[.slice none 0 0, .int .u64 0, .int .u64 0] 64 (0, 0)) ∧ SegIn 0 (w4.setRow (w.heap.size + 1 + 1) #[.slice none 0 0, .int .u64 0, .int .u64 0]) (.slice none 0 0) []) := ⟨below_setRow X4.out.1.2.2.2 (by omega) _, setRow_heap _ _ _ _ _ _ X4.out.1.2.2.1, segs_nil _ _⟩
          generalize w4.setRow (w.heap.size + 1 + 1) #[.slice none 0 0, .int .u64 0, .int .u64 0] = w9 at *
          obtain ⟨k0, k1, k2⟩ := box3_facts HY.out.2.1
          go_wp2_with fail
          refine bodyPost_ret (v := .tuple #[.agg #[.slice none 0 0, .int .u64 0, .int .u64 0], .int .i64 154]) (by simp [results, Tryz.results49, go_sem, k0, k1, k2]) rfl ?_
          rw [HE.out]
          exact ⟨none, 0, 0, rfl, HY.out.2.2, HY.out.1, (fun g hg => by cases hg)⟩
        have u4 : ¬ (dl : Int) < 16 := by omega
        by_cases z2 : 4096 < dl
        case pos =>
          have HE : Hid (cn = ⟨154, [], 0, 0⟩) := HCN.out.1.symm.trans (walk_tab HCN.out.2 HRE.out HF4.out (tabE_rows HF1.out (by rw [G3.out.1]; exact .inr (.inr z2))) (by decide))
          have u5 : (4096 : Int) < dl := by omega
          clear hy z1 z2
          go_upto_region 9 with fail
          refine wp_region_list ?_
          (refine wpList_step (fun KK hKK => ?_); go_simp; refine hKK _ _ ?_; clear hKK KK)
          refine wpList_store_row rfl 64 _ _ rfl (w.heap.size + 1 + 1) #[.slice none 0 0, .int .u64 0, .int .u64 0] rfl rfl 64 #[.slice none 0 0, .int .u64 0, .int .u64 0] X4.out.1.2.2.1 info44 rfl (by simp [Value.oneCell']) ?_
          have HY : Hid (Below w.heap.size w (w4.setRow (w.heap.size + 1 + 1) #[.slice none 0 0, .int .u64 0, .int .u64 0]) ∧ (w4.setRow (w.heap.size + 1 + 1) #[.slice none 0 0, .int .u64 0, .int .u64 0]).heap[w.heap.size + 1 + 1]? = some (.cells #[.slice none 0 0, .int .u64 0, .int .u64 0] 64 (0, 0)) ∧ SegIn 0 (w4.setRow (w.heap.size + 1 + 1) #[.slice none 0 0, .int .u64 0, .int .u64 0]) (.slice none 0 0) []) := ⟨below_setRow X4.out.1.2.2.2 (by omega) _, setRow_heap _ _ _ _ _ _ X4.out.1.2.2.1, segs_nil _ _⟩
          generalize w4.setRow (w.heap.size + 1 + 1) #[.slice none 0 0, .int .u64 0, .int .u64 0] = w9 at *
          obtain ⟨k0, k1, k2⟩ := box3_facts HY.out.2.1
          go_wp2_with fail
          refine bodyPost_ret (v := .tuple #[.agg #[.slice none 0 0, .int .u64 0, .int .u64 0], .int .i64 154]) (by simp [results, Tryz.results49, go_sem, k0, k1, k2]) rfl ?_
          rw [HE.out]
          exact ⟨none, 0, 0, rfl, HY.out.2.2, HY.out.1, (fun g hg => by cases hg)⟩
        have u5 : ¬ (4096 : Int) < dl := by omega
        have hl4 : dl ≤ 4096 := by omega
        have hl16 : 16 ≤ dl := by omega
        have HTG : Hid (tabE r.d true = if inB da dl 2147483648 8192 = true then 0 else 21) := by
          show tabE r.d true = _
          rw [tabE_go HF1.out (by rw [G3.out.1]; show ¬ (dl = 0 ∨ 4096 < dl ∨ ¬ dl % 16 = 0); omega), G3.out.1]
        obtain ⟨ib, hin⟩ : ∃ b, inB da dl 2147483648 8192 = b := ⟨_, rfl⟩
        have H17 : Hid (∀ V, Calls Tryz.prog 52 #[.agg #[.int .u64 8192, .slice va nn vc], .int .u64 (da : Int), .int .u64 (dl : Int)] V fun e w' => e = .returned (.bool ib) ∧ Below V.heap.size V w') := by
          intro V
          rw [← hin]
          exact (rhas_any 8192 da dl (.slice va nn vc) (by omega) HRA.out.1.a (by omega) V).mono fun e w' ⟨he, hb⟩ => ⟨he, hb⟩
        rw [hin] at HTG
        clear hin z1 z2 hy
        have hwr : IntKind.u64.wrap (dl : Int) = (dl : Int) := by rw [wrap_u64]; omega
        obtain ⟨m0, m1, _, _⟩ := box_facts X4.out.1.1
        cases ib with
        | false =>
          have HE : Hid (cn = ⟨21, [], 0, 0⟩) := HCN.out.1.symm.trans (walk_tab HCN.out.2 HRE.out HF4.out HTG.out (by decide))
          go_upto_region 11 with (go_at_call 52; refine (H17.out _).mono ?_; rintro e w5 ⟨rfl, hb⟩; have X5 : Hid (Dl w w5 va nn vc n D A Uu p #[.int .u64 (da : Int), .int .u32 (dl : Int), .int .u16 (df : Int), .int .u16 (dx : Int)] q #[.slice a1 L1 c1, .int .u64 0, .int .u64 0]) := X4.out.below hb; clear hb d0 d1 d2 d3 m0 m1)
          clear X4
          go_upto_region 11 with fail
          refine wp_region_list ?_
          (refine wpList_step (fun KK hKK => ?_); go_simp; refine hKK _ _ ?_; clear hKK KK)
          refine wpList_store_row rfl 64 _ _ rfl (w.heap.size + 1 + 1) #[.slice none 0 0, .int .u64 0, .int .u64 0] rfl rfl 64 #[.slice none 0 0, .int .u64 0, .int .u64 0] X5.out.1.2.2.1 info44 rfl (by simp [Value.oneCell']) ?_
          have HY : Hid (Below w.heap.size w (w5.setRow (w.heap.size + 1 + 1) #[.slice none 0 0, .int .u64 0, .int .u64 0]) ∧ (w5.setRow (w.heap.size + 1 + 1) #[.slice none 0 0, .int .u64 0, .int .u64 0]).heap[w.heap.size + 1 + 1]? = some (.cells #[.slice none 0 0, .int .u64 0, .int .u64 0] 64 (0, 0)) ∧ SegIn 0 (w5.setRow (w.heap.size + 1 + 1) #[.slice none 0 0, .int .u64 0, .int .u64 0]) (.slice none 0 0) []) := ⟨below_setRow X5.out.1.2.2.2 (by omega) _, setRow_heap _ _ _ _ _ _ X5.out.1.2.2.1, segs_nil _ _⟩
          generalize w5.setRow (w.heap.size + 1 + 1) #[.slice none 0 0, .int .u64 0, .int .u64 0] = w9 at *
          obtain ⟨k0, k1, k2⟩ := box3_facts HY.out.2.1
          go_wp2_with fail
          refine bodyPost_ret (v := .tuple #[.agg #[.slice none 0 0, .int .u64 0, .int .u64 0], .int .i64 21]) (by simp [results, Tryz.results49, go_sem, k0, k1, k2]) rfl ?_
          rw [HE.out]
          exact ⟨none, 0, 0, rfl, HY.out.2.2, HY.out.1, (fun g hg => by cases hg)⟩
        | true =>
          have HT0 : Hid (tabE r.d true = 0) := HTG.out
          go_upto_region 12 with (go_at_call 52; refine (H17.out _).mono ?_; rintro e w5 ⟨rfl, hb⟩; have X5 : Hid (Dl w w5 va nn vc n D A Uu p #[.int .u64 (da : Int), .int .u32 (dl : Int), .int .u16 (df : Int), .int .u16 (dx : Int)] q #[.slice a1 L1 c1, .int .u64 0, .int .u64 0]) := X4.out.below hb; have G5 : Hid (SegIn 0 w5 (.slice a1 L1 c1) rl) := G4.out.kept (fun g hg => hb.block g (G4.out.lt g hg).2); clear hb d0 d1 d2 d3 m0 m1)
          clear X4 G4 H17
          obtain ⟨d0, d1, d2, d3⟩ := box4_facts X5.out.2.1
          obtain ⟨e0, e1, e2⟩ := box3_facts X5.out.2.2.1
          have e3 := frozenOf X5.out.2.2.1 1
          have e4 := frozenOf X5.out.2.2.1 2
          go_upto_region 13 with fail
          have X6 : Hid (Dl w ((w5.setCell ⟨q, 1, none⟩ (.int .u64 (da : Int))).setCell ⟨q, 2, none⟩ (.int .u64 (dl : Int))) va nn vc n D A Uu p #[.int .u64 (da : Int), .int .u32 (dl : Int), .int .u16 (df : Int), .int .u16 (dx : Int)] q #[.slice a1 L1 c1, .int .u64 (da : Int), .int .u64 (dl : Int)]) := X5.out.tab _ _
          have G6 : Hid (SegIn 0 ((w5.setCell ⟨q, 1, none⟩ (.int .u64 (da : Int))).setCell ⟨q, 2, none⟩ (.int .u64 (dl : Int))) (.slice a1 L1 c1) rl) := G5.out.kept (fun g hg => by
            have h1 := (G3.out.2.2 g hg).2
            have h2 := HQ.out
            rw [heap_setCell _ _ _ _ _ (by omega), heap_setCell _ _ _ _ _ (by omega)])
          clear X5 G5 d0 d1 d2 d3 e0 e1 e2 e3 e4
          generalize (w5.setCell ⟨q, 1, none⟩ (.int .u64 (da : Int))).setCell ⟨q, 2, none⟩ (.int .u64 (dl : Int)) = w6 at *
          obtain ⟨d0, d1, d2, d3⟩ := box4_facts X6.out.2.1
          obtain ⟨e0, e1, e2⟩ := box3_facts X6.out.2.2.1
          obtain ⟨m0, m1, _, _⟩ := box_facts X6.out.1.1
          obtain ⟨y, hy⟩ : ∃ y, dl / 16 = y := ⟨_, rfl⟩
          have v1 : (dl : Int) / 16 = (y : Int) := by omega
          have v2 : (dl : Int).tdiv 16 = (y : Int) := by rw [Int.tdiv_eq_ediv_of_nonneg (by omega)]; exact v1
          have v3 : IntKind.u32.wrap (y : Int) = (y : Int) := by simp [IntKind.wrap, IntKind.signed, IntKind.bits]; omega
          have v4 : IntKind.i64.wrap (y : Int) = (y : Int) := wrapi y (by omega)
          have hy2 : y ≤ 256 := by omega
          have HYY : Hid (dl / 16 = y) := hy
          clear hy u2 u2' u4 u5 hwr
          obtain ⟨s, hs⟩ : ∃ s, alongR M da y y 0 rl = s := ⟨_, rfl⟩
          have HS : Hid (alongR M r.d.a (r.d.l / 16) (r.d.l / 16) 0 r.l = s) := by show alongR M r.d.a (r.d.l / 16) (r.d.l / 16) 0 r.l = s; rw [G3.out.1, HRL.out]; simp only; rw [HYY.out]; exact hs
          have hsa := along_all HM.out.1 da y y 0 rl (by
            have := along_all HM.out.1 D n n hd [] (by simp)
            rw [HCN.out.2, HRL.out] at this
            exact this.1)
          rw [hs] at hsa
          have HSA : Hid (s.d.Ok) := hsa.2.1
          clear hsa
          have H382 : Hid (∀ V, Below w.heap.size w V → SegIn 0 V (.slice a1 L1 c1) rl → Calls Tryz.prog 86 #[.agg #[.int .u64 8192, .slice va nn vc], .int .u64 (da : Int), .int .i64 (y : Int), .int .i64 0, .int .i64 (y : Int), .agg #[.slice a1 L1 c1, .int .u64 (da : Int), .int .u64 (dl : Int)]] V fun e w' => ∃ (d : De) (a' : Option Addr) (L' c' : Nat), e = .returned (.tuple #[.agg #[.int .u64 (d.a : Int), .int .u32 (d.l : Int), .int .u16 (d.f : Int), .int .u16 (d.x : Int)], .agg #[.slice a' L' c', .int .u64 (da : Int), .int .u64 (dl : Int)], .int .i64 (s.e : Int)]) ∧ (s.e = 0 → d = s.d ∧ SegIn 0 w' (.slice a' L' c') s.l ∧ ∀ g, (Value.slice a' L' c').ownBlock = some g → (Value.slice a1 L1 c1).ownBlock = some g ∨ V.heap.size ≤ g) ∧ Below V.heap.size V w') := by
            intro V hV hsg
            have := dalong_any HM.out.1 HM.out.2 da y hy2 y hy2 0 rl a1 L1 c1 da dl V (below_to HW0.out hV) hsg (by have := HRA.out.2; omega)
            rw [hs] at this
            exact this
          clear hs
          go_upto_region 15 with (go_at_call 86; refine (H382.out _ X6.out.1.2.2.2 G6.out).mono ?_; rintro e w7 ⟨⟨ea, el, ef, ex⟩, a2, L2, c2, rfl, hd2, hb7⟩; have X7 : Hid (Dl w w7 va nn vc n D A Uu p #[.int .u64 (da : Int), .int .u32 (dl : Int), .int .u16 (df : Int), .int .u16 (dx : Int)] q #[.slice a1 L1 c1, .int .u64 (da : Int), .int .u64 (dl : Int)]) := X6.out.below hb7; have G7 : Hid (s.e = 0 → s.d = De.mk ea el ef ex ∧ SegIn 0 w7 (.slice a2 L2 c2) s.l ∧ ∀ g, (Value.slice a2 L2 c2).ownBlock = some g → w.heap.size + 1 + 1 < g ∧ g ≠ q ∧ g < w7.heap.size) := fun h => ⟨(hd2 h).1.symm, (hd2 h).2.1, fun g hg => (Dl.row X6.out HQ.out (fun g hg => (G3.out.2.2 g hg)) ((hd2 h).2.2 g hg)).imp id (fun hh => ⟨hh, ((hd2 h).2.1.lt g hg).2⟩)⟩; clear hd2 hb7 X6 G6 d0 d1 d2 d3 e0 e1 e2 m0 m1 H382; rename_i KK hKK; refine hKK _ _ ?_; clear hKK; (refine wpList_step (fun KK hKK => ?_); go_simp; refine hKK _ _ ?_; clear hKK KK); (refine wpList_step (fun KK hKK => ?_); go_simp; refine hKK _ _ ?_; clear hKK KK); (refine wpList_step (fun KK hKK => ?_); go_simp; refine hKK _ _ ?_; clear hKK KK); (refine wpList_step (fun KK hKK => ?_); go_simp; refine hKK _ _ ?_; clear hKK KK); (refine wpList_step (fun KK hKK => ?_); go_simp; refine hKK _ _ ?_; clear hKK KK); refine wpList_store_row rfl 150 _ _ rfl w7.heap.size #[.int .u64 (ea : Int), .int .u32 (el : Int), .int .u16 (ef : Int), .int .u16 (ex : Int)] rfl rfl 150 #[.int .u64 0, .int .u32 0, .int .u16 0, .int .u16 0] (heap_alloc_new _ _) info47 rfl (by simp [Value.oneCell']) ?_; refine wpList_store_row rfl 64 _ _ rfl q #[.slice a2 L2 c2, .int .u64 (da : Int), .int .u64 (dl : Int)] rfl rfl 64 #[.slice a1 L1 c1, .int .u64 (da : Int), .int .u64 (dl : Int)] ((setRow_other _ _ _ _ (Dl.qlt X7.out)).trans (below_box X7.out.2.2.1 ((Below.refl _ _).alloc (Nat.le_refl _) _))) info44 rfl (by simp [Value.oneCell']) ?_; have X8 : Hid (Dl w (((w7.alloc (.cells #[.int .u64 0, .int .u32 0, .int .u16 0, .int .u16 0] 150)).setRow w7.heap.size #[.int .u64 (ea : Int), .int .u32 (el : Int), .int .u16 (ef : Int), .int .u16 (ex : Int)]).setRow q #[.slice a2 L2 c2, .int .u64 (da : Int), .int .u64 (dl : Int)]) va nn vc n D A Uu p #[.int .u64 (da : Int), .int .u32 (dl : Int), .int .u16 (df : Int), .int .u16 (dx : Int)] q #[.slice a2 L2 c2, .int .u64 (da : Int), .int .u64 (dl : Int)] ∧ (((w7.alloc (.cells #[.int .u64 0, .int .u32 0, .int .u16 0, .int .u16 0] 150)).setRow w7.heap.size #[.int .u64 (ea : Int), .int .u32 (el : Int), .int .u16 (ef : Int), .int .u16 (ex : Int)]).setRow q #[.slice a2 L2 c2, .int .u64 (da : Int), .int .u64 (dl : Int)]).heap[w7.heap.size]? = some (.cells #[.int .u64 (ea : Int), .int .u32 (el : Int), .int .u16 (ef : Int), .int .u16 (ex : Int)] 150 (0, 0))) := X7.out.last _ _ _; have G8 : Hid (s.e = 0 → s.d = De.mk ea el ef ex ∧ SegIn 0 (((w7.alloc (.cells #[.int .u64 0, .int .u32 0, .int .u16 0, .int .u16 0] 150)).setRow w7.heap.size #[.int .u64 (ea : Int), .int .u32 (el : Int), .int .u16 (ef : Int), .int .u16 (ex : Int)]).setRow q #[.slice a2 L2 c2, .int .u64 (da : Int), .int .u64 (dl : Int)]) (.slice a2 L2 c2) s.l ∧ ∀ g, (Value.slice a2 L2 c2).ownBlock = some g → w.heap.size + 1 + 1 < g) := fun h => ⟨(G7.out h).1, (G7.out h).2.1.kept (fun g hg => last_other ((G7.out h).2.2 g hg).2), fun g hg => ((G7.out h).2.2 g hg).1⟩; clear X7 G7; generalize ((w7.alloc (.cells #[.int .u64 0, .int .u32 0, .int .u16 0, .int .u16 0] 150)).setRow w7.heap.size #[.int .u64 (ea : Int), .int .u32 (el : Int), .int .u16 (ef : Int), .int .u16 (ex : Int)]).setRow q #[.slice a2 L2 c2, .int .u64 (da : Int), .int .u64 (dl : Int)] = w8 at *; generalize w7.heap.size = pe at *)
          obtain ⟨se, hse⟩ : ∃ e, s.e = e := ⟨_, rfl⟩
          have HSE : Hid (s.e = se) := hse
          rw [hse] at G8
          rw [hse]
          clear hse
          by_cases hz : se = 0
          case neg =>
            have hz1 : ((se : Int) == 0) = false := by simp; omega
            have hz3 : ((se : Int) != 0) = true := by simp; omega
            have hz2 : ¬ (se : Int) = 0 := by omega
            have HE : Hid (cn = ⟨se, [], 0, 0⟩) := HCN.out.1.symm.trans (by rw [walk_err2 HCN.out.2 HRE.out HF4.out HT0.out HS.out (by rw [HSE.out]; exact hz), HSE.out])
            clear hz
            go_upto_region 18 with fail
            refine wp_region_list ?_
            (refine wpList_step (fun KK hKK => ?_); go_simp; refine hKK _ _ ?_; clear hKK KK)
            (refine wpList_step (fun KK hKK => ?_); go_simp; refine hKK _ _ ?_; clear hKK KK)
            refine wpList_store_row rfl 64 _ _ rfl (w.heap.size + 1 + 1) #[.slice none 0 0, .int .u64 0, .int .u64 0] rfl rfl 64 #[.slice none 0 0, .int .u64 0, .int .u64 0] X8.out.1.1.2.2.1 info44 rfl (by simp [Value.oneCell']) ?_
            have HY : Hid (Below w.heap.size w (w8.setRow (w.heap.size + 1 + 1) #[.slice none 0 0, .int .u64 0, .int .u64 0]) ∧ (w8.setRow (w.heap.size + 1 + 1) #[.slice none 0 0, .int .u64 0, .int .u64 0]).heap[w.heap.size + 1 + 1]? = some (.cells #[.slice none 0 0, .int .u64 0, .int .u64 0] 64 (0, 0)) ∧ SegIn 0 (w8.setRow (w.heap.size + 1 + 1) #[.slice none 0 0, .int .u64 0, .int .u64 0]) (.slice none 0 0) []) := ⟨below_setRow X8.out.1.1.2.2.2 (by omega) _, setRow_heap _ _ _ _ _ _ X8.out.1.1.2.2.1, segs_nil _ _⟩
            generalize w8.setRow (w.heap.size + 1 + 1) #[.slice none 0 0, .int .u64 0, .int .u64 0] = w9 at *
            obtain ⟨k0, k1, k2⟩ := box3_facts HY.out.2.1
            go_wp2_with fail
            refine bodyPost_ret (v := .tuple #[.agg #[.slice none 0 0, .int .u64 0, .int .u64 0], .int .i64 (se : Int)]) (by simp [results, Tryz.results49, go_sem, k0, k1, k2]) rfl ?_
            rw [HE.out]
            exact ⟨none, 0, 0, rfl, HY.out.2.2, HY.out.1, (fun g hg => by cases hg)⟩
          subst hz
          have G9 := G8.out rfl
          have hef : ef ≤ 65535 := by have := HSA.out.f; rw [G9.1] at this; exact this
          obtain ⟨f5, hf5⟩ : ∃ b, fl ef 4 = b := ⟨_, rfl⟩
          have H5 : Hid (∀ V, Calls Tryz.prog 87 #[.agg #[.int .u64 (ea : Int), .int .u32 (el : Int), .int .u16 (ef : Int), .int .u16 (ex : Int)], .int .u16 4] V fun e w' => e = .returned (.bool f5) ∧ Below V.heap.size V w') := by
            intro V; rw [← hf5]; exact flag4 ea el ef ex hef V
          have HF5 : Hid (fl s.d.f 4 = f5) := by show fl s.d.f 4 = f5; rw [G9.1]; exact hf5
          have HG9 : Hid (SegIn 0 w8 (.slice a2 L2 c2) s.l ∧ ∀ g, (Value.slice a2 L2 c2).ownBlock = some g → w.heap.size + 1 + 1 < g) := G9.2
          clear hf5 G8 G9
          obtain ⟨d0, d1, d2, d3⟩ := box4_facts X8.out.2
          cases f5 with
          | true =>
            have HE : Hid (cn = ⟨153, [], 0, 0⟩) := HCN.out.1.symm.trans (walk_nest HCN.out.2 HRE.out HF4.out HT0.out HS.out HSE.out HF5.out)
            go_upto_region 18 with (go_at_call 87; refine (H5.out _).mono ?_; rintro e w10 ⟨rfl, hb⟩; have X9 : Hid (Dl w w10 va nn vc n D A Uu p #[.int .u64 (da : Int), .int .u32 (dl : Int), .int .u16 (df : Int), .int .u16 (dx : Int)] q #[.slice a2 L2 c2, .int .u64 (da : Int), .int .u64 (dl : Int)]) := X8.out.1.below hb; clear hb d0 d1 d2 d3)
            clear X8
            go_upto_region 18 with fail
            refine wp_region_list ?_
            (refine wpList_step (fun KK hKK => ?_); go_simp; refine hKK _ _ ?_; clear hKK KK)
            (refine wpList_step (fun KK hKK => ?_); go_simp; refine hKK _ _ ?_; clear hKK KK)
            refine wpList_store_row rfl 64 _ _ rfl (w.heap.size + 1 + 1) #[.slice none 0 0, .int .u64 0, .int .u64 0] rfl rfl 64 #[.slice none 0 0, .int .u64 0, .int .u64 0] X9.out.1.2.2.1 info44 rfl (by simp [Value.oneCell']) ?_
            have HY : Hid (Below w.heap.size w (w10.setRow (w.heap.size + 1 + 1) #[.slice none 0 0, .int .u64 0, .int .u64 0]) ∧ (w10.setRow (w.heap.size + 1 + 1) #[.slice none 0 0, .int .u64 0, .int .u64 0]).heap[w.heap.size + 1 + 1]? = some (.cells #[.slice none 0 0, .int .u64 0, .int .u64 0] 64 (0, 0)) ∧ SegIn 0 (w10.setRow (w.heap.size + 1 + 1) #[.slice none 0 0, .int .u64 0, .int .u64 0]) (.slice none 0 0) []) := ⟨below_setRow X9.out.1.2.2.2 (by omega) _, setRow_heap _ _ _ _ _ _ X9.out.1.2.2.1, segs_nil _ _⟩
            generalize w10.setRow (w.heap.size + 1 + 1) #[.slice none 0 0, .int .u64 0, .int .u64 0] = w9 at *
            obtain ⟨k0, k1, k2⟩ := box3_facts HY.out.2.1
            go_wp2_with fail
            refine bodyPost_ret (v := .tuple #[.agg #[.slice none 0 0, .int .u64 0, .int .u64 0], .int .i64 153]) (by simp [results, Tryz.results49, go_sem, k0, k1, k2]) rfl ?_
            rw [HE.out]
            exact ⟨none, 0, 0, rfl, HY.out.2.2, HY.out.1, (fun g hg => by cases hg)⟩
          | false =>
            obtain ⟨sl, hsl⟩ : ∃ e, s.l = e := ⟨_, rfl⟩
            rw [hsl] at HG9
            have HE : Hid (cn = ⟨0, sl, da, dl⟩) := HCN.out.1.symm.trans (by rw [walk_two HCN.out.2 HRE.out HF4.out HT0.out HS.out HSE.out HF5.out, G3.out.1, hsl])
            clear hsl
            go_upto_region 19 with (go_at_call 87; refine (H5.out _).mono ?_; rintro e w10 ⟨rfl, hb⟩; have X9 : Hid (Dl w w10 va nn vc n D A Uu p #[.int .u64 (da : Int), .int .u32 (dl : Int), .int .u16 (df : Int), .int .u16 (dx : Int)] q #[.slice a2 L2 c2, .int .u64 (da : Int), .int .u64 (dl : Int)]) := X8.out.1.below hb; have GA : Hid (SegIn 0 w10 (.slice a2 L2 c2) sl) := HG9.out.1.kept (fun g hg => hb.block g (HG9.out.1.lt g hg).2); clear hb d0 d1 d2 d3)
            clear X8
            obtain ⟨e0, e1, e2⟩ := box3_facts X9.out.2.2.1
            go_upto_region 19 with fail
            refine wp_region_list ?_
            (refine wpList_step (fun KK hKK => ?_); go_simp; refine hKK _ _ ?_; clear hKK KK)
            refine wpList_store_row rfl 64 _ _ rfl (w.heap.size + 1 + 1) #[.slice a2 L2 c2, .int .u64 (da : Int), .int .u64 (dl : Int)] rfl rfl 64 #[.slice none 0 0, .int .u64 0, .int .u64 0] X9.out.1.2.2.1 info44 rfl (by simp [Value.oneCell']) ?_
            have HY : Hid (Below w.heap.size w (w10.setRow (w.heap.size + 1 + 1) #[.slice a2 L2 c2, .int .u64 (da : Int), .int .u64 (dl : Int)]) ∧ (w10.setRow (w.heap.size + 1 + 1) #[.slice a2 L2 c2, .int .u64 (da : Int), .int .u64 (dl : Int)]).heap[w.heap.size + 1 + 1]? = some (.cells #[.slice a2 L2 c2, .int .u64 (da : Int), .int .u64 (dl : Int)] 64 (0, 0)) ∧ SegIn 0 (w10.setRow (w.heap.size + 1 + 1) #[.slice a2 L2 c2, .int .u64 (da : Int), .int .u64 (dl : Int)]) (.slice a2 L2 c2) sl) := ⟨below_setRow X9.out.1.2.2.2 (by omega) _, setRow_heap _ _ _ _ _ _ X9.out.1.2.2.1, GA.out.kept (fun g hg => setRow_other _ _ _ _ (by have := HG9.out.2 g hg; omega))⟩
            generalize w10.setRow (w.heap.size + 1 + 1) #[.slice a2 L2 c2, .int .u64 (da : Int), .int .u64 (dl : Int)] = w9 at *
            obtain ⟨k0, k1, k2⟩ := box3_facts HY.out.2.1
            go_wp2_with fail
            refine bodyPost_ret (v := .tuple #[.agg #[.slice a2 L2 c2, .int .u64 (da : Int), .int .u64 (dl : Int)], .int .i64 0]) (by simp [results, Tryz.results49, go_sem, k0, k1, k2]) rfl ?_
            rw [HE.out]
            exact ⟨a2, L2, c2, rfl, HY.out.2.2, HY.out.1, (fun g hg => by have := HG9.out.2 g hg; omega)⟩

end Go.Proofs.YtmjdnocilbnoaaaGreat

/- The document's Fetch: ground. -/
namespace Go.Proofs.YtmjdnocilbnoaaaGreat
open Go.RowKit Go.Maps
set_option linter.unusedVariables false
set_option linter.unusedSimpArgs false
set_option maxRecDepth 100000
theorem ar_add (a b : Nat) (ha : a ≤ 200000) (hb : b ≤ 200000) : wrap64 ((a : Int) + (b : Int)) = ((a + b : Nat) : Int) := by unfold wrap64; omega
theorem ar_sub (a b : Nat) (ha : a ≤ 200000) (hb : b ≤ a) : wrap64 ((a : Int) - (b : Int)) = ((a - b : Nat) : Int) := by unfold wrap64; omega
theorem ar_mod (a : Nat) : (a : Int).tmod 65536 = ((a % 65536 : Nat) : Int) := by rw [Int.tmod_eq_emod_of_nonneg (by omega)]; rfl
theorem ar_id (a : Nat) (h : a ≤ 200000) : wrap64 (a : Int) = (a : Int) := by unfold wrap64; omega
theorem wrap_i64_eq (x : Int) : IntKind.i64.wrap x = wrap64 x := by
  simp [IntKind.wrap, IntKind.signed, IntKind.bits, wrap64]
  try omega
theorem wait_facts {M : Nat → Nat} {A fe of : Nat} (hof : wordN M (A + 2) 2 8192 = of) (hle : ∀ a, M a ≤ 255) (hfe : fe ≤ 65535) : ∃ o1 o2 wt : Nat, waitN M A fe = wt ∧ wrap64 ((of : Int) + 65536) = (o1 : Int) ∧ wrap64 ((o1 : Int) - (fe : Int)) = (o2 : Int) ∧ (o2 : Int).tmod 65536 = (wt : Int) ∧ wrap64 (wt : Int) = (wt : Int) ∧ IntKind.i64.wrap ((of : Int) + 65536) = (o1 : Int) ∧ IntKind.i64.wrap ((o1 : Int) - (fe : Int)) = (o2 : Int) := by
  have hl : of ≤ 65535 := by rw [← hof]; exact rd_lt hle _
  refine ⟨of + 65536, of + 65536 - fe, (of + 65536 - fe) % 65536, by unfold waitN; rw [hof], ar_add of 65536 (by omega) (by omega), ar_sub _ _ (by omega) (by omega), ar_mod _, ar_id _ ?_, (wrap_i64_eq _).trans (ar_add of 65536 (by omega) (by omega)), (wrap_i64_eq _).trans (ar_sub _ _ (by omega) (by omega))⟩
  have := Nat.mod_lt (of + 65536 - fe) (show 0 < 65536 by decide)
  omega
theorem up_facts {fe : Nat} (hfe : fe ≤ 65535) : ∃ f0 f1 : Nat, upN fe = f1 ∧ wrap64 ((fe : Int) + 1) = (f0 : Int) ∧ (f0 : Int).tmod 65536 = (f1 : Int) ∧ wrap64 (f1 : Int) = (f1 : Int) := by
  refine ⟨fe + 1, upN fe, rfl, ar_add fe 1 (by omega) (by omega), ar_mod _, ar_id _ ?_⟩
  have := up_le fe
  omega
theorem int_ne0 {a : Nat} (h : a ≠ 0) : ((a : Int) == 0) = false := by simp; omega
theorem int_eq0 {a : Nat} (h : a = 0) : ((a : Int) == 0) = true := by subst h; rfl
theorem infoDQ : (Tryz.prog.info? 27).map (·.size) = some 9 := by kernel_rfl
theorem infoDC : (Tryz.prog.info? 64).map (·.size) = some 3 := by kernel_rfl
theorem five_in (w : World) (o1 o2 o3 o4 o5 : Obj) : Below w.heap.size w (((((w.alloc o1).alloc o2).alloc o3).alloc o4).alloc o5) ∧ (((((w.alloc o1).alloc o2).alloc o3).alloc o4).alloc o5).heap[w.heap.size]? = some o1 ∧ (((((w.alloc o1).alloc o2).alloc o3).alloc o4).alloc o5).heap[w.heap.size + 1]? = some o2 ∧ (((((w.alloc o1).alloc o2).alloc o3).alloc o4).alloc o5).heap[w.heap.size + 2]? = some o3 ∧ (((((w.alloc o1).alloc o2).alloc o3).alloc o4).alloc o5).heap[w.heap.size + 3]? = some o4 ∧ (((((w.alloc o1).alloc o2).alloc o3).alloc o4).alloc o5).heap[w.heap.size + 4]? = some o5 := by
  have h3 := three_in w o1 o2 o3
  generalize hV : ((w.alloc o1).alloc o2).alloc o3 = V at *
  have hs : V.heap.size = w.heap.size + 3 := by rw [← hV]; simp
  have h2 := two_in V o4 o5
  have hb : Below V.heap.size V ((V.alloc o4).alloc o5) := ((Below.refl _ _).alloc (Nat.le_refl _) _).alloc (by simp) _
  rw [hs] at h2
  exact ⟨below_to h3.2.2.2 hb, below_box h3.1 hb, below_box h3.2.1 hb, below_box h3.2.2.1 hb, h2.1, h2.2⟩
/-- while the document's Fetch runs -/
def Dx (w V : World) (va : Option Addr) (nn vc : Nat) (s : Int) (D A U : Nat) (rd : Bool) (fe us : Nat) (ev al : Bool) (c4 c6 : Array Value) : Prop :=
  Below w.heap.size w V ∧ V.heap[w.heap.size]? = some (.cells #[.int .u64 8192, .slice va nn vc] 33 (0, 0)) ∧ V.heap[w.heap.size + 1]? = some (.cells #[.int .i64 s, .int .u64 (D : Int), .int .u64 (A : Int), .int .u64 (U : Int), .bool rd, .int .i64 (fe : Int), .int .i64 (us : Int), .bool ev, .bool al] 27 (0, 0)) ∧ V.heap[w.heap.size + 2]? = some (.cells c4 27 (0, 0)) ∧ V.heap[w.heap.size + 3]? = some (.cells c6 64 (0, 0)) ∧ V.heap[w.heap.size + 4]? = some (.cells #[.slice none 0 0, .int .u64 0, .int .u64 0] 64 (0, 0))
section
variable {w V V2 : World} {va : Option Addr} {nn vc : Nat} {s : Int} {D A U : Nat} {rd ev al : Bool} {fe us : Nat} {c4 c6 : Array Value}
theorem dx_new : Dx w (((((w.alloc (.cells #[.int .u64 8192, .slice va nn vc] 33)).alloc (.cells #[.int .i64 s, .int .u64 (D : Int), .int .u64 (A : Int), .int .u64 (U : Int), .bool rd, .int .i64 (fe : Int), .int .i64 (us : Int), .bool ev, .bool al] 27)).alloc (.cells #[.int .i64 0, .int .u64 0, .int .u64 0, .int .u64 0, .bool false, .int .i64 0, .int .i64 0, .bool false, .bool false] 27)).alloc (.cells #[.slice none 0 0, .int .u64 0, .int .u64 0] 64)).alloc (.cells #[.slice none 0 0, .int .u64 0, .int .u64 0] 64)) va nn vc s D A U rd fe us ev al #[.int .i64 0, .int .u64 0, .int .u64 0, .int .u64 0, .bool false, .int .i64 0, .int .i64 0, .bool false, .bool false] #[.slice none 0 0, .int .u64 0, .int .u64 0] := five_in w _ _ _ _ _
theorem Dx.below (h : Dx w V va nn vc s D A U rd fe us ev al c4 c6) (hb : Below V.heap.size V V2) : Dx w V2 va nn vc s D A U rd fe us ev al c4 c6 := ⟨below_to h.1 hb, below_box h.2.1 hb, below_box h.2.2.1 hb, below_box h.2.2.2.1 hb, below_box h.2.2.2.2.1 hb, below_box h.2.2.2.2.2 hb⟩
theorem Dx.set4 (h : Dx w V va nn vc s D A U rd fe us ev al c4 c6) (c : Array Value) : Dx w (V.setRow (w.heap.size + 2) c) va nn vc s D A U rd fe us ev al c c6 := ⟨below_setRow h.1 (by omega) _, (setRow_other _ _ _ _ (by omega)).trans h.2.1, (setRow_other _ _ _ _ (by omega)).trans h.2.2.1, setRow_heap _ _ _ _ _ _ h.2.2.2.1, (setRow_other _ _ _ _ (by omega)).trans h.2.2.2.2.1, (setRow_other _ _ _ _ (by omega)).trans h.2.2.2.2.2⟩
theorem Dx.set6 (h : Dx w V va nn vc s D A U rd fe us ev al c4 c6) (c : Array Value) : Dx w (V.setRow (w.heap.size + 3) c) va nn vc s D A U rd fe us ev al c4 c := ⟨below_setRow h.1 (by omega) _, (setRow_other _ _ _ _ (by omega)).trans h.2.1, (setRow_other _ _ _ _ (by omega)).trans h.2.2.1, (setRow_other _ _ _ _ (by omega)).trans h.2.2.2.1, setRow_heap _ _ _ _ _ _ h.2.2.2.2.1, (setRow_other _ _ _ _ (by omega)).trans h.2.2.2.2.2⟩
theorem Dx.one (h : Dx w V va nn vc s D A U rd fe us ev al c4 c6) (f : Nat) : Dx w (V.setCell ⟨w.heap.size + 1, 5, none⟩ (.int .i64 (f : Int))) va nn vc s D A U rd f us ev al c4 c6 := ⟨h.1.setCell (p := ⟨w.heap.size + 1, 5, none⟩) (by show w.heap.size ≤ w.heap.size + 1; omega) _, (heap_setCell _ _ _ _ _ (by omega)).trans h.2.1, set_box h.2.2.1 5 _, (heap_setCell _ _ _ _ _ (by omega)).trans h.2.2.2.1, (heap_setCell _ _ _ _ _ (by omega)).trans h.2.2.2.2.1, (heap_setCell _ _ _ _ _ (by omega)).trans h.2.2.2.2.2⟩
end
theorem ref_ddesc {F : Nat → Prop} {w : World} {va : Option Addr} {nn vc : Nat} {bs : Nat → Nat × Nat} {M : Nat → Nat} (href : RefIn F w (.slice va nn vc) nn bs) (hgt : ∀ q, rget bs nn q = M q) (hle : ∀ a, M a ≤ 255) (hnn : nn ≤ 900000) : DDesc w va nn vc M := by
  intro V hV t i hi
  cases hb : deB t i with
  | false =>
    rw [deN_no hb]
    have hin : inB (deX t i) 16 2147483648 8192 = false := by simpa [deB, hi] using hb
    exact rdesc_out va nn vc t (deX t i) i hi rfl hin V
  | true =>
    have hin : inB (deX t i) 16 2147483648 8192 = true := by simp only [deB, Bool.and_eq_true, decide_eq_true_iff] at hb; exact hb.2
    exact rdesc_in (href.below hV) hgt hle (by omega) t (deX t i) i hi rfl hin _ _ _ _ (deN_at hb)
end Go.Proofs.YtmjdnocilbnoaaaGreat

/- The document's Fetch, where nothing comes. -/
namespace Go.Proofs.YtmjdnocilbnoaaaGreat
open Go.RowKit Go.Maps
set_option linter.unusedVariables false
set_option linter.unusedSimpArgs false
set_option maxRecDepth 100000
theorem dfetch_off {w : World} {va : Option Addr} {nn vc : Nat} {s : Int} {D A U : Nat} {ev al : Bool} {fe us : Nat} : Calls Tryz.prog 17 #[.agg #[.int .u64 8192, .slice va nn vc], .agg #[.int .i64 s, .int .u64 (D : Int), .int .u64 (A : Int), .int .u64 (U : Int), .bool false, .int .i64 (fe : Int), .int .i64 (us : Int), .bool ev, .bool al]] w fun r w' => r = .returned (.tuple #[.agg #[.int .i64 s, .int .u64 (D : Int), .int .u64 (A : Int), .int .u64 (U : Int), .bool false, .int .i64 (fe : Int), .int .i64 (us : Int), .bool ev, .bool al], .int .i64 (-1), .agg #[.slice none 0 0, .int .u64 0, .int .u64 0], .bool false, .int .i64 0]) ∧ Below w.heap.size w w' := by
  have XB : Hid (Dx w (((((w.alloc (.cells #[.int .u64 8192, .slice va nn vc] 33)).alloc (.cells #[.int .i64 s, .int .u64 (D : Int), .int .u64 (A : Int), .int .u64 (U : Int), .bool false, .int .i64 (fe : Int), .int .i64 (us : Int), .bool ev, .bool al] 27)).alloc (.cells #[.int .i64 0, .int .u64 0, .int .u64 0, .int .u64 0, .bool false, .int .i64 0, .int .i64 0, .bool false, .bool false] 27)).alloc (.cells #[.slice none 0 0, .int .u64 0, .int .u64 0] 64)).alloc (.cells #[.slice none 0 0, .int .u64 0, .int .u64 0] 64)) va nn vc s D A U false fe us ev al #[.int .i64 0, .int .u64 0, .int .u64 0, .int .u64 0, .bool false, .int .i64 0, .int .i64 0, .bool false, .bool false] #[.slice none 0 0, .int .u64 0, .int .u64 0]) := dx_new
  go_enter Tryz.func17, Tryz.ntmps17
  go_upto_region 2 with fail
  generalize ((((w.alloc (.cells #[.int .u64 8192, .slice va nn vc] 33)).alloc (.cells #[.int .i64 s, .int .u64 (D : Int), .int .u64 (A : Int), .int .u64 (U : Int), .bool false, .int .i64 (fe : Int), .int .i64 (us : Int), .bool ev, .bool al] 27)).alloc (.cells #[.int .i64 0, .int .u64 0, .int .u64 0, .int .u64 0, .bool false, .int .i64 0, .int .i64 0, .bool false, .bool false] 27)).alloc (.cells #[.slice none 0 0, .int .u64 0, .int .u64 0] 64)).alloc (.cells #[.slice none 0 0, .int .u64 0, .int .u64 0] 64) = v0 at *
  obtain ⟨c0, c1, c2, c3, c4, c5, c6, c7, c8⟩ := box9_facts XB.out.2.2.1
  go_upto_region 3 with fail
  clear c0 c1 c2 c3 c4 c5 c6 c7 c8
  have Xd : Hid (Dx w v0.drew va nn vc s D A U false fe us ev al #[.int .i64 0, .int .u64 0, .int .u64 0, .int .u64 0, .bool false, .int .i64 0, .int .i64 0, .bool false, .bool false] #[.slice none 0 0, .int .u64 0, .int .u64 0]) := XB.out.below (Below.drew (Below.refl _ _))
  refine wp_region_held_drew (S := fun Z => Z.cell? ⟨w.heap.size + 1, 0, none⟩ = some (.int .i64 s) ∧ Z.cell? ⟨w.heap.size + 1, 1, none⟩ = some (.int .u64 (D : Int)) ∧ Z.cell? ⟨w.heap.size + 1, 2, none⟩ = some (.int .u64 (A : Int)) ∧ Z.cell? ⟨w.heap.size + 1, 3, none⟩ = some (.int .u64 (U : Int)) ∧ Z.cell? ⟨w.heap.size + 1, 4, none⟩ = some (.bool false) ∧ Z.cell? ⟨w.heap.size + 1, 5, none⟩ = some (.int .i64 (fe : Int)) ∧ Z.cell? ⟨w.heap.size + 1, 6, none⟩ = some (.int .i64 (us : Int)) ∧ Z.cell? ⟨w.heap.size + 1, 7, none⟩ = some (.bool ev) ∧ Z.cell? ⟨w.heap.size + 1, 8, none⟩ = some (.bool al) ∧ Z.cell? ⟨w.heap.size + 4, 0, none⟩ = some (.slice none 0 0) ∧ Z.cell? ⟨w.heap.size + 4, 1, none⟩ = some (.int .u64 0) ∧ Z.cell? ⟨w.heap.size + 4, 2, none⟩ = some (.int .u64 0)) (by kernel_rfl) ⟨cellOf Xd.out.2.2.1 0 _ rfl, cellOf Xd.out.2.2.1 1 _ rfl, cellOf Xd.out.2.2.1 2 _ rfl, cellOf Xd.out.2.2.1 3 _ rfl, cellOf Xd.out.2.2.1 4 _ rfl, cellOf Xd.out.2.2.1 5 _ rfl, cellOf Xd.out.2.2.1 6 _ rfl, cellOf Xd.out.2.2.1 7 _ rfl, cellOf Xd.out.2.2.1 8 _ rfl, cellOf Xd.out.2.2.2.2.2 0 _ rfl, cellOf Xd.out.2.2.2.2.2 1 _ rfl, cellOf Xd.out.2.2.2.2.2 2 _ rfl⟩ ?_
  intro hS
  clear XB
  generalize v0.drew = wd at *
  refine wpAnyH_take (i := 0) (v := ?_) rfl (by kernel_rfl) (by kernel_rfl) (by kernel_rfl) (fun _ _ _ h => h) (Or.inl ⟨by kernel_rfl, ?_⟩) hS ?_
  rotate_left
  · intro w hSw; (try dsimp only at hSw); go_simp; try (with_reducible rfl)
  (try simp only [Act.put, List.getElem_toArray, List.getElem_cons_succ, List.getElem_cons_zero, List.setIfInBounds_toArray, List.set_cons_zero, List.set_cons_succ])
  refine wpAnyH_take (i := 1) (v := ?_) rfl (by kernel_rfl) (by kernel_rfl) (by kernel_rfl) (fun _ _ _ h => h) (Or.inl ⟨by kernel_rfl, ?_⟩) hS ?_
  rotate_left
  · intro w hSw; (try dsimp only at hSw); go_simp; try (with_reducible rfl)
  (try simp only [Act.put, List.getElem_toArray, List.getElem_cons_succ, List.getElem_cons_zero, List.setIfInBounds_toArray, List.set_cons_zero, List.set_cons_succ])
  refine wpAnyH_ready (rs := [2]) (by kernel_rfl) (by simp) ?_
  refine AllReadyH.cons rfl (fun K1 hK1 => ?_) AllReadyH.nil
  rw [if_pos (by kernel_rfl)]
  refine wp_store_row 27 _ _ rfl (w.heap.size + 2) #[.int .i64 s, .int .u64 (D : Int), .int .u64 (A : Int), .int .u64 (U : Int), .bool false, .int .i64 (fe : Int), .int .i64 (us : Int), .bool ev, .bool al] rfl rfl 27 #[.int .i64 0, .int .u64 0, .int .u64 0, .int .u64 0, .bool false, .int .i64 0, .int .i64 0, .bool false, .bool false] Xd.out.2.2.2.1 infoDQ rfl (by simp [Value.oneCell']) ?_
  have Y4 : Hid (Dx w (wd.setRow (w.heap.size + 2) #[.int .i64 s, .int .u64 (D : Int), .int .u64 (A : Int), .int .u64 (U : Int), .bool false, .int .i64 (fe : Int), .int .i64 (us : Int), .bool ev, .bool al]) va nn vc s D A U false fe us ev al #[.int .i64 s, .int .u64 (D : Int), .int .u64 (A : Int), .int .u64 (U : Int), .bool false, .int .i64 (fe : Int), .int .i64 (us : Int), .bool ev, .bool al] #[.slice none 0 0, .int .u64 0, .int .u64 0]) := Xd.out.set4 _
  clear Xd
  generalize wd.setRow (w.heap.size + 2) #[.int .i64 s, .int .u64 (D : Int), .int .u64 (A : Int), .int .u64 (U : Int), .bool false, .int .i64 (fe : Int), .int .i64 (us : Int), .bool ev, .bool al] = w4 at *
  refine hK1.out _ _ ⟨cellOf Y4.out.2.2.1 0 _ rfl, cellOf Y4.out.2.2.1 1 _ rfl, cellOf Y4.out.2.2.1 2 _ rfl, cellOf Y4.out.2.2.1 3 _ rfl, cellOf Y4.out.2.2.1 4 _ rfl, cellOf Y4.out.2.2.1 5 _ rfl, cellOf Y4.out.2.2.1 6 _ rfl, cellOf Y4.out.2.2.1 7 _ rfl, cellOf Y4.out.2.2.1 8 _ rfl, cellOf Y4.out.2.2.2.2.2 0 _ rfl, cellOf Y4.out.2.2.2.2.2 1 _ rfl, cellOf Y4.out.2.2.2.2.2 2 _ rfl⟩ (fun h4 => ?_)
  clear hK1 K1 hS
  (try simp only [Act.put, List.getElem_toArray, List.getElem_cons_succ, List.getElem_cons_zero, List.setIfInBounds_toArray, List.set_cons_zero, List.set_cons_succ])
  refine wpAnyH_take (i := 3) (v := ?_) rfl (by kernel_rfl) (by kernel_rfl) (by kernel_rfl) (fun _ _ _ h => h) (Or.inl ⟨by kernel_rfl, ?_⟩) h4 ?_
  rotate_left
  · intro w hSw; (try dsimp only at hSw); go_simp; try (with_reducible rfl)
  (try simp only [Act.put, List.getElem_toArray, List.getElem_cons_succ, List.getElem_cons_zero, List.setIfInBounds_toArray, List.set_cons_zero, List.set_cons_succ])
  refine wpAnyH_ready (rs := [4]) (by kernel_rfl) (by simp) ?_
  refine AllReadyH.cons rfl (fun K1 hK1 => ?_) AllReadyH.nil
  rw [if_pos (by kernel_rfl)]
  refine wp_store_row 64 _ _ rfl (w.heap.size + 3) #[.slice none 0 0, .int .u64 0, .int .u64 0] rfl rfl 64 #[.slice none 0 0, .int .u64 0, .int .u64 0] Y4.out.2.2.2.2.1 infoDC rfl (by simp [Value.oneCell']) ?_
  have Y5 : Hid (Dx w (w4.setRow (w.heap.size + 3) #[.slice none 0 0, .int .u64 0, .int .u64 0]) va nn vc s D A U false fe us ev al #[.int .i64 s, .int .u64 (D : Int), .int .u64 (A : Int), .int .u64 (U : Int), .bool false, .int .i64 (fe : Int), .int .i64 (us : Int), .bool ev, .bool al] #[.slice none 0 0, .int .u64 0, .int .u64 0]) := Y4.out.set6 _
  clear Y4
  generalize w4.setRow (w.heap.size + 3) #[.slice none 0 0, .int .u64 0, .int .u64 0] = w5 at *
  refine hK1.out _ _ ⟨cellOf Y5.out.2.2.1 0 _ rfl, cellOf Y5.out.2.2.1 1 _ rfl, cellOf Y5.out.2.2.1 2 _ rfl, cellOf Y5.out.2.2.1 3 _ rfl, cellOf Y5.out.2.2.1 4 _ rfl, cellOf Y5.out.2.2.1 5 _ rfl, cellOf Y5.out.2.2.1 6 _ rfl, cellOf Y5.out.2.2.1 7 _ rfl, cellOf Y5.out.2.2.1 8 _ rfl, cellOf Y5.out.2.2.2.2.2 0 _ rfl, cellOf Y5.out.2.2.2.2.2 1 _ rfl, cellOf Y5.out.2.2.2.2.2 2 _ rfl⟩ (fun h5 => ?_)
  clear hK1 K1 h4
  (try simp only [Act.put, List.getElem_toArray, List.getElem_cons_succ, List.getElem_cons_zero, List.setIfInBounds_toArray, List.set_cons_zero, List.set_cons_succ])
  refine wpAnyH_take (i := 5) (v := ?_) rfl (by kernel_rfl) (by kernel_rfl) (by kernel_rfl) (fun _ _ _ h => h) (Or.inl ⟨by kernel_rfl, ?_⟩) h5 ?_
  rotate_left
  · intro w hSw; (try dsimp only at hSw); go_simp; try (with_reducible rfl)
  (try simp only [Act.put, List.getElem_toArray, List.getElem_cons_succ, List.getElem_cons_zero, List.setIfInBounds_toArray, List.set_cons_zero, List.set_cons_succ])
  refine wpAnyH_take (i := 6) (v := ?_) rfl (by kernel_rfl) (by kernel_rfl) (by kernel_rfl) (fun _ _ _ h => h) (Or.inl ⟨by kernel_rfl, ?_⟩) h5 ?_
  rotate_left
  · intro w hSw; (try dsimp only at hSw); go_simp; try (with_reducible rfl)
  (try simp only [Act.put, List.getElem_toArray, List.getElem_cons_succ, List.getElem_cons_zero, List.setIfInBounds_toArray, List.set_cons_zero, List.set_cons_succ])
  refine wpAnyH_done (by kernel_rfl) ?_ _
  clear h5
  obtain ⟨k0, k1, k2, k3, k4, k5, k6, k7, k8⟩ := box9_facts Y5.out.2.2.2.1
  obtain ⟨m0, m1, m2⟩ := box3_facts Y5.out.2.2.2.2.1
  go_wp2_with fail
  refine bodyPost_ret (v := .tuple #[.agg #[.int .i64 s, .int .u64 (D : Int), .int .u64 (A : Int), .int .u64 (U : Int), .bool false, .int .i64 (fe : Int), .int .i64 (us : Int), .bool ev, .bool al], .int .i64 (-1), .agg #[.slice none 0 0, .int .u64 0, .int .u64 0], .bool false, .int .i64 0]) (by simp [results, Tryz.results17, go_sem, k0, k1, k2, k3, k4, k5, k6, k7, k8, m0, m1, m2]) rfl ?_
  exact ⟨rfl, Y5.out.1⟩

theorem dfetch_chk {w : World} {va : Option Addr} {nn vc : Nat} {s : Int} {D A U : Nat} {ev al : Bool} {fe us : Nat} (hD : D < 18446744073709551616) (hA : A < 18446744073709551616) (hU : U < 18446744073709551616) (hc : chkN s D A U 8192 ≠ 0) : Calls Tryz.prog 17 #[.agg #[.int .u64 8192, .slice va nn vc], .agg #[.int .i64 s, .int .u64 (D : Int), .int .u64 (A : Int), .int .u64 (U : Int), .bool true, .int .i64 (fe : Int), .int .i64 (us : Int), .bool ev, .bool al]] w fun r w' => r = .returned (.tuple #[.agg #[.int .i64 s, .int .u64 (D : Int), .int .u64 (A : Int), .int .u64 (U : Int), .bool true, .int .i64 (fe : Int), .int .i64 (us : Int), .bool ev, .bool al], .int .i64 (-1), .agg #[.slice none 0 0, .int .u64 0, .int .u64 0], .bool false, .int .i64 (chkN s D A U 8192)]) ∧ Below w.heap.size w w' := by
  have XB : Hid (Dx w (((((w.alloc (.cells #[.int .u64 8192, .slice va nn vc] 33)).alloc (.cells #[.int .i64 s, .int .u64 (D : Int), .int .u64 (A : Int), .int .u64 (U : Int), .bool true, .int .i64 (fe : Int), .int .i64 (us : Int), .bool ev, .bool al] 27)).alloc (.cells #[.int .i64 0, .int .u64 0, .int .u64 0, .int .u64 0, .bool false, .int .i64 0, .int .i64 0, .bool false, .bool false] 27)).alloc (.cells #[.slice none 0 0, .int .u64 0, .int .u64 0] 64)).alloc (.cells #[.slice none 0 0, .int .u64 0, .int .u64 0] 64)) va nn vc s D A U true fe us ev al #[.int .i64 0, .int .u64 0, .int .u64 0, .int .u64 0, .bool false, .int .i64 0, .int .i64 0, .bool false, .bool false] #[.slice none 0 0, .int .u64 0, .int .u64 0]) := dx_new
  obtain ⟨ce, hce⟩ : ∃ ce, chkN s D A U 8192 = ce := ⟨_, rfl⟩
  have HC : Hid (D < 18446744073709551616 ∧ A < 18446744073709551616 ∧ U < 18446744073709551616 ∧ chkN s D A U 8192 = ce) := ⟨hD, hA, hU, hce⟩
  rw [hce] at hc ⊢
  have q1 : (ce != 0) = true := by simp [hc]
  clear hD hA hU hce hc
  go_enter Tryz.func17, Tryz.ntmps17
  go_upto_region 2 with fail
  generalize ((((w.alloc (.cells #[.int .u64 8192, .slice va nn vc] 33)).alloc (.cells #[.int .i64 s, .int .u64 (D : Int), .int .u64 (A : Int), .int .u64 (U : Int), .bool true, .int .i64 (fe : Int), .int .i64 (us : Int), .bool ev, .bool al] 27)).alloc (.cells #[.int .i64 0, .int .u64 0, .int .u64 0, .int .u64 0, .bool false, .int .i64 0, .int .i64 0, .bool false, .bool false] 27)).alloc (.cells #[.slice none 0 0, .int .u64 0, .int .u64 0] 64)).alloc (.cells #[.slice none 0 0, .int .u64 0, .int .u64 0] 64) = v0 at *
  obtain ⟨c0, c1, c2, c3, c4, c5, c6, c7, c8⟩ := box9_facts XB.out.2.2.1
  obtain ⟨r0, r1, _, _⟩ := box_facts XB.out.2.1
  go_upto_region 6 with (go_at_call 20; refine (rcheck_any HC.out.1 HC.out.2.1 HC.out.2.2.1 8192 (by omega) va nn vc _).mono ?_; rintro e w1 ⟨rfl, hb1⟩; rw [HC.out.2.2.2]; have X1 : Hid (Dx w w1 va nn vc s D A U true fe us ev al #[.int .i64 0, .int .u64 0, .int .u64 0, .int .u64 0, .bool false, .int .i64 0, .int .i64 0, .bool false, .bool false] #[.slice none 0 0, .int .u64 0, .int .u64 0]) := XB.out.below hb1; clear hb1 XB c0 c1 c2 c3 c4 c5 c6 c7 c8 r0 r1)
  have Xd : Hid (Dx w w1.drew va nn vc s D A U true fe us ev al #[.int .i64 0, .int .u64 0, .int .u64 0, .int .u64 0, .bool false, .int .i64 0, .int .i64 0, .bool false, .bool false] #[.slice none 0 0, .int .u64 0, .int .u64 0]) := X1.out.below (Below.drew (Below.refl _ _))
  refine wp_region_held_drew (S := fun Z => Z.cell? ⟨w.heap.size + 1, 0, none⟩ = some (.int .i64 s) ∧ Z.cell? ⟨w.heap.size + 1, 1, none⟩ = some (.int .u64 (D : Int)) ∧ Z.cell? ⟨w.heap.size + 1, 2, none⟩ = some (.int .u64 (A : Int)) ∧ Z.cell? ⟨w.heap.size + 1, 3, none⟩ = some (.int .u64 (U : Int)) ∧ Z.cell? ⟨w.heap.size + 1, 4, none⟩ = some (.bool true) ∧ Z.cell? ⟨w.heap.size + 1, 5, none⟩ = some (.int .i64 (fe : Int)) ∧ Z.cell? ⟨w.heap.size + 1, 6, none⟩ = some (.int .i64 (us : Int)) ∧ Z.cell? ⟨w.heap.size + 1, 7, none⟩ = some (.bool ev) ∧ Z.cell? ⟨w.heap.size + 1, 8, none⟩ = some (.bool al) ∧ Z.cell? ⟨w.heap.size + 4, 0, none⟩ = some (.slice none 0 0) ∧ Z.cell? ⟨w.heap.size + 4, 1, none⟩ = some (.int .u64 0) ∧ Z.cell? ⟨w.heap.size + 4, 2, none⟩ = some (.int .u64 0)) (by kernel_rfl) ⟨cellOf Xd.out.2.2.1 0 _ rfl, cellOf Xd.out.2.2.1 1 _ rfl, cellOf Xd.out.2.2.1 2 _ rfl, cellOf Xd.out.2.2.1 3 _ rfl, cellOf Xd.out.2.2.1 4 _ rfl, cellOf Xd.out.2.2.1 5 _ rfl, cellOf Xd.out.2.2.1 6 _ rfl, cellOf Xd.out.2.2.1 7 _ rfl, cellOf Xd.out.2.2.1 8 _ rfl, cellOf Xd.out.2.2.2.2.2 0 _ rfl, cellOf Xd.out.2.2.2.2.2 1 _ rfl, cellOf Xd.out.2.2.2.2.2 2 _ rfl⟩ ?_
  intro hS
  clear X1
  generalize w1.drew = wd at *
  refine wpAnyH_take (i := 0) (v := ?_) rfl (by kernel_rfl) (by kernel_rfl) (by kernel_rfl) (fun _ _ _ h => h) (Or.inl ⟨by kernel_rfl, ?_⟩) hS ?_
  rotate_left
  · intro w hSw; (try dsimp only at hSw); go_simp; try (with_reducible rfl)
  (try simp only [Act.put, List.getElem_toArray, List.getElem_cons_succ, List.getElem_cons_zero, List.setIfInBounds_toArray, List.set_cons_zero, List.set_cons_succ])
  refine wpAnyH_take (i := 1) (v := ?_) rfl (by kernel_rfl) (by kernel_rfl) (by kernel_rfl) (fun _ _ _ h => h) (Or.inl ⟨by kernel_rfl, ?_⟩) hS ?_
  rotate_left
  · intro w hSw; (try dsimp only at hSw); go_simp; try (with_reducible rfl)
  (try simp only [Act.put, List.getElem_toArray, List.getElem_cons_succ, List.getElem_cons_zero, List.setIfInBounds_toArray, List.set_cons_zero, List.set_cons_succ])
  refine wpAnyH_take (i := 2) (v := ?_) rfl (by kernel_rfl) (by kernel_rfl) (by kernel_rfl) (fun _ _ _ h => h) (Or.inl ⟨by kernel_rfl, ?_⟩) hS ?_
  rotate_left
  · intro w hSw; (try dsimp only at hSw); go_simp; try (with_reducible rfl)
  (try simp only [Act.put, List.getElem_toArray, List.getElem_cons_succ, List.getElem_cons_zero, List.setIfInBounds_toArray, List.set_cons_zero, List.set_cons_succ])
  refine wpAnyH_ready (rs := [3]) (by kernel_rfl) (by simp) ?_
  refine AllReadyH.cons rfl (fun K1 hK1 => ?_) AllReadyH.nil
  rw [if_pos (by kernel_rfl)]
  refine wp_store_row 27 _ _ rfl (w.heap.size + 2) #[.int .i64 s, .int .u64 (D : Int), .int .u64 (A : Int), .int .u64 (U : Int), .bool true, .int .i64 (fe : Int), .int .i64 (us : Int), .bool ev, .bool al] rfl rfl 27 #[.int .i64 0, .int .u64 0, .int .u64 0, .int .u64 0, .bool false, .int .i64 0, .int .i64 0, .bool false, .bool false] Xd.out.2.2.2.1 infoDQ rfl (by simp [Value.oneCell']) ?_
  have Y4 : Hid (Dx w (wd.setRow (w.heap.size + 2) #[.int .i64 s, .int .u64 (D : Int), .int .u64 (A : Int), .int .u64 (U : Int), .bool true, .int .i64 (fe : Int), .int .i64 (us : Int), .bool ev, .bool al]) va nn vc s D A U true fe us ev al #[.int .i64 s, .int .u64 (D : Int), .int .u64 (A : Int), .int .u64 (U : Int), .bool true, .int .i64 (fe : Int), .int .i64 (us : Int), .bool ev, .bool al] #[.slice none 0 0, .int .u64 0, .int .u64 0]) := Xd.out.set4 _
  clear Xd
  generalize wd.setRow (w.heap.size + 2) #[.int .i64 s, .int .u64 (D : Int), .int .u64 (A : Int), .int .u64 (U : Int), .bool true, .int .i64 (fe : Int), .int .i64 (us : Int), .bool ev, .bool al] = w4 at *
  refine hK1.out _ _ ⟨cellOf Y4.out.2.2.1 0 _ rfl, cellOf Y4.out.2.2.1 1 _ rfl, cellOf Y4.out.2.2.1 2 _ rfl, cellOf Y4.out.2.2.1 3 _ rfl, cellOf Y4.out.2.2.1 4 _ rfl, cellOf Y4.out.2.2.1 5 _ rfl, cellOf Y4.out.2.2.1 6 _ rfl, cellOf Y4.out.2.2.1 7 _ rfl, cellOf Y4.out.2.2.1 8 _ rfl, cellOf Y4.out.2.2.2.2.2 0 _ rfl, cellOf Y4.out.2.2.2.2.2 1 _ rfl, cellOf Y4.out.2.2.2.2.2 2 _ rfl⟩ (fun h4 => ?_)
  clear hK1 K1 hS
  (try simp only [Act.put, List.getElem_toArray, List.getElem_cons_succ, List.getElem_cons_zero, List.setIfInBounds_toArray, List.set_cons_zero, List.set_cons_succ])
  refine wpAnyH_take (i := 4) (v := ?_) rfl (by kernel_rfl) (by kernel_rfl) (by kernel_rfl) (fun _ _ _ h => h) (Or.inl ⟨by kernel_rfl, ?_⟩) h4 ?_
  rotate_left
  · intro w hSw; (try dsimp only at hSw); go_simp; try (with_reducible rfl)
  (try simp only [Act.put, List.getElem_toArray, List.getElem_cons_succ, List.getElem_cons_zero, List.setIfInBounds_toArray, List.set_cons_zero, List.set_cons_succ])
  refine wpAnyH_ready (rs := [5]) (by kernel_rfl) (by simp) ?_
  refine AllReadyH.cons rfl (fun K1 hK1 => ?_) AllReadyH.nil
  rw [if_pos (by kernel_rfl)]
  refine wp_store_row 64 _ _ rfl (w.heap.size + 3) #[.slice none 0 0, .int .u64 0, .int .u64 0] rfl rfl 64 #[.slice none 0 0, .int .u64 0, .int .u64 0] Y4.out.2.2.2.2.1 infoDC rfl (by simp [Value.oneCell']) ?_
  have Y5 : Hid (Dx w (w4.setRow (w.heap.size + 3) #[.slice none 0 0, .int .u64 0, .int .u64 0]) va nn vc s D A U true fe us ev al #[.int .i64 s, .int .u64 (D : Int), .int .u64 (A : Int), .int .u64 (U : Int), .bool true, .int .i64 (fe : Int), .int .i64 (us : Int), .bool ev, .bool al] #[.slice none 0 0, .int .u64 0, .int .u64 0]) := Y4.out.set6 _
  clear Y4
  generalize w4.setRow (w.heap.size + 3) #[.slice none 0 0, .int .u64 0, .int .u64 0] = w5 at *
  refine hK1.out _ _ ⟨cellOf Y5.out.2.2.1 0 _ rfl, cellOf Y5.out.2.2.1 1 _ rfl, cellOf Y5.out.2.2.1 2 _ rfl, cellOf Y5.out.2.2.1 3 _ rfl, cellOf Y5.out.2.2.1 4 _ rfl, cellOf Y5.out.2.2.1 5 _ rfl, cellOf Y5.out.2.2.1 6 _ rfl, cellOf Y5.out.2.2.1 7 _ rfl, cellOf Y5.out.2.2.1 8 _ rfl, cellOf Y5.out.2.2.2.2.2 0 _ rfl, cellOf Y5.out.2.2.2.2.2 1 _ rfl, cellOf Y5.out.2.2.2.2.2 2 _ rfl⟩ (fun h5 => ?_)
  clear hK1 K1 h4
  (try simp only [Act.put, List.getElem_toArray, List.getElem_cons_succ, List.getElem_cons_zero, List.setIfInBounds_toArray, List.set_cons_zero, List.set_cons_succ])
  refine wpAnyH_take (i := 6) (v := ?_) rfl (by kernel_rfl) (by kernel_rfl) (by kernel_rfl) (fun _ _ _ h => h) (Or.inl ⟨by kernel_rfl, ?_⟩) h5 ?_
  rotate_left
  · intro w hSw; (try dsimp only at hSw); go_simp; try (with_reducible rfl)
  (try simp only [Act.put, List.getElem_toArray, List.getElem_cons_succ, List.getElem_cons_zero, List.setIfInBounds_toArray, List.set_cons_zero, List.set_cons_succ])
  refine wpAnyH_take (i := 7) (v := ?_) rfl (by kernel_rfl) (by kernel_rfl) (by kernel_rfl) (fun _ _ _ h => h) (Or.inl ⟨by kernel_rfl, ?_⟩) h5 ?_
  rotate_left
  · intro w hSw; (try dsimp only at hSw); go_simp; try (with_reducible rfl)
  (try simp only [Act.put, List.getElem_toArray, List.getElem_cons_succ, List.getElem_cons_zero, List.setIfInBounds_toArray, List.set_cons_zero, List.set_cons_succ])
  refine wpAnyH_done (by kernel_rfl) ?_ _
  clear h5
  obtain ⟨k0, k1, k2, k3, k4, k5, k6, k7, k8⟩ := box9_facts Y5.out.2.2.2.1
  obtain ⟨m0, m1, m2⟩ := box3_facts Y5.out.2.2.2.2.1
  go_wp2_with fail
  refine bodyPost_ret (v := .tuple #[.agg #[.int .i64 s, .int .u64 (D : Int), .int .u64 (A : Int), .int .u64 (U : Int), .bool true, .int .i64 (fe : Int), .int .i64 (us : Int), .bool ev, .bool al], .int .i64 (-1), .agg #[.slice none 0 0, .int .u64 0, .int .u64 0], .bool false, .int .i64 ce]) (by simp [results, Tryz.results17, go_sem, k0, k1, k2, k3, k4, k5, k6, k7, k8, m0, m1, m2]) rfl ?_
  exact ⟨rfl, Y5.out.1⟩

theorem dfetch_wait {F : Nat → Prop} {w : World} {va : Option Addr} {nn vc : Nat} {bs : Nat → Nat × Nat} {M : Nat → Nat} (href : RefIn F w (.slice va nn vc) nn bs) (hgt : ∀ q, rget bs nn q = M q) (hle : ∀ a, M a ≤ 255) (hnn : nn ≤ 900000) {n D A U : Nat} {ev al : Bool} {fe us : Nat} (hg : Gd n D A U) (hfe : fe ≤ 65535) (hw : waitN M A fe = 0) : Calls Tryz.prog 17 #[.agg #[.int .u64 8192, .slice va nn vc], .agg #[.int .i64 (n : Int), .int .u64 (D : Int), .int .u64 (A : Int), .int .u64 (U : Int), .bool true, .int .i64 (fe : Int), .int .i64 (us : Int), .bool ev, .bool al]] w fun r w' => r = .returned (.tuple #[.agg #[.int .i64 (n : Int), .int .u64 (D : Int), .int .u64 (A : Int), .int .u64 (U : Int), .bool true, .int .i64 (fe : Int), .int .i64 (us : Int), .bool ev, .bool al], .int .i64 (-1), .agg #[.slice none 0 0, .int .u64 0, .int .u64 0], .bool false, .int .i64 0]) ∧ Below w.heap.size w w' := by
  have XB : Hid (Dx w (((((w.alloc (.cells #[.int .u64 8192, .slice va nn vc] 33)).alloc (.cells #[.int .i64 (n : Int), .int .u64 (D : Int), .int .u64 (A : Int), .int .u64 (U : Int), .bool true, .int .i64 (fe : Int), .int .i64 (us : Int), .bool ev, .bool al] 27)).alloc (.cells #[.int .i64 0, .int .u64 0, .int .u64 0, .int .u64 0, .bool false, .int .i64 0, .int .i64 0, .bool false, .bool false] 27)).alloc (.cells #[.slice none 0 0, .int .u64 0, .int .u64 0] 64)).alloc (.cells #[.slice none 0 0, .int .u64 0, .int .u64 0] 64)) va nn vc (n : Int) D A U true fe us ev al #[.int .i64 0, .int .u64 0, .int .u64 0, .int .u64 0, .bool false, .int .i64 0, .int .i64 0, .bool false, .bool false] #[.slice none 0 0, .int .u64 0, .int .u64 0]) := dx_new
  have HC : Hid (Gd n D A U ∧ fe ≤ 65535 ∧ RefIn F w (.slice va nn vc) nn bs ∧ (∀ q, rget bs nn q = M q) ∧ (∀ a, M a ≤ 255) ∧ nn ≤ 900000) := ⟨hg, hfe, href, hgt, hle, hnn⟩
  obtain ⟨of, hof⟩ : ∃ of, wordN M (A + 2) 2 8192 = of := ⟨_, rfl⟩
  have HO : Hid (wordN M (A + 2) 2 8192 = of) := hof
  obtain ⟨o1, o2, wt, hwt, e1, e2, e3, e4, e8, e9⟩ := wait_facts hof hle hfe
  have q1 : ((wt : Int) == 0) = true := int_eq0 (by rw [← hwt]; exact hw)
  clear href hgt hle hnn hfe hw hwt hof hg
  go_enter Tryz.func17, Tryz.ntmps17
  go_upto_region 2 with fail
  generalize ((((w.alloc (.cells #[.int .u64 8192, .slice va nn vc] 33)).alloc (.cells #[.int .i64 (n : Int), .int .u64 (D : Int), .int .u64 (A : Int), .int .u64 (U : Int), .bool true, .int .i64 (fe : Int), .int .i64 (us : Int), .bool ev, .bool al] 27)).alloc (.cells #[.int .i64 0, .int .u64 0, .int .u64 0, .int .u64 0, .bool false, .int .i64 0, .int .i64 0, .bool false, .bool false] 27)).alloc (.cells #[.slice none 0 0, .int .u64 0, .int .u64 0] 64)).alloc (.cells #[.slice none 0 0, .int .u64 0, .int .u64 0] 64) = v0 at *
  obtain ⟨c0, c1, c2, c3, c4, c5, c6, c7, c8⟩ := box9_facts XB.out.2.2.1
  obtain ⟨r0, r1, _, _⟩ := box_facts XB.out.2.1
  go_upto_region 7 with (go_at_call 20; refine (rcheck_any HC.out.1.d1 (gd_bounds HC.out.1).2.1 (gd_bounds HC.out.1).2.2 8192 (by omega) va nn vc _).mono ?_; rintro e w1 ⟨rfl, hb1⟩; rw [HC.out.1.chk]; have X1 : Hid (Dx w w1 va nn vc (n : Int) D A U true fe us ev al #[.int .i64 0, .int .u64 0, .int .u64 0, .int .u64 0, .bool false, .int .i64 0, .int .i64 0, .bool false, .bool false] #[.slice none 0 0, .int .u64 0, .int .u64 0]) := XB.out.below hb1; clear hb1 XB c0 c1 c2 c3 c4 c5 c6 c7 c8 r0 r1; obtain ⟨c0, c1, c2, c3, c4, c5, c6, c7, c8⟩ := box9_facts X1.out.2.2.1; obtain ⟨r0, r1, _, _⟩ := box_facts X1.out.2.1)
  have X2 : Hid (Dx w w1.drew va nn vc (n : Int) D A U true fe us ev al #[.int .i64 0, .int .u64 0, .int .u64 0, .int .u64 0, .bool false, .int .i64 0, .int .i64 0, .bool false, .bool false] #[.slice none 0 0, .int .u64 0, .int .u64 0]) := X1.out.below (Below.drew (Below.refl _ _))
  go_region_held3 (fun Z => Z.cell? ⟨w.heap.size + 1, 0, none⟩ = some (.int .i64 (n : Int)) ∧ Z.cell? ⟨w.heap.size + 1, 1, none⟩ = some (.int .u64 (D : Int)) ∧ Z.cell? ⟨w.heap.size + 1, 2, none⟩ = some (.int .u64 (A : Int)) ∧ Z.cell? ⟨w.heap.size + 1, 3, none⟩ = some (.int .u64 (U : Int)) ∧ Z.cell? ⟨w.heap.size + 1, 4, none⟩ = some (.bool true) ∧ Z.cell? ⟨w.heap.size + 1, 5, none⟩ = some (.int .i64 (fe : Int)) ∧ Z.cell? ⟨w.heap.size + 1, 6, none⟩ = some (.int .i64 (us : Int)) ∧ Z.cell? ⟨w.heap.size + 1, 7, none⟩ = some (.bool ev) ∧ Z.cell? ⟨w.heap.size + 1, 8, none⟩ = some (.bool al) ∧ Z.cell? ⟨w.heap.size, 0, none⟩ = some (.int .u64 8192) ∧ Z.cell? ⟨w.heap.size, 1, none⟩ = some (.slice va nn vc)) (go_keep) (first | (go_at_call 47; refine (roffered_any (HC.out.2.2.1.below X2.out.1) HC.out.2.2.2.1 HC.out.2.2.2.2.1 (by have := HC.out.2.2.2.2.2; omega) HC.out.1).mono ?_; rintro e w2 ⟨rfl, hb2⟩; rw [HO.out]; have X3 : Hid (Dx w w2 va nn vc (n : Int) D A U true fe us ev al #[.int .i64 0, .int .u64 0, .int .u64 0, .int .u64 0, .bool false, .int .i64 0, .int .i64 0, .bool false, .bool false] #[.slice none 0 0, .int .u64 0, .int .u64 0]) := X2.out.below hb2; clear hb2; obtain ⟨d0, d1, d2, d3, d4, d5, d6, d7, d8⟩ := box9_facts X3.out.2.2.1; obtain ⟨s0, s1, _, _⟩ := box_facts X3.out.2.1))
  clear X1 X2 c0 c1 c2 c3 c4 c5 c6 c7 c8 r0 r1
  clear d0 d1 d2 d3 d4 d5 d6 d7 d8 s0 s1
  go_upto_region 9 with fail
  have Xd : Hid (Dx w w2.drew va nn vc (n : Int) D A U true fe us ev al #[.int .i64 0, .int .u64 0, .int .u64 0, .int .u64 0, .bool false, .int .i64 0, .int .i64 0, .bool false, .bool false] #[.slice none 0 0, .int .u64 0, .int .u64 0]) := X3.out.below (Below.drew (Below.refl _ _))
  refine wp_region_held_drew (S := fun Z => Z.cell? ⟨w.heap.size + 1, 0, none⟩ = some (.int .i64 (n : Int)) ∧ Z.cell? ⟨w.heap.size + 1, 1, none⟩ = some (.int .u64 (D : Int)) ∧ Z.cell? ⟨w.heap.size + 1, 2, none⟩ = some (.int .u64 (A : Int)) ∧ Z.cell? ⟨w.heap.size + 1, 3, none⟩ = some (.int .u64 (U : Int)) ∧ Z.cell? ⟨w.heap.size + 1, 4, none⟩ = some (.bool true) ∧ Z.cell? ⟨w.heap.size + 1, 5, none⟩ = some (.int .i64 (fe : Int)) ∧ Z.cell? ⟨w.heap.size + 1, 6, none⟩ = some (.int .i64 (us : Int)) ∧ Z.cell? ⟨w.heap.size + 1, 7, none⟩ = some (.bool ev) ∧ Z.cell? ⟨w.heap.size + 1, 8, none⟩ = some (.bool al) ∧ Z.cell? ⟨w.heap.size + 4, 0, none⟩ = some (.slice none 0 0) ∧ Z.cell? ⟨w.heap.size + 4, 1, none⟩ = some (.int .u64 0) ∧ Z.cell? ⟨w.heap.size + 4, 2, none⟩ = some (.int .u64 0)) (by kernel_rfl) ⟨cellOf Xd.out.2.2.1 0 _ rfl, cellOf Xd.out.2.2.1 1 _ rfl, cellOf Xd.out.2.2.1 2 _ rfl, cellOf Xd.out.2.2.1 3 _ rfl, cellOf Xd.out.2.2.1 4 _ rfl, cellOf Xd.out.2.2.1 5 _ rfl, cellOf Xd.out.2.2.1 6 _ rfl, cellOf Xd.out.2.2.1 7 _ rfl, cellOf Xd.out.2.2.1 8 _ rfl, cellOf Xd.out.2.2.2.2.2 0 _ rfl, cellOf Xd.out.2.2.2.2.2 1 _ rfl, cellOf Xd.out.2.2.2.2.2 2 _ rfl⟩ ?_
  intro hS
  clear X3
  generalize w2.drew = wd at *
  refine wpAnyH_take (i := 0) (v := ?_) rfl (by kernel_rfl) (by kernel_rfl) (by kernel_rfl) (fun _ _ _ h => h) (Or.inl ⟨by kernel_rfl, ?_⟩) hS ?_
  rotate_left
  · intro w hSw; (try dsimp only at hSw); go_simp; try (with_reducible rfl)
  (try simp only [Act.put, List.getElem_toArray, List.getElem_cons_succ, List.getElem_cons_zero, List.setIfInBounds_toArray, List.set_cons_zero, List.set_cons_succ])
  refine wpAnyH_take (i := 1) (v := ?_) rfl (by kernel_rfl) (by kernel_rfl) (by kernel_rfl) (fun _ _ _ h => h) (Or.inl ⟨by kernel_rfl, ?_⟩) hS ?_
  rotate_left
  · intro w hSw; (try dsimp only at hSw); go_simp; try (with_reducible rfl)
  (try simp only [Act.put, List.getElem_toArray, List.getElem_cons_succ, List.getElem_cons_zero, List.setIfInBounds_toArray, List.set_cons_zero, List.set_cons_succ])
  refine wpAnyH_ready (rs := [2]) (by kernel_rfl) (by simp) ?_
  refine AllReadyH.cons rfl (fun K1 hK1 => ?_) AllReadyH.nil
  rw [if_pos (by kernel_rfl)]
  refine wp_store_row 27 _ _ rfl (w.heap.size + 2) #[.int .i64 (n : Int), .int .u64 (D : Int), .int .u64 (A : Int), .int .u64 (U : Int), .bool true, .int .i64 (fe : Int), .int .i64 (us : Int), .bool ev, .bool al] rfl rfl 27 #[.int .i64 0, .int .u64 0, .int .u64 0, .int .u64 0, .bool false, .int .i64 0, .int .i64 0, .bool false, .bool false] Xd.out.2.2.2.1 infoDQ rfl (by simp [Value.oneCell']) ?_
  have Y4 : Hid (Dx w (wd.setRow (w.heap.size + 2) #[.int .i64 (n : Int), .int .u64 (D : Int), .int .u64 (A : Int), .int .u64 (U : Int), .bool true, .int .i64 (fe : Int), .int .i64 (us : Int), .bool ev, .bool al]) va nn vc (n : Int) D A U true fe us ev al #[.int .i64 (n : Int), .int .u64 (D : Int), .int .u64 (A : Int), .int .u64 (U : Int), .bool true, .int .i64 (fe : Int), .int .i64 (us : Int), .bool ev, .bool al] #[.slice none 0 0, .int .u64 0, .int .u64 0]) := Xd.out.set4 _
  clear Xd
  generalize wd.setRow (w.heap.size + 2) #[.int .i64 (n : Int), .int .u64 (D : Int), .int .u64 (A : Int), .int .u64 (U : Int), .bool true, .int .i64 (fe : Int), .int .i64 (us : Int), .bool ev, .bool al] = w4 at *
  refine hK1.out _ _ ⟨cellOf Y4.out.2.2.1 0 _ rfl, cellOf Y4.out.2.2.1 1 _ rfl, cellOf Y4.out.2.2.1 2 _ rfl, cellOf Y4.out.2.2.1 3 _ rfl, cellOf Y4.out.2.2.1 4 _ rfl, cellOf Y4.out.2.2.1 5 _ rfl, cellOf Y4.out.2.2.1 6 _ rfl, cellOf Y4.out.2.2.1 7 _ rfl, cellOf Y4.out.2.2.1 8 _ rfl, cellOf Y4.out.2.2.2.2.2 0 _ rfl, cellOf Y4.out.2.2.2.2.2 1 _ rfl, cellOf Y4.out.2.2.2.2.2 2 _ rfl⟩ (fun h4 => ?_)
  clear hK1 K1 hS
  (try simp only [Act.put, List.getElem_toArray, List.getElem_cons_succ, List.getElem_cons_zero, List.setIfInBounds_toArray, List.set_cons_zero, List.set_cons_succ])
  refine wpAnyH_take (i := 3) (v := ?_) rfl (by kernel_rfl) (by kernel_rfl) (by kernel_rfl) (fun _ _ _ h => h) (Or.inl ⟨by kernel_rfl, ?_⟩) h4 ?_
  rotate_left
  · intro w hSw; (try dsimp only at hSw); go_simp; try (with_reducible rfl)
  (try simp only [Act.put, List.getElem_toArray, List.getElem_cons_succ, List.getElem_cons_zero, List.setIfInBounds_toArray, List.set_cons_zero, List.set_cons_succ])
  refine wpAnyH_ready (rs := [4]) (by kernel_rfl) (by simp) ?_
  refine AllReadyH.cons rfl (fun K1 hK1 => ?_) AllReadyH.nil
  rw [if_pos (by kernel_rfl)]
  refine wp_store_row 64 _ _ rfl (w.heap.size + 3) #[.slice none 0 0, .int .u64 0, .int .u64 0] rfl rfl 64 #[.slice none 0 0, .int .u64 0, .int .u64 0] Y4.out.2.2.2.2.1 infoDC rfl (by simp [Value.oneCell']) ?_
  have Y5 : Hid (Dx w (w4.setRow (w.heap.size + 3) #[.slice none 0 0, .int .u64 0, .int .u64 0]) va nn vc (n : Int) D A U true fe us ev al #[.int .i64 (n : Int), .int .u64 (D : Int), .int .u64 (A : Int), .int .u64 (U : Int), .bool true, .int .i64 (fe : Int), .int .i64 (us : Int), .bool ev, .bool al] #[.slice none 0 0, .int .u64 0, .int .u64 0]) := Y4.out.set6 _
  clear Y4
  generalize w4.setRow (w.heap.size + 3) #[.slice none 0 0, .int .u64 0, .int .u64 0] = w5 at *
  refine hK1.out _ _ ⟨cellOf Y5.out.2.2.1 0 _ rfl, cellOf Y5.out.2.2.1 1 _ rfl, cellOf Y5.out.2.2.1 2 _ rfl, cellOf Y5.out.2.2.1 3 _ rfl, cellOf Y5.out.2.2.1 4 _ rfl, cellOf Y5.out.2.2.1 5 _ rfl, cellOf Y5.out.2.2.1 6 _ rfl, cellOf Y5.out.2.2.1 7 _ rfl, cellOf Y5.out.2.2.1 8 _ rfl, cellOf Y5.out.2.2.2.2.2 0 _ rfl, cellOf Y5.out.2.2.2.2.2 1 _ rfl, cellOf Y5.out.2.2.2.2.2 2 _ rfl⟩ (fun h5 => ?_)
  clear hK1 K1 h4
  (try simp only [Act.put, List.getElem_toArray, List.getElem_cons_succ, List.getElem_cons_zero, List.setIfInBounds_toArray, List.set_cons_zero, List.set_cons_succ])
  refine wpAnyH_take (i := 5) (v := ?_) rfl (by kernel_rfl) (by kernel_rfl) (by kernel_rfl) (fun _ _ _ h => h) (Or.inl ⟨by kernel_rfl, ?_⟩) h5 ?_
  rotate_left
  · intro w hSw; (try dsimp only at hSw); go_simp; try (with_reducible rfl)
  (try simp only [Act.put, List.getElem_toArray, List.getElem_cons_succ, List.getElem_cons_zero, List.setIfInBounds_toArray, List.set_cons_zero, List.set_cons_succ])
  refine wpAnyH_take (i := 6) (v := ?_) rfl (by kernel_rfl) (by kernel_rfl) (by kernel_rfl) (fun _ _ _ h => h) (Or.inl ⟨by kernel_rfl, ?_⟩) h5 ?_
  rotate_left
  · intro w hSw; (try dsimp only at hSw); go_simp; try (with_reducible rfl)
  (try simp only [Act.put, List.getElem_toArray, List.getElem_cons_succ, List.getElem_cons_zero, List.setIfInBounds_toArray, List.set_cons_zero, List.set_cons_succ])
  refine wpAnyH_done (by kernel_rfl) ?_ _
  clear h5
  obtain ⟨k0, k1, k2, k3, k4, k5, k6, k7, k8⟩ := box9_facts Y5.out.2.2.2.1
  obtain ⟨m0, m1, m2⟩ := box3_facts Y5.out.2.2.2.2.1
  go_wp2_with fail
  refine bodyPost_ret (v := .tuple #[.agg #[.int .i64 (n : Int), .int .u64 (D : Int), .int .u64 (A : Int), .int .u64 (U : Int), .bool true, .int .i64 (fe : Int), .int .i64 (us : Int), .bool ev, .bool al], .int .i64 (-1), .agg #[.slice none 0 0, .int .u64 0, .int .u64 0], .bool false, .int .i64 0]) (by simp [results, Tryz.results17, go_sem, k0, k1, k2, k3, k4, k5, k6, k7, k8, m0, m1, m2]) rfl ?_
  exact ⟨rfl, Y5.out.1⟩

theorem dfetch_jmp {F : Nat → Prop} {w : World} {va : Option Addr} {nn vc : Nat} {bs : Nat → Nat × Nat} {M : Nat → Nat} (href : RefIn F w (.slice va nn vc) nn bs) (hgt : ∀ q, rget bs nn q = M q) (hle : ∀ a, M a ≤ 255) (hnn : nn ≤ 900000) {n D A U : Nat} {ev al : Bool} {fe us : Nat} (hg : Gd n D A U) (hfe : fe ≤ 65535) (hw : waitN M A fe ≠ 0) (hw2 : n < waitN M A fe) : Calls Tryz.prog 17 #[.agg #[.int .u64 8192, .slice va nn vc], .agg #[.int .i64 (n : Int), .int .u64 (D : Int), .int .u64 (A : Int), .int .u64 (U : Int), .bool true, .int .i64 (fe : Int), .int .i64 (us : Int), .bool ev, .bool al]] w fun r w' => r = .returned (.tuple #[.agg #[.int .i64 (n : Int), .int .u64 (D : Int), .int .u64 (A : Int), .int .u64 (U : Int), .bool true, .int .i64 (fe : Int), .int .i64 (us : Int), .bool ev, .bool al], .int .i64 (-1), .agg #[.slice none 0 0, .int .u64 0, .int .u64 0], .bool false, .int .i64 156]) ∧ Below w.heap.size w w' := by
  have XB : Hid (Dx w (((((w.alloc (.cells #[.int .u64 8192, .slice va nn vc] 33)).alloc (.cells #[.int .i64 (n : Int), .int .u64 (D : Int), .int .u64 (A : Int), .int .u64 (U : Int), .bool true, .int .i64 (fe : Int), .int .i64 (us : Int), .bool ev, .bool al] 27)).alloc (.cells #[.int .i64 0, .int .u64 0, .int .u64 0, .int .u64 0, .bool false, .int .i64 0, .int .i64 0, .bool false, .bool false] 27)).alloc (.cells #[.slice none 0 0, .int .u64 0, .int .u64 0] 64)).alloc (.cells #[.slice none 0 0, .int .u64 0, .int .u64 0] 64)) va nn vc (n : Int) D A U true fe us ev al #[.int .i64 0, .int .u64 0, .int .u64 0, .int .u64 0, .bool false, .int .i64 0, .int .i64 0, .bool false, .bool false] #[.slice none 0 0, .int .u64 0, .int .u64 0]) := dx_new
  have HC : Hid (Gd n D A U ∧ fe ≤ 65535 ∧ RefIn F w (.slice va nn vc) nn bs ∧ (∀ q, rget bs nn q = M q) ∧ (∀ a, M a ≤ 255) ∧ nn ≤ 900000) := ⟨hg, hfe, href, hgt, hle, hnn⟩
  obtain ⟨of, hof⟩ : ∃ of, wordN M (A + 2) 2 8192 = of := ⟨_, rfl⟩
  have HO : Hid (wordN M (A + 2) 2 8192 = of) := hof
  obtain ⟨o1, o2, wt, hwt, e1, e2, e3, e4, e8, e9⟩ := wait_facts hof hle hfe
  rw [hwt] at hw hw2
  have q1 : ((wt : Int) == 0) = false := int_ne0 hw
  have q2 : (n : Int) < (wt : Int) := Int.ofNat_lt.2 hw2
  clear href hgt hle hnn hfe hw hwt hof hg hw2
  go_enter Tryz.func17, Tryz.ntmps17
  go_upto_region 2 with fail
  generalize ((((w.alloc (.cells #[.int .u64 8192, .slice va nn vc] 33)).alloc (.cells #[.int .i64 (n : Int), .int .u64 (D : Int), .int .u64 (A : Int), .int .u64 (U : Int), .bool true, .int .i64 (fe : Int), .int .i64 (us : Int), .bool ev, .bool al] 27)).alloc (.cells #[.int .i64 0, .int .u64 0, .int .u64 0, .int .u64 0, .bool false, .int .i64 0, .int .i64 0, .bool false, .bool false] 27)).alloc (.cells #[.slice none 0 0, .int .u64 0, .int .u64 0] 64)).alloc (.cells #[.slice none 0 0, .int .u64 0, .int .u64 0] 64) = v0 at *
  obtain ⟨c0, c1, c2, c3, c4, c5, c6, c7, c8⟩ := box9_facts XB.out.2.2.1
  obtain ⟨r0, r1, _, _⟩ := box_facts XB.out.2.1
  go_upto_region 7 with (go_at_call 20; refine (rcheck_any HC.out.1.d1 (gd_bounds HC.out.1).2.1 (gd_bounds HC.out.1).2.2 8192 (by omega) va nn vc _).mono ?_; rintro e w1 ⟨rfl, hb1⟩; rw [HC.out.1.chk]; have X1 : Hid (Dx w w1 va nn vc (n : Int) D A U true fe us ev al #[.int .i64 0, .int .u64 0, .int .u64 0, .int .u64 0, .bool false, .int .i64 0, .int .i64 0, .bool false, .bool false] #[.slice none 0 0, .int .u64 0, .int .u64 0]) := XB.out.below hb1; clear hb1 XB c0 c1 c2 c3 c4 c5 c6 c7 c8 r0 r1; obtain ⟨c0, c1, c2, c3, c4, c5, c6, c7, c8⟩ := box9_facts X1.out.2.2.1; obtain ⟨r0, r1, _, _⟩ := box_facts X1.out.2.1)
  have X2 : Hid (Dx w w1.drew va nn vc (n : Int) D A U true fe us ev al #[.int .i64 0, .int .u64 0, .int .u64 0, .int .u64 0, .bool false, .int .i64 0, .int .i64 0, .bool false, .bool false] #[.slice none 0 0, .int .u64 0, .int .u64 0]) := X1.out.below (Below.drew (Below.refl _ _))
  go_region_held3 (fun Z => Z.cell? ⟨w.heap.size + 1, 0, none⟩ = some (.int .i64 (n : Int)) ∧ Z.cell? ⟨w.heap.size + 1, 1, none⟩ = some (.int .u64 (D : Int)) ∧ Z.cell? ⟨w.heap.size + 1, 2, none⟩ = some (.int .u64 (A : Int)) ∧ Z.cell? ⟨w.heap.size + 1, 3, none⟩ = some (.int .u64 (U : Int)) ∧ Z.cell? ⟨w.heap.size + 1, 4, none⟩ = some (.bool true) ∧ Z.cell? ⟨w.heap.size + 1, 5, none⟩ = some (.int .i64 (fe : Int)) ∧ Z.cell? ⟨w.heap.size + 1, 6, none⟩ = some (.int .i64 (us : Int)) ∧ Z.cell? ⟨w.heap.size + 1, 7, none⟩ = some (.bool ev) ∧ Z.cell? ⟨w.heap.size + 1, 8, none⟩ = some (.bool al) ∧ Z.cell? ⟨w.heap.size, 0, none⟩ = some (.int .u64 8192) ∧ Z.cell? ⟨w.heap.size, 1, none⟩ = some (.slice va nn vc)) (go_keep) (first | (go_at_call 47; refine (roffered_any (HC.out.2.2.1.below X2.out.1) HC.out.2.2.2.1 HC.out.2.2.2.2.1 (by have := HC.out.2.2.2.2.2; omega) HC.out.1).mono ?_; rintro e w2 ⟨rfl, hb2⟩; rw [HO.out]; have X3 : Hid (Dx w w2 va nn vc (n : Int) D A U true fe us ev al #[.int .i64 0, .int .u64 0, .int .u64 0, .int .u64 0, .bool false, .int .i64 0, .int .i64 0, .bool false, .bool false] #[.slice none 0 0, .int .u64 0, .int .u64 0]) := X2.out.below hb2; clear hb2; obtain ⟨d0, d1, d2, d3, d4, d5, d6, d7, d8⟩ := box9_facts X3.out.2.2.1; obtain ⟨s0, s1, _, _⟩ := box_facts X3.out.2.1))
  clear X1 X2 c0 c1 c2 c3 c4 c5 c6 c7 c8 r0 r1
  go_upto_region 11 with fail
  clear d0 d1 d2 d3 d4 d5 d6 d7 d8 s0 s1
  have Xd : Hid (Dx w w2.drew va nn vc (n : Int) D A U true fe us ev al #[.int .i64 0, .int .u64 0, .int .u64 0, .int .u64 0, .bool false, .int .i64 0, .int .i64 0, .bool false, .bool false] #[.slice none 0 0, .int .u64 0, .int .u64 0]) := X3.out.below (Below.drew (Below.refl _ _))
  refine wp_region_held_drew (S := fun Z => Z.cell? ⟨w.heap.size + 1, 0, none⟩ = some (.int .i64 (n : Int)) ∧ Z.cell? ⟨w.heap.size + 1, 1, none⟩ = some (.int .u64 (D : Int)) ∧ Z.cell? ⟨w.heap.size + 1, 2, none⟩ = some (.int .u64 (A : Int)) ∧ Z.cell? ⟨w.heap.size + 1, 3, none⟩ = some (.int .u64 (U : Int)) ∧ Z.cell? ⟨w.heap.size + 1, 4, none⟩ = some (.bool true) ∧ Z.cell? ⟨w.heap.size + 1, 5, none⟩ = some (.int .i64 (fe : Int)) ∧ Z.cell? ⟨w.heap.size + 1, 6, none⟩ = some (.int .i64 (us : Int)) ∧ Z.cell? ⟨w.heap.size + 1, 7, none⟩ = some (.bool ev) ∧ Z.cell? ⟨w.heap.size + 1, 8, none⟩ = some (.bool al) ∧ Z.cell? ⟨w.heap.size + 4, 0, none⟩ = some (.slice none 0 0) ∧ Z.cell? ⟨w.heap.size + 4, 1, none⟩ = some (.int .u64 0) ∧ Z.cell? ⟨w.heap.size + 4, 2, none⟩ = some (.int .u64 0)) (by kernel_rfl) ⟨cellOf Xd.out.2.2.1 0 _ rfl, cellOf Xd.out.2.2.1 1 _ rfl, cellOf Xd.out.2.2.1 2 _ rfl, cellOf Xd.out.2.2.1 3 _ rfl, cellOf Xd.out.2.2.1 4 _ rfl, cellOf Xd.out.2.2.1 5 _ rfl, cellOf Xd.out.2.2.1 6 _ rfl, cellOf Xd.out.2.2.1 7 _ rfl, cellOf Xd.out.2.2.1 8 _ rfl, cellOf Xd.out.2.2.2.2.2 0 _ rfl, cellOf Xd.out.2.2.2.2.2 1 _ rfl, cellOf Xd.out.2.2.2.2.2 2 _ rfl⟩ ?_
  intro hS
  clear X3
  generalize w2.drew = wd at *
  refine wpAnyH_take (i := 0) (v := ?_) rfl (by kernel_rfl) (by kernel_rfl) (by kernel_rfl) (fun _ _ _ h => h) (Or.inl ⟨by kernel_rfl, ?_⟩) hS ?_
  rotate_left
  · intro w hSw; (try dsimp only at hSw); go_simp; try (with_reducible rfl)
  (try simp only [Act.put, List.getElem_toArray, List.getElem_cons_succ, List.getElem_cons_zero, List.setIfInBounds_toArray, List.set_cons_zero, List.set_cons_succ])
  refine wpAnyH_take (i := 1) (v := ?_) rfl (by kernel_rfl) (by kernel_rfl) (by kernel_rfl) (fun _ _ _ h => h) (Or.inl ⟨by kernel_rfl, ?_⟩) hS ?_
  rotate_left
  · intro w hSw; (try dsimp only at hSw); go_simp; try (with_reducible rfl)
  (try simp only [Act.put, List.getElem_toArray, List.getElem_cons_succ, List.getElem_cons_zero, List.setIfInBounds_toArray, List.set_cons_zero, List.set_cons_succ])
  refine wpAnyH_ready (rs := [2]) (by kernel_rfl) (by simp) ?_
  refine AllReadyH.cons rfl (fun K1 hK1 => ?_) AllReadyH.nil
  rw [if_pos (by kernel_rfl)]
  refine wp_store_row 27 _ _ rfl (w.heap.size + 2) #[.int .i64 (n : Int), .int .u64 (D : Int), .int .u64 (A : Int), .int .u64 (U : Int), .bool true, .int .i64 (fe : Int), .int .i64 (us : Int), .bool ev, .bool al] rfl rfl 27 #[.int .i64 0, .int .u64 0, .int .u64 0, .int .u64 0, .bool false, .int .i64 0, .int .i64 0, .bool false, .bool false] Xd.out.2.2.2.1 infoDQ rfl (by simp [Value.oneCell']) ?_
  have Y4 : Hid (Dx w (wd.setRow (w.heap.size + 2) #[.int .i64 (n : Int), .int .u64 (D : Int), .int .u64 (A : Int), .int .u64 (U : Int), .bool true, .int .i64 (fe : Int), .int .i64 (us : Int), .bool ev, .bool al]) va nn vc (n : Int) D A U true fe us ev al #[.int .i64 (n : Int), .int .u64 (D : Int), .int .u64 (A : Int), .int .u64 (U : Int), .bool true, .int .i64 (fe : Int), .int .i64 (us : Int), .bool ev, .bool al] #[.slice none 0 0, .int .u64 0, .int .u64 0]) := Xd.out.set4 _
  clear Xd
  generalize wd.setRow (w.heap.size + 2) #[.int .i64 (n : Int), .int .u64 (D : Int), .int .u64 (A : Int), .int .u64 (U : Int), .bool true, .int .i64 (fe : Int), .int .i64 (us : Int), .bool ev, .bool al] = w4 at *
  refine hK1.out _ _ ⟨cellOf Y4.out.2.2.1 0 _ rfl, cellOf Y4.out.2.2.1 1 _ rfl, cellOf Y4.out.2.2.1 2 _ rfl, cellOf Y4.out.2.2.1 3 _ rfl, cellOf Y4.out.2.2.1 4 _ rfl, cellOf Y4.out.2.2.1 5 _ rfl, cellOf Y4.out.2.2.1 6 _ rfl, cellOf Y4.out.2.2.1 7 _ rfl, cellOf Y4.out.2.2.1 8 _ rfl, cellOf Y4.out.2.2.2.2.2 0 _ rfl, cellOf Y4.out.2.2.2.2.2 1 _ rfl, cellOf Y4.out.2.2.2.2.2 2 _ rfl⟩ (fun h4 => ?_)
  clear hK1 K1 hS
  (try simp only [Act.put, List.getElem_toArray, List.getElem_cons_succ, List.getElem_cons_zero, List.setIfInBounds_toArray, List.set_cons_zero, List.set_cons_succ])
  refine wpAnyH_take (i := 3) (v := ?_) rfl (by kernel_rfl) (by kernel_rfl) (by kernel_rfl) (fun _ _ _ h => h) (Or.inl ⟨by kernel_rfl, ?_⟩) h4 ?_
  rotate_left
  · intro w hSw; (try dsimp only at hSw); go_simp; try (with_reducible rfl)
  (try simp only [Act.put, List.getElem_toArray, List.getElem_cons_succ, List.getElem_cons_zero, List.setIfInBounds_toArray, List.set_cons_zero, List.set_cons_succ])
  refine wpAnyH_ready (rs := [4]) (by kernel_rfl) (by simp) ?_
  refine AllReadyH.cons rfl (fun K1 hK1 => ?_) AllReadyH.nil
  rw [if_pos (by kernel_rfl)]
  refine wp_store_row 64 _ _ rfl (w.heap.size + 3) #[.slice none 0 0, .int .u64 0, .int .u64 0] rfl rfl 64 #[.slice none 0 0, .int .u64 0, .int .u64 0] Y4.out.2.2.2.2.1 infoDC rfl (by simp [Value.oneCell']) ?_
  have Y5 : Hid (Dx w (w4.setRow (w.heap.size + 3) #[.slice none 0 0, .int .u64 0, .int .u64 0]) va nn vc (n : Int) D A U true fe us ev al #[.int .i64 (n : Int), .int .u64 (D : Int), .int .u64 (A : Int), .int .u64 (U : Int), .bool true, .int .i64 (fe : Int), .int .i64 (us : Int), .bool ev, .bool al] #[.slice none 0 0, .int .u64 0, .int .u64 0]) := Y4.out.set6 _
  clear Y4
  generalize w4.setRow (w.heap.size + 3) #[.slice none 0 0, .int .u64 0, .int .u64 0] = w5 at *
  refine hK1.out _ _ ⟨cellOf Y5.out.2.2.1 0 _ rfl, cellOf Y5.out.2.2.1 1 _ rfl, cellOf Y5.out.2.2.1 2 _ rfl, cellOf Y5.out.2.2.1 3 _ rfl, cellOf Y5.out.2.2.1 4 _ rfl, cellOf Y5.out.2.2.1 5 _ rfl, cellOf Y5.out.2.2.1 6 _ rfl, cellOf Y5.out.2.2.1 7 _ rfl, cellOf Y5.out.2.2.1 8 _ rfl, cellOf Y5.out.2.2.2.2.2 0 _ rfl, cellOf Y5.out.2.2.2.2.2 1 _ rfl, cellOf Y5.out.2.2.2.2.2 2 _ rfl⟩ (fun h5 => ?_)
  clear hK1 K1 h4
  (try simp only [Act.put, List.getElem_toArray, List.getElem_cons_succ, List.getElem_cons_zero, List.setIfInBounds_toArray, List.set_cons_zero, List.set_cons_succ])
  refine wpAnyH_take (i := 5) (v := ?_) rfl (by kernel_rfl) (by kernel_rfl) (by kernel_rfl) (fun _ _ _ h => h) (Or.inl ⟨by kernel_rfl, ?_⟩) h5 ?_
  rotate_left
  · intro w hSw; (try dsimp only at hSw); go_simp; try (with_reducible rfl)
  (try simp only [Act.put, List.getElem_toArray, List.getElem_cons_succ, List.getElem_cons_zero, List.setIfInBounds_toArray, List.set_cons_zero, List.set_cons_succ])
  refine wpAnyH_take (i := 6) (v := ?_) rfl (by kernel_rfl) (by kernel_rfl) (by kernel_rfl) (fun _ _ _ h => h) (Or.inl ⟨by kernel_rfl, ?_⟩) h5 ?_
  rotate_left
  · intro w hSw; (try dsimp only at hSw); go_simp; try (with_reducible rfl)
  (try simp only [Act.put, List.getElem_toArray, List.getElem_cons_succ, List.getElem_cons_zero, List.setIfInBounds_toArray, List.set_cons_zero, List.set_cons_succ])
  refine wpAnyH_done (by kernel_rfl) ?_ _
  clear h5
  obtain ⟨k0, k1, k2, k3, k4, k5, k6, k7, k8⟩ := box9_facts Y5.out.2.2.2.1
  obtain ⟨m0, m1, m2⟩ := box3_facts Y5.out.2.2.2.2.1
  go_wp2_with fail
  refine bodyPost_ret (v := .tuple #[.agg #[.int .i64 (n : Int), .int .u64 (D : Int), .int .u64 (A : Int), .int .u64 (U : Int), .bool true, .int .i64 (fe : Int), .int .i64 (us : Int), .bool ev, .bool al], .int .i64 (-1), .agg #[.slice none 0 0, .int .u64 0, .int .u64 0], .bool false, .int .i64 156]) (by simp [results, Tryz.results17, go_sem, k0, k1, k2, k3, k4, k5, k6, k7, k8, m0, m1, m2]) rfl ?_
  exact ⟨rfl, Y5.out.1⟩
end Go.Proofs.YtmjdnocilbnoaaaGreat

/- The document's Fetch, where a head comes. -/
namespace Go.Proofs.YtmjdnocilbnoaaaGreat
open Go.RowKit Go.Maps
set_option linter.unusedVariables false
set_option linter.unusedSimpArgs false
set_option maxRecDepth 100000
theorem seg_rise {C : Nat} {w : World} {v : Value} {l : List Seg} (h : SegIn 0 w v l) (hc : ∀ g, v.ownBlock = some g → C ≤ g) : SegIn C w v l := by
  refine ⟨h.1, ?_⟩
  rcases h.2 with hn | ⟨g, cap, cur, rfl, hb, rest⟩
  · exact .inl hn
  · exact .inr ⟨g, cap, cur, rfl, hc g rfl, rest⟩
theorem seg_set {B : Nat} {w : World} {v : Value} {l : List Seg} (h : SegIn B w v l) {q : Nat} (hq : q < B) (c : Array Value) : SegIn B (w.setRow q c) v l := h.kept (fun g hg => setRow_other _ _ _ _ (by have := (h.lt g hg).1; omega))
set_option maxHeartbeats 4000000 in
theorem dfetch_one {F : Nat → Prop} {w : World} {va : Option Addr} {nn vc : Nat} {bs : Nat → Nat × Nat} {M : Nat → Nat} (href : RefIn F w (.slice va nn vc) nn bs) (hgt : ∀ q, rget bs nn q = M q) (hle : ∀ a, M a ≤ 255) (hnn : nn ≤ 900000) {n D A U : Nat} {ev al : Bool} {fe us : Nat} (hg : Gd n D A U) (hfe : fe ≤ 65535) (hw : waitN M A fe ≠ 0) (hw2 : ¬ n < waitN M A fe) (h : Nat) (c : Cn) (hh : headN M n A fe = h) (hc : walkR M D n (h : Nat) al = c) : Calls Tryz.prog 17 #[.agg #[.int .u64 8192, .slice va nn vc], .agg #[.int .i64 (n : Int), .int .u64 (D : Int), .int .u64 (A : Int), .int .u64 (U : Int), .bool true, .int .i64 (fe : Int), .int .i64 (us : Int), .bool ev, .bool al]] w fun r w' => ∃ a1 c1, r = .returned (.tuple #[.agg #[.int .i64 (n : Int), .int .u64 (D : Int), .int .u64 (A : Int), .int .u64 (U : Int), .bool true, .int .i64 (upN fe : Int), .int .i64 (us : Int), .bool ev, .bool al], .int .i64 (h : Int), .agg #[.slice a1 c.l.length c1, .int .u64 (c.ta : Int), .int .u64 (c.tl : Int)], .bool ((c.e : Int) == 0), .int .i64 (c.e : Int)]) ∧ SegIn w.heap.size w' (.slice a1 c.l.length c1) c.l ∧ Below w.heap.size w w' := by
  have XB : Hid (Dx w (((((w.alloc (.cells #[.int .u64 8192, .slice va nn vc] 33)).alloc (.cells #[.int .i64 (n : Int), .int .u64 (D : Int), .int .u64 (A : Int), .int .u64 (U : Int), .bool true, .int .i64 (fe : Int), .int .i64 (us : Int), .bool ev, .bool al] 27)).alloc (.cells #[.int .i64 0, .int .u64 0, .int .u64 0, .int .u64 0, .bool false, .int .i64 0, .int .i64 0, .bool false, .bool false] 27)).alloc (.cells #[.slice none 0 0, .int .u64 0, .int .u64 0] 64)).alloc (.cells #[.slice none 0 0, .int .u64 0, .int .u64 0] 64)) va nn vc (n : Int) D A U true fe us ev al #[.int .i64 0, .int .u64 0, .int .u64 0, .int .u64 0, .bool false, .int .i64 0, .int .i64 0, .bool false, .bool false] #[.slice none 0 0, .int .u64 0, .int .u64 0]) := dx_new
  have HC : Hid (Gd n D A U ∧ fe ≤ 65535 ∧ RefIn F w (.slice va nn vc) nn bs ∧ (∀ q, rget bs nn q = M q) ∧ (∀ a, M a ≤ 255) ∧ nn ≤ 900000) := ⟨hg, hfe, href, hgt, hle, hnn⟩
  obtain ⟨of, hof⟩ : ∃ of, wordN M (A + 2) 2 8192 = of := ⟨_, rfl⟩
  have HO : Hid (wordN M (A + 2) 2 8192 = of) := hof
  obtain ⟨o1, o2, wt, hwt, e1, e2, e3, e4, e8, e9⟩ := wait_facts hof hle hfe
  have HDD : Hid (DDesc w va nn vc M) := ref_ddesc href hgt hle hnn
  rw [hwt] at hw hw2
  have q1 : ((wt : Int) == 0) = false := int_ne0 hw
  have q2 : ¬ (n : Int) < (wt : Int) := fun h => hw2 (Int.ofNat_lt.1 h)
  obtain ⟨f0, f1, hf1, e5, e6, e7⟩ := up_facts hfe
  rw [hf1]
  have HH : Hid (wordN M (A + 4 + 2 * (fe % n)) 2 8192 = h ∧ n ≤ 256 ∧ walkR M D n (h : Nat) al = c) := ⟨hh, hg.n2, hc⟩
  obtain ⟨cl, hcl⟩ : ∃ cl, c.l.length = cl := ⟨_, rfl⟩
  obtain ⟨ce, hce⟩ : ∃ ce, c.e = ce := ⟨_, rfl⟩
  obtain ⟨ta, hta⟩ : ∃ ta, c.ta = ta := ⟨_, rfl⟩
  obtain ⟨tl, htl⟩ : ∃ tl, c.tl = tl := ⟨_, rfl⟩
  have HCC : Hid (c.l.length = cl ∧ c.e = ce ∧ c.ta = ta ∧ c.tl = tl) := ⟨hcl, hce, hta, htl⟩
  rw [hcl, hce, hta, htl]
  clear href hgt hle hnn hfe hw hwt hof hg hw2 hf1 hh hc hcl hce hta htl
  go_enter Tryz.func17, Tryz.ntmps17
  go_upto_region 2 with fail
  generalize ((((w.alloc (.cells #[.int .u64 8192, .slice va nn vc] 33)).alloc (.cells #[.int .i64 (n : Int), .int .u64 (D : Int), .int .u64 (A : Int), .int .u64 (U : Int), .bool true, .int .i64 (fe : Int), .int .i64 (us : Int), .bool ev, .bool al] 27)).alloc (.cells #[.int .i64 0, .int .u64 0, .int .u64 0, .int .u64 0, .bool false, .int .i64 0, .int .i64 0, .bool false, .bool false] 27)).alloc (.cells #[.slice none 0 0, .int .u64 0, .int .u64 0] 64)).alloc (.cells #[.slice none 0 0, .int .u64 0, .int .u64 0] 64) = v0 at *
  obtain ⟨c0, c1, c2, c3, c4, c5, c6, c7, c8⟩ := box9_facts XB.out.2.2.1
  obtain ⟨r0, r1, _, _⟩ := box_facts XB.out.2.1
  go_upto_region 7 with (go_at_call 20; refine (rcheck_any HC.out.1.d1 (gd_bounds HC.out.1).2.1 (gd_bounds HC.out.1).2.2 8192 (by omega) va nn vc _).mono ?_; rintro e w1 ⟨rfl, hb1⟩; rw [HC.out.1.chk]; have X1 : Hid (Dx w w1 va nn vc (n : Int) D A U true fe us ev al #[.int .i64 0, .int .u64 0, .int .u64 0, .int .u64 0, .bool false, .int .i64 0, .int .i64 0, .bool false, .bool false] #[.slice none 0 0, .int .u64 0, .int .u64 0]) := XB.out.below hb1; clear hb1 XB c0 c1 c2 c3 c4 c5 c6 c7 c8 r0 r1; obtain ⟨c0, c1, c2, c3, c4, c5, c6, c7, c8⟩ := box9_facts X1.out.2.2.1; obtain ⟨r0, r1, _, _⟩ := box_facts X1.out.2.1)
  have X2 : Hid (Dx w w1.drew va nn vc (n : Int) D A U true fe us ev al #[.int .i64 0, .int .u64 0, .int .u64 0, .int .u64 0, .bool false, .int .i64 0, .int .i64 0, .bool false, .bool false] #[.slice none 0 0, .int .u64 0, .int .u64 0]) := X1.out.below (Below.drew (Below.refl _ _))
  go_region_held3 (fun Z => Z.cell? ⟨w.heap.size + 1, 0, none⟩ = some (.int .i64 (n : Int)) ∧ Z.cell? ⟨w.heap.size + 1, 1, none⟩ = some (.int .u64 (D : Int)) ∧ Z.cell? ⟨w.heap.size + 1, 2, none⟩ = some (.int .u64 (A : Int)) ∧ Z.cell? ⟨w.heap.size + 1, 3, none⟩ = some (.int .u64 (U : Int)) ∧ Z.cell? ⟨w.heap.size + 1, 4, none⟩ = some (.bool true) ∧ Z.cell? ⟨w.heap.size + 1, 5, none⟩ = some (.int .i64 (fe : Int)) ∧ Z.cell? ⟨w.heap.size + 1, 6, none⟩ = some (.int .i64 (us : Int)) ∧ Z.cell? ⟨w.heap.size + 1, 7, none⟩ = some (.bool ev) ∧ Z.cell? ⟨w.heap.size + 1, 8, none⟩ = some (.bool al) ∧ Z.cell? ⟨w.heap.size, 0, none⟩ = some (.int .u64 8192) ∧ Z.cell? ⟨w.heap.size, 1, none⟩ = some (.slice va nn vc)) (go_keep) (first | (go_at_call 47; refine (roffered_any (HC.out.2.2.1.below X2.out.1) HC.out.2.2.2.1 HC.out.2.2.2.2.1 (by have := HC.out.2.2.2.2.2; omega) HC.out.1).mono ?_; rintro e w2 ⟨rfl, hb2⟩; rw [HO.out]; have X3 : Hid (Dx w w2 va nn vc (n : Int) D A U true fe us ev al #[.int .i64 0, .int .u64 0, .int .u64 0, .int .u64 0, .bool false, .int .i64 0, .int .i64 0, .bool false, .bool false] #[.slice none 0 0, .int .u64 0, .int .u64 0]) := X2.out.below hb2; clear hb2; obtain ⟨d0, d1, d2, d3, d4, d5, d6, d7, d8⟩ := box9_facts X3.out.2.2.1; obtain ⟨s0, s1, _, _⟩ := box_facts X3.out.2.1))
  clear X1 X2 c0 c1 c2 c3 c4 c5 c6 c7 c8 r0 r1
  go_upto_region 13 with (go_at_call 48; refine (rhead_any (HC.out.2.2.1.below X3.out.1) HC.out.2.2.2.1 HC.out.2.2.2.2.1 (by have := HC.out.2.2.2.2.2; omega) HC.out.1 fe (fe % n) HC.out.2.1 rfl).mono ?_; rintro e w3 ⟨rfl, hb3⟩; rw [HH.out.1]; have X4 : Hid (Dx w w3 va nn vc (n : Int) D A U true fe us ev al #[.int .i64 0, .int .u64 0, .int .u64 0, .int .u64 0, .bool false, .int .i64 0, .int .i64 0, .bool false, .bool false] #[.slice none 0 0, .int .u64 0, .int .u64 0]) := X3.out.below hb3; clear hb3 X3 d0 d1 d2 d3 d4 d5 d6 d7 d8 s0 s1; obtain ⟨d0, d1, d2, d3, d4, d5, d6, d7, d8⟩ := box9_facts X4.out.2.2.1; have d5f := frozenOf X4.out.2.2.1 5)
  go_upto_region 14 with fail
  have X5 : Hid (Dx w (w3.setCell ⟨w.heap.size + 1, 5, none⟩ (.int .i64 (f1 : Int))) va nn vc (n : Int) D A U true f1 us ev al #[.int .i64 0, .int .u64 0, .int .u64 0, .int .u64 0, .bool false, .int .i64 0, .int .i64 0, .bool false, .bool false] #[.slice none 0 0, .int .u64 0, .int .u64 0]) := X4.out.one f1
  clear X4 d0 d1 d2 d3 d4 d5 d6 d7 d8 d5f
  generalize w3.setCell ⟨w.heap.size + 1, 5, none⟩ (.int .i64 (f1 : Int)) = w4 at *
  obtain ⟨d0, d1, d2, d3, d4, d5, d6, d7, d8⟩ := box9_facts X5.out.2.2.1
  obtain ⟨s0, s1, _, _⟩ := box_facts X5.out.2.1
  have KW : Hid (∀ V, Dx w V va nn vc (n : Int) D A U true f1 us ev al #[.int .i64 0, .int .u64 0, .int .u64 0, .int .u64 0, .bool false, .int .i64 0, .int .i64 0, .bool false, .bool false] #[.slice none 0 0, .int .u64 0, .int .u64 0] → Calls Tryz.prog 49 #[.agg #[.int .u64 8192, .slice va nn vc], .agg #[.int .i64 (n : Int), .int .u64 (D : Int), .int .u64 (A : Int), .int .u64 (U : Int)], .int .i64 (h : Int), .bool al] V fun e w' => ∃ a1 c1, e = .returned (.tuple #[.agg #[.slice a1 cl c1, .int .u64 (ta : Int), .int .u64 (tl : Int)], .int .i64 (ce : Int)]) ∧ SegIn (w.heap.size + 5) w' (.slice a1 cl c1) c.l ∧ Below V.heap.size V w') := by
    intro V hV
    have := dwalk_row HC.out.2.2.2.2.1 HDD.out n D A U HH.out.2.1 (h : Nat) al hV.1
    rw [HH.out.2.2, HCC.out.2.1, HCC.out.2.2.1, HCC.out.2.2.2] at this
    refine this.mono ?_
    rintro e w' ⟨a2, L2, c2, he, hs, hb, hro⟩
    obtain ⟨a3, c3, h3⟩ := hs.form
    rw [HCC.out.1] at h3
    simp only [Value.slice.injEq] at h3
    obtain ⟨rfl, rfl, rfl⟩ := h3
    exact ⟨_, _, he, seg_rise hs (fun g hg => by have h1 := hro g hg; have h2 := (Array.getElem?_eq_some_iff.1 hV.2.2.2.2.2).1; omega), hb⟩
  go_upto_region 15 with (go_at_call 49; refine (KW.out _ X5.out).mono ?_; rintro e w5 ⟨a1, c1, rfl, hs5, hb5⟩; have X6 : Hid (Dx w w5 va nn vc (n : Int) D A U true f1 us ev al #[.int .i64 0, .int .u64 0, .int .u64 0, .int .u64 0, .bool false, .int .i64 0, .int .i64 0, .bool false, .bool false] #[.slice none 0 0, .int .u64 0, .int .u64 0] ∧ SegIn (w.heap.size + 5) w5 (.slice a1 cl c1) c.l) := ⟨X5.out.below hb5, hs5⟩; clear hs5 hb5 X5 d0 d1 d2 d3 d4 d5 d6 d7 d8 s0 s1)
  have hb6 : Below w5.heap.size w5 (w5.alloc (.cells #[.slice a1 cl c1, .int .u64 (ta : Int), .int .u64 (tl : Int)] 64)) := one_box _ _
  have X7 : Hid (Dx w (w5.alloc (.cells #[.slice a1 cl c1, .int .u64 (ta : Int), .int .u64 (tl : Int)] 64)).drew va nn vc (n : Int) D A U true f1 us ev al #[.int .i64 0, .int .u64 0, .int .u64 0, .int .u64 0, .bool false, .int .i64 0, .int .i64 0, .bool false, .bool false] #[.slice none 0 0, .int .u64 0, .int .u64 0] ∧ (w5.alloc (.cells #[.slice a1 cl c1, .int .u64 (ta : Int), .int .u64 (tl : Int)] 64)).drew.heap[w5.heap.size]? = some (.cells #[.slice a1 cl c1, .int .u64 (ta : Int), .int .u64 (tl : Int)] 64 (0, 0)) ∧ SegIn (w.heap.size + 5) (w5.alloc (.cells #[.slice a1 cl c1, .int .u64 (ta : Int), .int .u64 (tl : Int)] 64)).drew (.slice a1 cl c1) c.l ∧ w.heap.size + 5 ≤ w5.heap.size) := ⟨(X6.out.1.below hb6).below (Below.drew (Below.refl _ _)), heap_alloc_new _ _, X6.out.2.kept (fun g hg => hb6.block g (X6.out.2.lt g hg).2), (Array.getElem?_eq_some_iff.1 X6.out.1.2.2.2.2.2).1⟩
  clear X6 hb6
  refine wp_region_held_drew (S := fun Z => Z.cell? ⟨w.heap.size + 1, 0, none⟩ = some (.int .i64 (n : Int)) ∧ Z.cell? ⟨w.heap.size + 1, 1, none⟩ = some (.int .u64 (D : Int)) ∧ Z.cell? ⟨w.heap.size + 1, 2, none⟩ = some (.int .u64 (A : Int)) ∧ Z.cell? ⟨w.heap.size + 1, 3, none⟩ = some (.int .u64 (U : Int)) ∧ Z.cell? ⟨w.heap.size + 1, 4, none⟩ = some (.bool true) ∧ Z.cell? ⟨w.heap.size + 1, 5, none⟩ = some (.int .i64 (f1 : Int)) ∧ Z.cell? ⟨w.heap.size + 1, 6, none⟩ = some (.int .i64 (us : Int)) ∧ Z.cell? ⟨w.heap.size + 1, 7, none⟩ = some (.bool ev) ∧ Z.cell? ⟨w.heap.size + 1, 8, none⟩ = some (.bool al) ∧ Z.cell? ⟨w5.heap.size, 0, none⟩ = some (.slice a1 cl c1) ∧ Z.cell? ⟨w5.heap.size, 1, none⟩ = some (.int .u64 (ta : Int)) ∧ Z.cell? ⟨w5.heap.size, 2, none⟩ = some (.int .u64 (tl : Int))) (by kernel_rfl) ⟨cellOf X7.out.1.2.2.1 0 _ rfl, cellOf X7.out.1.2.2.1 1 _ rfl, cellOf X7.out.1.2.2.1 2 _ rfl, cellOf X7.out.1.2.2.1 3 _ rfl, cellOf X7.out.1.2.2.1 4 _ rfl, cellOf X7.out.1.2.2.1 5 _ rfl, cellOf X7.out.1.2.2.1 6 _ rfl, cellOf X7.out.1.2.2.1 7 _ rfl, cellOf X7.out.1.2.2.1 8 _ rfl, cellOf X7.out.2.1 0 _ rfl, cellOf X7.out.2.1 1 _ rfl, cellOf X7.out.2.1 2 _ rfl⟩ ?_
  intro hS
  generalize (w5.alloc (.cells #[.slice a1 cl c1, .int .u64 (ta : Int), .int .u64 (tl : Int)] 64)).drew = wd at *
  generalize w5.heap.size = p at *
  refine wpAnyH_take (i := 0) (v := ?_) rfl (by kernel_rfl) (by kernel_rfl) (by kernel_rfl) (fun _ _ _ h => h) (Or.inl ⟨by kernel_rfl, ?_⟩) hS ?_
  rotate_left
  · intro w hSw; (try dsimp only at hSw); go_simp; try (with_reducible rfl)
  (try simp only [Act.put, List.getElem_toArray, List.getElem_cons_succ, List.getElem_cons_zero, List.setIfInBounds_toArray, List.set_cons_zero, List.set_cons_succ])
  refine wpAnyH_take (i := 1) (v := ?_) rfl (by kernel_rfl) (by kernel_rfl) (by kernel_rfl) (fun _ _ _ h => h) (Or.inl ⟨by kernel_rfl, ?_⟩) hS ?_
  rotate_left
  · intro w hSw; (try dsimp only at hSw); go_simp; try (with_reducible rfl)
  (try simp only [Act.put, List.getElem_toArray, List.getElem_cons_succ, List.getElem_cons_zero, List.setIfInBounds_toArray, List.set_cons_zero, List.set_cons_succ])
  refine wpAnyH_take (i := 2) (v := ?_) rfl (by kernel_rfl) (by kernel_rfl) (by kernel_rfl) (fun _ _ _ h => h) (Or.inl ⟨by kernel_rfl, ?_⟩) hS ?_
  rotate_left
  · intro w hSw; (try dsimp only at hSw); go_simp; try (with_reducible rfl)
  (try simp only [Act.put, List.getElem_toArray, List.getElem_cons_succ, List.getElem_cons_zero, List.setIfInBounds_toArray, List.set_cons_zero, List.set_cons_succ])
  refine wpAnyH_take (i := 3) (v := ?_) rfl (by kernel_rfl) (by kernel_rfl) (by kernel_rfl) (fun _ _ _ h => h) (Or.inl ⟨by kernel_rfl, ?_⟩) hS ?_
  rotate_left
  · intro w hSw; (try dsimp only at hSw); go_simp; try (with_reducible rfl)
  (try simp only [Act.put, List.getElem_toArray, List.getElem_cons_succ, List.getElem_cons_zero, List.setIfInBounds_toArray, List.set_cons_zero, List.set_cons_succ])
  refine wpAnyH_take (i := 4) (v := ?_) rfl (by kernel_rfl) (by kernel_rfl) (by kernel_rfl) (fun _ _ _ h => h) (Or.inl ⟨by kernel_rfl, ?_⟩) hS ?_
  rotate_left
  · intro w hSw; (try dsimp only at hSw); go_simp; try (with_reducible rfl)
  (try simp only [Act.put, List.getElem_toArray, List.getElem_cons_succ, List.getElem_cons_zero, List.setIfInBounds_toArray, List.set_cons_zero, List.set_cons_succ])
  refine wpAnyH_take (i := 5) (v := ?_) rfl (by kernel_rfl) (by kernel_rfl) (by kernel_rfl) (fun _ _ _ h => h) (Or.inl ⟨by kernel_rfl, ?_⟩) hS ?_
  rotate_left
  · intro w hSw; (try dsimp only at hSw); go_simp; try (with_reducible rfl)
  (try simp only [Act.put, List.getElem_toArray, List.getElem_cons_succ, List.getElem_cons_zero, List.setIfInBounds_toArray, List.set_cons_zero, List.set_cons_succ])
  refine wpAnyH_ready (rs := [6]) (by kernel_rfl) (by simp) ?_
  refine AllReadyH.cons rfl (fun K1 hK1 => ?_) AllReadyH.nil
  rw [if_pos (by kernel_rfl)]
  refine wp_store_row 27 _ _ rfl (w.heap.size + 2) #[.int .i64 (n : Int), .int .u64 (D : Int), .int .u64 (A : Int), .int .u64 (U : Int), .bool true, .int .i64 (f1 : Int), .int .i64 (us : Int), .bool ev, .bool al] rfl rfl 27 #[.int .i64 0, .int .u64 0, .int .u64 0, .int .u64 0, .bool false, .int .i64 0, .int .i64 0, .bool false, .bool false] X7.out.1.2.2.2.1 infoDQ rfl (by simp [Value.oneCell']) ?_
  have Y4 : Hid (Dx w (wd.setRow (w.heap.size + 2) #[.int .i64 (n : Int), .int .u64 (D : Int), .int .u64 (A : Int), .int .u64 (U : Int), .bool true, .int .i64 (f1 : Int), .int .i64 (us : Int), .bool ev, .bool al]) va nn vc (n : Int) D A U true f1 us ev al #[.int .i64 (n : Int), .int .u64 (D : Int), .int .u64 (A : Int), .int .u64 (U : Int), .bool true, .int .i64 (f1 : Int), .int .i64 (us : Int), .bool ev, .bool al] #[.slice none 0 0, .int .u64 0, .int .u64 0] ∧ (wd.setRow (w.heap.size + 2) #[.int .i64 (n : Int), .int .u64 (D : Int), .int .u64 (A : Int), .int .u64 (U : Int), .bool true, .int .i64 (f1 : Int), .int .i64 (us : Int), .bool ev, .bool al]).heap[p]? = some (.cells #[.slice a1 cl c1, .int .u64 (ta : Int), .int .u64 (tl : Int)] 64 (0, 0)) ∧ SegIn (w.heap.size + 5) (wd.setRow (w.heap.size + 2) #[.int .i64 (n : Int), .int .u64 (D : Int), .int .u64 (A : Int), .int .u64 (U : Int), .bool true, .int .i64 (f1 : Int), .int .i64 (us : Int), .bool ev, .bool al]) (.slice a1 cl c1) c.l ∧ w.heap.size + 5 ≤ p) := ⟨X7.out.1.set4 _, (setRow_other _ _ _ _ (by have := X7.out.2.2.2; omega)).trans X7.out.2.1, seg_set X7.out.2.2.1 (by omega) _, X7.out.2.2.2⟩
  clear X7
  generalize wd.setRow (w.heap.size + 2) #[.int .i64 (n : Int), .int .u64 (D : Int), .int .u64 (A : Int), .int .u64 (U : Int), .bool true, .int .i64 (f1 : Int), .int .i64 (us : Int), .bool ev, .bool al] = w6 at *
  refine hK1.out _ _ ⟨cellOf Y4.out.1.2.2.1 0 _ rfl, cellOf Y4.out.1.2.2.1 1 _ rfl, cellOf Y4.out.1.2.2.1 2 _ rfl, cellOf Y4.out.1.2.2.1 3 _ rfl, cellOf Y4.out.1.2.2.1 4 _ rfl, cellOf Y4.out.1.2.2.1 5 _ rfl, cellOf Y4.out.1.2.2.1 6 _ rfl, cellOf Y4.out.1.2.2.1 7 _ rfl, cellOf Y4.out.1.2.2.1 8 _ rfl, cellOf Y4.out.2.1 0 _ rfl, cellOf Y4.out.2.1 1 _ rfl, cellOf Y4.out.2.1 2 _ rfl⟩ (fun h4 => ?_)
  clear hK1 K1 hS
  (try simp only [Act.put, List.getElem_toArray, List.getElem_cons_succ, List.getElem_cons_zero, List.setIfInBounds_toArray, List.set_cons_zero, List.set_cons_succ])
  refine wpAnyH_take (i := 7) (v := ?_) rfl (by kernel_rfl) (by kernel_rfl) (by kernel_rfl) (fun _ _ _ h => h) (Or.inl ⟨by kernel_rfl, ?_⟩) h4 ?_
  rotate_left
  · intro w hSw; (try dsimp only at hSw); go_simp; try (with_reducible rfl)
  (try simp only [Act.put, List.getElem_toArray, List.getElem_cons_succ, List.getElem_cons_zero, List.setIfInBounds_toArray, List.set_cons_zero, List.set_cons_succ])
  refine wpAnyH_ready (rs := [8]) (by kernel_rfl) (by simp) ?_
  refine AllReadyH.cons rfl (fun K1 hK1 => ?_) AllReadyH.nil
  rw [if_pos (by kernel_rfl)]
  refine wp_store_row 64 _ _ rfl (w.heap.size + 3) #[.slice a1 cl c1, .int .u64 (ta : Int), .int .u64 (tl : Int)] rfl rfl 64 #[.slice none 0 0, .int .u64 0, .int .u64 0] Y4.out.1.2.2.2.2.1 infoDC rfl (by simp [Value.oneCell']) ?_
  have Y5 : Hid (Dx w (w6.setRow (w.heap.size + 3) #[.slice a1 cl c1, .int .u64 (ta : Int), .int .u64 (tl : Int)]) va nn vc (n : Int) D A U true f1 us ev al #[.int .i64 (n : Int), .int .u64 (D : Int), .int .u64 (A : Int), .int .u64 (U : Int), .bool true, .int .i64 (f1 : Int), .int .i64 (us : Int), .bool ev, .bool al] #[.slice a1 cl c1, .int .u64 (ta : Int), .int .u64 (tl : Int)] ∧ (w6.setRow (w.heap.size + 3) #[.slice a1 cl c1, .int .u64 (ta : Int), .int .u64 (tl : Int)]).heap[p]? = some (.cells #[.slice a1 cl c1, .int .u64 (ta : Int), .int .u64 (tl : Int)] 64 (0, 0)) ∧ SegIn (w.heap.size + 5) (w6.setRow (w.heap.size + 3) #[.slice a1 cl c1, .int .u64 (ta : Int), .int .u64 (tl : Int)]) (.slice a1 cl c1) c.l) := ⟨Y4.out.1.set6 _, (setRow_other _ _ _ _ (by have := Y4.out.2.2.2; omega)).trans Y4.out.2.1, seg_set Y4.out.2.2.1 (by omega) _⟩
  clear Y4
  generalize w6.setRow (w.heap.size + 3) #[.slice a1 cl c1, .int .u64 (ta : Int), .int .u64 (tl : Int)] = w7 at *
  refine hK1.out _ _ ⟨cellOf Y5.out.1.2.2.1 0 _ rfl, cellOf Y5.out.1.2.2.1 1 _ rfl, cellOf Y5.out.1.2.2.1 2 _ rfl, cellOf Y5.out.1.2.2.1 3 _ rfl, cellOf Y5.out.1.2.2.1 4 _ rfl, cellOf Y5.out.1.2.2.1 5 _ rfl, cellOf Y5.out.1.2.2.1 6 _ rfl, cellOf Y5.out.1.2.2.1 7 _ rfl, cellOf Y5.out.1.2.2.1 8 _ rfl, cellOf Y5.out.2.1 0 _ rfl, cellOf Y5.out.2.1 1 _ rfl, cellOf Y5.out.2.1 2 _ rfl⟩ (fun h5 => ?_)
  clear hK1 K1 h4
  (try simp only [Act.put, List.getElem_toArray, List.getElem_cons_succ, List.getElem_cons_zero, List.setIfInBounds_toArray, List.set_cons_zero, List.set_cons_succ])
  refine wpAnyH_take (i := 9) (v := ?_) rfl (by kernel_rfl) (by kernel_rfl) (by kernel_rfl) (fun _ _ _ h => h) (Or.inl ⟨by kernel_rfl, ?_⟩) h5 ?_
  rotate_left
  · intro w hSw; (try dsimp only at hSw); go_simp; try (with_reducible rfl)
  (try simp only [Act.put, List.getElem_toArray, List.getElem_cons_succ, List.getElem_cons_zero, List.setIfInBounds_toArray, List.set_cons_zero, List.set_cons_succ])
  refine wpAnyH_take (i := 10) (v := ?_) rfl (by kernel_rfl) (by kernel_rfl) (by kernel_rfl) (fun _ _ _ h => h) (Or.inl ⟨by kernel_rfl, ?_⟩) h5 ?_
  rotate_left
  · intro w hSw; (try dsimp only at hSw); go_simp; try (with_reducible rfl)
  (try simp only [Act.put, List.getElem_toArray, List.getElem_cons_succ, List.getElem_cons_zero, List.setIfInBounds_toArray, List.set_cons_zero, List.set_cons_succ])
  refine wpAnyH_done (by kernel_rfl) ?_ _
  clear h5
  obtain ⟨k0, k1, k2, k3, k4, k5, k6, k7, k8⟩ := box9_facts Y5.out.1.2.2.2.1
  obtain ⟨m0, m1, m2⟩ := box3_facts Y5.out.1.2.2.2.2.1
  go_wp2_with fail
  refine bodyPost_ret (v := .tuple #[.agg #[.int .i64 (n : Int), .int .u64 (D : Int), .int .u64 (A : Int), .int .u64 (U : Int), .bool true, .int .i64 (f1 : Int), .int .i64 (us : Int), .bool ev, .bool al], .int .i64 (h : Int), .agg #[.slice a1 cl c1, .int .u64 (ta : Int), .int .u64 (tl : Int)], .bool ((ce : Int) == 0), .int .i64 (ce : Int)]) (by simp [results, Tryz.results17, go_sem, k0, k1, k2, k3, k4, k5, k6, k7, k8, m0, m1, m2]) rfl ?_
  exact ⟨a1, c1, rfl, seg_base Y5.out.2.2 (by omega), Y5.out.1.1⟩
end Go.Proofs.YtmjdnocilbnoaaaGreat

/- The document's Scatter. -/
namespace Go.Proofs.YtmjdnocilbnoaaaGreat
open Go.RowKit Go.Maps
set_option linter.unusedVariables false
set_option linter.unusedSimpArgs false
set_option maxRecDepth 100000
/-- the document's memory in its box, j bytes written -/
def Dz (w V : World) (F : Nat → Prop) (g M : Nat → Nat) (l : List Seg) (f n : Nat) (xa : Option Addr) (xn xc : Nat) (xs : Nat → Nat × Nat) (nn j : Nat) (a : Option Addr) (L c ta tl : Nat) : Prop := Below w.heap.size w V ∧ V.heap[w.heap.size]? = some (.cells #[.int .u64 8192, .slice xa xn xc] 33 (0, 0)) ∧ V.heap[w.heap.size + 1]? = some (.cells #[.slice a L c, .int .u64 (ta : Int), .int .u64 (tl : Int)] 64 (0, 0)) ∧ V.heap[w.heap.size + 1 + 1]? = some (.cells #[.int .u64 0, .slice none 0 0] 33 (0, 0)) ∧ xn ≤ nn + j ∧ RefIn F V (.slice xa xn xc) xn xs ∧ (∀ q, rget xs xn q = layS g ((scaL l f n).take j) 0 M q) ∧ Rng xs xn 8192
def Dy (w V : World) (F : Nat → Prop) (g M : Nat → Nat) (l : List Seg) (f n : Nat) (xa : Option Addr) (xn xc : Nat) (xs : Nat → Nat × Nat) (nn j : Nat) (a : Option Addr) (L c ta tl : Nat) (ya : Option Addr) (yn yc : Nat) : Prop := Below w.heap.size w V ∧ V.heap[w.heap.size]? = some (.cells #[.int .u64 8192, .slice ya yn yc] 33 (0, 0)) ∧ V.heap[w.heap.size + 1]? = some (.cells #[.slice a L c, .int .u64 (ta : Int), .int .u64 (tl : Int)] 64 (0, 0)) ∧ V.heap[w.heap.size + 1 + 1]? = some (.cells #[.int .u64 0, .slice none 0 0] 33 (0, 0)) ∧ xn ≤ nn + j ∧ (RefIn F V (.slice xa xn xc) xn xs ∧ ∀ q, (Value.slice xa xn xc).ownBlock = some q → 0 < xn → q ≠ w.heap.size) ∧ (∀ q, rget xs xn q = layS g ((scaL l f n).take j) 0 M q) ∧ Rng xs xn 8192
section
variable {w V V2 : World} {F : Nat → Prop} {g M : Nat → Nat} {l : List Seg} {f n : Nat} {xa : Option Addr} {xn xc : Nat} {xs : Nat → Nat × Nat} {nn j : Nat} {a : Option Addr} {L c ta tl : Nat}
theorem Dz.below (h : Dz w V F g M l f n xa xn xc xs nn j a L c ta tl) (hb : Below V.heap.size V V2) : Dz w V2 F g M l f n xa xn xc xs nn j a L c ta tl := ⟨below_to h.1 hb, below_box h.2.1 hb, below_box h.2.2.1 hb, below_box h.2.2.2.1 hb, h.2.2.2.2.1, h.2.2.2.2.2.1.below hb, h.2.2.2.2.2.2⟩
theorem setRow_cell {V : World} {q : Nat} {cs : Array Value} {b o : Nat} (h : b ≠ q) : (V.setRow q cs).cell? ⟨b, o, none⟩ = V.cell? ⟨b, o, none⟩ := World.cell?_of_block (a := ⟨b, o, none⟩) (setRow_other _ _ _ _ h)
theorem RefIn.setRow {F : Nat → Prop} {V : World} {xa : Option Addr} {xn xc q : Nat} {xs : Nat → Nat × Nat} {cs : Array Value} (h : RefIn F V (.slice xa xn xc) xn xs) (hq : ∀ z, (Value.slice xa xn xc).ownBlock = some z → 0 < xn → z ≠ q) : RefIn F (V.setRow q cs) (.slice xa xn xc) xn xs := by
  rcases h with h | ⟨g, c, he, hF, hc⟩
  · exact .inl h
  · refine .inr ⟨g, c, he, hF, fun i hi => ?_⟩
    have hne : g ≠ q := hq g (by rw [he]; rfl) (by omega)
    exact ⟨(setRow_cell hne).trans (hc i hi).1, (setRow_cell hne).trans (hc i hi).2⟩
theorem Dy.store {ya : Option Addr} {yn yc : Nat} (h : Dy w V F g M l f n xa xn xc xs nn j a L c ta tl ya yn yc) : Dz w (V.setRow (w.heap.size) #[.int .u64 8192, .slice xa xn xc]) F g M l f n xa xn xc xs nn j a L c ta tl := ⟨below_setRow h.1 (Nat.le_refl _) _, setRow_heap _ _ _ _ _ _ h.2.1, (setRow_other _ _ _ _ (by omega)).trans h.2.2.1, (setRow_other _ _ _ _ (by omega)).trans h.2.2.2.1, h.2.2.2.2.1, h.2.2.2.2.2.1.1.setRow h.2.2.2.2.2.1.2, h.2.2.2.2.2.2⟩
end
end Go.Proofs.YtmjdnocilbnoaaaGreat
