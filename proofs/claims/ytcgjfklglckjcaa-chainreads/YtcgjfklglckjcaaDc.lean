/- The document's Walk. -/
import Derived.Test.YtcgjfklglckjcaaDb
namespace Go.Proofs.Ytcgjfklglckjcaa
open Go.RowKit Go.Maps
set_option linter.unusedVariables false
set_option linter.unusedSimpArgs false
set_option maxRecDepth 100000
theorem dalong_any {w0 : World} {va : Option Addr} {nn vc : Nat} {M : Nat → Nat} (hM : ∀ a, M a ≤ 255) (hD : DDesc w0 va nn vc M) (t n : Nat) (hn : n ≤ 256) : ∀ k, k ≤ 256 → DIH w0 va nn vc M t n k := by
  intro k
  induction k with
  | zero =>
    intro _ i l a L c ta tl w hw hs hl
    by_cases hi : 0 ≤ i ∧ i < (n : Int)
    · exact dalong_loop (w0 := w0) t n i hi l a L c ta tl w
    · exact dalong_out (w0 := w0) t n 0 i hi l a L c ta tl w
  | succ k ih =>
    intro hk i l a L c ta tl w hw hs hl
    by_cases hi : 0 ≤ i ∧ i < (n : Int)
    · obtain ⟨j, rfl⟩ : ∃ j : Nat, i = j := ⟨i.toNat, by omega⟩
      exact dalong_in hM hD t n k j hn (by omega) (by omega) (ih (by omega)) l a L c ta tl w hw hs hl
    · exact dalong_out (w0 := w0) t n (k + 1) i hi l a L c ta tl w
def Dk (w V : World) (va : Option Addr) (nn vc n D A Uu : Nat) : Prop := V.heap[w.heap.size]? = some (.cells #[.int .u64 8192, .slice va nn vc] 32 (0, 0)) ∧ V.heap[w.heap.size + 1]? = some (.cells #[.int .i64 (n : Int), .int .u64 (D : Int), .int .u64 (A : Int), .int .u64 (Uu : Int)] 25 (0, 0)) ∧ V.heap[w.heap.size + 1 + 1]? = some (.cells #[.slice none 0 0, .int .u64 0, .int .u64 0] 44 (0, 0)) ∧ Below w.heap.size w V
def Dl (w V : World) (va : Option Addr) (nn vc n D A Uu p : Nat) (dc : Array Value) (q : Nat) (cc : Array Value) : Prop := Dk w V va nn vc n D A Uu ∧ V.heap[p]? = some (.cells dc 92 (0, 0)) ∧ V.heap[q]? = some (.cells cc 44 (0, 0)) ∧ w.heap.size + 1 + 1 < p ∧ w.heap.size + 1 + 1 < q ∧ p ≠ q
section
variable {w V V2 : World} {va : Option Addr} {nn vc n D A Uu p q : Nat} {dc cc : Array Value}
theorem Dk.below (h : Dk w V va nn vc n D A Uu) (hb : Below V.heap.size V V2) : Dk w V2 va nn vc n D A Uu := ⟨below_box h.1 hb, below_box h.2.1 hb, below_box h.2.2.1 hb, below_to h.2.2.2 hb⟩
theorem Dl.below (h : Dl w V va nn vc n D A Uu p dc q cc) (hb : Below V.heap.size V V2) : Dl w V2 va nn vc n D A Uu p dc q cc := ⟨h.1.below hb, below_box h.2.1 hb, below_box h.2.2.1 hb, h.2.2.2⟩
theorem Dk.set (h : Dk w V va nn vc n D A Uu) (g : Nat) (hg : w.heap.size + 1 + 1 < g) (c : Array Value) : Dk w (V.setRow g c) va nn vc n D A Uu := ⟨(setRow_other _ _ _ _ (by omega)).trans h.1, (setRow_other _ _ _ _ (by omega)).trans h.2.1, (setRow_other _ _ _ _ (by omega)).trans h.2.2.1, below_setRow h.2.2.2 (by omega) _⟩
theorem Dl.setq (h : Dl w V va nn vc n D A Uu p dc q cc) (c : Array Value) : Dl w (V.setRow q c) va nn vc n D A Uu p dc q c := ⟨h.1.set q h.2.2.2.2.1 c, (setRow_other _ _ _ _ h.2.2.2.2.2).trans h.2.1, setRow_heap _ _ _ _ _ _ h.2.2.1, h.2.2.2⟩
theorem Dk.two (h : Dk w V va nn vc n D A Uu) (z1 z2 : Array Value) : Dl w ((V.alloc (.cells z1 92)).alloc (.cells z2 44)) va nn vc n D A Uu V.heap.size z1 (V.heap.size + 1) z2 := by
  have h2 := two_in V (.cells z1 92) (.cells z2 44)
  have hb : Below V.heap.size V ((V.alloc (.cells z1 92)).alloc (.cells z2 44)) := ((Below.refl _ _).alloc (Nat.le_refl _) _).alloc (by simp) _
  have hlt : w.heap.size + 1 + 1 < V.heap.size := (Array.getElem?_eq_some_iff.1 h.2.2.1).1
  exact ⟨h.below hb, h2.1, h2.2, hlt, by omega, by omega⟩
theorem Dl.setp (h : Dl w V va nn vc n D A Uu p dc q cc) (c : Array Value) : Dl w (V.setRow p c) va nn vc n D A Uu p c q cc := ⟨h.1.set p h.2.2.2.1 c, setRow_heap _ _ _ _ _ _ h.2.1, (setRow_other _ _ _ _ (fun e => h.2.2.2.2.2 e.symm)).trans h.2.2.1, h.2.2.2⟩
theorem Dl.tab {x y z : Value} (h : Dl w V va nn vc n D A Uu p dc q #[x, y, z]) (u v : Value) : Dl w ((V.setCell ⟨q, 1, none⟩ u).setCell ⟨q, 2, none⟩ v) va nn vc n D A Uu p dc q #[x, u, v] := by
  have e1 : (V.setCell ⟨q, 1, none⟩ u) = V.setRow q #[x, u, z] := by rw [setCell_eq_setRow V q 1 _ 44 (0, 0) u h.2.2.1]; rfl
  have h1 := h.setq #[x, u, z]
  have e2 : ((V.setRow q #[x, u, z]).setCell ⟨q, 2, none⟩ v) = (V.setRow q #[x, u, z]).setRow q #[x, u, v] := by rw [setCell_eq_setRow _ q 2 _ 44 (0, 0) v h1.2.2.1]; rfl
  rw [e1, e2]
  exact h1.setq _
end
theorem Dl.qlt {w V : World} {va : Option Addr} {nn vc n D A Uu p q : Nat} {dc cc : Array Value} (h : Dl w V va nn vc n D A Uu p dc q cc) : q ≠ V.heap.size := Nat.ne_of_lt (Array.getElem?_eq_some_iff.1 h.2.2.1).1
theorem Dl.row {w V : World} {va : Option Addr} {nn vc n D A Uu p q g : Nat} {dc cc : Array Value} {v : Value} (h : Dl w V va nn vc n D A Uu p dc q cc) (hq : q = p + 1) (hv : ∀ g, v.ownBlock = some g → w.heap.size + 1 + 1 < g ∧ g < p) (hg : v.ownBlock = some g ∨ V.heap.size ≤ g) : w.heap.size + 1 + 1 < g ∧ g ≠ q := by
  have hlt := (Array.getElem?_eq_some_iff.1 h.2.2.1).1
  have h5 := h.2.2.2.2.1
  rcases hg with hg | hg
  · have := hv g hg; omega
  · omega
theorem last_other {V : World} {q g : Nat} {o : Obj} {ec c2 : Array Value} (h : g ≠ q ∧ g < V.heap.size) : (((V.alloc o).setRow V.heap.size ec).setRow q c2).heap[g]? = V.heap[g]? := by
  have hb : Below V.heap.size V (V.alloc o) := (Below.refl _ _).alloc (Nat.le_refl _) _
  rw [setRow_other _ _ _ _ h.1, setRow_other _ _ _ _ (by omega)]
  exact hb.block g h.2
theorem Dl.last {w V : World} {va : Option Addr} {nn vc n D A Uu p q : Nat} {dc cc : Array Value} (h : Dl w V va nn vc n D A Uu p dc q cc) (z ec c2 : Array Value) : Dl w (((V.alloc (.cells z 92)).setRow V.heap.size ec).setRow q c2) va nn vc n D A Uu p dc q c2 ∧ (((V.alloc (.cells z 92)).setRow V.heap.size ec).setRow q c2).heap[V.heap.size]? = some (.cells ec 92 (0, 0)) := by
  have hb : Below V.heap.size V (V.alloc (.cells z 92)) := (Below.refl _ _).alloc (Nat.le_refl _) _
  have hq := h.qlt
  have hp : p ≠ V.heap.size := Nat.ne_of_lt (Array.getElem?_eq_some_iff.1 h.2.1).1
  have hlt : w.heap.size + 1 + 1 < V.heap.size := (Array.getElem?_eq_some_iff.1 h.1.2.2.1).1
  have h1 := h.below hb
  have h2 : Dl w ((V.alloc (.cells z 92)).setRow V.heap.size ec) va nn vc n D A Uu p dc q cc := ⟨h1.1.set _ hlt _, (setRow_other _ _ _ _ hp).trans h1.2.1, (setRow_other _ _ _ _ hq).trans h1.2.2.1, h1.2.2.2⟩
  exact ⟨h2.setq _, (setRow_other _ _ _ _ (fun e => hq e.symm)).trans (setRow_heap _ _ _ _ _ _ (heap_alloc_new _ _))⟩
theorem tabE_rows {d : De} {al : Bool} (h : (!al || fl d.f 1) = false) (h2 : ¬ d.l % 16 = 0 ∨ d.l < 16 ∨ 4096 < d.l) : tabE d al = 154 := tabE_bad h (by omega)
set_option maxHeartbeats 4000000 in
theorem dwalk_any {w0 w : World} {va : Option Addr} {nn vc : Nat} {M : Nat → Nat} (hM : ∀ a, M a ≤ 255) (hD : DDesc w0 va nn vc M) (n D A Uu : Nat) (hn : n ≤ 256) (hd : Int) (al : Bool) (hw : Below w0.heap.size w0 w) :
    Calls Try.prog 13 #[.agg #[.int .u64 8192, .slice va nn vc], .agg #[.int .i64 (n : Int), .int .u64 (D : Int), .int .u64 (A : Int), .int .u64 (Uu : Int)], .int .i64 hd, .bool al] w fun e w' => ∃ a L c, e = .returned (.tuple #[.agg #[.slice a L c, .int .u64 ((walkR M D n hd al).ta : Int), .int .u64 ((walkR M D n hd al).tl : Int)], .int .i64 ((walkR M D n hd al).e : Int)]) ∧ SegIn 0 w' (.slice a L c) (walkR M D n hd al).l ∧ Below w.heap.size w w' := by
  obtain ⟨cn, hcn⟩ : ∃ cn, walkR M D n hd al = cn := ⟨_, rfl⟩
  rw [hcn]
  obtain ⟨r, hr⟩ : ∃ r, alongR M D n n hd [] = r := ⟨_, rfl⟩
  have hra := along_all hM D n n hd [] (by simp)
  rw [hr] at hra
  have X0 : Hid (Dk w (((w.alloc (.cells #[.int .u64 8192, .slice va nn vc] 32)).alloc (.cells #[.int .i64 (n : Int), .int .u64 (D : Int), .int .u64 (A : Int), .int .u64 (Uu : Int)] 25)).alloc (.cells #[.slice none 0 0, .int .u64 0, .int .u64 0] 44)) va nn vc n D A Uu) := three_in w _ _ _
  have HCN : Hid (walkR M D n hd al = cn ∧ alongR M D n n hd [] = r) := ⟨hcn, hr⟩
  have HRA : Hid (r.d.Ok ∧ r.l.length ≤ 256) := ⟨hra.2.1, by have := hra.2.2; simp at this; omega⟩
  have HM : Hid ((∀ a, M a ≤ 255) ∧ DDesc w0 va nn vc M) := ⟨hM, hD⟩
  have W38 : Hid (∀ V, Below w.heap.size w V → Calls Try.prog 38 #[.agg #[.int .u64 8192, .slice va nn vc], .int .u64 (D : Int), .int .i64 (n : Int), .int .i64 hd, .int .i64 (n : Int), .agg #[.slice none 0 0, .int .u64 0, .int .u64 0]] V fun e w' => ∃ (d : De) (a' : Option Addr) (L' c' : Nat), e = .returned (.tuple #[.agg #[.int .u64 (d.a : Int), .int .u32 (d.l : Int), .int .u16 (d.f : Int), .int .u16 (d.x : Int)], .agg #[.slice a' L' c', .int .u64 0, .int .u64 0], .int .i64 (r.e : Int)]) ∧ (r.e = 0 → d = r.d ∧ SegIn 0 w' (.slice a' L' c') r.l ∧ ∀ g, (Value.slice a' L' c').ownBlock = some g → V.heap.size ≤ g) ∧ Below V.heap.size V w') := by
    intro V hV
    have := dalong_any hM hD D n hn n hn hd [] none 0 0 0 0 V (below_to hw hV) (segs_nil _ _) (by simp; omega)
    rw [hr] at this
    refine this.mono ?_
    rintro e w' ⟨d, a', L', c', he, h1, h2⟩
    exact ⟨d, a', L', c', he, fun h => ⟨(h1 h).1, (h1 h).2.1, fun g hg => ((h1 h).2.2 g hg).elim (fun h => by cases h) id⟩, h2⟩
  have HW0 : Hid (Below w0.heap.size w0 w) := hw
  clear hcn hr hra hM hD hw
  go_enter Try.func13, Try.ntmps13
  go_upto_region 1 with fail
  generalize ((w.alloc (.cells #[.int .u64 8192, .slice va nn vc] 32)).alloc (.cells #[.int .i64 (n : Int), .int .u64 (D : Int), .int .u64 (A : Int), .int .u64 (Uu : Int)] 25)).alloc (.cells #[.slice none 0 0, .int .u64 0, .int .u64 0] 44) = v0 at *
  obtain ⟨m0, m1, _, _⟩ := box_facts X0.out.1
  obtain ⟨l0, l1, l2, l3⟩ := box4_facts X0.out.2.1
  go_upto_region 2 with (go_at_call 38; refine (W38.out _ X0.out.2.2.2).mono ?_; rintro e w1 ⟨⟨da, dl, df, dx⟩, a1, L1, c1, rfl, hd1, hb1⟩; have X1 : Hid (Dk w w1 va nn vc n D A Uu) := X0.out.below hb1; have G1 : Hid (r.e = 0 → De.mk da dl df dx = r.d ∧ SegIn 0 w1 (.slice a1 L1 c1) r.l ∧ ∀ g, (Value.slice a1 L1 c1).ownBlock = some g → w.heap.size + 1 + 1 < g ∧ g < w1.heap.size) := fun h => ⟨(hd1 h).1, (hd1 h).2.1, fun g hg => ⟨by have := (hd1 h).2.2 g hg; have := (Array.getElem?_eq_some_iff.1 X0.out.2.2.1).1; omega, ((hd1 h).2.1.lt g hg).2⟩⟩; clear hd1 hb1 X0 m0 m1 l0 l1 l2 l3 W38; rename_i KK hKK; refine hKK _ _ ?_; clear hKK; (refine wpList_step (fun KK hKK => ?_); go_simp; refine hKK _ _ ?_; clear hKK KK); (refine wpList_step (fun KK hKK => ?_); go_simp; refine hKK _ _ ?_; clear hKK KK); (refine wpList_step (fun KK hKK => ?_); go_simp; refine hKK _ _ ?_; clear hKK KK); (refine wpList_step (fun KK hKK => ?_); go_simp; refine hKK _ _ ?_; clear hKK KK); (refine wpList_step (fun KK hKK => ?_); go_simp; refine hKK _ _ ?_; clear hKK KK); (refine wpList_step (fun KK hKK => ?_); go_simp; refine hKK _ _ ?_; clear hKK KK))
  have X2 : Hid (Dl w ((w1.alloc (.cells #[.int .u64 (da : Int), .int .u32 (dl : Int), .int .u16 (df : Int), .int .u16 (dx : Int)] 92)).alloc (.cells #[.slice a1 L1 c1, .int .u64 0, .int .u64 0] 44)) va nn vc n D A Uu w1.heap.size #[.int .u64 (da : Int), .int .u32 (dl : Int), .int .u16 (df : Int), .int .u16 (dx : Int)] (w1.heap.size + 1) #[.slice a1 L1 c1, .int .u64 0, .int .u64 0]) := X1.out.two _ _
  have hb2 : Below w1.heap.size w1 ((w1.alloc (.cells #[.int .u64 (da : Int), .int .u32 (dl : Int), .int .u16 (df : Int), .int .u16 (dx : Int)] 92)).alloc (.cells #[.slice a1 L1 c1, .int .u64 0, .int .u64 0] 44)) := ((Below.refl _ _).alloc (Nat.le_refl _) _).alloc (by simp) _
  have G2 : Hid (r.e = 0 → De.mk da dl df dx = r.d ∧ SegIn 0 ((w1.alloc (.cells #[.int .u64 (da : Int), .int .u32 (dl : Int), .int .u16 (df : Int), .int .u16 (dx : Int)] 92)).alloc (.cells #[.slice a1 L1 c1, .int .u64 0, .int .u64 0] 44)) (.slice a1 L1 c1) r.l ∧ ∀ g, (Value.slice a1 L1 c1).ownBlock = some g → w.heap.size + 1 + 1 < g ∧ g < w1.heap.size) := fun h => ⟨(G1.out h).1, (G1.out h).2.1.kept (fun g hg => hb2.block g ((G1.out h).2.2 g hg).2), (G1.out h).2.2⟩
  clear hb2 X1 G1
  have HPQ : Hid (w1.heap.size + 1 = w1.heap.size + 1) := rfl
  generalize (w1.alloc (.cells #[.int .u64 (da : Int), .int .u32 (dl : Int), .int .u16 (df : Int), .int .u16 (dx : Int)] 92)).alloc (.cells #[.slice a1 L1 c1, .int .u64 0, .int .u64 0] 44) = w2 at *
  generalize hq : w1.heap.size + 1 = q at *
  generalize w1.heap.size = p at *
  have HQ : Hid (q = p + 1) := hq.symm
  clear hq HPQ
  obtain ⟨re, hre⟩ : ∃ e, r.e = e := ⟨_, rfl⟩
  have HRE : Hid (r.e = re) := hre
  rw [hre] at G2
  rw [hre]
  clear hre
  by_cases hz : re = 0
  case neg =>
    have hz1 : ((re : Int) != 0) = true := by simp; omega
    have hz2 : ¬ (re : Int) = 0 := by omega
    have HE : Hid (cn = ⟨re, [], 0, 0⟩) := HCN.out.1.symm.trans (by rw [walk_err HCN.out.2 (by rw [HRE.out]; exact hz), HRE.out])
    clear hz
    go_upto_region 3 with fail
    refine wp_region_list ?_
    (refine wpList_step (fun KK hKK => ?_); go_simp; refine hKK _ _ ?_; clear hKK KK)
    (refine wpList_step (fun KK hKK => ?_); go_simp; refine hKK _ _ ?_; clear hKK KK)
    refine wpList_store_row rfl 44 _ _ rfl (w.heap.size + 1 + 1) #[.slice none 0 0, .int .u64 0, .int .u64 0] rfl rfl 44 #[.slice none 0 0, .int .u64 0, .int .u64 0] X2.out.1.2.2.1 info44 rfl (by simp [Value.oneCell']) ?_
    have HY : Hid (Below w.heap.size w (w2.setRow (w.heap.size + 1 + 1) #[.slice none 0 0, .int .u64 0, .int .u64 0]) ∧ (w2.setRow (w.heap.size + 1 + 1) #[.slice none 0 0, .int .u64 0, .int .u64 0]).heap[w.heap.size + 1 + 1]? = some (.cells #[.slice none 0 0, .int .u64 0, .int .u64 0] 44 (0, 0)) ∧ SegIn 0 (w2.setRow (w.heap.size + 1 + 1) #[.slice none 0 0, .int .u64 0, .int .u64 0]) (.slice none 0 0) []) := ⟨below_setRow X2.out.1.2.2.2 (by omega) _, setRow_heap _ _ _ _ _ _ X2.out.1.2.2.1, segs_nil _ _⟩
    generalize w2.setRow (w.heap.size + 1 + 1) #[.slice none 0 0, .int .u64 0, .int .u64 0] = w9 at *
    obtain ⟨k0, k1, k2⟩ := box3_facts HY.out.2.1
    go_wp2_with fail
    refine bodyPost_ret (v := .tuple #[.agg #[.slice none 0 0, .int .u64 0, .int .u64 0], .int .i64 (re : Int)]) (by simp [results, Try.results13, go_sem, k0, k1, k2]) rfl ?_
    rw [HE.out]
    exact ⟨none, 0, 0, rfl, HY.out.2.2, HY.out.1⟩
  subst hz
  have G3 : Hid (r.d = ⟨da, dl, df, dx⟩ ∧ SegIn 0 w2 (.slice a1 L1 c1) r.l ∧ ∀ g, (Value.slice a1 L1 c1).ownBlock = some g → w.heap.size + 1 + 1 < g ∧ g < p) := ⟨(G2.out rfl).1.symm, (G2.out rfl).2⟩
  clear G2
  rw [G3.out.1] at HRA
  have hf : df ≤ 65535 := HRA.out.1.f
  have hdl : dl ≤ 4294967295 := HRA.out.1.l
  obtain ⟨rl, hrl⟩ : ∃ e, r.l = e := ⟨_, rfl⟩
  have HRL : Hid (r.l = rl) := hrl
  rw [hrl] at G3 HRA
  clear hrl
  obtain ⟨d0, d1, d2, d3⟩ := box4_facts X2.out.2.1
  obtain ⟨f4, hf4⟩ : ∃ b, fl df 4 = b := ⟨_, rfl⟩
  have H4 : Hid (∀ V, Calls Try.prog 39 #[.agg #[.int .u64 (da : Int), .int .u32 (dl : Int), .int .u16 (df : Int), .int .u16 (dx : Int)], .int .u16 4] V fun e w' => e = .returned (.bool f4) ∧ Below V.heap.size V w') := by
    intro V; rw [← hf4]; exact flag4 da dl df dx hf V
  have HF4 : Hid (fl r.d.f 4 = f4) := by show fl r.d.f 4 = f4; rw [G3.out.1]; exact hf4
  clear hf4
  have GS : Hid (∀ V, Below w2.heap.size w2 V → SegIn 0 V (.slice a1 L1 c1) rl) := fun V hV => G3.out.2.1.kept (fun g hg => hV.block g (G3.out.2.1.lt g hg).2)
  cases f4 with
  | false =>
    have HE : Hid (cn = ⟨0, rl, 0, 0⟩) := HCN.out.1.symm.trans (by rw [walk_plain HCN.out.2 HRE.out HF4.out, HRL.out])
    go_upto_region 5 with (go_at_call 39; refine (H4.out _).mono ?_; rintro e w3 ⟨rfl, hb3⟩; have X3 : Hid (Dl w w3 va nn vc n D A Uu p #[.int .u64 (da : Int), .int .u32 (dl : Int), .int .u16 (df : Int), .int .u16 (dx : Int)] q #[.slice a1 L1 c1, .int .u64 0, .int .u64 0]) := X2.out.below hb3; have G4 : Hid (SegIn 0 w3 (.slice a1 L1 c1) rl) := GS.out _ hb3; clear hb3 d0 d1 d2 d3)
    clear X2
    obtain ⟨e0, e1, e2⟩ := box3_facts X3.out.2.2.1
    go_upto_region 5 with fail
    refine wp_region_list ?_
    (refine wpList_step (fun KK hKK => ?_); go_simp; refine hKK _ _ ?_; clear hKK KK)
    refine wpList_store_row rfl 44 _ _ rfl (w.heap.size + 1 + 1) #[.slice a1 L1 c1, .int .u64 0, .int .u64 0] rfl rfl 44 #[.slice none 0 0, .int .u64 0, .int .u64 0] X3.out.1.2.2.1 info44 rfl (by simp [Value.oneCell']) ?_
    have HY : Hid (Below w.heap.size w (w3.setRow (w.heap.size + 1 + 1) #[.slice a1 L1 c1, .int .u64 0, .int .u64 0]) ∧ (w3.setRow (w.heap.size + 1 + 1) #[.slice a1 L1 c1, .int .u64 0, .int .u64 0]).heap[w.heap.size + 1 + 1]? = some (.cells #[.slice a1 L1 c1, .int .u64 0, .int .u64 0] 44 (0, 0)) ∧ SegIn 0 (w3.setRow (w.heap.size + 1 + 1) #[.slice a1 L1 c1, .int .u64 0, .int .u64 0]) (.slice a1 L1 c1) rl) := ⟨below_setRow X3.out.1.2.2.2 (by omega) _, setRow_heap _ _ _ _ _ _ X3.out.1.2.2.1, G4.out.kept (fun g hg => setRow_other _ _ _ _ (by have := (G3.out.2.2 g hg).1; omega))⟩
    generalize w3.setRow (w.heap.size + 1 + 1) #[.slice a1 L1 c1, .int .u64 0, .int .u64 0] = w9 at *
    obtain ⟨k0, k1, k2⟩ := box3_facts HY.out.2.1
    go_wp2_with fail
    refine bodyPost_ret (v := .tuple #[.agg #[.slice a1 L1 c1, .int .u64 0, .int .u64 0], .int .i64 0]) (by simp [results, Try.results13, go_sem, k0, k1, k2]) rfl ?_
    rw [HE.out]
    exact ⟨a1, L1, c1, rfl, HY.out.2.2, HY.out.1⟩
  | true =>
    have A36 : True := trivial
    cases al with
    | false =>
      have HE : Hid (cn = ⟨153, [], 0, 0⟩) := HCN.out.1.symm.trans (walk_tab HCN.out.2 HRE.out HF4.out (tabE_nest rfl) (by decide))
      go_upto_region 7 with (go_at_call 39; refine (H4.out _).mono ?_; rintro e w3 ⟨rfl, hb3⟩; have X3 : Hid (Dl w w3 va nn vc n D A Uu p #[.int .u64 (da : Int), .int .u32 (dl : Int), .int .u16 (df : Int), .int .u16 (dx : Int)] q #[.slice a1 L1 c1, .int .u64 0, .int .u64 0]) := X2.out.below hb3; clear hb3 d0 d1 d2 d3)
      clear X2
      go_upto_region 7 with fail
      refine wp_region_list ?_
      (refine wpList_step (fun KK hKK => ?_); go_simp; refine hKK _ _ ?_; clear hKK KK)
      refine wpList_store_row rfl 44 _ _ rfl (w.heap.size + 1 + 1) #[.slice none 0 0, .int .u64 0, .int .u64 0] rfl rfl 44 #[.slice none 0 0, .int .u64 0, .int .u64 0] X3.out.1.2.2.1 info44 rfl (by simp [Value.oneCell']) ?_
      have HY : Hid (Below w.heap.size w (w3.setRow (w.heap.size + 1 + 1) #[.slice none 0 0, .int .u64 0, .int .u64 0]) ∧ (w3.setRow (w.heap.size + 1 + 1) #[.slice none 0 0, .int .u64 0, .int .u64 0]).heap[w.heap.size + 1 + 1]? = some (.cells #[.slice none 0 0, .int .u64 0, .int .u64 0] 44 (0, 0)) ∧ SegIn 0 (w3.setRow (w.heap.size + 1 + 1) #[.slice none 0 0, .int .u64 0, .int .u64 0]) (.slice none 0 0) []) := ⟨below_setRow X3.out.1.2.2.2 (by omega) _, setRow_heap _ _ _ _ _ _ X3.out.1.2.2.1, segs_nil _ _⟩
      generalize w3.setRow (w.heap.size + 1 + 1) #[.slice none 0 0, .int .u64 0, .int .u64 0] = w9 at *
      obtain ⟨k0, k1, k2⟩ := box3_facts HY.out.2.1
      go_wp2_with fail
      refine bodyPost_ret (v := .tuple #[.agg #[.slice none 0 0, .int .u64 0, .int .u64 0], .int .i64 153]) (by simp [results, Try.results13, go_sem, k0, k1, k2]) rfl ?_
      rw [HE.out]
      exact ⟨none, 0, 0, rfl, HY.out.2.2, HY.out.1⟩
    | true =>
      obtain ⟨f1, hf1⟩ : ∃ b, fl df 1 = b := ⟨_, rfl⟩
      have H1 : Hid (∀ V, Calls Try.prog 39 #[.agg #[.int .u64 (da : Int), .int .u32 (dl : Int), .int .u16 (df : Int), .int .u16 (dx : Int)], .int .u16 1] V fun e w' => e = .returned (.bool f1) ∧ Below V.heap.size V w') := by
        intro V; rw [← hf1]; exact flag1 da dl df dx hf V
      have HF1 : Hid ((!true || fl r.d.f 1) = f1) := by show fl r.d.f 1 = f1; rw [G3.out.1]; exact hf1
      clear hf1
      go_upto_region 6 with (go_at_call 39; refine (H4.out _).mono ?_; rintro e w3 ⟨rfl, hb3⟩; have X3 : Hid (Dl w w3 va nn vc n D A Uu p #[.int .u64 (da : Int), .int .u32 (dl : Int), .int .u16 (df : Int), .int .u16 (dx : Int)] q #[.slice a1 L1 c1, .int .u64 0, .int .u64 0] ∧ Below w2.heap.size w2 w3) := ⟨X2.out.below hb3, hb3⟩; clear hb3 d0 d1 d2 d3)
      clear X2
      obtain ⟨d0, d1, d2, d3⟩ := box4_facts X3.out.1.2.1
      cases f1 with
      | true =>
        have HE : Hid (cn = ⟨153, [], 0, 0⟩) := HCN.out.1.symm.trans (walk_tab HCN.out.2 HRE.out HF4.out (tabE_nest HF1.out) (by decide))
        go_upto_region 7 with (go_at_call 39; refine (H1.out _).mono ?_; rintro e w4 ⟨rfl, hb4⟩; have X4 : Hid (Dl w w4 va nn vc n D A Uu p #[.int .u64 (da : Int), .int .u32 (dl : Int), .int .u16 (df : Int), .int .u16 (dx : Int)] q #[.slice a1 L1 c1, .int .u64 0, .int .u64 0]) := X3.out.1.below hb4; clear hb4 d0 d1 d2 d3)
        clear X3
        go_upto_region 7 with fail
        refine wp_region_list ?_
        (refine wpList_step (fun KK hKK => ?_); go_simp; refine hKK _ _ ?_; clear hKK KK)
        refine wpList_store_row rfl 44 _ _ rfl (w.heap.size + 1 + 1) #[.slice none 0 0, .int .u64 0, .int .u64 0] rfl rfl 44 #[.slice none 0 0, .int .u64 0, .int .u64 0] X4.out.1.2.2.1 info44 rfl (by simp [Value.oneCell']) ?_
        have HY : Hid (Below w.heap.size w (w4.setRow (w.heap.size + 1 + 1) #[.slice none 0 0, .int .u64 0, .int .u64 0]) ∧ (w4.setRow (w.heap.size + 1 + 1) #[.slice none 0 0, .int .u64 0, .int .u64 0]).heap[w.heap.size + 1 + 1]? = some (.cells #[.slice none 0 0, .int .u64 0, .int .u64 0] 44 (0, 0)) ∧ SegIn 0 (w4.setRow (w.heap.size + 1 + 1) #[.slice none 0 0, .int .u64 0, .int .u64 0]) (.slice none 0 0) []) := ⟨below_setRow X4.out.1.2.2.2 (by omega) _, setRow_heap _ _ _ _ _ _ X4.out.1.2.2.1, segs_nil _ _⟩
        generalize w4.setRow (w.heap.size + 1 + 1) #[.slice none 0 0, .int .u64 0, .int .u64 0] = w9 at *
        obtain ⟨k0, k1, k2⟩ := box3_facts HY.out.2.1
        go_wp2_with fail
        refine bodyPost_ret (v := .tuple #[.agg #[.slice none 0 0, .int .u64 0, .int .u64 0], .int .i64 153]) (by simp [results, Try.results13, go_sem, k0, k1, k2]) rfl ?_
        rw [HE.out]
        exact ⟨none, 0, 0, rfl, HY.out.2.2, HY.out.1⟩
      | false =>
        go_upto_region 8 with (go_at_call 39; refine (H1.out _).mono ?_; rintro e w4 ⟨rfl, hb4⟩; have X4 : Hid (Dl w w4 va nn vc n D A Uu p #[.int .u64 (da : Int), .int .u32 (dl : Int), .int .u16 (df : Int), .int .u16 (dx : Int)] q #[.slice a1 L1 c1, .int .u64 0, .int .u64 0]) := X3.out.1.below hb4; have G4 : Hid (SegIn 0 w4 (.slice a1 L1 c1) rl) := GS.out _ (below_to X3.out.2 hb4); clear hb4 d0 d1 d2 d3)
        clear X3 GS H1 H4
        obtain ⟨d0, d1, d2, d3⟩ := box4_facts X4.out.2.1
        obtain ⟨y, hy⟩ : ∃ y, dl % 16 = y := ⟨_, rfl⟩
        have u2 : (dl : Int) % 16 = (y : Int) := by omega
        have u2' : (dl : Int).tmod 16 = (y : Int) := by rw [Int.tmod_eq_emod_of_nonneg (by omega)]; exact u2
        by_cases z0 : y = 0
        case neg =>
          have HE : Hid (cn = ⟨154, [], 0, 0⟩) := HCN.out.1.symm.trans (walk_tab HCN.out.2 HRE.out HF4.out (tabE_rows HF1.out (by rw [G3.out.1]; exact .inl (by rw [hy]; exact z0))) (by decide))
          have u3 : ((y : Int) != 0) = true := by simp; omega
          clear hy z0
          go_upto_region 9 with fail
          refine wp_region_list ?_
          (refine wpList_step (fun KK hKK => ?_); go_simp; refine hKK _ _ ?_; clear hKK KK)
          refine wpList_store_row rfl 44 _ _ rfl (w.heap.size + 1 + 1) #[.slice none 0 0, .int .u64 0, .int .u64 0] rfl rfl 44 #[.slice none 0 0, .int .u64 0, .int .u64 0] X4.out.1.2.2.1 info44 rfl (by simp [Value.oneCell']) ?_
          have HY : Hid (Below w.heap.size w (w4.setRow (w.heap.size + 1 + 1) #[.slice none 0 0, .int .u64 0, .int .u64 0]) ∧ (w4.setRow (w.heap.size + 1 + 1) #[.slice none 0 0, .int .u64 0, .int .u64 0]).heap[w.heap.size + 1 + 1]? = some (.cells #[.slice none 0 0, .int .u64 0, .int .u64 0] 44 (0, 0)) ∧ SegIn 0 (w4.setRow (w.heap.size + 1 + 1) #[.slice none 0 0, .int .u64 0, .int .u64 0]) (.slice none 0 0) []) := ⟨below_setRow X4.out.1.2.2.2 (by omega) _, setRow_heap _ _ _ _ _ _ X4.out.1.2.2.1, segs_nil _ _⟩
          generalize w4.setRow (w.heap.size + 1 + 1) #[.slice none 0 0, .int .u64 0, .int .u64 0] = w9 at *
          obtain ⟨k0, k1, k2⟩ := box3_facts HY.out.2.1
          go_wp2_with fail
          refine bodyPost_ret (v := .tuple #[.agg #[.slice none 0 0, .int .u64 0, .int .u64 0], .int .i64 154]) (by simp [results, Try.results13, go_sem, k0, k1, k2]) rfl ?_
          rw [HE.out]
          exact ⟨none, 0, 0, rfl, HY.out.2.2, HY.out.1⟩
        subst z0
        by_cases z1 : dl < 16
        case pos =>
          have HE : Hid (cn = ⟨154, [], 0, 0⟩) := HCN.out.1.symm.trans (walk_tab HCN.out.2 HRE.out HF4.out (tabE_rows HF1.out (by rw [G3.out.1]; exact .inr (.inl z1))) (by decide))
          have u4 : (dl : Int) < 16 := by omega
          clear hy z1
          go_upto_region 9 with fail
          refine wp_region_list ?_
          (refine wpList_step (fun KK hKK => ?_); go_simp; refine hKK _ _ ?_; clear hKK KK)
          refine wpList_store_row rfl 44 _ _ rfl (w.heap.size + 1 + 1) #[.slice none 0 0, .int .u64 0, .int .u64 0] rfl rfl 44 #[.slice none 0 0, .int .u64 0, .int .u64 0] X4.out.1.2.2.1 info44 rfl (by simp [Value.oneCell']) ?_
          have HY : Hid (Below w.heap.size w (w4.setRow (w.heap.size + 1 + 1) #[.slice none 0 0, .int .u64 0, .int .u64 0]) ∧ (w4.setRow (w.heap.size + 1 + 1) #[.slice none 0 0, .int .u64 0, .int .u64 0]).heap[w.heap.size + 1 + 1]? = some (.cells #[.slice none 0 0, .int .u64 0, .int .u64 0] 44 (0, 0)) ∧ SegIn 0 (w4.setRow (w.heap.size + 1 + 1) #[.slice none 0 0, .int .u64 0, .int .u64 0]) (.slice none 0 0) []) := ⟨below_setRow X4.out.1.2.2.2 (by omega) _, setRow_heap _ _ _ _ _ _ X4.out.1.2.2.1, segs_nil _ _⟩
          generalize w4.setRow (w.heap.size + 1 + 1) #[.slice none 0 0, .int .u64 0, .int .u64 0] = w9 at *
          obtain ⟨k0, k1, k2⟩ := box3_facts HY.out.2.1
          go_wp2_with fail
          refine bodyPost_ret (v := .tuple #[.agg #[.slice none 0 0, .int .u64 0, .int .u64 0], .int .i64 154]) (by simp [results, Try.results13, go_sem, k0, k1, k2]) rfl ?_
          rw [HE.out]
          exact ⟨none, 0, 0, rfl, HY.out.2.2, HY.out.1⟩
        have u4 : ¬ (dl : Int) < 16 := by omega
        by_cases z2 : 4096 < dl
        case pos =>
          have HE : Hid (cn = ⟨154, [], 0, 0⟩) := HCN.out.1.symm.trans (walk_tab HCN.out.2 HRE.out HF4.out (tabE_rows HF1.out (by rw [G3.out.1]; exact .inr (.inr z2))) (by decide))
          have u5 : (4096 : Int) < dl := by omega
          clear hy z1 z2
          go_upto_region 9 with fail
          refine wp_region_list ?_
          (refine wpList_step (fun KK hKK => ?_); go_simp; refine hKK _ _ ?_; clear hKK KK)
          refine wpList_store_row rfl 44 _ _ rfl (w.heap.size + 1 + 1) #[.slice none 0 0, .int .u64 0, .int .u64 0] rfl rfl 44 #[.slice none 0 0, .int .u64 0, .int .u64 0] X4.out.1.2.2.1 info44 rfl (by simp [Value.oneCell']) ?_
          have HY : Hid (Below w.heap.size w (w4.setRow (w.heap.size + 1 + 1) #[.slice none 0 0, .int .u64 0, .int .u64 0]) ∧ (w4.setRow (w.heap.size + 1 + 1) #[.slice none 0 0, .int .u64 0, .int .u64 0]).heap[w.heap.size + 1 + 1]? = some (.cells #[.slice none 0 0, .int .u64 0, .int .u64 0] 44 (0, 0)) ∧ SegIn 0 (w4.setRow (w.heap.size + 1 + 1) #[.slice none 0 0, .int .u64 0, .int .u64 0]) (.slice none 0 0) []) := ⟨below_setRow X4.out.1.2.2.2 (by omega) _, setRow_heap _ _ _ _ _ _ X4.out.1.2.2.1, segs_nil _ _⟩
          generalize w4.setRow (w.heap.size + 1 + 1) #[.slice none 0 0, .int .u64 0, .int .u64 0] = w9 at *
          obtain ⟨k0, k1, k2⟩ := box3_facts HY.out.2.1
          go_wp2_with fail
          refine bodyPost_ret (v := .tuple #[.agg #[.slice none 0 0, .int .u64 0, .int .u64 0], .int .i64 154]) (by simp [results, Try.results13, go_sem, k0, k1, k2]) rfl ?_
          rw [HE.out]
          exact ⟨none, 0, 0, rfl, HY.out.2.2, HY.out.1⟩
        have u5 : ¬ (4096 : Int) < dl := by omega
        have hl4 : dl ≤ 4096 := by omega
        have hl16 : 16 ≤ dl := by omega
        have HTG : Hid (tabE r.d true = if inB da dl 2147483648 8192 = true then 0 else 21) := by
          show tabE r.d true = _
          rw [tabE_go HF1.out (by rw [G3.out.1]; show ¬ (dl = 0 ∨ 4096 < dl ∨ ¬ dl % 16 = 0); omega), G3.out.1]
        obtain ⟨ib, hin⟩ : ∃ b, inB da dl 2147483648 8192 = b := ⟨_, rfl⟩
        have H17 : Hid (∀ V, Calls Try.prog 17 #[.agg #[.int .u64 8192, .slice va nn vc], .int .u64 (da : Int), .int .u64 (dl : Int)] V fun e w' => e = .returned (.bool ib) ∧ Below V.heap.size V w') := by
          intro V
          rw [← hin]
          exact (rhas_any 8192 da dl (.slice va nn vc) (by omega) HRA.out.1.a (by omega) V).mono fun e w' ⟨he, hb⟩ => ⟨he, hb⟩
        rw [hin] at HTG
        clear hin z1 z2 hy
        have hwr : IntKind.u64.wrap (dl : Int) = (dl : Int) := by rw [wrap_u64]; omega
        obtain ⟨m0, m1, _, _⟩ := box_facts X4.out.1.1
        cases ib with
        | false =>
          have HE : Hid (cn = ⟨21, [], 0, 0⟩) := HCN.out.1.symm.trans (walk_tab HCN.out.2 HRE.out HF4.out HTG.out (by decide))
          go_upto_region 11 with (go_at_call 17; refine (H17.out _).mono ?_; rintro e w5 ⟨rfl, hb⟩; have X5 : Hid (Dl w w5 va nn vc n D A Uu p #[.int .u64 (da : Int), .int .u32 (dl : Int), .int .u16 (df : Int), .int .u16 (dx : Int)] q #[.slice a1 L1 c1, .int .u64 0, .int .u64 0]) := X4.out.below hb; clear hb d0 d1 d2 d3 m0 m1)
          clear X4
          go_upto_region 11 with fail
          refine wp_region_list ?_
          (refine wpList_step (fun KK hKK => ?_); go_simp; refine hKK _ _ ?_; clear hKK KK)
          refine wpList_store_row rfl 44 _ _ rfl (w.heap.size + 1 + 1) #[.slice none 0 0, .int .u64 0, .int .u64 0] rfl rfl 44 #[.slice none 0 0, .int .u64 0, .int .u64 0] X5.out.1.2.2.1 info44 rfl (by simp [Value.oneCell']) ?_
          have HY : Hid (Below w.heap.size w (w5.setRow (w.heap.size + 1 + 1) #[.slice none 0 0, .int .u64 0, .int .u64 0]) ∧ (w5.setRow (w.heap.size + 1 + 1) #[.slice none 0 0, .int .u64 0, .int .u64 0]).heap[w.heap.size + 1 + 1]? = some (.cells #[.slice none 0 0, .int .u64 0, .int .u64 0] 44 (0, 0)) ∧ SegIn 0 (w5.setRow (w.heap.size + 1 + 1) #[.slice none 0 0, .int .u64 0, .int .u64 0]) (.slice none 0 0) []) := ⟨below_setRow X5.out.1.2.2.2 (by omega) _, setRow_heap _ _ _ _ _ _ X5.out.1.2.2.1, segs_nil _ _⟩
          generalize w5.setRow (w.heap.size + 1 + 1) #[.slice none 0 0, .int .u64 0, .int .u64 0] = w9 at *
          obtain ⟨k0, k1, k2⟩ := box3_facts HY.out.2.1
          go_wp2_with fail
          refine bodyPost_ret (v := .tuple #[.agg #[.slice none 0 0, .int .u64 0, .int .u64 0], .int .i64 21]) (by simp [results, Try.results13, go_sem, k0, k1, k2]) rfl ?_
          rw [HE.out]
          exact ⟨none, 0, 0, rfl, HY.out.2.2, HY.out.1⟩
        | true =>
          have HT0 : Hid (tabE r.d true = 0) := HTG.out
          go_upto_region 12 with (go_at_call 17; refine (H17.out _).mono ?_; rintro e w5 ⟨rfl, hb⟩; have X5 : Hid (Dl w w5 va nn vc n D A Uu p #[.int .u64 (da : Int), .int .u32 (dl : Int), .int .u16 (df : Int), .int .u16 (dx : Int)] q #[.slice a1 L1 c1, .int .u64 0, .int .u64 0]) := X4.out.below hb; have G5 : Hid (SegIn 0 w5 (.slice a1 L1 c1) rl) := G4.out.kept (fun g hg => hb.block g (G4.out.lt g hg).2); clear hb d0 d1 d2 d3 m0 m1)
          clear X4 G4 H17
          obtain ⟨d0, d1, d2, d3⟩ := box4_facts X5.out.2.1
          obtain ⟨e0, e1, e2⟩ := box3_facts X5.out.2.2.1
          have e3 := frozenOf X5.out.2.2.1 1
          have e4 := frozenOf X5.out.2.2.1 2
          go_upto_region 13 with fail
          have X6 : Hid (Dl w ((w5.setCell ⟨q, 1, none⟩ (.int .u64 (da : Int))).setCell ⟨q, 2, none⟩ (.int .u64 (dl : Int))) va nn vc n D A Uu p #[.int .u64 (da : Int), .int .u32 (dl : Int), .int .u16 (df : Int), .int .u16 (dx : Int)] q #[.slice a1 L1 c1, .int .u64 (da : Int), .int .u64 (dl : Int)]) := X5.out.tab _ _
          have G6 : Hid (SegIn 0 ((w5.setCell ⟨q, 1, none⟩ (.int .u64 (da : Int))).setCell ⟨q, 2, none⟩ (.int .u64 (dl : Int))) (.slice a1 L1 c1) rl) := G5.out.kept (fun g hg => by
            have h1 := (G3.out.2.2 g hg).2
            have h2 := HQ.out
            rw [heap_setCell _ _ _ _ _ (by omega), heap_setCell _ _ _ _ _ (by omega)])
          clear X5 G5 d0 d1 d2 d3 e0 e1 e2 e3 e4
          generalize (w5.setCell ⟨q, 1, none⟩ (.int .u64 (da : Int))).setCell ⟨q, 2, none⟩ (.int .u64 (dl : Int)) = w6 at *
          obtain ⟨d0, d1, d2, d3⟩ := box4_facts X6.out.2.1
          obtain ⟨e0, e1, e2⟩ := box3_facts X6.out.2.2.1
          obtain ⟨m0, m1, _, _⟩ := box_facts X6.out.1.1
          obtain ⟨y, hy⟩ : ∃ y, dl / 16 = y := ⟨_, rfl⟩
          have v1 : (dl : Int) / 16 = (y : Int) := by omega
          have v2 : (dl : Int).tdiv 16 = (y : Int) := by rw [Int.tdiv_eq_ediv_of_nonneg (by omega)]; exact v1
          have v3 : IntKind.u32.wrap (y : Int) = (y : Int) := by simp [IntKind.wrap, IntKind.signed, IntKind.bits]; omega
          have v4 : IntKind.i64.wrap (y : Int) = (y : Int) := wrapi y (by omega)
          have hy2 : y ≤ 256 := by omega
          have HYY : Hid (dl / 16 = y) := hy
          clear hy u2 u2' u4 u5 hwr
          obtain ⟨s, hs⟩ : ∃ s, alongR M da y y 0 rl = s := ⟨_, rfl⟩
          have HS : Hid (alongR M r.d.a (r.d.l / 16) (r.d.l / 16) 0 r.l = s) := by show alongR M r.d.a (r.d.l / 16) (r.d.l / 16) 0 r.l = s; rw [G3.out.1, HRL.out]; simp only; rw [HYY.out]; exact hs
          have hsa := along_all HM.out.1 da y y 0 rl (by
            have := along_all HM.out.1 D n n hd [] (by simp)
            rw [HCN.out.2, HRL.out] at this
            exact this.1)
          rw [hs] at hsa
          have HSA : Hid (s.d.Ok) := hsa.2.1
          clear hsa
          have H382 : Hid (∀ V, Below w.heap.size w V → SegIn 0 V (.slice a1 L1 c1) rl → Calls Try.prog 38 #[.agg #[.int .u64 8192, .slice va nn vc], .int .u64 (da : Int), .int .i64 (y : Int), .int .i64 0, .int .i64 (y : Int), .agg #[.slice a1 L1 c1, .int .u64 (da : Int), .int .u64 (dl : Int)]] V fun e w' => ∃ (d : De) (a' : Option Addr) (L' c' : Nat), e = .returned (.tuple #[.agg #[.int .u64 (d.a : Int), .int .u32 (d.l : Int), .int .u16 (d.f : Int), .int .u16 (d.x : Int)], .agg #[.slice a' L' c', .int .u64 (da : Int), .int .u64 (dl : Int)], .int .i64 (s.e : Int)]) ∧ (s.e = 0 → d = s.d ∧ SegIn 0 w' (.slice a' L' c') s.l ∧ ∀ g, (Value.slice a' L' c').ownBlock = some g → (Value.slice a1 L1 c1).ownBlock = some g ∨ V.heap.size ≤ g) ∧ Below V.heap.size V w') := by
            intro V hV hsg
            have := dalong_any HM.out.1 HM.out.2 da y hy2 y hy2 0 rl a1 L1 c1 da dl V (below_to HW0.out hV) hsg (by have := HRA.out.2; omega)
            rw [hs] at this
            exact this
          clear hs
          go_upto_region 15 with (go_at_call 38; refine (H382.out _ X6.out.1.2.2.2 G6.out).mono ?_; rintro e w7 ⟨⟨ea, el, ef, ex⟩, a2, L2, c2, rfl, hd2, hb7⟩; have X7 : Hid (Dl w w7 va nn vc n D A Uu p #[.int .u64 (da : Int), .int .u32 (dl : Int), .int .u16 (df : Int), .int .u16 (dx : Int)] q #[.slice a1 L1 c1, .int .u64 (da : Int), .int .u64 (dl : Int)]) := X6.out.below hb7; have G7 : Hid (s.e = 0 → s.d = De.mk ea el ef ex ∧ SegIn 0 w7 (.slice a2 L2 c2) s.l ∧ ∀ g, (Value.slice a2 L2 c2).ownBlock = some g → w.heap.size + 1 + 1 < g ∧ g ≠ q ∧ g < w7.heap.size) := fun h => ⟨(hd2 h).1.symm, (hd2 h).2.1, fun g hg => (Dl.row X6.out HQ.out (fun g hg => (G3.out.2.2 g hg)) ((hd2 h).2.2 g hg)).imp id (fun hh => ⟨hh, ((hd2 h).2.1.lt g hg).2⟩)⟩; clear hd2 hb7 X6 G6 d0 d1 d2 d3 e0 e1 e2 m0 m1 H382; rename_i KK hKK; refine hKK _ _ ?_; clear hKK; (refine wpList_step (fun KK hKK => ?_); go_simp; refine hKK _ _ ?_; clear hKK KK); (refine wpList_step (fun KK hKK => ?_); go_simp; refine hKK _ _ ?_; clear hKK KK); (refine wpList_step (fun KK hKK => ?_); go_simp; refine hKK _ _ ?_; clear hKK KK); (refine wpList_step (fun KK hKK => ?_); go_simp; refine hKK _ _ ?_; clear hKK KK); (refine wpList_step (fun KK hKK => ?_); go_simp; refine hKK _ _ ?_; clear hKK KK); refine wpList_store_row rfl 92 _ _ rfl w7.heap.size #[.int .u64 (ea : Int), .int .u32 (el : Int), .int .u16 (ef : Int), .int .u16 (ex : Int)] rfl rfl 92 #[.int .u64 0, .int .u32 0, .int .u16 0, .int .u16 0] (heap_alloc_new _ _) info47 rfl (by simp [Value.oneCell']) ?_; refine wpList_store_row rfl 44 _ _ rfl q #[.slice a2 L2 c2, .int .u64 (da : Int), .int .u64 (dl : Int)] rfl rfl 44 #[.slice a1 L1 c1, .int .u64 (da : Int), .int .u64 (dl : Int)] ((setRow_other _ _ _ _ (Dl.qlt X7.out)).trans (below_box X7.out.2.2.1 ((Below.refl _ _).alloc (Nat.le_refl _) _))) info44 rfl (by simp [Value.oneCell']) ?_; have X8 : Hid (Dl w (((w7.alloc (.cells #[.int .u64 0, .int .u32 0, .int .u16 0, .int .u16 0] 92)).setRow w7.heap.size #[.int .u64 (ea : Int), .int .u32 (el : Int), .int .u16 (ef : Int), .int .u16 (ex : Int)]).setRow q #[.slice a2 L2 c2, .int .u64 (da : Int), .int .u64 (dl : Int)]) va nn vc n D A Uu p #[.int .u64 (da : Int), .int .u32 (dl : Int), .int .u16 (df : Int), .int .u16 (dx : Int)] q #[.slice a2 L2 c2, .int .u64 (da : Int), .int .u64 (dl : Int)] ∧ (((w7.alloc (.cells #[.int .u64 0, .int .u32 0, .int .u16 0, .int .u16 0] 92)).setRow w7.heap.size #[.int .u64 (ea : Int), .int .u32 (el : Int), .int .u16 (ef : Int), .int .u16 (ex : Int)]).setRow q #[.slice a2 L2 c2, .int .u64 (da : Int), .int .u64 (dl : Int)]).heap[w7.heap.size]? = some (.cells #[.int .u64 (ea : Int), .int .u32 (el : Int), .int .u16 (ef : Int), .int .u16 (ex : Int)] 92 (0, 0))) := X7.out.last _ _ _; have G8 : Hid (s.e = 0 → s.d = De.mk ea el ef ex ∧ SegIn 0 (((w7.alloc (.cells #[.int .u64 0, .int .u32 0, .int .u16 0, .int .u16 0] 92)).setRow w7.heap.size #[.int .u64 (ea : Int), .int .u32 (el : Int), .int .u16 (ef : Int), .int .u16 (ex : Int)]).setRow q #[.slice a2 L2 c2, .int .u64 (da : Int), .int .u64 (dl : Int)]) (.slice a2 L2 c2) s.l ∧ ∀ g, (Value.slice a2 L2 c2).ownBlock = some g → w.heap.size + 1 + 1 < g) := fun h => ⟨(G7.out h).1, (G7.out h).2.1.kept (fun g hg => last_other ((G7.out h).2.2 g hg).2), fun g hg => ((G7.out h).2.2 g hg).1⟩; clear X7 G7; generalize ((w7.alloc (.cells #[.int .u64 0, .int .u32 0, .int .u16 0, .int .u16 0] 92)).setRow w7.heap.size #[.int .u64 (ea : Int), .int .u32 (el : Int), .int .u16 (ef : Int), .int .u16 (ex : Int)]).setRow q #[.slice a2 L2 c2, .int .u64 (da : Int), .int .u64 (dl : Int)] = w8 at *; generalize w7.heap.size = pe at *)
          obtain ⟨se, hse⟩ : ∃ e, s.e = e := ⟨_, rfl⟩
          have HSE : Hid (s.e = se) := hse
          rw [hse] at G8
          rw [hse]
          clear hse
          by_cases hz : se = 0
          case neg =>
            have hz1 : ((se : Int) == 0) = false := by simp; omega
            have hz3 : ((se : Int) != 0) = true := by simp; omega
            have hz2 : ¬ (se : Int) = 0 := by omega
            have HE : Hid (cn = ⟨se, [], 0, 0⟩) := HCN.out.1.symm.trans (by rw [walk_err2 HCN.out.2 HRE.out HF4.out HT0.out HS.out (by rw [HSE.out]; exact hz), HSE.out])
            clear hz
            go_upto_region 18 with fail
            refine wp_region_list ?_
            (refine wpList_step (fun KK hKK => ?_); go_simp; refine hKK _ _ ?_; clear hKK KK)
            (refine wpList_step (fun KK hKK => ?_); go_simp; refine hKK _ _ ?_; clear hKK KK)
            refine wpList_store_row rfl 44 _ _ rfl (w.heap.size + 1 + 1) #[.slice none 0 0, .int .u64 0, .int .u64 0] rfl rfl 44 #[.slice none 0 0, .int .u64 0, .int .u64 0] X8.out.1.1.2.2.1 info44 rfl (by simp [Value.oneCell']) ?_
            have HY : Hid (Below w.heap.size w (w8.setRow (w.heap.size + 1 + 1) #[.slice none 0 0, .int .u64 0, .int .u64 0]) ∧ (w8.setRow (w.heap.size + 1 + 1) #[.slice none 0 0, .int .u64 0, .int .u64 0]).heap[w.heap.size + 1 + 1]? = some (.cells #[.slice none 0 0, .int .u64 0, .int .u64 0] 44 (0, 0)) ∧ SegIn 0 (w8.setRow (w.heap.size + 1 + 1) #[.slice none 0 0, .int .u64 0, .int .u64 0]) (.slice none 0 0) []) := ⟨below_setRow X8.out.1.1.2.2.2 (by omega) _, setRow_heap _ _ _ _ _ _ X8.out.1.1.2.2.1, segs_nil _ _⟩
            generalize w8.setRow (w.heap.size + 1 + 1) #[.slice none 0 0, .int .u64 0, .int .u64 0] = w9 at *
            obtain ⟨k0, k1, k2⟩ := box3_facts HY.out.2.1
            go_wp2_with fail
            refine bodyPost_ret (v := .tuple #[.agg #[.slice none 0 0, .int .u64 0, .int .u64 0], .int .i64 (se : Int)]) (by simp [results, Try.results13, go_sem, k0, k1, k2]) rfl ?_
            rw [HE.out]
            exact ⟨none, 0, 0, rfl, HY.out.2.2, HY.out.1⟩
          subst hz
          have G9 := G8.out rfl
          have hef : ef ≤ 65535 := by have := HSA.out.f; rw [G9.1] at this; exact this
          obtain ⟨f5, hf5⟩ : ∃ b, fl ef 4 = b := ⟨_, rfl⟩
          have H5 : Hid (∀ V, Calls Try.prog 39 #[.agg #[.int .u64 (ea : Int), .int .u32 (el : Int), .int .u16 (ef : Int), .int .u16 (ex : Int)], .int .u16 4] V fun e w' => e = .returned (.bool f5) ∧ Below V.heap.size V w') := by
            intro V; rw [← hf5]; exact flag4 ea el ef ex hef V
          have HF5 : Hid (fl s.d.f 4 = f5) := by show fl s.d.f 4 = f5; rw [G9.1]; exact hf5
          have HG9 : Hid (SegIn 0 w8 (.slice a2 L2 c2) s.l ∧ ∀ g, (Value.slice a2 L2 c2).ownBlock = some g → w.heap.size + 1 + 1 < g) := G9.2
          clear hf5 G8 G9
          obtain ⟨d0, d1, d2, d3⟩ := box4_facts X8.out.2
          cases f5 with
          | true =>
            have HE : Hid (cn = ⟨153, [], 0, 0⟩) := HCN.out.1.symm.trans (walk_nest HCN.out.2 HRE.out HF4.out HT0.out HS.out HSE.out HF5.out)
            go_upto_region 18 with (go_at_call 39; refine (H5.out _).mono ?_; rintro e w10 ⟨rfl, hb⟩; have X9 : Hid (Dl w w10 va nn vc n D A Uu p #[.int .u64 (da : Int), .int .u32 (dl : Int), .int .u16 (df : Int), .int .u16 (dx : Int)] q #[.slice a2 L2 c2, .int .u64 (da : Int), .int .u64 (dl : Int)]) := X8.out.1.below hb; clear hb d0 d1 d2 d3)
            clear X8
            go_upto_region 18 with fail
            refine wp_region_list ?_
            (refine wpList_step (fun KK hKK => ?_); go_simp; refine hKK _ _ ?_; clear hKK KK)
            (refine wpList_step (fun KK hKK => ?_); go_simp; refine hKK _ _ ?_; clear hKK KK)
            refine wpList_store_row rfl 44 _ _ rfl (w.heap.size + 1 + 1) #[.slice none 0 0, .int .u64 0, .int .u64 0] rfl rfl 44 #[.slice none 0 0, .int .u64 0, .int .u64 0] X9.out.1.2.2.1 info44 rfl (by simp [Value.oneCell']) ?_
            have HY : Hid (Below w.heap.size w (w10.setRow (w.heap.size + 1 + 1) #[.slice none 0 0, .int .u64 0, .int .u64 0]) ∧ (w10.setRow (w.heap.size + 1 + 1) #[.slice none 0 0, .int .u64 0, .int .u64 0]).heap[w.heap.size + 1 + 1]? = some (.cells #[.slice none 0 0, .int .u64 0, .int .u64 0] 44 (0, 0)) ∧ SegIn 0 (w10.setRow (w.heap.size + 1 + 1) #[.slice none 0 0, .int .u64 0, .int .u64 0]) (.slice none 0 0) []) := ⟨below_setRow X9.out.1.2.2.2 (by omega) _, setRow_heap _ _ _ _ _ _ X9.out.1.2.2.1, segs_nil _ _⟩
            generalize w10.setRow (w.heap.size + 1 + 1) #[.slice none 0 0, .int .u64 0, .int .u64 0] = w9 at *
            obtain ⟨k0, k1, k2⟩ := box3_facts HY.out.2.1
            go_wp2_with fail
            refine bodyPost_ret (v := .tuple #[.agg #[.slice none 0 0, .int .u64 0, .int .u64 0], .int .i64 153]) (by simp [results, Try.results13, go_sem, k0, k1, k2]) rfl ?_
            rw [HE.out]
            exact ⟨none, 0, 0, rfl, HY.out.2.2, HY.out.1⟩
          | false =>
            obtain ⟨sl, hsl⟩ : ∃ e, s.l = e := ⟨_, rfl⟩
            rw [hsl] at HG9
            have HE : Hid (cn = ⟨0, sl, da, dl⟩) := HCN.out.1.symm.trans (by rw [walk_two HCN.out.2 HRE.out HF4.out HT0.out HS.out HSE.out HF5.out, G3.out.1, hsl])
            clear hsl
            go_upto_region 19 with (go_at_call 39; refine (H5.out _).mono ?_; rintro e w10 ⟨rfl, hb⟩; have X9 : Hid (Dl w w10 va nn vc n D A Uu p #[.int .u64 (da : Int), .int .u32 (dl : Int), .int .u16 (df : Int), .int .u16 (dx : Int)] q #[.slice a2 L2 c2, .int .u64 (da : Int), .int .u64 (dl : Int)]) := X8.out.1.below hb; have GA : Hid (SegIn 0 w10 (.slice a2 L2 c2) sl) := HG9.out.1.kept (fun g hg => hb.block g (HG9.out.1.lt g hg).2); clear hb d0 d1 d2 d3)
            clear X8
            obtain ⟨e0, e1, e2⟩ := box3_facts X9.out.2.2.1
            go_upto_region 19 with fail
            refine wp_region_list ?_
            (refine wpList_step (fun KK hKK => ?_); go_simp; refine hKK _ _ ?_; clear hKK KK)
            refine wpList_store_row rfl 44 _ _ rfl (w.heap.size + 1 + 1) #[.slice a2 L2 c2, .int .u64 (da : Int), .int .u64 (dl : Int)] rfl rfl 44 #[.slice none 0 0, .int .u64 0, .int .u64 0] X9.out.1.2.2.1 info44 rfl (by simp [Value.oneCell']) ?_
            have HY : Hid (Below w.heap.size w (w10.setRow (w.heap.size + 1 + 1) #[.slice a2 L2 c2, .int .u64 (da : Int), .int .u64 (dl : Int)]) ∧ (w10.setRow (w.heap.size + 1 + 1) #[.slice a2 L2 c2, .int .u64 (da : Int), .int .u64 (dl : Int)]).heap[w.heap.size + 1 + 1]? = some (.cells #[.slice a2 L2 c2, .int .u64 (da : Int), .int .u64 (dl : Int)] 44 (0, 0)) ∧ SegIn 0 (w10.setRow (w.heap.size + 1 + 1) #[.slice a2 L2 c2, .int .u64 (da : Int), .int .u64 (dl : Int)]) (.slice a2 L2 c2) sl) := ⟨below_setRow X9.out.1.2.2.2 (by omega) _, setRow_heap _ _ _ _ _ _ X9.out.1.2.2.1, GA.out.kept (fun g hg => setRow_other _ _ _ _ (by have := HG9.out.2 g hg; omega))⟩
            generalize w10.setRow (w.heap.size + 1 + 1) #[.slice a2 L2 c2, .int .u64 (da : Int), .int .u64 (dl : Int)] = w9 at *
            obtain ⟨k0, k1, k2⟩ := box3_facts HY.out.2.1
            go_wp2_with fail
            refine bodyPost_ret (v := .tuple #[.agg #[.slice a2 L2 c2, .int .u64 (da : Int), .int .u64 (dl : Int)], .int .i64 0]) (by simp [results, Try.results13, go_sem, k0, k1, k2]) rfl ?_
            rw [HE.out]
            exact ⟨a2, L2, c2, rfl, HY.out.2.2, HY.out.1⟩

end Go.Proofs.Ytcgjfklglckjcaa
