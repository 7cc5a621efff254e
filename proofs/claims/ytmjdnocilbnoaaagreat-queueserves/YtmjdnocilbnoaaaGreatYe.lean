/- Texts put together. -/
import Derived.Test.YtmjdnocilbnoaaaGreatYd
import Derived.Deep.Upon
import Derived.Test.YtmjdnocilbnoaaaGreatYc
import Derived.Laws.StructEq
/- The document's walk along one table. -/
namespace Go.Proofs.YtmjdnocilbnoaaaGreat
open Go.RowKit Go.Maps
set_option linter.unusedVariables false
set_option linter.unusedSimpArgs false
set_option maxRecDepth 100000
theorem Dp.beside {w V V2 : World} {va : Option Addr} {nn vc : Nat} {cc : Array Value} {p da dl df dx g : Nat} (h : Dp w V va nn vc cc p da dl df dx) (hb : Below g V V2) (hp : p < g) : Dp w V2 va nn vc cc p da dl df dx := by
  obtain ⟨⟨h1, h2, h3, h4, h5⟩, h6, h7⟩ := h
  have hs := h5.size
  have f : ∀ {q : Nat} {o : Obj}, V.heap[q]? = some o → q ≤ p → V2.heap[q]? = some o := fun h hq => (hb.block _ (by omega)).trans h
  refine ⟨⟨f h1 (by omega), f h2 (by omega), f h3 (by omega), f h4 (by omega), h5.trans (hb.mono (by omega))⟩, f h6 (Nat.le_refl _), h7⟩
theorem Dp.seg {w V : World} {va : Option Addr} {nn vc : Nat} {x y z : Value} {p da dl df dx : Nat} (h : Dp w V va nn vc #[x, y, z] p da dl df dx) (u : Value) : Dp w (V.setCell ⟨w.heap.size + 1, 0, none⟩ u) va nn vc #[u, y, z] p da dl df dx := by
  obtain ⟨⟨h1, h2, h3, h4, h5⟩, h6, h7⟩ := h
  have f : ∀ {q : Nat} {o : Obj}, V.heap[q]? = some o → q ≠ w.heap.size + 1 → (V.setCell ⟨w.heap.size + 1, 0, none⟩ u).heap[q]? = some o := fun h hq => (heap_setCell _ _ _ _ _ hq).trans h
  refine ⟨⟨f h1 (by omega), ?_, f h3 (by omega), f h4 (by omega), h5.setCell (by simp) _⟩, f h6 (by omega), h7⟩
  rw [setCell_eq_setRow V (w.heap.size + 1) 0 _ 64 (0, 0) u h2, setRow_heap V (w.heap.size + 1) _ _ 64 _ h2]; rfl
theorem SegIn.low {B : Nat} {w : World} {v : Value} {l : List Seg} (h : SegIn B w v l) : SegIn 0 w v l := by
  refine ⟨h.1, ?_⟩
  rcases h.2 with hn | ⟨g, cap, cur, rfl, hb, rest⟩
  · exact .inl hn
  · exact .inr ⟨g, cap, cur, rfl, Nat.zero_le _, rest⟩
theorem len_le {L : Nat} {l : List Seg} {s : Seg} {k : Nat} (h : L = l.length ∧ l.length + (k + 1) ≤ 600) : (l ++ [s]).length + k ≤ 600 := by simp; omega
def Dfin (w V : World) (dc cc : Array Value) : Prop := Below w.heap.size w V ∧ V.heap[w.heap.size + 1 + 1]? = some (.cells dc 150 (0, 0)) ∧ V.heap[w.heap.size + 1 + 1 + 1]? = some (.cells cc 64 (0, 0))
theorem Dp.rec {w V V2 : World} {va : Option Addr} {nn vc : Nat} {cc : Array Value} {p da dl df dx g6 : Nat} (h : Dp w V va nn vc cc p da dl df dx) (hb : Below V.heap.size V V2) (dc c2 : Array Value) {v u : Value} {l : List Seg} {e : Nat} {d dd : De} (hp : p < g6) (hu : ∀ g, u.ownBlock = some g → g6 ≤ g) (hd : e = 0 → d = dd ∧ SegIn 0 V2 v l ∧ ∀ g, v.ownBlock = some g → u.ownBlock = some g ∨ V.heap.size ≤ g) : Dfin w ((V2.setRow (w.heap.size + 1 + 1) dc).setRow (w.heap.size + 1 + 1 + 1) c2) dc c2 ∧ (e = 0 → d = dd ∧ SegIn 0 ((V2.setRow (w.heap.size + 1 + 1) dc).setRow (w.heap.size + 1 + 1 + 1) c2) v l ∧ ∀ g, v.ownBlock = some g → w.heap.size ≤ g) := by
  obtain ⟨⟨h1, h2, h3, h4, h5⟩, h6, h7⟩ := h
  have hpl : p < V.heap.size := (Array.getElem?_eq_some_iff.1 h6).1
  refine ⟨⟨below_setRow (below_setRow (below_to h5 hb) (by omega) _) (by omega) _, (setRow_other _ _ _ _ (by omega)).trans (setRow_heap _ _ _ _ _ _ (below_box h3 hb)), setRow_heap _ _ _ _ _ _ ((setRow_other _ _ _ _ (by omega)).trans (below_box h4 hb))⟩, fun he => ?_⟩
  obtain ⟨g1, g2, g3⟩ := hd he
  have hgt : ∀ g, v.ownBlock = some g → p < g := fun g hg => by
    rcases g3 g hg with h | h
    · have := hu g h; omega
    · omega
  refine ⟨g1, g2.kept (fun g hg => ?_), fun g hg => by have := hgt g hg; omega⟩
  have := hgt g hg
  rw [setRow_other _ _ _ _ (by omega), setRow_other _ _ _ _ (by omega)]
theorem seg_one (l : List Seg) : ∀ u ∈ segRow l, u.oneCell' = true := by
  intro u hu
  simp only [segRow, List.mem_flatMap] at hu
  obtain ⟨s, _, hs⟩ := hu
  simp at hs
  rcases hs with rfl | rfl | rfl <;> rfl
/-- segments appended to a row of none -/
theorem wpList_append_segs {w : World} {ops : Array Oper} {rest : List Oper} {o : Oper} {a : Act} {Q : Exit → Act → World → Prop} (hgd : o.guard = none) (s x : Operand) (ho : o.op = .call { callee := .builtin .append, args := #[s, x], argTypes := #[55, 55] })
    (B g : Nat) (hs : a.eval s = .slice (some ⟨g, 0, none⟩) 0 0) (hg : w.heap[g]? = some (.cells #[] 118 (0, 0))) (hBg : B ≤ g) (v2 : Value) (hx : a.eval x = v2) (l : List Seg) (hl : SegIn 0 w v2 l) (hL : l.length ≤ 1000) (hB : B ≤ w.heap.size)
    (h : ∀ g' cap w', SegIn B w' (.slice (some ⟨g', 0, none⟩) l.length cap) l → Below B w w' → wpList Tryz.prog ops Q rest (a.put o.dst (.slice (some ⟨g', 0, none⟩) l.length cap)) w') : wpList Tryz.prog ops Q (o :: rest) a w := by
  obtain ⟨i0, hi, hz0, hz1, hz2⟩ := info_parts Tryz.info52s
  have hown : w.ownsRow B 118 3 (.slice (some ⟨g, 0, none⟩) 0 0) 0 [] := ⟨rfl, .inr ⟨g, 0, #[], rfl, hBg, hg, Nat.le_refl _, Nat.zero_le _, rfl, rfl⟩⟩
  rcases hl.2 with ⟨rfl, h0⟩ | ⟨g2, cap, cur, rfl, _, hgg, hle, hml, hsz, htk⟩
  · refine wpList_plain hgd fun K hK => ?_
    have hr := run_append_nothing (P := Tryz.prog) w 55 55 o.type 118 i0 Tryz.underlying55 hi (some ⟨g, 0, none⟩) 0 0 (Nat.le_refl _) (.slice none 0 0) (Src.ofNil w Tryz.underlying55 0)
    unfold Oper.wp execOp
    simp only [ho, resolve, invoke, builtin, Sem.run_bind, Sem.run_pure, Result.andThen_ok, List.map_toArray, List.map_cons, List.map_nil, hs, hx, hr]
    refine hK _ _ ?_
    have hl0 : l = [] := List.length_eq_zero_iff.1 h0
    subst hl0
    exact h g 0 w hown (Below.refl _ _)
  · refine wpList_append_own w hgd s x 55 ho B 118 i0 (.agg #[.int .u64 0, .int .u64 0, .bool false]) 3 24 Tryz.underlying55 hi hz0 hz1 hz2 rfl (by decide) _ 0 [] hs hown ⟨g2, 0, none⟩ l.length cap (segRow l) hx hl.1 (World.ownsRow.cells hl (g := g2) rfl) (seg_one l) (by unfold maxLen; omega) (by omega) hB ?_
    intro v' w' hown' hgrow hnil
    rw [Nat.zero_add, List.nil_append] at hown'
    have hlow : ∀ q, (Value.slice (some ⟨g, 0, none⟩) 0 0).ownBlock = some q → B ≤ q := fun q hq => (hown.lt q hq).1
    rcases hown'.2 with ⟨rfl, _⟩ | ⟨g', cap, cur, rfl, hb', _⟩
    · have := hnil.1 rfl; cases this.1
    · exact h g' cap w' hown' (Below.grown (Below.refl _ _) hgrow hB hlow)
set_option maxHeartbeats 4000000 in
theorem dalong_in {w0 : World} {va : Option Addr} {nn vc : Nat} {M : Nat → Nat} (hM : ∀ a, M a ≤ 255) (hD : DDesc w0 va nn vc M) (t n k j : Nat) (hn : n ≤ 256) (hj : j < n) (hk : k ≤ 256) (IH : DIH w0 va nn vc M t n k) (l : List Seg) (a : Option Addr) (L c ta tl : Nat) (w : World) (hw0 : Below w0.heap.size w0 w) (hsg : SegIn 0 w (.slice a L c) l) (hl : l.length + (k + 1) ≤ 600) : Calls Tryz.prog 86 #[.agg #[.int .u64 8192, .slice va nn vc], .int .u64 (t : Int), .int .i64 (n : Int), .int .i64 (j : Int), .int .i64 ((k + 1 : Nat) : Int), .agg #[.slice a L c, .int .u64 (ta : Int), .int .u64 (tl : Int)]] w fun e w' => ∃ (d : De) (a' : Option Addr) (L' c' : Nat), e = .returned (.tuple #[.agg #[.int .u64 (d.a : Int), .int .u32 (d.l : Int), .int .u16 (d.f : Int), .int .u16 (d.x : Int)], .agg #[.slice a' L' c', .int .u64 (ta : Int), .int .u64 (tl : Int)], .int .i64 ((alongR M t n (k + 1) (j : Int) l).e : Int)]) ∧ (((alongR M t n (k + 1) (j : Int) l).e) = 0 → d = (alongR M t n (k + 1) (j : Int) l).d ∧ SegIn 0 w' (.slice a' L' c') (alongR M t n (k + 1) (j : Int) l).l ∧ ∀ g, (Value.slice a' L' c').ownBlock = some g → (Value.slice a L c).ownBlock = some g ∨ w.heap.size ≤ g) ∧ Below w.heap.size w w' := by
  obtain ⟨r, hr⟩ : ∃ r, alongR M t n (k + 1) (j : Int) l = r := ⟨_, rfl⟩
  rw [hr]
  have HR : Hid (alongR M t n (k + 1) (j : Int) l = r) := hr
  have X0 : Hid (Db w ((((w.alloc (.cells #[.int .u64 8192, .slice va nn vc] 33)).alloc (.cells #[.slice a L c, .int .u64 (ta : Int), .int .u64 (tl : Int)] 64)).alloc (.cells #[.int .u64 0, .int .u32 0, .int .u16 0, .int .u16 0] 150)).alloc (.cells #[.slice none 0 0, .int .u64 0, .int .u64 0] 64)) va nn vc #[.slice a L c, .int .u64 (ta : Int), .int .u64 (tl : Int)]) := four_in w _ _ _ _
  have hLl : L = l.length := by
    obtain ⟨a2, c2, h⟩ := hsg.form
    simp only [Value.slice.injEq] at h
    exact h.2.1
  have HS : Hid (SegIn 0 w (.slice a L c) l ∧ L = l.length ∧ l.length + (k + 1) ≤ 600) := ⟨hsg, hLl, hl⟩
  have h1 : ¬ (j : Int) < 0 := by omega
  have h2 : ¬ (n : Int) ≤ (j : Int) := by omega
  have h3 : ((((k + 1 : Nat) : Int)) == 0) = false := by simp; omega
  have h3' : ¬ (((k + 1 : Nat) : Int)) = 0 := by omega
  obtain ⟨⟨da, dl, df, dx⟩, hde⟩ : ∃ d, deN M t j = d := ⟨_, rfl⟩
  obtain ⟨ok, hok⟩ : ∃ ok, deB t j = ok := ⟨_, rfl⟩
  have HO : Hid (deN M t j = ⟨da, dl, df, dx⟩ ∧ deB t j = ok ∧ (De.mk da dl df dx).Ok ∧ j < n) := ⟨hde, hok, hde ▸ deN_ok hM t j, hj⟩
  have hf : df ≤ 65535 := HO.out.2.2.1.f
  have hdl : dl ≤ 4294967295 := HO.out.2.2.1.l
  have hwr : IntKind.u64.wrap (dl : Int) = (dl : Int) := by rw [wrap_u64]; omega
  have H60 : Hid (∀ V, Below w.heap.size w V → Calls Tryz.prog 108 #[.agg #[.int .u64 8192, .slice va nn vc], .int .u64 (t : Int), .int .i64 (j : Int)] V fun e w' => e = .returned (.tuple #[.agg #[.int .u64 (da : Int), .int .u32 (dl : Int), .int .u16 (df : Int), .int .u16 (dx : Int)], .bool ok]) ∧ Below V.heap.size V w') := by
    intro V hV
    have := hD V (below_to hw0 hV) t j (by omega)
    rw [hde, hok] at this
    exact this
  have HI : Hid (DIH w0 va nn vc M t n k ∧ ∀ V, Below w.heap.size w V → Below w0.heap.size w0 V) := ⟨IH, fun V hV => below_to hw0 hV⟩
  obtain ⟨kk, hkk⟩ : ∃ kk : Int, ((k + 1 : Nat) : Int) = kk := ⟨_, rfl⟩
  have HK : Hid (kk = (k : Int) + 1 ∧ k ≤ 256) := ⟨by rw [← hkk]; omega, hk⟩
  rw [hkk] at h3 h3' ⊢
  clear hr hLl hsg hl hde hok hD IH hj hkk hk
  go_enter Tryz.func86, Tryz.ntmps86
  go_upto_region 1 with fail
  generalize (((w.alloc (.cells #[.int .u64 8192, .slice va nn vc] 33)).alloc (.cells #[.slice a L c, .int .u64 (ta : Int), .int .u64 (tl : Int)] 64)).alloc (.cells #[.int .u64 0, .int .u32 0, .int .u16 0, .int .u16 0] 150)).alloc (.cells #[.slice none 0 0, .int .u64 0, .int .u64 0] 64) = v0 at *
  obtain ⟨m0, m1, _, _⟩ := box_facts X0.out.1
  go_upto_region 6 with (go_at_call 108; refine (H60.out _ X0.out.2.2.2.2).mono ?_; rintro e w1 ⟨rfl, hb1⟩; have X1 : Hid (Db w w1 va nn vc #[.slice a L c, .int .u64 (ta : Int), .int .u64 (tl : Int)]) := X0.out.below hb1; clear hb1 X0 m0 m1)
  have hb2 : Below w1.heap.size w1 (w1.alloc (.cells #[.int .u64 (da : Int), .int .u32 (dl : Int), .int .u16 (df : Int), .int .u16 (dx : Int)] 150)) := (Below.refl _ _).alloc (Nat.le_refl _) _
  have X2 : Hid (Dp w (w1.alloc (.cells #[.int .u64 (da : Int), .int .u32 (dl : Int), .int .u16 (df : Int), .int .u16 (dx : Int)] 150)) va nn vc #[.slice a L c, .int .u64 (ta : Int), .int .u64 (tl : Int)] w1.heap.size da dl df dx) := ⟨X1.out.below hb2, heap_alloc_new _ _, (Array.getElem?_eq_some_iff.1 X1.out.2.2.2.1).1⟩
  clear hb2 X1 H60
  generalize w1.alloc (.cells #[.int .u64 (da : Int), .int .u32 (dl : Int), .int .u16 (df : Int), .int .u16 (dx : Int)] 150) = w2 at *
  generalize w1.heap.size = p at *
  cases ok with
  | false =>
    have HRR : Hid (r = ⟨21, De.zero, l⟩) := HR.out.symm.trans (along_not HO.out.2.2.2 HO.out.2.1)
    go_upto_region 7 with fail
    have Xd : Hid (Dp w w2.drew va nn vc #[.slice a L c, .int .u64 (ta : Int), .int .u64 (tl : Int)] p da dl df dx) := X2.out.below (Below.refl _ _).drew
    refine wp_region_held_drew (S := fun Z => Z.cell? ⟨w.heap.size + 1, 0, none⟩ = some (.slice a L c) ∧ Z.cell? ⟨w.heap.size + 1, 1, none⟩ = some (.int .u64 (ta : Int)) ∧ Z.cell? ⟨w.heap.size + 1, 2, none⟩ = some (.int .u64 (tl : Int)) ∧ Z.cell? ⟨p, 0, none⟩ = some (.int .u64 (da : Int)) ∧ Z.cell? ⟨p, 1, none⟩ = some (.int .u32 (dl : Int)) ∧ Z.cell? ⟨p, 2, none⟩ = some (.int .u16 (df : Int)) ∧ Z.cell? ⟨p, 3, none⟩ = some (.int .u16 (dx : Int))) (by kernel_rfl) ⟨cellOf Xd.out.1.2.1 0 _ rfl, cellOf Xd.out.1.2.1 1 _ rfl, cellOf Xd.out.1.2.1 2 _ rfl, cellOf Xd.out.2.1 0 _ rfl, cellOf Xd.out.2.1 1 _ rfl, cellOf Xd.out.2.1 2 _ rfl, cellOf Xd.out.2.1 3 _ rfl⟩ ?_
    intro hS
    clear X2
    generalize w2.drew = Vd at *
    refine wpAnyH_take (i := 0) (v := ?_) rfl (by kernel_rfl) (by kernel_rfl) (by kernel_rfl) (fun _ _ _ h => h) (Or.inl ⟨by kernel_rfl, ?_⟩) hS ?_
    rotate_left
    · intro w hSw; (try dsimp only at hSw); go_simp; try (with_reducible rfl)
    (try simp only [Act.put, List.getElem_toArray, List.getElem_cons_succ, List.getElem_cons_zero, List.setIfInBounds_toArray, List.set_cons_zero, List.set_cons_succ])
    refine wpAnyH_take (i := 1) (v := ?_) rfl (by kernel_rfl) (by kernel_rfl) (by kernel_rfl) (fun _ _ _ h => h) (Or.inl ⟨by kernel_rfl, ?_⟩) hS ?_
    rotate_left
    · intro w hSw; (try dsimp only at hSw); go_simp; try (with_reducible rfl)
    (try simp only [Act.put, List.getElem_toArray, List.getElem_cons_succ, List.getElem_cons_zero, List.setIfInBounds_toArray, List.set_cons_zero, List.set_cons_succ])
    refine wpAnyH_ready (rs := [2]) (by kernel_rfl) (by simp) ?_
    refine AllReadyH.cons rfl (fun K1 hK1 => ?_) AllReadyH.nil
    rw [if_pos (by kernel_rfl)]
    refine wp_store_row 150 _ _ rfl (w.heap.size + 1 + 1) #[.int .u64 (da : Int), .int .u32 (dl : Int), .int .u16 (df : Int), .int .u16 (dx : Int)] rfl rfl 150 #[.int .u64 0, .int .u32 0, .int .u16 0, .int .u16 0] Xd.out.1.2.2.1 info47 rfl (by simp [Value.oneCell']) ?_
    have Xe : Hid ((Dq w (Vd.setRow (w.heap.size + 1 + 1) #[.int .u64 (da : Int), .int .u32 (dl : Int), .int .u16 (df : Int), .int .u16 (dx : Int)]) va nn vc #[.slice a L c, .int .u64 (ta : Int), .int .u64 (tl : Int)] p da dl df dx #[.int .u64 (da : Int), .int .u32 (dl : Int), .int .u16 (df : Int), .int .u16 (dx : Int)])) := Xd.out.set #[.int .u64 (da : Int), .int .u32 (dl : Int), .int .u16 (df : Int), .int .u16 (dx : Int)]
    clear Xd
    generalize Vd.setRow (w.heap.size + 1 + 1) #[.int .u64 (da : Int), .int .u32 (dl : Int), .int .u16 (df : Int), .int .u16 (dx : Int)] = Ve at *
    refine hK1.out _ _ ⟨cellOf Xe.out.1.2.1 0 _ rfl, cellOf Xe.out.1.2.1 1 _ rfl, cellOf Xe.out.1.2.1 2 _ rfl, cellOf Xe.out.2.1 0 _ rfl, cellOf Xe.out.2.1 1 _ rfl, cellOf Xe.out.2.1 2 _ rfl, cellOf Xe.out.2.1 3 _ rfl⟩ (fun h2 => ?_)
    clear hK1 K1 hS
    (try simp only [Act.put, List.getElem_toArray, List.getElem_cons_succ, List.getElem_cons_zero, List.setIfInBounds_toArray, List.set_cons_zero, List.set_cons_succ])
    refine wpAnyH_ready (rs := [3]) (by kernel_rfl) (by simp) ?_
    refine AllReadyH.cons rfl (fun K1 hK1 => ?_) AllReadyH.nil
    rw [if_pos (by kernel_rfl)]
    refine wp_store_row 64 _ _ rfl (w.heap.size + 1 + 1 + 1) #[.slice a L c, .int .u64 (ta : Int), .int .u64 (tl : Int)] rfl rfl 64 #[.slice none 0 0, .int .u64 0, .int .u64 0] Xe.out.1.2.2.2.1 info44 rfl (by simp [Value.oneCell']) ?_
    have Xf : Hid (Below w.heap.size w (Ve.setRow (w.heap.size + 1 + 1 + 1) #[.slice a L c, .int .u64 (ta : Int), .int .u64 (tl : Int)]) ∧ (Ve.setRow (w.heap.size + 1 + 1 + 1) #[.slice a L c, .int .u64 (ta : Int), .int .u64 (tl : Int)]).heap[w.heap.size + 1 + 1]? = some (.cells #[.int .u64 (da : Int), .int .u32 (dl : Int), .int .u16 (df : Int), .int .u16 (dx : Int)] 150 (0, 0)) ∧ (Ve.setRow (w.heap.size + 1 + 1 + 1) #[.slice a L c, .int .u64 (ta : Int), .int .u64 (tl : Int)]).heap[w.heap.size + 1 + 1 + 1]? = some (.cells #[.slice a L c, .int .u64 (ta : Int), .int .u64 (tl : Int)] 64 (0, 0)) ∧ (Ve.setRow (w.heap.size + 1 + 1 + 1) #[.slice a L c, .int .u64 (ta : Int), .int .u64 (tl : Int)]).cell? ⟨w.heap.size + 1, 0, none⟩ = some (.slice a L c) ∧ (Ve.setRow (w.heap.size + 1 + 1 + 1) #[.slice a L c, .int .u64 (ta : Int), .int .u64 (tl : Int)]).cell? ⟨w.heap.size + 1, 1, none⟩ = some (.int .u64 (ta : Int)) ∧ (Ve.setRow (w.heap.size + 1 + 1 + 1) #[.slice a L c, .int .u64 (ta : Int), .int .u64 (tl : Int)]).cell? ⟨w.heap.size + 1, 2, none⟩ = some (.int .u64 (tl : Int)) ∧ (Ve.setRow (w.heap.size + 1 + 1 + 1) #[.slice a L c, .int .u64 (ta : Int), .int .u64 (tl : Int)]).cell? ⟨p, 0, none⟩ = some (.int .u64 (da : Int)) ∧ (Ve.setRow (w.heap.size + 1 + 1 + 1) #[.slice a L c, .int .u64 (ta : Int), .int .u64 (tl : Int)]).cell? ⟨p, 1, none⟩ = some (.int .u32 (dl : Int)) ∧ (Ve.setRow (w.heap.size + 1 + 1 + 1) #[.slice a L c, .int .u64 (ta : Int), .int .u64 (tl : Int)]).cell? ⟨p, 2, none⟩ = some (.int .u16 (df : Int)) ∧ (Ve.setRow (w.heap.size + 1 + 1 + 1) #[.slice a L c, .int .u64 (ta : Int), .int .u64 (tl : Int)]).cell? ⟨p, 3, none⟩ = some (.int .u16 (dx : Int))) := Xe.out.fin
    clear Xe
    generalize Ve.setRow (w.heap.size + 1 + 1 + 1) #[.slice a L c, .int .u64 (ta : Int), .int .u64 (tl : Int)] = Vf at *
    refine hK1.out _ _ Xf.out.2.2.2 (fun h3 => ?_)
    clear hK1 K1 h2
    (try simp only [Act.put, List.getElem_toArray, List.getElem_cons_succ, List.getElem_cons_zero, List.setIfInBounds_toArray, List.set_cons_zero, List.set_cons_succ])
    refine wpAnyH_take (i := 4) (v := ?_) rfl (by kernel_rfl) (by kernel_rfl) (by kernel_rfl) (fun _ _ _ h => h) (Or.inl ⟨by kernel_rfl, ?_⟩) h3 ?_
    rotate_left
    · intro w hSw; (try dsimp only at hSw); go_simp; try (with_reducible rfl)
    (try simp only [Act.put, List.getElem_toArray, List.getElem_cons_succ, List.getElem_cons_zero, List.setIfInBounds_toArray, List.set_cons_zero, List.set_cons_succ])
    refine wpAnyH_done (by kernel_rfl) ?_ _
    clear h3
    obtain ⟨r0, r1, r2, r3⟩ := box4_facts Xf.out.2.1
    obtain ⟨q0, q1, q2⟩ := box3_facts Xf.out.2.2.1
    go_wp2_with fail
    refine bodyPost_ret (v := .tuple #[.agg #[.int .u64 (da : Int), .int .u32 (dl : Int), .int .u16 (df : Int), .int .u16 (dx : Int)], .agg #[.slice a L c, .int .u64 (ta : Int), .int .u64 (tl : Int)], .int .i64 21]) (by simp [results, Tryz.results86, go_sem, r0, r1, r2, r3, q0, q1, q2]) rfl ?_
    rw [HRR.out]
    exact ⟨⟨da, dl, df, dx⟩, a, L, c, rfl, (fun h => by cases h), Xf.out.1⟩
  | true =>
    obtain ⟨f4, hf4⟩ : ∃ b, fl df 4 = b := ⟨_, rfl⟩
    have H4 : Hid (∀ V, Calls Tryz.prog 87 #[.agg #[.int .u64 (da : Int), .int .u32 (dl : Int), .int .u16 (df : Int), .int .u16 (dx : Int)], .int .u16 4] V fun e w' => e = .returned (.bool f4) ∧ Below V.heap.size V w') := by
      intro V; rw [← hf4]; exact flag4 da dl df dx hf V
    have HF4 : Hid (fl df 4 = f4) := hf4
    clear hf4
    obtain ⟨d0, d1, d2, d3⟩ := box4_facts X2.out.2.1
    cases f4 with
    | true =>
      have HRR : Hid (r = ⟨0, ⟨da, dl, df, dx⟩, l⟩) := HR.out.symm.trans (along_ind HO.out.2.2.2 HO.out.2.1 HO.out.1 HF4.out)
      go_upto_region 9 with (go_at_call 87; refine (H4.out _).mono ?_; rintro e w3 ⟨rfl, hb⟩; have X3 : Hid (Dp w w3 va nn vc #[.slice a L c, .int .u64 (ta : Int), .int .u64 (tl : Int)] p da dl df dx) := X2.out.below hb; clear hb X2 d0 d1 d2 d3)
      go_upto_region 9 with fail
      have Xd : Hid (Dp w w3.drew va nn vc #[.slice a L c, .int .u64 (ta : Int), .int .u64 (tl : Int)] p da dl df dx) := X3.out.below (Below.refl _ _).drew
      refine wp_region_held_drew (S := fun Z => Z.cell? ⟨w.heap.size + 1, 0, none⟩ = some (.slice a L c) ∧ Z.cell? ⟨w.heap.size + 1, 1, none⟩ = some (.int .u64 (ta : Int)) ∧ Z.cell? ⟨w.heap.size + 1, 2, none⟩ = some (.int .u64 (tl : Int)) ∧ Z.cell? ⟨p, 0, none⟩ = some (.int .u64 (da : Int)) ∧ Z.cell? ⟨p, 1, none⟩ = some (.int .u32 (dl : Int)) ∧ Z.cell? ⟨p, 2, none⟩ = some (.int .u16 (df : Int)) ∧ Z.cell? ⟨p, 3, none⟩ = some (.int .u16 (dx : Int))) (by kernel_rfl) ⟨cellOf Xd.out.1.2.1 0 _ rfl, cellOf Xd.out.1.2.1 1 _ rfl, cellOf Xd.out.1.2.1 2 _ rfl, cellOf Xd.out.2.1 0 _ rfl, cellOf Xd.out.2.1 1 _ rfl, cellOf Xd.out.2.1 2 _ rfl, cellOf Xd.out.2.1 3 _ rfl⟩ ?_
      intro hS
      clear X3
      generalize w3.drew = Vd at *
      refine wpAnyH_take (i := 0) (v := ?_) rfl (by kernel_rfl) (by kernel_rfl) (by kernel_rfl) (fun _ _ _ h => h) (Or.inl ⟨by kernel_rfl, ?_⟩) hS ?_
      rotate_left
      · intro w hSw; (try dsimp only at hSw); go_simp; try (with_reducible rfl)
      (try simp only [Act.put, List.getElem_toArray, List.getElem_cons_succ, List.getElem_cons_zero, List.setIfInBounds_toArray, List.set_cons_zero, List.set_cons_succ])
      refine wpAnyH_take (i := 1) (v := ?_) rfl (by kernel_rfl) (by kernel_rfl) (by kernel_rfl) (fun _ _ _ h => h) (Or.inl ⟨by kernel_rfl, ?_⟩) hS ?_
      rotate_left
      · intro w hSw; (try dsimp only at hSw); go_simp; try (with_reducible rfl)
      (try simp only [Act.put, List.getElem_toArray, List.getElem_cons_succ, List.getElem_cons_zero, List.setIfInBounds_toArray, List.set_cons_zero, List.set_cons_succ])
      refine wpAnyH_ready (rs := [2]) (by kernel_rfl) (by simp) ?_
      refine AllReadyH.cons rfl (fun K1 hK1 => ?_) AllReadyH.nil
      rw [if_pos (by kernel_rfl)]
      refine wp_store_row 150 _ _ rfl (w.heap.size + 1 + 1) #[.int .u64 (da : Int), .int .u32 (dl : Int), .int .u16 (df : Int), .int .u16 (dx : Int)] rfl rfl 150 #[.int .u64 0, .int .u32 0, .int .u16 0, .int .u16 0] Xd.out.1.2.2.1 info47 rfl (by simp [Value.oneCell']) ?_
      have Xe : Hid ((Dq w (Vd.setRow (w.heap.size + 1 + 1) #[.int .u64 (da : Int), .int .u32 (dl : Int), .int .u16 (df : Int), .int .u16 (dx : Int)]) va nn vc #[.slice a L c, .int .u64 (ta : Int), .int .u64 (tl : Int)] p da dl df dx #[.int .u64 (da : Int), .int .u32 (dl : Int), .int .u16 (df : Int), .int .u16 (dx : Int)])) := Xd.out.set #[.int .u64 (da : Int), .int .u32 (dl : Int), .int .u16 (df : Int), .int .u16 (dx : Int)]
      clear Xd
      generalize Vd.setRow (w.heap.size + 1 + 1) #[.int .u64 (da : Int), .int .u32 (dl : Int), .int .u16 (df : Int), .int .u16 (dx : Int)] = Ve at *
      refine hK1.out _ _ ⟨cellOf Xe.out.1.2.1 0 _ rfl, cellOf Xe.out.1.2.1 1 _ rfl, cellOf Xe.out.1.2.1 2 _ rfl, cellOf Xe.out.2.1 0 _ rfl, cellOf Xe.out.2.1 1 _ rfl, cellOf Xe.out.2.1 2 _ rfl, cellOf Xe.out.2.1 3 _ rfl⟩ (fun h2 => ?_)
      clear hK1 K1 hS
      (try simp only [Act.put, List.getElem_toArray, List.getElem_cons_succ, List.getElem_cons_zero, List.setIfInBounds_toArray, List.set_cons_zero, List.set_cons_succ])
      refine wpAnyH_ready (rs := [3]) (by kernel_rfl) (by simp) ?_
      refine AllReadyH.cons rfl (fun K1 hK1 => ?_) AllReadyH.nil
      rw [if_pos (by kernel_rfl)]
      refine wp_store_row 64 _ _ rfl (w.heap.size + 1 + 1 + 1) #[.slice a L c, .int .u64 (ta : Int), .int .u64 (tl : Int)] rfl rfl 64 #[.slice none 0 0, .int .u64 0, .int .u64 0] Xe.out.1.2.2.2.1 info44 rfl (by simp [Value.oneCell']) ?_
      have Xf : Hid (Below w.heap.size w (Ve.setRow (w.heap.size + 1 + 1 + 1) #[.slice a L c, .int .u64 (ta : Int), .int .u64 (tl : Int)]) ∧ (Ve.setRow (w.heap.size + 1 + 1 + 1) #[.slice a L c, .int .u64 (ta : Int), .int .u64 (tl : Int)]).heap[w.heap.size + 1 + 1]? = some (.cells #[.int .u64 (da : Int), .int .u32 (dl : Int), .int .u16 (df : Int), .int .u16 (dx : Int)] 150 (0, 0)) ∧ (Ve.setRow (w.heap.size + 1 + 1 + 1) #[.slice a L c, .int .u64 (ta : Int), .int .u64 (tl : Int)]).heap[w.heap.size + 1 + 1 + 1]? = some (.cells #[.slice a L c, .int .u64 (ta : Int), .int .u64 (tl : Int)] 64 (0, 0)) ∧ (Ve.setRow (w.heap.size + 1 + 1 + 1) #[.slice a L c, .int .u64 (ta : Int), .int .u64 (tl : Int)]).cell? ⟨w.heap.size + 1, 0, none⟩ = some (.slice a L c) ∧ (Ve.setRow (w.heap.size + 1 + 1 + 1) #[.slice a L c, .int .u64 (ta : Int), .int .u64 (tl : Int)]).cell? ⟨w.heap.size + 1, 1, none⟩ = some (.int .u64 (ta : Int)) ∧ (Ve.setRow (w.heap.size + 1 + 1 + 1) #[.slice a L c, .int .u64 (ta : Int), .int .u64 (tl : Int)]).cell? ⟨w.heap.size + 1, 2, none⟩ = some (.int .u64 (tl : Int)) ∧ (Ve.setRow (w.heap.size + 1 + 1 + 1) #[.slice a L c, .int .u64 (ta : Int), .int .u64 (tl : Int)]).cell? ⟨p, 0, none⟩ = some (.int .u64 (da : Int)) ∧ (Ve.setRow (w.heap.size + 1 + 1 + 1) #[.slice a L c, .int .u64 (ta : Int), .int .u64 (tl : Int)]).cell? ⟨p, 1, none⟩ = some (.int .u32 (dl : Int)) ∧ (Ve.setRow (w.heap.size + 1 + 1 + 1) #[.slice a L c, .int .u64 (ta : Int), .int .u64 (tl : Int)]).cell? ⟨p, 2, none⟩ = some (.int .u16 (df : Int)) ∧ (Ve.setRow (w.heap.size + 1 + 1 + 1) #[.slice a L c, .int .u64 (ta : Int), .int .u64 (tl : Int)]).cell? ⟨p, 3, none⟩ = some (.int .u16 (dx : Int))) := Xe.out.fin
      clear Xe
      generalize Ve.setRow (w.heap.size + 1 + 1 + 1) #[.slice a L c, .int .u64 (ta : Int), .int .u64 (tl : Int)] = Vf at *
      refine hK1.out _ _ Xf.out.2.2.2 (fun h3 => ?_)
      clear hK1 K1 h2
      (try simp only [Act.put, List.getElem_toArray, List.getElem_cons_succ, List.getElem_cons_zero, List.setIfInBounds_toArray, List.set_cons_zero, List.set_cons_succ])
      refine wpAnyH_take (i := 4) (v := ?_) rfl (by kernel_rfl) (by kernel_rfl) (by kernel_rfl) (fun _ _ _ h => h) (Or.inl ⟨by kernel_rfl, ?_⟩) h3 ?_
      rotate_left
      · intro w hSw; (try dsimp only at hSw); go_simp; try (with_reducible rfl)
      (try simp only [Act.put, List.getElem_toArray, List.getElem_cons_succ, List.getElem_cons_zero, List.setIfInBounds_toArray, List.set_cons_zero, List.set_cons_succ])
      refine wpAnyH_done (by kernel_rfl) ?_ _
      clear h3
      obtain ⟨r0, r1, r2, r3⟩ := box4_facts Xf.out.2.1
      obtain ⟨q0, q1, q2⟩ := box3_facts Xf.out.2.2.1
      go_wp2_with fail
      refine bodyPost_ret (v := .tuple #[.agg #[.int .u64 (da : Int), .int .u32 (dl : Int), .int .u16 (df : Int), .int .u16 (dx : Int)], .agg #[.slice a L c, .int .u64 (ta : Int), .int .u64 (tl : Int)], .int .i64 0]) (by simp [results, Tryz.results86, go_sem, r0, r1, r2, r3, q0, q1, q2]) rfl ?_
      rw [HRR.out]
      exact ⟨⟨da, dl, df, dx⟩, a, L, c, rfl, fun _ => ⟨rfl, HS.out.1.kept (fun g hg => Xf.out.1.block g (HS.out.1.lt g hg).2), fun g hg => .inl hg⟩, Xf.out.1⟩
    | false =>
      obtain ⟨ib, hin⟩ : ∃ b, inB da dl 2147483648 8192 = b := ⟨_, rfl⟩
      have H17 : Hid (∀ V, Calls Tryz.prog 52 #[.agg #[.int .u64 8192, .slice va nn vc], .int .u64 (da : Int), .int .u64 (dl : Int)] V fun e w' => e = .returned (.bool ib) ∧ Below V.heap.size V w') := by
        intro V
        rw [← hin]
        exact (rhas_any 8192 da dl (.slice va nn vc) (by omega) HO.out.2.2.1.a (by omega) V).mono fun e w' ⟨he, hb⟩ => ⟨he, hb⟩
      have HIN : Hid (inB da dl 2147483648 8192 = ib) := hin
      clear hin
      obtain ⟨m0, m1, _, _⟩ := box_facts X2.out.1.1
      have ARM : True := trivial
      cases ib with
      | false =>
        have HRR : Hid (r = ⟨21, De.zero, l⟩) := HR.out.symm.trans (along_err HO.out.2.2.2 HO.out.2.1 HO.out.1 HF4.out (by simp [addE, HIN.out]) (by decide))
        go_upto_region 11 with (first | (go_at_call 87; refine (H4.out _).mono ?_; rintro e w3 ⟨rfl, hb⟩; have X3 : Hid (Dp w w3 va nn vc #[.slice a L c, .int .u64 (ta : Int), .int .u64 (tl : Int)] p da dl df dx) := X2.out.below hb; clear hb X2 d0 d1 d2 d3 m0 m1; obtain ⟨d0, d1, d2, d3⟩ := box4_facts X3.out.2.1; obtain ⟨m0, m1, _, _⟩ := box_facts X3.out.1.1) | (go_at_call 52; refine (H17.out _).mono ?_; rintro e w4 ⟨rfl, hb⟩; have X4 : Hid (Dp w w4 va nn vc #[.slice a L c, .int .u64 (ta : Int), .int .u64 (tl : Int)] p da dl df dx) := X3.out.below hb; clear hb X3 d0 d1 d2 d3 m0 m1))
        go_upto_region 11 with fail
        have Xd : Hid (Dp w w4.drew va nn vc #[.slice a L c, .int .u64 (ta : Int), .int .u64 (tl : Int)] p da dl df dx) := X4.out.below (Below.refl _ _).drew
        refine wp_region_held_drew (S := fun Z => Z.cell? ⟨w.heap.size + 1, 0, none⟩ = some (.slice a L c) ∧ Z.cell? ⟨w.heap.size + 1, 1, none⟩ = some (.int .u64 (ta : Int)) ∧ Z.cell? ⟨w.heap.size + 1, 2, none⟩ = some (.int .u64 (tl : Int)) ∧ Z.cell? ⟨p, 0, none⟩ = some (.int .u64 (da : Int)) ∧ Z.cell? ⟨p, 1, none⟩ = some (.int .u32 (dl : Int)) ∧ Z.cell? ⟨p, 2, none⟩ = some (.int .u16 (df : Int)) ∧ Z.cell? ⟨p, 3, none⟩ = some (.int .u16 (dx : Int))) (by kernel_rfl) ⟨cellOf Xd.out.1.2.1 0 _ rfl, cellOf Xd.out.1.2.1 1 _ rfl, cellOf Xd.out.1.2.1 2 _ rfl, cellOf Xd.out.2.1 0 _ rfl, cellOf Xd.out.2.1 1 _ rfl, cellOf Xd.out.2.1 2 _ rfl, cellOf Xd.out.2.1 3 _ rfl⟩ ?_
        intro hS
        clear X4
        generalize w4.drew = Vd at *
        refine wpAnyH_take (i := 0) (v := ?_) rfl (by kernel_rfl) (by kernel_rfl) (by kernel_rfl) (fun _ _ _ h => h) (Or.inl ⟨by kernel_rfl, ?_⟩) hS ?_
        rotate_left
        · intro w hSw; (try dsimp only at hSw); go_simp; try (with_reducible rfl)
        (try simp only [Act.put, List.getElem_toArray, List.getElem_cons_succ, List.getElem_cons_zero, List.setIfInBounds_toArray, List.set_cons_zero, List.set_cons_succ])
        refine wpAnyH_take (i := 1) (v := ?_) rfl (by kernel_rfl) (by kernel_rfl) (by kernel_rfl) (fun _ _ _ h => h) (Or.inl ⟨by kernel_rfl, ?_⟩) hS ?_
        rotate_left
        · intro w hSw; (try dsimp only at hSw); go_simp; try (with_reducible rfl)
        (try simp only [Act.put, List.getElem_toArray, List.getElem_cons_succ, List.getElem_cons_zero, List.setIfInBounds_toArray, List.set_cons_zero, List.set_cons_succ])
        refine wpAnyH_ready (rs := [2]) (by kernel_rfl) (by simp) ?_
        refine AllReadyH.cons rfl (fun K1 hK1 => ?_) AllReadyH.nil
        rw [if_pos (by kernel_rfl)]
        refine wp_store_row 150 _ _ rfl (w.heap.size + 1 + 1) #[.int .u64 (da : Int), .int .u32 (dl : Int), .int .u16 (df : Int), .int .u16 (dx : Int)] rfl rfl 150 #[.int .u64 0, .int .u32 0, .int .u16 0, .int .u16 0] Xd.out.1.2.2.1 info47 rfl (by simp [Value.oneCell']) ?_
        have Xe : Hid ((Dq w (Vd.setRow (w.heap.size + 1 + 1) #[.int .u64 (da : Int), .int .u32 (dl : Int), .int .u16 (df : Int), .int .u16 (dx : Int)]) va nn vc #[.slice a L c, .int .u64 (ta : Int), .int .u64 (tl : Int)] p da dl df dx #[.int .u64 (da : Int), .int .u32 (dl : Int), .int .u16 (df : Int), .int .u16 (dx : Int)])) := Xd.out.set #[.int .u64 (da : Int), .int .u32 (dl : Int), .int .u16 (df : Int), .int .u16 (dx : Int)]
        clear Xd
        generalize Vd.setRow (w.heap.size + 1 + 1) #[.int .u64 (da : Int), .int .u32 (dl : Int), .int .u16 (df : Int), .int .u16 (dx : Int)] = Ve at *
        refine hK1.out _ _ ⟨cellOf Xe.out.1.2.1 0 _ rfl, cellOf Xe.out.1.2.1 1 _ rfl, cellOf Xe.out.1.2.1 2 _ rfl, cellOf Xe.out.2.1 0 _ rfl, cellOf Xe.out.2.1 1 _ rfl, cellOf Xe.out.2.1 2 _ rfl, cellOf Xe.out.2.1 3 _ rfl⟩ (fun h2 => ?_)
        clear hK1 K1 hS
        (try simp only [Act.put, List.getElem_toArray, List.getElem_cons_succ, List.getElem_cons_zero, List.setIfInBounds_toArray, List.set_cons_zero, List.set_cons_succ])
        refine wpAnyH_ready (rs := [3]) (by kernel_rfl) (by simp) ?_
        refine AllReadyH.cons rfl (fun K1 hK1 => ?_) AllReadyH.nil
        rw [if_pos (by kernel_rfl)]
        refine wp_store_row 64 _ _ rfl (w.heap.size + 1 + 1 + 1) #[.slice a L c, .int .u64 (ta : Int), .int .u64 (tl : Int)] rfl rfl 64 #[.slice none 0 0, .int .u64 0, .int .u64 0] Xe.out.1.2.2.2.1 info44 rfl (by simp [Value.oneCell']) ?_
        have Xf : Hid (Below w.heap.size w (Ve.setRow (w.heap.size + 1 + 1 + 1) #[.slice a L c, .int .u64 (ta : Int), .int .u64 (tl : Int)]) ∧ (Ve.setRow (w.heap.size + 1 + 1 + 1) #[.slice a L c, .int .u64 (ta : Int), .int .u64 (tl : Int)]).heap[w.heap.size + 1 + 1]? = some (.cells #[.int .u64 (da : Int), .int .u32 (dl : Int), .int .u16 (df : Int), .int .u16 (dx : Int)] 150 (0, 0)) ∧ (Ve.setRow (w.heap.size + 1 + 1 + 1) #[.slice a L c, .int .u64 (ta : Int), .int .u64 (tl : Int)]).heap[w.heap.size + 1 + 1 + 1]? = some (.cells #[.slice a L c, .int .u64 (ta : Int), .int .u64 (tl : Int)] 64 (0, 0)) ∧ (Ve.setRow (w.heap.size + 1 + 1 + 1) #[.slice a L c, .int .u64 (ta : Int), .int .u64 (tl : Int)]).cell? ⟨w.heap.size + 1, 0, none⟩ = some (.slice a L c) ∧ (Ve.setRow (w.heap.size + 1 + 1 + 1) #[.slice a L c, .int .u64 (ta : Int), .int .u64 (tl : Int)]).cell? ⟨w.heap.size + 1, 1, none⟩ = some (.int .u64 (ta : Int)) ∧ (Ve.setRow (w.heap.size + 1 + 1 + 1) #[.slice a L c, .int .u64 (ta : Int), .int .u64 (tl : Int)]).cell? ⟨w.heap.size + 1, 2, none⟩ = some (.int .u64 (tl : Int)) ∧ (Ve.setRow (w.heap.size + 1 + 1 + 1) #[.slice a L c, .int .u64 (ta : Int), .int .u64 (tl : Int)]).cell? ⟨p, 0, none⟩ = some (.int .u64 (da : Int)) ∧ (Ve.setRow (w.heap.size + 1 + 1 + 1) #[.slice a L c, .int .u64 (ta : Int), .int .u64 (tl : Int)]).cell? ⟨p, 1, none⟩ = some (.int .u32 (dl : Int)) ∧ (Ve.setRow (w.heap.size + 1 + 1 + 1) #[.slice a L c, .int .u64 (ta : Int), .int .u64 (tl : Int)]).cell? ⟨p, 2, none⟩ = some (.int .u16 (df : Int)) ∧ (Ve.setRow (w.heap.size + 1 + 1 + 1) #[.slice a L c, .int .u64 (ta : Int), .int .u64 (tl : Int)]).cell? ⟨p, 3, none⟩ = some (.int .u16 (dx : Int))) := Xe.out.fin
        clear Xe
        generalize Ve.setRow (w.heap.size + 1 + 1 + 1) #[.slice a L c, .int .u64 (ta : Int), .int .u64 (tl : Int)] = Vf at *
        refine hK1.out _ _ Xf.out.2.2.2 (fun h3 => ?_)
        clear hK1 K1 h2
        (try simp only [Act.put, List.getElem_toArray, List.getElem_cons_succ, List.getElem_cons_zero, List.setIfInBounds_toArray, List.set_cons_zero, List.set_cons_succ])
        refine wpAnyH_take (i := 4) (v := ?_) rfl (by kernel_rfl) (by kernel_rfl) (by kernel_rfl) (fun _ _ _ h => h) (Or.inl ⟨by kernel_rfl, ?_⟩) h3 ?_
        rotate_left
        · intro w hSw; (try dsimp only at hSw); go_simp; try (with_reducible rfl)
        (try simp only [Act.put, List.getElem_toArray, List.getElem_cons_succ, List.getElem_cons_zero, List.setIfInBounds_toArray, List.set_cons_zero, List.set_cons_succ])
        refine wpAnyH_done (by kernel_rfl) ?_ _
        clear h3
        obtain ⟨r0, r1, r2, r3⟩ := box4_facts Xf.out.2.1
        obtain ⟨q0, q1, q2⟩ := box3_facts Xf.out.2.2.1
        go_wp2_with fail
        refine bodyPost_ret (v := .tuple #[.agg #[.int .u64 (da : Int), .int .u32 (dl : Int), .int .u16 (df : Int), .int .u16 (dx : Int)], .agg #[.slice a L c, .int .u64 (ta : Int), .int .u64 (tl : Int)], .int .i64 21]) (by simp [results, Tryz.results86, go_sem, r0, r1, r2, r3, q0, q1, q2]) rfl ?_
        rw [HRR.out]
        exact ⟨⟨da, dl, df, dx⟩, a, L, c, rfl, (fun h => by cases h), Xf.out.1⟩
      | true =>
        go_upto_region 12 with (first | (go_at_call 87; refine (H4.out _).mono ?_; rintro e w3 ⟨rfl, hb⟩; have X3 : Hid (Dp w w3 va nn vc #[.slice a L c, .int .u64 (ta : Int), .int .u64 (tl : Int)] p da dl df dx) := X2.out.below hb; clear hb X2 d0 d1 d2 d3 m0 m1; obtain ⟨d0, d1, d2, d3⟩ := box4_facts X3.out.2.1; obtain ⟨m0, m1, _, _⟩ := box_facts X3.out.1.1) | (go_at_call 52; refine (H17.out _).mono ?_; rintro e w4 ⟨rfl, hb⟩; have X4 : Hid (Dp w w4 va nn vc #[.slice a L c, .int .u64 (ta : Int), .int .u64 (tl : Int)] p da dl df dx) := X3.out.below hb; clear hb X3 d0 d1 d2 d3 m0 m1))
        obtain ⟨sb, hsb⟩ : ∃ sb, fl df 2 = sb := ⟨_, rfl⟩
        have H2 : Hid (∀ V, Calls Tryz.prog 87 #[.agg #[.int .u64 (da : Int), .int .u32 (dl : Int), .int .u16 (df : Int), .int .u16 (dx : Int)], .int .u16 2] V fun e w' => e = .returned (.bool sb) ∧ Below V.heap.size V w') := by
          intro V; rw [← hsb]; exact flag2 da dl df dx hf V
        have HSB : Hid (fl df 2 = sb) := hsb
        clear hsb H4 H17
        obtain ⟨lb, hlb⟩ : ∃ lb, (lastW l && !sb) = lb := ⟨_, rfl⟩
        have HL : Hid ((lastW l && !sb) = lb) := hlb
        clear hlb
        obtain ⟨e0, e1, e2⟩ := box3_facts X4.out.1.2.1
        obtain ⟨d0, d1, d2, d3⟩ := box4_facts X4.out.2.1
        go_upto_region 13 with fail
        go_cut [75] (fun x wx => x = .bool lb ∧ Dp w wx va nn vc #[.slice a L c, .int .u64 (ta : Int), .int .u64 (tl : Int)] p da dl df dx)
        case first =>
          by_cases h0 : L = 0
          · have g1 : ¬ (0 : Int) < L := by omega
            have el : lb = false := by
              have : l = [] := List.length_eq_zero_iff.1 (by have := HS.out.2.1; omega)
              rw [← HL.out, this]; rfl
            subst el
            clear h0
            go_wp2_with fail
            go_meet
            exact ⟨rfl, X4.out⟩
          · obtain ⟨q, hq⟩ : ∃ q, L = q + 1 := ⟨L - 1, by omega⟩
            have hql : q < l.length := by have := HS.out.2.1; omega
            obtain ⟨g, c', hsl, hcl⟩ := HS.out.1.cells (by omega)
            simp only [Value.slice.injEq] at hsl
            obtain ⟨rfl, -, rfl⟩ := hsl
            have hgl : g < w.heap.size := (HS.out.1.lt g rfl).2
            have hlast := (hcl q hql).2.2
            rw [← lastW_get hql (by have := HS.out.2.1; omega)] at hlast
            have hlast2 : w4.cell? ⟨g, q * 3 + 2, none⟩ = some (.bool (lastW l)) := (X4.out.1.2.2.2.2.cell (p := ⟨g, q * 3 + 2, none⟩) hgl).trans hlast
            have g1 : (0 : Int) < L := by omega
            have g4 : (L : Int) - 1 = (q : Int) := by omega
            have hL6 : L ≤ 600 := by have := HS.out.2; omega
            have g5 : wrap64 (q : Int) = (q : Int) := by unfold wrap64; omega
            have g6 : (q : Int) < L := by omega
            have hL2 := HL.out
            obtain ⟨lw, hlw⟩ : ∃ lw, lastW l = lw := ⟨_, rfl⟩
            rw [hlw] at hlast2 hL2
            clear hq h0 hcl hql hlw hlast hgl hL6
            cases lw with
            | false =>
              have el : lb = false := by simpa using hL2.symm
              subst el
              clear hL2
              go_wp2_with fail
              go_meet
              exact ⟨rfl, X4.out⟩
            | true =>
              have el : lb = !sb := by simpa using hL2.symm
              subst el
              clear hL2
              go_wp2_with (go_at_call 87; refine (H2.out _).mono ?_; rintro e w5 ⟨rfl, hb⟩; have X5 : Hid (Dp w w5 va nn vc #[.slice (some ⟨g, 0, none⟩) L c, .int .u64 (ta : Int), .int .u64 (tl : Int)] p da dl df dx) := X4.out.below hb; clear hb)
              go_meet
              exact ⟨rfl, X5.out⟩
        case rest =>
        obtain ⟨rfl, ht⟩ := hcut
        have X5 : Hid (Dp w wc va nn vc #[.slice a L c, .int .u64 (ta : Int), .int .u64 (tl : Int)] p da dl df dx) := ht
        clear ht X4 d0 d1 d2 d3 e0 e1 e2
        cases lb with
        | true =>
          have HRR : Hid (r = ⟨155, De.zero, l⟩) := HR.out.symm.trans (along_err HO.out.2.2.2 HO.out.2.1 HO.out.1 HF4.out (by have := HL.out; simp only [addE, HIN.out, if_true, HSB.out, this]) (by decide))
          go_upto_region 14 with fail
          have Xd : Hid (Dp w wc.drew va nn vc #[.slice a L c, .int .u64 (ta : Int), .int .u64 (tl : Int)] p da dl df dx) := X5.out.below (Below.refl _ _).drew
          refine wp_region_held_drew (S := fun Z => Z.cell? ⟨w.heap.size + 1, 0, none⟩ = some (.slice a L c) ∧ Z.cell? ⟨w.heap.size + 1, 1, none⟩ = some (.int .u64 (ta : Int)) ∧ Z.cell? ⟨w.heap.size + 1, 2, none⟩ = some (.int .u64 (tl : Int)) ∧ Z.cell? ⟨p, 0, none⟩ = some (.int .u64 (da : Int)) ∧ Z.cell? ⟨p, 1, none⟩ = some (.int .u32 (dl : Int)) ∧ Z.cell? ⟨p, 2, none⟩ = some (.int .u16 (df : Int)) ∧ Z.cell? ⟨p, 3, none⟩ = some (.int .u16 (dx : Int))) (by kernel_rfl) ⟨cellOf Xd.out.1.2.1 0 _ rfl, cellOf Xd.out.1.2.1 1 _ rfl, cellOf Xd.out.1.2.1 2 _ rfl, cellOf Xd.out.2.1 0 _ rfl, cellOf Xd.out.2.1 1 _ rfl, cellOf Xd.out.2.1 2 _ rfl, cellOf Xd.out.2.1 3 _ rfl⟩ ?_
          intro hS
          clear X5
          generalize wc.drew = Vd at *
          refine wpAnyH_take (i := 0) (v := ?_) rfl (by kernel_rfl) (by kernel_rfl) (by kernel_rfl) (fun _ _ _ h => h) (Or.inl ⟨by kernel_rfl, ?_⟩) hS ?_
          rotate_left
          · intro w hSw; (try dsimp only at hSw); go_simp; try (with_reducible rfl)
          (try simp only [Act.put, List.getElem_toArray, List.getElem_cons_succ, List.getElem_cons_zero, List.setIfInBounds_toArray, List.set_cons_zero, List.set_cons_succ])
          refine wpAnyH_take (i := 1) (v := ?_) rfl (by kernel_rfl) (by kernel_rfl) (by kernel_rfl) (fun _ _ _ h => h) (Or.inl ⟨by kernel_rfl, ?_⟩) hS ?_
          rotate_left
          · intro w hSw; (try dsimp only at hSw); go_simp; try (with_reducible rfl)
          (try simp only [Act.put, List.getElem_toArray, List.getElem_cons_succ, List.getElem_cons_zero, List.setIfInBounds_toArray, List.set_cons_zero, List.set_cons_succ])
          refine wpAnyH_ready (rs := [2]) (by kernel_rfl) (by simp) ?_
          refine AllReadyH.cons rfl (fun K1 hK1 => ?_) AllReadyH.nil
          rw [if_pos (by kernel_rfl)]
          refine wp_store_row 150 _ _ rfl (w.heap.size + 1 + 1) #[.int .u64 (da : Int), .int .u32 (dl : Int), .int .u16 (df : Int), .int .u16 (dx : Int)] rfl rfl 150 #[.int .u64 0, .int .u32 0, .int .u16 0, .int .u16 0] Xd.out.1.2.2.1 info47 rfl (by simp [Value.oneCell']) ?_
          have Xe : Hid ((Dq w (Vd.setRow (w.heap.size + 1 + 1) #[.int .u64 (da : Int), .int .u32 (dl : Int), .int .u16 (df : Int), .int .u16 (dx : Int)]) va nn vc #[.slice a L c, .int .u64 (ta : Int), .int .u64 (tl : Int)] p da dl df dx #[.int .u64 (da : Int), .int .u32 (dl : Int), .int .u16 (df : Int), .int .u16 (dx : Int)])) := Xd.out.set #[.int .u64 (da : Int), .int .u32 (dl : Int), .int .u16 (df : Int), .int .u16 (dx : Int)]
          clear Xd
          generalize Vd.setRow (w.heap.size + 1 + 1) #[.int .u64 (da : Int), .int .u32 (dl : Int), .int .u16 (df : Int), .int .u16 (dx : Int)] = Ve at *
          refine hK1.out _ _ ⟨cellOf Xe.out.1.2.1 0 _ rfl, cellOf Xe.out.1.2.1 1 _ rfl, cellOf Xe.out.1.2.1 2 _ rfl, cellOf Xe.out.2.1 0 _ rfl, cellOf Xe.out.2.1 1 _ rfl, cellOf Xe.out.2.1 2 _ rfl, cellOf Xe.out.2.1 3 _ rfl⟩ (fun h2 => ?_)
          clear hK1 K1 hS
          (try simp only [Act.put, List.getElem_toArray, List.getElem_cons_succ, List.getElem_cons_zero, List.setIfInBounds_toArray, List.set_cons_zero, List.set_cons_succ])
          refine wpAnyH_ready (rs := [3]) (by kernel_rfl) (by simp) ?_
          refine AllReadyH.cons rfl (fun K1 hK1 => ?_) AllReadyH.nil
          rw [if_pos (by kernel_rfl)]
          refine wp_store_row 64 _ _ rfl (w.heap.size + 1 + 1 + 1) #[.slice a L c, .int .u64 (ta : Int), .int .u64 (tl : Int)] rfl rfl 64 #[.slice none 0 0, .int .u64 0, .int .u64 0] Xe.out.1.2.2.2.1 info44 rfl (by simp [Value.oneCell']) ?_
          have Xf : Hid (Below w.heap.size w (Ve.setRow (w.heap.size + 1 + 1 + 1) #[.slice a L c, .int .u64 (ta : Int), .int .u64 (tl : Int)]) ∧ (Ve.setRow (w.heap.size + 1 + 1 + 1) #[.slice a L c, .int .u64 (ta : Int), .int .u64 (tl : Int)]).heap[w.heap.size + 1 + 1]? = some (.cells #[.int .u64 (da : Int), .int .u32 (dl : Int), .int .u16 (df : Int), .int .u16 (dx : Int)] 150 (0, 0)) ∧ (Ve.setRow (w.heap.size + 1 + 1 + 1) #[.slice a L c, .int .u64 (ta : Int), .int .u64 (tl : Int)]).heap[w.heap.size + 1 + 1 + 1]? = some (.cells #[.slice a L c, .int .u64 (ta : Int), .int .u64 (tl : Int)] 64 (0, 0)) ∧ (Ve.setRow (w.heap.size + 1 + 1 + 1) #[.slice a L c, .int .u64 (ta : Int), .int .u64 (tl : Int)]).cell? ⟨w.heap.size + 1, 0, none⟩ = some (.slice a L c) ∧ (Ve.setRow (w.heap.size + 1 + 1 + 1) #[.slice a L c, .int .u64 (ta : Int), .int .u64 (tl : Int)]).cell? ⟨w.heap.size + 1, 1, none⟩ = some (.int .u64 (ta : Int)) ∧ (Ve.setRow (w.heap.size + 1 + 1 + 1) #[.slice a L c, .int .u64 (ta : Int), .int .u64 (tl : Int)]).cell? ⟨w.heap.size + 1, 2, none⟩ = some (.int .u64 (tl : Int)) ∧ (Ve.setRow (w.heap.size + 1 + 1 + 1) #[.slice a L c, .int .u64 (ta : Int), .int .u64 (tl : Int)]).cell? ⟨p, 0, none⟩ = some (.int .u64 (da : Int)) ∧ (Ve.setRow (w.heap.size + 1 + 1 + 1) #[.slice a L c, .int .u64 (ta : Int), .int .u64 (tl : Int)]).cell? ⟨p, 1, none⟩ = some (.int .u32 (dl : Int)) ∧ (Ve.setRow (w.heap.size + 1 + 1 + 1) #[.slice a L c, .int .u64 (ta : Int), .int .u64 (tl : Int)]).cell? ⟨p, 2, none⟩ = some (.int .u16 (df : Int)) ∧ (Ve.setRow (w.heap.size + 1 + 1 + 1) #[.slice a L c, .int .u64 (ta : Int), .int .u64 (tl : Int)]).cell? ⟨p, 3, none⟩ = some (.int .u16 (dx : Int))) := Xe.out.fin
          clear Xe
          generalize Ve.setRow (w.heap.size + 1 + 1 + 1) #[.slice a L c, .int .u64 (ta : Int), .int .u64 (tl : Int)] = Vf at *
          refine hK1.out _ _ Xf.out.2.2.2 (fun h3 => ?_)
          clear hK1 K1 h2
          (try simp only [Act.put, List.getElem_toArray, List.getElem_cons_succ, List.getElem_cons_zero, List.setIfInBounds_toArray, List.set_cons_zero, List.set_cons_succ])
          refine wpAnyH_take (i := 4) (v := ?_) rfl (by kernel_rfl) (by kernel_rfl) (by kernel_rfl) (fun _ _ _ h => h) (Or.inl ⟨by kernel_rfl, ?_⟩) h3 ?_
          rotate_left
          · intro w hSw; (try dsimp only at hSw); go_simp; try (with_reducible rfl)
          (try simp only [Act.put, List.getElem_toArray, List.getElem_cons_succ, List.getElem_cons_zero, List.setIfInBounds_toArray, List.set_cons_zero, List.set_cons_succ])
          refine wpAnyH_done (by kernel_rfl) ?_ _
          clear h3
          obtain ⟨r0, r1, r2, r3⟩ := box4_facts Xf.out.2.1
          obtain ⟨q0, q1, q2⟩ := box3_facts Xf.out.2.2.1
          go_wp2_with fail
          refine bodyPost_ret (v := .tuple #[.agg #[.int .u64 (da : Int), .int .u32 (dl : Int), .int .u16 (df : Int), .int .u16 (dx : Int)], .agg #[.slice a L c, .int .u64 (ta : Int), .int .u64 (tl : Int)], .int .i64 155]) (by simp [results, Tryz.results86, go_sem, r0, r1, r2, r3, q0, q1, q2]) rfl ?_
          rw [HRR.out]
          exact ⟨⟨da, dl, df, dx⟩, a, L, c, rfl, (fun h => by cases h), Xf.out.1⟩
        | false =>
          have HA : Hid (addE l ⟨da, dl, df, dx⟩ = 0) := by
            have := HL.out
            show addE l ⟨da, dl, df, dx⟩ = 0
            simp [addE, HIN.out, HSB.out, this]
          go_upto_region 15 with fail
          refine wp_region_list ?_
          (refine wpList_step (fun KK hKK => ?_); go_simp; refine hKK _ _ ?_; clear hKK KK)
          have hb6 : Below wc.heap.size wc (wc.alloc (.cells #[] 118)) := (Below.refl _ _).alloc (Nat.le_refl _) _
          have X6 : Hid (Dp w (wc.alloc (.cells #[] 118)) va nn vc #[.slice a L c, .int .u64 (ta : Int), .int .u64 (tl : Int)] p da dl df dx) := X5.out.below hb6
          have G6 : Hid ((wc.alloc (.cells #[] 118)).heap[wc.heap.size]? = some (.cells #[] 118 (0, 0)) ∧ p < wc.heap.size ∧ wc.heap.size ≤ (wc.alloc (.cells #[] 118)).heap.size) := ⟨heap_alloc_new _ _, (Array.getElem?_eq_some_iff.1 X5.out.2.1).1, hb6.size⟩
          clear hb6 X5
          generalize wc.alloc (.cells #[] 118) = w6 at *
          generalize wc.heap.size = g6 at *
          obtain ⟨e0, e1, e2⟩ := box3_facts X6.out.1.2.1
          (refine wpList_step (fun KK hKK => ?_); go_simp; refine hKK _ _ ?_; clear hKK KK)
          (refine wpList_step (fun KK hKK => ?_); go_simp; refine hKK _ _ ?_; clear hKK KK)
          refine wpList_append_segs rfl _ _ rfl g6 g6 rfl G6.out.1 (Nat.le_refl _) (.slice a L c) rfl l (HS.out.1.kept (fun g hg => X6.out.1.2.2.2.2.block g (HS.out.1.lt g hg).2)) (by have := HS.out.2; omega) G6.out.2.2 ?_
          intro g7 cap7 w7 hs7 hb7
          have X7 : Hid (Dp w w7 va nn vc #[.slice a L c, .int .u64 (ta : Int), .int .u64 (tl : Int)] p da dl df dx) := X6.out.beside hb7 G6.out.2.1
          have S7 : Hid (SegIn g6 w7 (.slice (some ⟨g7, 0, none⟩) L cap7) l ∧ p < g6 ∧ g6 ≤ w7.heap.size) := ⟨by have := HS.out.2.1; rw [this]; exact hs7, G6.out.2.1, Nat.le_trans G6.out.2.2 hb7.size⟩
          have hLL := HS.out.2.1
          rw [← hLL]
          clear hs7 hb7 X6 G6 e0 e1 e2 hLL
          go_upto_region 16 with fail
          have Xd : Hid (Dp w w7.drew va nn vc #[.slice a L c, .int .u64 (ta : Int), .int .u64 (tl : Int)] p da dl df dx) := X7.out.below (Below.refl _ _).drew
          have Sd : Hid (SegIn g6 w7.drew (.slice (some ⟨g7, 0, none⟩) L cap7) l ∧ p < g6 ∧ g6 ≤ w7.drew.heap.size) := S7.out
          refine wp_region_held_drew (S := fun Z => Z.cell? ⟨p, 0, none⟩ = some (.int .u64 (da : Int)) ∧ Z.cell? ⟨p, 1, none⟩ = some (.int .u32 (dl : Int)) ∧ Z.cell? ⟨p, 2, none⟩ = some (.int .u16 (df : Int)) ∧ Z.cell? ⟨p, 3, none⟩ = some (.int .u16 (dx : Int))) (by kernel_rfl) ⟨cellOf Xd.out.2.1 0 _ rfl, cellOf Xd.out.2.1 1 _ rfl, cellOf Xd.out.2.1 2 _ rfl, cellOf Xd.out.2.1 3 _ rfl⟩ ?_
          intro hS
          clear X7 S7
          generalize w7.drew = w8 at *
          refine wpAnyH_take (i := 0) (v := ?_) rfl (by kernel_rfl) (by kernel_rfl) (by kernel_rfl) (fun _ _ _ h => h) (Or.inl ⟨by kernel_rfl, ?_⟩) hS ?_
          rotate_left
          · intro w hSw; (try dsimp only at hSw); go_simp; try (with_reducible rfl)
          (try simp only [Act.put, List.getElem_toArray, List.getElem_cons_succ, List.getElem_cons_zero, List.setIfInBounds_toArray, List.set_cons_zero, List.set_cons_succ])
          refine wpAnyH_take (i := 1) (v := ?_) rfl (by kernel_rfl) (by kernel_rfl) (by kernel_rfl) (fun _ _ _ h => h) (Or.inl ⟨by kernel_rfl, ?_⟩) hS ?_
          rotate_left
          · intro w hSw; (try dsimp only at hSw); go_simp; try (with_reducible rfl)
          (try simp only [Act.put, List.getElem_toArray, List.getElem_cons_succ, List.getElem_cons_zero, List.setIfInBounds_toArray, List.set_cons_zero, List.set_cons_succ])
          refine wpAnyH_take (i := 2) (v := ?_) rfl (by kernel_rfl) (by kernel_rfl) (by kernel_rfl) (fun _ _ _ h => h) (Or.inl ⟨by kernel_rfl, ?_⟩) hS ?_
          rotate_left
          · intro w hSw; (try dsimp only at hSw); go_simp; try (with_reducible rfl)
          (try simp only [Act.put, List.getElem_toArray, List.getElem_cons_succ, List.getElem_cons_zero, List.setIfInBounds_toArray, List.set_cons_zero, List.set_cons_succ])
          refine wpAnyH_take (i := 3) (v := ?_) rfl (by kernel_rfl) (by kernel_rfl) (by kernel_rfl) (fun _ _ _ h => h) (Or.inl ⟨by kernel_rfl, ?_⟩) hS ?_
          rotate_left
          · intro w hSw; (try dsimp only at hSw); go_simp; try (with_reducible rfl)
          (try simp only [Act.put, List.getElem_toArray, List.getElem_cons_succ, List.getElem_cons_zero, List.setIfInBounds_toArray, List.set_cons_zero, List.set_cons_succ])
          refine wpAnyH_take (i := 4) (v := ?_) rfl (by kernel_rfl) (by kernel_rfl) (by kernel_rfl) (fun _ _ _ h => h) (Or.inl ⟨by kernel_rfl, ?_⟩) hS ?_
          rotate_left
          · intro w hSw; (try dsimp only at hSw); go_simp; try (with_reducible rfl)
          (try simp only [Act.put, List.getElem_toArray, List.getElem_cons_succ, List.getElem_cons_zero, List.setIfInBounds_toArray, List.set_cons_zero, List.set_cons_succ])
          refine wpAnyH_take (i := 5) (v := ?_) rfl (by kernel_rfl) (by kernel_rfl) (by kernel_rfl) (fun _ _ _ h => h) (Or.inl ⟨by kernel_rfl, ?_⟩) hS ?_
          rotate_left
          · intro w hSw; (try dsimp only at hSw); go_simp; try (with_reducible rfl)
          (try simp only [Act.put, List.getElem_toArray, List.getElem_cons_succ, List.getElem_cons_zero, List.setIfInBounds_toArray, List.set_cons_zero, List.set_cons_succ])
          refine wpAnyH_take (i := 6) (v := ?_) rfl (by kernel_rfl) (by kernel_rfl) (by kernel_rfl) (fun _ _ _ h => h) (Or.inl ⟨by kernel_rfl, ?_⟩) hS ?_
          rotate_left
          · intro w hSw; (try dsimp only at hSw); go_simp; try (with_reducible rfl)
          (try simp only [Act.put, List.getElem_toArray, List.getElem_cons_succ, List.getElem_cons_zero, List.setIfInBounds_toArray, List.set_cons_zero, List.set_cons_succ])
          refine wpAnyH_ready (rs := [7]) (by kernel_rfl) (by simp) ?_
          refine AllReadyH.cons rfl (fun K1 hK1 => ?_) AllReadyH.nil
          go_simp
          refine (H2.out _).mono ?_
          rintro e w9 ⟨rfl, hb⟩
          have X9 : Hid (Dp w w9 va nn vc #[.slice a L c, .int .u64 (ta : Int), .int .u64 (tl : Int)] p da dl df dx) := Xd.out.below hb
          have S9 : Hid (SegIn g6 w9 (.slice (some ⟨g7, 0, none⟩) L cap7) l ∧ p < g6 ∧ g6 ≤ w9.heap.size) := ⟨Sd.out.1.kept (fun g hg => hb.block g (Sd.out.1.lt g hg).2), Sd.out.2.1, Nat.le_trans Sd.out.2.2 hb.size⟩
          clear hb Xd Sd
          refine hK1.out _ _ ⟨cellOf X9.out.2.1 0 _ rfl, cellOf X9.out.2.1 1 _ rfl, cellOf X9.out.2.1 2 _ rfl, cellOf X9.out.2.1 3 _ rfl⟩ (fun h9 => ?_)
          clear hK1 K1 hS
          (try simp only [Act.put, List.getElem_toArray, List.getElem_cons_succ, List.getElem_cons_zero, List.setIfInBounds_toArray, List.set_cons_zero, List.set_cons_succ])
          refine wpAnyH_take (i := 8) (v := ?_) rfl (by kernel_rfl) (by kernel_rfl) (by kernel_rfl) (fun _ _ _ h => h) (Or.inl ⟨by kernel_rfl, ?_⟩) h9 ?_
          rotate_left
          · intro w hSw; (try dsimp only at hSw); go_simp; try (with_reducible rfl)
          (try simp only [Act.put, List.getElem_toArray, List.getElem_cons_succ, List.getElem_cons_zero, List.setIfInBounds_toArray, List.set_cons_zero, List.set_cons_succ])
          refine wpAnyH_ready (rs := [9]) (by kernel_rfl) (by simp) ?_
          refine AllReadyH.cons rfl (fun K1 hK1 => ?_) AllReadyH.nil
          go_simp
          have hb3 : Below w9.heap.size w9 (w9.alloc (.cells #[.int .u64 (da : Int), .int .u64 (dl : Int), .bool sb] 118)) := (Below.refl _ _).alloc (Nat.le_refl _) _
          have XA : Hid (Dp w (w9.alloc (.cells #[.int .u64 (da : Int), .int .u64 (dl : Int), .bool sb] 118)) va nn vc #[.slice a L c, .int .u64 (ta : Int), .int .u64 (tl : Int)] p da dl df dx) := X9.out.below hb3
          have SA : Hid (SegIn g6 (w9.alloc (.cells #[.int .u64 (da : Int), .int .u64 (dl : Int), .bool sb] 118)) (.slice (some ⟨g7, 0, none⟩) L cap7) l ∧ p < g6 ∧ g6 ≤ (w9.alloc (.cells #[.int .u64 (da : Int), .int .u64 (dl : Int), .bool sb] 118)).heap.size) := ⟨S9.out.1.kept (fun g hg => hb3.block g (S9.out.1.lt g hg).2), S9.out.2.1, Nat.le_trans S9.out.2.2 hb3.size⟩
          have HN3 : Hid (∀ j u, [Value.int .u64 (da : Int), .int .u64 (dl : Int), .bool sb][j]? = some u → (w9.alloc (.cells #[.int .u64 (da : Int), .int .u64 (dl : Int), .bool sb] 118)).cell? ((⟨w9.heap.size, 0, none⟩ : Addr).add j) = some u) := three_new w9 (.int .u64 (da : Int)) (.int .u64 (dl : Int)) (.bool sb) 118
          clear hb3 X9 S9
          generalize w9.alloc (.cells #[.int .u64 (da : Int), .int .u64 (dl : Int), .bool sb] 118) = wA at *
          generalize w9.heap.size = gA at *
          refine hK1.out _ _ ⟨cellOf XA.out.2.1 0 _ rfl, cellOf XA.out.2.1 1 _ rfl, cellOf XA.out.2.1 2 _ rfl, cellOf XA.out.2.1 3 _ rfl⟩ (fun hA => ?_)
          clear hK1 K1 h9
          (try simp only [Act.put, List.getElem_toArray, List.getElem_cons_succ, List.getElem_cons_zero, List.setIfInBounds_toArray, List.set_cons_zero, List.set_cons_succ])
          refine wpAnyH_ready (rs := [10]) (by kernel_rfl) (by simp) ?_
          refine AllReadyH.cons rfl (fun K1 hK1 => ?_) AllReadyH.nil
          rw [if_pos (by kernel_rfl)]
          obtain ⟨i0, hi, hz0, hz1, hz2⟩ := info_parts Tryz.info52s
          refine wp_append_lies wA _ _ 55 rfl g6 118 i0 (.agg #[.int .u64 0, .int .u64 0, .bool false]) 3 24 Tryz.underlying55 hi hz0 hz1 hz2 rfl (by decide) (.slice (some ⟨g7, 0, none⟩) L cap7) L (segRow l) rfl (by have := SA.out.1; unfold SegIn at this; rw [← HS.out.2.1] at this; exact this) ⟨gA, 0, none⟩ 1 1 [.int .u64 (da : Int), .int .u64 (dl : Int), .bool sb] rfl rfl HN3.out (by intro u hu; simp at hu; rcases hu with rfl | rfl | rfl <;> rfl) (by omega) (by have := HS.out.2; unfold maxLen; omega) (by have := HS.out.2; omega) SA.out.2.2 wA.heap.size rfl ?_
          intro gB capB wB hown hgrow hat hlt
          have hbB : Below g6 wA wB := Below.grown (Below.refl _ _) hgrow SA.out.2.2 (fun g hg => (SA.out.1.lt g hg).1)
          have XB : Hid (Dp w wB va nn vc #[.slice a L c, .int .u64 (ta : Int), .int .u64 (tl : Int)] p da dl df dx) := XA.out.beside hbB SA.out.2.1
          have SB : Hid (SegIn g6 wB (.slice (some ⟨gB, 0, none⟩) (L + 1) capB) (l ++ [⟨da, dl, sb⟩]) ∧ p < g6) := ⟨by
            unfold SegIn
            rw [segRow_snoc, List.length_append, List.length_singleton, ← HS.out.2.1]
            exact hown, SA.out.2.1⟩
          clear hown hgrow hat hlt hbB XA SA
          refine hK1.out _ _ ⟨cellOf XB.out.2.1 0 _ rfl, cellOf XB.out.2.1 1 _ rfl, cellOf XB.out.2.1 2 _ rfl, cellOf XB.out.2.1 3 _ rfl⟩ (fun hB => ?_)
          clear hK1 K1 hA
          (try simp only [Act.put, List.getElem_toArray, List.getElem_cons_succ, List.getElem_cons_zero, List.setIfInBounds_toArray, List.set_cons_zero, List.set_cons_succ])
          refine wpAnyH_take (i := 11) (v := ?_) rfl (by kernel_rfl) (by kernel_rfl) (by kernel_rfl) (fun _ _ _ h => h) (Or.inl ⟨by kernel_rfl, ?_⟩) hB ?_
          rotate_left
          · intro w hSw; (try dsimp only at hSw); go_simp; try (with_reducible rfl)
          (try simp only [Act.put, List.getElem_toArray, List.getElem_cons_succ, List.getElem_cons_zero, List.setIfInBounds_toArray, List.set_cons_zero, List.set_cons_succ])
          refine wpAnyH_ready (rs := [12]) (by kernel_rfl) (by simp) ?_
          refine AllReadyH.cons rfl (fun K1 hK1 => ?_) AllReadyH.nil
          have m1 := cellOf XB.out.1.2.1 0 _ rfl
          have m2 := frozenOf XB.out.1.2.1 0
          go_simp
          have XC : Hid (Dp w (wB.setCell ⟨w.heap.size + 1, 0, none⟩ (.slice (some ⟨gB, 0, none⟩) (L + 1) capB)) va nn vc #[.slice (some ⟨gB, 0, none⟩) (L + 1) capB, .int .u64 (ta : Int), .int .u64 (tl : Int)] p da dl df dx) := XB.out.seg _
          have SCC : Hid (SegIn g6 (wB.setCell ⟨w.heap.size + 1, 0, none⟩ (.slice (some ⟨gB, 0, none⟩) (L + 1) capB)) (.slice (some ⟨gB, 0, none⟩) (L + 1) capB) (l ++ [⟨da, dl, sb⟩]) ∧ p < g6) := ⟨SB.out.1.kept (fun g hg => heap_setCell _ _ _ _ _ (by have := (SB.out.1.lt g hg).1; have := SB.out.2; have := XB.out.2.2; omega)), SB.out.2⟩
          clear m1 m2 XB SB
          generalize wB.setCell ⟨w.heap.size + 1, 0, none⟩ (.slice (some ⟨gB, 0, none⟩) (L + 1) capB) = wC at *
          refine hK1.out _ _ ⟨cellOf XC.out.2.1 0 _ rfl, cellOf XC.out.2.1 1 _ rfl, cellOf XC.out.2.1 2 _ rfl, cellOf XC.out.2.1 3 _ rfl⟩ (fun hC => ?_)
          clear hK1 K1 hB
          (try simp only [Act.put, List.getElem_toArray, List.getElem_cons_succ, List.getElem_cons_zero, List.setIfInBounds_toArray, List.set_cons_zero, List.set_cons_succ])
          refine wpAnyH_done (by kernel_rfl) ?_ _
          clear hC
          obtain ⟨f1, hf1⟩ : ∃ b, fl df 1 = b := ⟨_, rfl⟩
          have H1 : Hid (∀ V, Calls Tryz.prog 87 #[.agg #[.int .u64 (da : Int), .int .u32 (dl : Int), .int .u16 (df : Int), .int .u16 (dx : Int)], .int .u16 1] V fun e w' => e = .returned (.bool f1) ∧ Below V.heap.size V w') := by
            intro V; rw [← hf1]; exact flag1 da dl df dx hf V
          have HF1 : Hid (fl df 1 = f1) := hf1
          clear hf1 H2
          obtain ⟨d0, d1, d2, d3⟩ := box4_facts XC.out.2.1
          obtain ⟨L2, hL2⟩ : ∃ L2, L + 1 = L2 := ⟨_, rfl⟩
          rw [hL2] at XC SCC ⊢
          cases f1 with
          | false =>
            have HRR : Hid (r = ⟨0, ⟨da, dl, df, dx⟩, l ++ [⟨da, dl, sb⟩]⟩) := HR.out.symm.trans (by rw [along_end HO.out.2.2.2 HO.out.2.1 HO.out.1 HF4.out HA.out HF1.out]; simp only [De.seg, HSB.out])
            go_upto_region 18 with (go_at_call 87; refine (H1.out _).mono ?_; rintro e wD ⟨rfl, hb⟩; have XD : Hid (Dp w wD va nn vc #[.slice (some ⟨gB, 0, none⟩) L2 capB, .int .u64 (ta : Int), .int .u64 (tl : Int)] p da dl df dx) := XC.out.below hb; have SD : Hid (SegIn g6 wD (.slice (some ⟨gB, 0, none⟩) L2 capB) (l ++ [⟨da, dl, sb⟩]) ∧ p < g6 ∧ w.heap.size < p) := ⟨SCC.out.1.kept (fun g hg => hb.block g (SCC.out.1.lt g hg).2), SCC.out.2, by have := XC.out.2.2; omega⟩; clear hb XC d0 d1 d2 d3)
            go_upto_region 18 with fail
            have Xd : Hid (Dp w wD.drew va nn vc #[.slice (some ⟨gB, 0, none⟩) L2 capB, .int .u64 (ta : Int), .int .u64 (tl : Int)] p da dl df dx) := XD.out.below (Below.refl _ _).drew
            refine wp_region_held_drew (S := fun Z => Z.cell? ⟨w.heap.size + 1, 0, none⟩ = some (.slice (some ⟨gB, 0, none⟩) L2 capB) ∧ Z.cell? ⟨w.heap.size + 1, 1, none⟩ = some (.int .u64 (ta : Int)) ∧ Z.cell? ⟨w.heap.size + 1, 2, none⟩ = some (.int .u64 (tl : Int)) ∧ Z.cell? ⟨p, 0, none⟩ = some (.int .u64 (da : Int)) ∧ Z.cell? ⟨p, 1, none⟩ = some (.int .u32 (dl : Int)) ∧ Z.cell? ⟨p, 2, none⟩ = some (.int .u16 (df : Int)) ∧ Z.cell? ⟨p, 3, none⟩ = some (.int .u16 (dx : Int))) (by kernel_rfl) ⟨cellOf Xd.out.1.2.1 0 _ rfl, cellOf Xd.out.1.2.1 1 _ rfl, cellOf Xd.out.1.2.1 2 _ rfl, cellOf Xd.out.2.1 0 _ rfl, cellOf Xd.out.2.1 1 _ rfl, cellOf Xd.out.2.1 2 _ rfl, cellOf Xd.out.2.1 3 _ rfl⟩ ?_
            intro hS
            have Gd : Hid (SegIn g6 wD.drew (.slice (some ⟨gB, 0, none⟩) L2 capB) (l ++ [⟨da, dl, sb⟩]) ∧ p < g6 ∧ w.heap.size < p) := SD.out
            clear SD
            clear XD
            generalize wD.drew = Vd at *
            refine wpAnyH_take (i := 0) (v := ?_) rfl (by kernel_rfl) (by kernel_rfl) (by kernel_rfl) (fun _ _ _ h => h) (Or.inl ⟨by kernel_rfl, ?_⟩) hS ?_
            rotate_left
            · intro w hSw; (try dsimp only at hSw); go_simp; try (with_reducible rfl)
            (try simp only [Act.put, List.getElem_toArray, List.getElem_cons_succ, List.getElem_cons_zero, List.setIfInBounds_toArray, List.set_cons_zero, List.set_cons_succ])
            refine wpAnyH_take (i := 1) (v := ?_) rfl (by kernel_rfl) (by kernel_rfl) (by kernel_rfl) (fun _ _ _ h => h) (Or.inl ⟨by kernel_rfl, ?_⟩) hS ?_
            rotate_left
            · intro w hSw; (try dsimp only at hSw); go_simp; try (with_reducible rfl)
            (try simp only [Act.put, List.getElem_toArray, List.getElem_cons_succ, List.getElem_cons_zero, List.setIfInBounds_toArray, List.set_cons_zero, List.set_cons_succ])
            refine wpAnyH_ready (rs := [2]) (by kernel_rfl) (by simp) ?_
            refine AllReadyH.cons rfl (fun K1 hK1 => ?_) AllReadyH.nil
            rw [if_pos (by kernel_rfl)]
            refine wp_store_row 150 _ _ rfl (w.heap.size + 1 + 1) #[.int .u64 (da : Int), .int .u32 (dl : Int), .int .u16 (df : Int), .int .u16 (dx : Int)] rfl rfl 150 #[.int .u64 0, .int .u32 0, .int .u16 0, .int .u16 0] Xd.out.1.2.2.1 info47 rfl (by simp [Value.oneCell']) ?_
            have Xe : Hid ((Dq w (Vd.setRow (w.heap.size + 1 + 1) #[.int .u64 (da : Int), .int .u32 (dl : Int), .int .u16 (df : Int), .int .u16 (dx : Int)]) va nn vc #[.slice (some ⟨gB, 0, none⟩) L2 capB, .int .u64 (ta : Int), .int .u64 (tl : Int)] p da dl df dx #[.int .u64 (da : Int), .int .u32 (dl : Int), .int .u16 (df : Int), .int .u16 (dx : Int)])) := Xd.out.set #[.int .u64 (da : Int), .int .u32 (dl : Int), .int .u16 (df : Int), .int .u16 (dx : Int)]
            have Ge : Hid (SegIn g6 (Vd.setRow (w.heap.size + 1 + 1) #[.int .u64 (da : Int), .int .u32 (dl : Int), .int .u16 (df : Int), .int .u16 (dx : Int)]) (.slice (some ⟨gB, 0, none⟩) L2 capB) (l ++ [⟨da, dl, sb⟩]) ∧ p < g6 ∧ w.heap.size < p) := ⟨Gd.out.1.kept (fun g hg => setRow_other _ _ _ _ (by have := (Gd.out.1.lt g hg).1; have := Gd.out.2; have := Xe.out.2.2; omega)), Gd.out.2⟩
            clear Gd
            clear Xd
            generalize Vd.setRow (w.heap.size + 1 + 1) #[.int .u64 (da : Int), .int .u32 (dl : Int), .int .u16 (df : Int), .int .u16 (dx : Int)] = Ve at *
            refine hK1.out _ _ ⟨cellOf Xe.out.1.2.1 0 _ rfl, cellOf Xe.out.1.2.1 1 _ rfl, cellOf Xe.out.1.2.1 2 _ rfl, cellOf Xe.out.2.1 0 _ rfl, cellOf Xe.out.2.1 1 _ rfl, cellOf Xe.out.2.1 2 _ rfl, cellOf Xe.out.2.1 3 _ rfl⟩ (fun h2 => ?_)
            clear hK1 K1 hS
            (try simp only [Act.put, List.getElem_toArray, List.getElem_cons_succ, List.getElem_cons_zero, List.setIfInBounds_toArray, List.set_cons_zero, List.set_cons_succ])
            refine wpAnyH_ready (rs := [3]) (by kernel_rfl) (by simp) ?_
            refine AllReadyH.cons rfl (fun K1 hK1 => ?_) AllReadyH.nil
            rw [if_pos (by kernel_rfl)]
            refine wp_store_row 64 _ _ rfl (w.heap.size + 1 + 1 + 1) #[.slice (some ⟨gB, 0, none⟩) L2 capB, .int .u64 (ta : Int), .int .u64 (tl : Int)] rfl rfl 64 #[.slice none 0 0, .int .u64 0, .int .u64 0] Xe.out.1.2.2.2.1 info44 rfl (by simp [Value.oneCell']) ?_
            have Xf : Hid (Below w.heap.size w (Ve.setRow (w.heap.size + 1 + 1 + 1) #[.slice (some ⟨gB, 0, none⟩) L2 capB, .int .u64 (ta : Int), .int .u64 (tl : Int)]) ∧ (Ve.setRow (w.heap.size + 1 + 1 + 1) #[.slice (some ⟨gB, 0, none⟩) L2 capB, .int .u64 (ta : Int), .int .u64 (tl : Int)]).heap[w.heap.size + 1 + 1]? = some (.cells #[.int .u64 (da : Int), .int .u32 (dl : Int), .int .u16 (df : Int), .int .u16 (dx : Int)] 150 (0, 0)) ∧ (Ve.setRow (w.heap.size + 1 + 1 + 1) #[.slice (some ⟨gB, 0, none⟩) L2 capB, .int .u64 (ta : Int), .int .u64 (tl : Int)]).heap[w.heap.size + 1 + 1 + 1]? = some (.cells #[.slice (some ⟨gB, 0, none⟩) L2 capB, .int .u64 (ta : Int), .int .u64 (tl : Int)] 64 (0, 0)) ∧ (Ve.setRow (w.heap.size + 1 + 1 + 1) #[.slice (some ⟨gB, 0, none⟩) L2 capB, .int .u64 (ta : Int), .int .u64 (tl : Int)]).cell? ⟨w.heap.size + 1, 0, none⟩ = some (.slice (some ⟨gB, 0, none⟩) L2 capB) ∧ (Ve.setRow (w.heap.size + 1 + 1 + 1) #[.slice (some ⟨gB, 0, none⟩) L2 capB, .int .u64 (ta : Int), .int .u64 (tl : Int)]).cell? ⟨w.heap.size + 1, 1, none⟩ = some (.int .u64 (ta : Int)) ∧ (Ve.setRow (w.heap.size + 1 + 1 + 1) #[.slice (some ⟨gB, 0, none⟩) L2 capB, .int .u64 (ta : Int), .int .u64 (tl : Int)]).cell? ⟨w.heap.size + 1, 2, none⟩ = some (.int .u64 (tl : Int)) ∧ (Ve.setRow (w.heap.size + 1 + 1 + 1) #[.slice (some ⟨gB, 0, none⟩) L2 capB, .int .u64 (ta : Int), .int .u64 (tl : Int)]).cell? ⟨p, 0, none⟩ = some (.int .u64 (da : Int)) ∧ (Ve.setRow (w.heap.size + 1 + 1 + 1) #[.slice (some ⟨gB, 0, none⟩) L2 capB, .int .u64 (ta : Int), .int .u64 (tl : Int)]).cell? ⟨p, 1, none⟩ = some (.int .u32 (dl : Int)) ∧ (Ve.setRow (w.heap.size + 1 + 1 + 1) #[.slice (some ⟨gB, 0, none⟩) L2 capB, .int .u64 (ta : Int), .int .u64 (tl : Int)]).cell? ⟨p, 2, none⟩ = some (.int .u16 (df : Int)) ∧ (Ve.setRow (w.heap.size + 1 + 1 + 1) #[.slice (some ⟨gB, 0, none⟩) L2 capB, .int .u64 (ta : Int), .int .u64 (tl : Int)]).cell? ⟨p, 3, none⟩ = some (.int .u16 (dx : Int))) := Xe.out.fin
            have Gf : Hid (SegIn g6 (Ve.setRow (w.heap.size + 1 + 1 + 1) #[.slice (some ⟨gB, 0, none⟩) L2 capB, .int .u64 (ta : Int), .int .u64 (tl : Int)]) (.slice (some ⟨gB, 0, none⟩) L2 capB) (l ++ [⟨da, dl, sb⟩]) ∧ p < g6 ∧ w.heap.size < p) := ⟨Ge.out.1.kept (fun g hg => setRow_other _ _ _ _ (by have := (Ge.out.1.lt g hg).1; have := Ge.out.2; have := Xe.out.2.2; omega)), Ge.out.2⟩
            clear Ge
            clear Xe
            generalize Ve.setRow (w.heap.size + 1 + 1 + 1) #[.slice (some ⟨gB, 0, none⟩) L2 capB, .int .u64 (ta : Int), .int .u64 (tl : Int)] = Vf at *
            refine hK1.out _ _ Xf.out.2.2.2 (fun h3 => ?_)
            clear hK1 K1 h2
            (try simp only [Act.put, List.getElem_toArray, List.getElem_cons_succ, List.getElem_cons_zero, List.setIfInBounds_toArray, List.set_cons_zero, List.set_cons_succ])
            refine wpAnyH_take (i := 4) (v := ?_) rfl (by kernel_rfl) (by kernel_rfl) (by kernel_rfl) (fun _ _ _ h => h) (Or.inl ⟨by kernel_rfl, ?_⟩) h3 ?_
            rotate_left
            · intro w hSw; (try dsimp only at hSw); go_simp; try (with_reducible rfl)
            (try simp only [Act.put, List.getElem_toArray, List.getElem_cons_succ, List.getElem_cons_zero, List.setIfInBounds_toArray, List.set_cons_zero, List.set_cons_succ])
            refine wpAnyH_done (by kernel_rfl) ?_ _
            clear h3
            obtain ⟨r0, r1, r2, r3⟩ := box4_facts Xf.out.2.1
            obtain ⟨q0, q1, q2⟩ := box3_facts Xf.out.2.2.1
            go_wp2_with fail
            refine bodyPost_ret (v := .tuple #[.agg #[.int .u64 (da : Int), .int .u32 (dl : Int), .int .u16 (df : Int), .int .u16 (dx : Int)], .agg #[.slice (some ⟨gB, 0, none⟩) L2 capB, .int .u64 (ta : Int), .int .u64 (tl : Int)], .int .i64 0]) (by simp [results, Tryz.results86, go_sem, r0, r1, r2, r3, q0, q1, q2]) rfl ?_
            rw [HRR.out]
            exact ⟨⟨da, dl, df, dx⟩, (some ⟨gB, 0, none⟩), L2, capB, rfl, fun _ => ⟨rfl, Gf.out.1.low, fun g hg => .inr (by have := (Gf.out.1.lt g hg).1; have := Gf.out.2.1; have := Gf.out.2.2; omega)⟩, Xf.out.1⟩
          | true =>
            have HRR : Hid (r = alongR M t n k (dx : Int) (l ++ [⟨da, dl, sb⟩])) := HR.out.symm.trans (by rw [along_next HO.out.2.2.2 HO.out.2.1 HO.out.1 HF4.out HA.out HF1.out]; simp only [De.seg, HSB.out])
            have hx5 : dx ≤ 65535 := HO.out.2.2.1.x
            have k1 : kk - 1 = (k : Int) := by have := HK.out.1; omega
            have k2 : wrap64 (k : Int) = (k : Int) := by have := HK.out.2; unfold wrap64; omega
            have k3 : IntKind.i64.wrap (dx : Int) = (dx : Int) := wrapi dx (by omega)
            have H38 : Hid (∀ V, Below w.heap.size w V → SegIn 0 V (.slice (some ⟨gB, 0, none⟩) L2 capB) (l ++ [⟨da, dl, sb⟩]) → Calls Tryz.prog 86 #[.agg #[.int .u64 8192, .slice va nn vc], .int .u64 (t : Int), .int .i64 (n : Int), .int .i64 (dx : Int), .int .i64 (k : Int), .agg #[.slice (some ⟨gB, 0, none⟩) L2 capB, .int .u64 (ta : Int), .int .u64 (tl : Int)]] V fun e w' => ∃ (d : De) (a' : Option Addr) (L' c' : Nat), e = .returned (.tuple #[.agg #[.int .u64 (d.a : Int), .int .u32 (d.l : Int), .int .u16 (d.f : Int), .int .u16 (d.x : Int)], .agg #[.slice a' L' c', .int .u64 (ta : Int), .int .u64 (tl : Int)], .int .i64 ((r).e : Int)]) ∧ (((r).e) = 0 → d = (r).d ∧ SegIn 0 w' (.slice a' L' c') (r).l ∧ ∀ g, (Value.slice a' L' c').ownBlock = some g → (Value.slice (some ⟨gB, 0, none⟩) L2 capB).ownBlock = some g ∨ V.heap.size ≤ g) ∧ Below V.heap.size V w') := by
              intro V hV hs
              have := HI.out.1 (dx : Int) (l ++ [⟨da, dl, sb⟩]) (some ⟨gB, 0, none⟩) L2 capB ta tl V (HI.out.2 V hV) hs (len_le HS.out.2)
              rw [← HRR.out] at this
              exact this
            go_upto_region 19 with (go_at_call 87; refine (H1.out _).mono ?_; rintro e wD ⟨rfl, hb⟩; have XD : Hid (Dp w wD va nn vc #[.slice (some ⟨gB, 0, none⟩) L2 capB, .int .u64 (ta : Int), .int .u64 (tl : Int)] p da dl df dx) := XC.out.below hb; have SD : Hid (SegIn g6 wD (.slice (some ⟨gB, 0, none⟩) L2 capB) (l ++ [⟨da, dl, sb⟩]) ∧ p < g6) := ⟨SCC.out.1.kept (fun g hg => hb.block g (SCC.out.1.lt g hg).2), SCC.out.2⟩; clear hb XC d0 d1 d2 d3)
            obtain ⟨d0, d1, d2, d3⟩ := box4_facts XD.out.2.1
            obtain ⟨m0, m1, _, _⟩ := box_facts XD.out.1.1
            obtain ⟨c0, c1, c2⟩ := box3_facts XD.out.1.2.1
            clear HRR
            go_wp2_with (go_at_call 86; refine (H38.out _ XD.out.1.2.2.2.2 SD.out.1.low).mono ?_; rintro e wE ⟨⟨ea, el, ef, ex⟩, a', L', c', rfl, hd, hb⟩; have HX := Dp.rec XD.out hb #[.int .u64 (ea : Int), .int .u32 (el : Int), .int .u16 (ef : Int), .int .u16 (ex : Int)] #[.slice a' L' c', .int .u64 (ta : Int), .int .u64 (tl : Int)] (v := .slice a' L' c') (l := r.l) (e := r.e) (d := De.mk ea el ef ex) (dd := r.d) (u := .slice (some ⟨gB, 0, none⟩) L2 capB) SD.out.2 (fun g hg => (SD.out.1.lt g hg).1) hd; have XE : Hid (Db w wE va nn vc #[.slice (some ⟨gB, 0, none⟩) L2 capB, .int .u64 (ta : Int), .int .u64 (tl : Int)]) := XD.out.1.below hb; have HXX : Hid (Dfin w ((wE.setRow (w.heap.size + 1 + 1) #[.int .u64 (ea : Int), .int .u32 (el : Int), .int .u16 (ef : Int), .int .u16 (ex : Int)]).setRow (w.heap.size + 1 + 1 + 1) #[.slice a' L' c', .int .u64 (ta : Int), .int .u64 (tl : Int)]) #[.int .u64 (ea : Int), .int .u32 (el : Int), .int .u16 (ef : Int), .int .u16 (ex : Int)] #[.slice a' L' c', .int .u64 (ta : Int), .int .u64 (tl : Int)] ∧ (r.e = 0 → De.mk ea el ef ex = r.d ∧ SegIn 0 ((wE.setRow (w.heap.size + 1 + 1) #[.int .u64 (ea : Int), .int .u32 (el : Int), .int .u16 (ef : Int), .int .u16 (ex : Int)]).setRow (w.heap.size + 1 + 1 + 1) #[.slice a' L' c', .int .u64 (ta : Int), .int .u64 (tl : Int)]) (.slice a' L' c') r.l ∧ ∀ g, (Value.slice a' L' c').ownBlock = some g → w.heap.size ≤ g)) := HX; clear HX hb hd XD SD d0 d1 d2 d3 m0 m1 c0 c1 c2; rename_i KK hKK; refine hKK _ _ ?_; clear hKK; (refine wpList_step (fun KK hKK => ?_); go_simp; refine hKK _ _ ?_; clear hKK KK); (refine wpList_step (fun KK hKK => ?_); go_simp; refine hKK _ _ ?_; clear hKK KK); (refine wpList_step (fun KK hKK => ?_); go_simp; refine hKK _ _ ?_; clear hKK KK); refine wpList_store_row rfl 150 _ _ rfl (w.heap.size + 1 + 1) #[.int .u64 (ea : Int), .int .u32 (el : Int), .int .u16 (ef : Int), .int .u16 (ex : Int)] rfl rfl 150 #[.int .u64 0, .int .u32 0, .int .u16 0, .int .u16 0] XE.out.2.2.1 info47 rfl (by simp [Value.oneCell']) ?_; refine wpList_store_row rfl 64 _ _ rfl (w.heap.size + 1 + 1 + 1) #[.slice a' L' c', .int .u64 (ta : Int), .int .u64 (tl : Int)] rfl rfl 64 #[.slice none 0 0, .int .u64 0, .int .u64 0] ((setRow_other _ _ _ _ (by omega)).trans XE.out.2.2.2.1) info44 rfl (by simp [Value.oneCell']) ?_; clear XE; generalize (wE.setRow (w.heap.size + 1 + 1) #[.int .u64 (ea : Int), .int .u32 (el : Int), .int .u16 (ef : Int), .int .u16 (ex : Int)]).setRow (w.heap.size + 1 + 1 + 1) #[.slice a' L' c', .int .u64 (ta : Int), .int .u64 (tl : Int)] = wF at *; obtain ⟨r0, r1, r2, r3⟩ := box4_facts HXX.out.1.2.1; obtain ⟨q0, q1, q2⟩ := box3_facts HXX.out.1.2.2)
            refine bodyPost_ret (v := .tuple #[.agg #[.int .u64 (ea : Int), .int .u32 (el : Int), .int .u16 (ef : Int), .int .u16 (ex : Int)], .agg #[.slice a' L' c', .int .u64 (ta : Int), .int .u64 (tl : Int)], .int .i64 (r.e : Int)]) (by simp [results, Tryz.results86, go_sem, r0, r1, r2, r3, q0, q1, q2]) rfl ?_
            exact ⟨⟨ea, el, ef, ex⟩, a', L', c', rfl, fun h => ⟨(HXX.out.2 h).1, (HXX.out.2 h).2.1, fun g hg => .inr ((HXX.out.2 h).2.2 g hg)⟩, HXX.out.1.1⟩
end Go.Proofs.YtmjdnocilbnoaaaGreat

/- The document's Walk. -/
namespace Go.Proofs.YtmjdnocilbnoaaaGreat
open Go.RowKit Go.Maps
set_option linter.unusedVariables false
set_option linter.unusedSimpArgs false
set_option maxRecDepth 100000
theorem dalong_any {w0 : World} {va : Option Addr} {nn vc : Nat} {M : Nat → Nat} (hM : ∀ a, M a ≤ 255) (hD : DDesc w0 va nn vc M) (t n : Nat) (hn : n ≤ 256) : ∀ k, k ≤ 256 → DIH w0 va nn vc M t n k := by
  intro k
  induction k with
  | zero =>
    intro _ i l a L c ta tl w hw hs hl
    by_cases hi : 0 ≤ i ∧ i < (n : Int)
    · exact dalong_loop (w0 := w0) t n i hi l a L c ta tl w
    · exact dalong_out (w0 := w0) t n 0 i hi l a L c ta tl w
  | succ k ih =>
    intro hk i l a L c ta tl w hw hs hl
    by_cases hi : 0 ≤ i ∧ i < (n : Int)
    · obtain ⟨j, rfl⟩ : ∃ j : Nat, i = j := ⟨i.toNat, by omega⟩
      exact dalong_in hM hD t n k j hn (by omega) (by omega) (ih (by omega)) l a L c ta tl w hw hs hl
    · exact dalong_out (w0 := w0) t n (k + 1) i hi l a L c ta tl w
def Dk (w V : World) (va : Option Addr) (nn vc n D A Uu : Nat) : Prop := V.heap[w.heap.size]? = some (.cells #[.int .u64 8192, .slice va nn vc] 33 (0, 0)) ∧ V.heap[w.heap.size + 1]? = some (.cells #[.int .i64 (n : Int), .int .u64 (D : Int), .int .u64 (A : Int), .int .u64 (Uu : Int)] 25 (0, 0)) ∧ V.heap[w.heap.size + 1 + 1]? = some (.cells #[.slice none 0 0, .int .u64 0, .int .u64 0] 64 (0, 0)) ∧ Below w.heap.size w V
def Dl (w V : World) (va : Option Addr) (nn vc n D A Uu p : Nat) (dc : Array Value) (q : Nat) (cc : Array Value) : Prop := Dk w V va nn vc n D A Uu ∧ V.heap[p]? = some (.cells dc 150 (0, 0)) ∧ V.heap[q]? = some (.cells cc 64 (0, 0)) ∧ w.heap.size + 1 + 1 < p ∧ w.heap.size + 1 + 1 < q ∧ p ≠ q
section
variable {w V V2 : World} {va : Option Addr} {nn vc n D A Uu p q : Nat} {dc cc : Array Value}
theorem Dk.below (h : Dk w V va nn vc n D A Uu) (hb : Below V.heap.size V V2) : Dk w V2 va nn vc n D A Uu := ⟨below_box h.1 hb, below_box h.2.1 hb, below_box h.2.2.1 hb, below_to h.2.2.2 hb⟩
theorem Dl.below (h : Dl w V va nn vc n D A Uu p dc q cc) (hb : Below V.heap.size V V2) : Dl w V2 va nn vc n D A Uu p dc q cc := ⟨h.1.below hb, below_box h.2.1 hb, below_box h.2.2.1 hb, h.2.2.2⟩
theorem Dk.set (h : Dk w V va nn vc n D A Uu) (g : Nat) (hg : w.heap.size + 1 + 1 < g) (c : Array Value) : Dk w (V.setRow g c) va nn vc n D A Uu := ⟨(setRow_other _ _ _ _ (by omega)).trans h.1, (setRow_other _ _ _ _ (by omega)).trans h.2.1, (setRow_other _ _ _ _ (by omega)).trans h.2.2.1, below_setRow h.2.2.2 (by omega) _⟩
theorem Dl.setq (h : Dl w V va nn vc n D A Uu p dc q cc) (c : Array Value) : Dl w (V.setRow q c) va nn vc n D A Uu p dc q c := ⟨h.1.set q h.2.2.2.2.1 c, (setRow_other _ _ _ _ h.2.2.2.2.2).trans h.2.1, setRow_heap _ _ _ _ _ _ h.2.2.1, h.2.2.2⟩
theorem Dk.two (h : Dk w V va nn vc n D A Uu) (z1 z2 : Array Value) : Dl w ((V.alloc (.cells z1 150)).alloc (.cells z2 64)) va nn vc n D A Uu V.heap.size z1 (V.heap.size + 1) z2 := by
  have h2 := two_in V (.cells z1 150) (.cells z2 64)
  have hb : Below V.heap.size V ((V.alloc (.cells z1 150)).alloc (.cells z2 64)) := ((Below.refl _ _).alloc (Nat.le_refl _) _).alloc (by simp) _
  have hlt : w.heap.size + 1 + 1 < V.heap.size := (Array.getElem?_eq_some_iff.1 h.2.2.1).1
  exact ⟨h.below hb, h2.1, h2.2, hlt, by omega, by omega⟩
theorem Dl.tab {x y z : Value} (h : Dl w V va nn vc n D A Uu p dc q #[x, y, z]) (u v : Value) : Dl w ((V.setCell ⟨q, 1, none⟩ u).setCell ⟨q, 2, none⟩ v) va nn vc n D A Uu p dc q #[x, u, v] := by
  have e1 : (V.setCell ⟨q, 1, none⟩ u) = V.setRow q #[x, u, z] := by rw [setCell_eq_setRow V q 1 _ 64 (0, 0) u h.2.2.1]; rfl
  have h1 := h.setq #[x, u, z]
  have e2 : ((V.setRow q #[x, u, z]).setCell ⟨q, 2, none⟩ v) = (V.setRow q #[x, u, z]).setRow q #[x, u, v] := by rw [setCell_eq_setRow _ q 2 _ 64 (0, 0) v h1.2.2.1]; rfl
  rw [e1, e2]
  exact h1.setq _
end
theorem Dl.qlt {w V : World} {va : Option Addr} {nn vc n D A Uu p q : Nat} {dc cc : Array Value} (h : Dl w V va nn vc n D A Uu p dc q cc) : q ≠ V.heap.size := Nat.ne_of_lt (Array.getElem?_eq_some_iff.1 h.2.2.1).1
theorem Dl.row {w V : World} {va : Option Addr} {nn vc n D A Uu p q g : Nat} {dc cc : Array Value} {v : Value} (h : Dl w V va nn vc n D A Uu p dc q cc) (hq : q = p + 1) (hv : ∀ g, v.ownBlock = some g → w.heap.size + 1 + 1 < g ∧ g < p) (hg : v.ownBlock = some g ∨ V.heap.size ≤ g) : w.heap.size + 1 + 1 < g ∧ g ≠ q := by
  have hlt := (Array.getElem?_eq_some_iff.1 h.2.2.1).1
  have h5 := h.2.2.2.2.1
  rcases hg with hg | hg
  · have := hv g hg; omega
  · omega
theorem last_other {V : World} {q g : Nat} {o : Obj} {ec c2 : Array Value} (h : g ≠ q ∧ g < V.heap.size) : (((V.alloc o).setRow V.heap.size ec).setRow q c2).heap[g]? = V.heap[g]? := by
  have hb : Below V.heap.size V (V.alloc o) := (Below.refl _ _).alloc (Nat.le_refl _) _
  rw [setRow_other _ _ _ _ h.1, setRow_other _ _ _ _ (by omega)]
  exact hb.block g h.2
theorem Dl.last {w V : World} {va : Option Addr} {nn vc n D A Uu p q : Nat} {dc cc : Array Value} (h : Dl w V va nn vc n D A Uu p dc q cc) (z ec c2 : Array Value) : Dl w (((V.alloc (.cells z 150)).setRow V.heap.size ec).setRow q c2) va nn vc n D A Uu p dc q c2 ∧ (((V.alloc (.cells z 150)).setRow V.heap.size ec).setRow q c2).heap[V.heap.size]? = some (.cells ec 150 (0, 0)) := by
  have hb : Below V.heap.size V (V.alloc (.cells z 150)) := (Below.refl _ _).alloc (Nat.le_refl _) _
  have hq := h.qlt
  have hp : p ≠ V.heap.size := Nat.ne_of_lt (Array.getElem?_eq_some_iff.1 h.2.1).1
  have hlt : w.heap.size + 1 + 1 < V.heap.size := (Array.getElem?_eq_some_iff.1 h.1.2.2.1).1
  have h1 := h.below hb
  have h2 : Dl w ((V.alloc (.cells z 150)).setRow V.heap.size ec) va nn vc n D A Uu p dc q cc := ⟨h1.1.set _ hlt _, (setRow_other _ _ _ _ hp).trans h1.2.1, (setRow_other _ _ _ _ hq).trans h1.2.2.1, h1.2.2.2⟩
  exact ⟨h2.setq _, (setRow_other _ _ _ _ (fun e => hq e.symm)).trans (setRow_heap _ _ _ _ _ _ (heap_alloc_new _ _))⟩
theorem tabE_rows {d : De} {al : Bool} (h : (!al || fl d.f 1) = false) (h2 : ¬ d.l % 16 = 0 ∨ d.l < 16 ∨ 4096 < d.l) : tabE d al = 154 := tabE_bad h (by omega)
end Go.Proofs.YtmjdnocilbnoaaaGreat

/- Sizes on both sides. -/
namespace Go.Proofs.YtmjdnocilbnoaaaGreat
open Go.RowKit Go.Maps
set_option linter.unusedVariables false
set_option linter.unusedSimpArgs false
set_option maxRecDepth 100000
set_option maxHeartbeats 2000000 in
theorem psizes_any {w : World} {a : Option Addr} {L c : Nat} {l : List Seg} (h : SegIn 0 w (.slice a L c) l) (hl : l.length ≤ 1000) (hok : ∀ s ∈ l, SegOk s) (ta tl : Nat) : Calls Tryz.prog 73 #[.agg #[.slice a L c, .int .u64 (ta : Int), .int .u64 (tl : Int)]] w fun e w' => e = .returned (.tuple #[.int .u64 (sizeN false l : Int), .int .u64 (sizeN true l : Int)]) ∧ Below w.heap.size w w' := by
  have hLl : L = l.length := by
    obtain ⟨a2, c2, h⟩ := h.form
    simp only [Value.slice.injEq] at h
    exact h.2.1
  have h2 := heap_alloc_new w (.cells #[.slice a L c, .int .u64 (ta : Int), .int .u64 (tl : Int)] 59)
  have hb : Below w.heap.size w (w.alloc (.cells #[.slice a L c, .int .u64 (ta : Int), .int .u64 (tl : Int)] 59)) := (Below.refl _ _).alloc (Nat.le_refl _) _
  have XB : Hid (Below w.heap.size w (w.alloc (.cells #[.slice a L c, .int .u64 (ta : Int), .int .u64 (tl : Int)] 59)) ∧ (w.alloc (.cells #[.slice a L c, .int .u64 (ta : Int), .int .u64 (tl : Int)] 59)).heap[w.heap.size]? = some (.cells #[.slice a L c, .int .u64 (ta : Int), .int .u64 (tl : Int)] 59 (0, 0))) := ⟨hb, h2⟩
  have HS : Hid (SegIn 0 w (.slice a L c) l ∧ L = l.length ∧ l.length ≤ 1000 ∧ ∀ s ∈ l, SegOk s) := ⟨h, hLl, hl, hok⟩
  clear h hLl hl hok h2 hb
  go_enter Tryz.func73, Tryz.ntmps73
  go_upto_region 1 with fail
  obtain ⟨p0, p1, p2⟩ := box3_facts XB.out.2
  generalize w.alloc (.cells #[.slice a L c, .int .u64 (ta : Int), .int .u64 (tl : Int)] 59) = v0 at *
  go_wp2_with fail
  go_loopw [4, 5, 11] (fun r q x wr => ∃ i : Nat, i ≤ L ∧ x = .int .i64 (i : Int) ∧ r = .int .u64 (sizeN false (l.take i) : Int) ∧ q = .int .u64 (sizeN true (l.take i) : Int) ∧ Below w.heap.size w wr ∧ wr.heap[w.heap.size]? = some (.cells #[.slice a L c, .int .u64 (ta : Int), .int .u64 (tl : Int)] 59 (0, 0))) (fun _ _ x _ => L - (intOf x).toNat)
  case atStart => exact ⟨0, Nat.zero_le _, rfl, rfl, rfl, XB.out⟩
  case round =>
    obtain ⟨i, hi, rfl, rfl, rfl, hbr⟩ := hrel
    have XR : Hid (Below w.heap.size w wr ∧ wr.heap[w.heap.size]? = some (.cells #[.slice a L c, .int .u64 (ta : Int), .int .u64 (tl : Int)] 59 (0, 0))) := hbr
    clear hbr XB p0 p1 p2
    obtain ⟨p0, p1, p2⟩ := box3_facts XR.out.2
    by_cases hlt : i < L
    case neg =>
      have h1 : ¬ (i : Int) < (L : Int) := by omega
      have hil : i = l.length := by have := HS.out.2.1; omega
      subst hil
      rw [List.take_length]
      clear hlt hi
      go_wp2_with fail
      refine bodyPost_ret (v := .tuple #[.int .u64 (sizeN false l : Int), .int .u64 (sizeN true l : Int)]) (by simp [results, Tryz.results73, go_sem]) rfl ⟨rfl, XR.out.1⟩
    case pos =>
      have h1 : (i : Int) < (L : Int) := by omega
      have hil : i < l.length := by have := HS.out.2.1; omega
      obtain ⟨g, c', hsl, hcl⟩ := HS.out.1.cells (by omega)
      simp only [Value.slice.injEq] at hsl
      obtain ⟨rfl, -, rfl⟩ := hsl
      have hgl : g < w.heap.size := (HS.out.1.lt g rfl).2
      obtain ⟨x1, y1, z1⟩ := hcl i hil
      have x2 := (XR.out.1.cell (p := ⟨g, i * 3, none⟩) hgl).trans x1
      have y2 := (XR.out.1.cell (p := ⟨g, i * 3 + 1, none⟩) hgl).trans y1
      have z2 := (XR.out.1.cell (p := ⟨g, i * 3 + 2, none⟩) hgl).trans z1
      have hso := HS.out.2.2.2 _ (List.getElem_mem hil)
      have T0 := sizeN_take false l i hil
      have T1 := sizeN_take true l i hil
      have U0 : sizeN false (l.take i) + (l[i]).l ≤ 9000000 := by
        have := sizeN_le false (l.take i) (fun s hs => HS.out.2.2.2 s (List.mem_of_mem_take hs))
        have := HS.out.2.2.1
        have := hso.l
        simp only [List.length_take] at *
        omega
      have U1 : sizeN true (l.take i) + (l[i]).l ≤ 9000000 := by
        have := sizeN_le true (l.take i) (fun s hs => HS.out.2.2.2 s (List.mem_of_mem_take hs))
        have := HS.out.2.2.1
        have := hso.l
        simp only [List.length_take] at *
        omega
      generalize (l[i]).a = sa at *
      generalize (l[i]).l = sl at *
      generalize (l[i]).wr = sw at *
      generalize sizeN false (l.take i) = n0 at *
      generalize sizeN true (l.take i) = n1 at *
      have W0 : IntKind.u64.wrap ((n0 : Int) + (sl : Int)) = ((n0 + sl : Nat) : Int) := by rw [wrap_u64]; omega
      have W1 : IntKind.u64.wrap ((n1 : Int) + (sl : Int)) = ((n1 + sl : Nat) : Int) := by rw [wrap_u64]; omega
      obtain ⟨m0, hm0⟩ : ∃ m0, n0 + sl = m0 := ⟨_, rfl⟩
      obtain ⟨m1, hm1⟩ : ∃ m1, n1 + sl = m1 := ⟨_, rfl⟩
      rw [hm0] at W0
      rw [hm1] at W1
      have HT : Hid (sizeN false (l.take (i + 1)) = n0 + (if sw = false then sl else 0) ∧ sizeN true (l.take (i + 1)) = n1 + (if sw = true then sl else 0) ∧ n0 + sl = m0 ∧ n1 + sl = m1 ∧ i < L ∧ L ≤ 1000) := ⟨T0, T1, hm0, hm1, hlt, by have := HS.out.2; omega⟩
      have hi6 : i ≤ 1000 := by have := HS.out.2; omega
      clear T0 T1 U0 U1 hm0 hm1 hso x1 y1 z1 hcl hil hi hlt
      cases sw with
      | false =>
        go_wp2_with fail
        go_roundw
        case rel => exact ⟨i + 1, HT.out.2.2.2.2.1, by go_num, by rw [HT.out.1, ← HT.out.2.2.1]; rfl, by rw [HT.out.2.1]; rfl, XR.out.1.alloc XR.out.1.size _, below_box XR.out.2 ((Below.refl _ _).alloc (Nat.le_refl _) _)⟩
        case measure => simp [intOf]; have := HT.out.2.2.2.2.1; omega
      | true =>
        go_wp2_with fail
        go_roundw
        case rel => exact ⟨i + 1, HT.out.2.2.2.2.1, by go_num, by rw [HT.out.1]; rfl, by rw [HT.out.2.1, ← HT.out.2.2.2.1]; rfl, XR.out.1.alloc XR.out.1.size _, below_box XR.out.2 ((Below.refl _ _).alloc (Nat.le_refl _) _)⟩
        case measure => simp [intOf]; have := HT.out.2.2.2.2.1; omega
set_option maxHeartbeats 2000000 in
theorem dsizes_any {w : World} {a : Option Addr} {L c : Nat} {l : List Seg} (h : SegIn 0 w (.slice a L c) l) (hl : l.length ≤ 1000) (hok : ∀ s ∈ l, SegOk s) (ta tl : Nat) : Calls Tryz.prog 75 #[.agg #[.slice a L c, .int .u64 (ta : Int), .int .u64 (tl : Int)]] w fun e w' => e = .returned (.tuple #[.int .u64 (sizeN false l : Int), .int .u64 (sizeN true l : Int)]) ∧ Below w.heap.size w w' := by
  have hLl : L = l.length := by
    obtain ⟨a2, c2, h⟩ := h.form
    simp only [Value.slice.injEq] at h
    exact h.2.1
  have h2 := heap_alloc_new w (.cells #[.slice a L c, .int .u64 (ta : Int), .int .u64 (tl : Int)] 64)
  have hb : Below w.heap.size w (w.alloc (.cells #[.slice a L c, .int .u64 (ta : Int), .int .u64 (tl : Int)] 64)) := (Below.refl _ _).alloc (Nat.le_refl _) _
  have XB : Hid (Below w.heap.size w (w.alloc (.cells #[.slice a L c, .int .u64 (ta : Int), .int .u64 (tl : Int)] 64)) ∧ (w.alloc (.cells #[.slice a L c, .int .u64 (ta : Int), .int .u64 (tl : Int)] 64)).heap[w.heap.size]? = some (.cells #[.slice a L c, .int .u64 (ta : Int), .int .u64 (tl : Int)] 64 (0, 0))) := ⟨hb, h2⟩
  have HS : Hid (SegIn 0 w (.slice a L c) l ∧ L = l.length ∧ l.length ≤ 1000 ∧ ∀ s ∈ l, SegOk s) := ⟨h, hLl, hl, hok⟩
  clear h hLl hl hok h2 hb
  go_enter Tryz.func75, Tryz.ntmps75
  go_upto_region 1 with fail
  obtain ⟨p0, p1, p2⟩ := box3_facts XB.out.2
  generalize w.alloc (.cells #[.slice a L c, .int .u64 (ta : Int), .int .u64 (tl : Int)] 64) = v0 at *
  go_wp2_with fail
  go_loopw [4, 5, 6] (fun r q x wr => ∃ i : Nat, i ≤ L ∧ x = .int .i64 (i : Int) ∧ r = .int .u64 (sizeN false (l.take i) : Int) ∧ q = .int .u64 (sizeN true (l.take i) : Int) ∧ Below w.heap.size w wr ∧ wr.heap[w.heap.size]? = some (.cells #[.slice a L c, .int .u64 (ta : Int), .int .u64 (tl : Int)] 64 (0, 0))) (fun _ _ x _ => L - (intOf x).toNat)
  case atStart => exact ⟨0, Nat.zero_le _, rfl, rfl, rfl, XB.out⟩
  case round =>
    obtain ⟨i, hi, rfl, rfl, rfl, hbr⟩ := hrel
    have XR : Hid (Below w.heap.size w wr ∧ wr.heap[w.heap.size]? = some (.cells #[.slice a L c, .int .u64 (ta : Int), .int .u64 (tl : Int)] 64 (0, 0))) := hbr
    clear hbr XB p0 p1 p2
    obtain ⟨p0, p1, p2⟩ := box3_facts XR.out.2
    by_cases hlt : i < L
    case neg =>
      have h1 : ¬ (i : Int) < (L : Int) := by omega
      have hil : i = l.length := by have := HS.out.2.1; omega
      subst hil
      rw [List.take_length]
      clear hlt hi
      go_wp2_with fail
      refine bodyPost_ret (v := .tuple #[.int .u64 (sizeN false l : Int), .int .u64 (sizeN true l : Int)]) (by simp [results, Tryz.results75, go_sem]) rfl ⟨rfl, XR.out.1⟩
    case pos =>
      have h1 : (i : Int) < (L : Int) := by omega
      have hil : i < l.length := by have := HS.out.2.1; omega
      obtain ⟨g, c', hsl, hcl⟩ := HS.out.1.cells (by omega)
      simp only [Value.slice.injEq] at hsl
      obtain ⟨rfl, -, rfl⟩ := hsl
      have hgl : g < w.heap.size := (HS.out.1.lt g rfl).2
      obtain ⟨x1, y1, z1⟩ := hcl i hil
      have x2 := (XR.out.1.cell (p := ⟨g, i * 3, none⟩) hgl).trans x1
      have y2 := (XR.out.1.cell (p := ⟨g, i * 3 + 1, none⟩) hgl).trans y1
      have z2 := (XR.out.1.cell (p := ⟨g, i * 3 + 2, none⟩) hgl).trans z1
      have hso := HS.out.2.2.2 _ (List.getElem_mem hil)
      have T0 := sizeN_take false l i hil
      have T1 := sizeN_take true l i hil
      have U0 : sizeN false (l.take i) + (l[i]).l ≤ 9000000 := by
        have := sizeN_le false (l.take i) (fun s hs => HS.out.2.2.2 s (List.mem_of_mem_take hs))
        have := HS.out.2.2.1
        have := hso.l
        simp only [List.length_take] at *
        omega
      have U1 : sizeN true (l.take i) + (l[i]).l ≤ 9000000 := by
        have := sizeN_le true (l.take i) (fun s hs => HS.out.2.2.2 s (List.mem_of_mem_take hs))
        have := HS.out.2.2.1
        have := hso.l
        simp only [List.length_take] at *
        omega
      generalize (l[i]).a = sa at *
      generalize (l[i]).l = sl at *
      generalize (l[i]).wr = sw at *
      generalize sizeN false (l.take i) = n0 at *
      generalize sizeN true (l.take i) = n1 at *
      have W0 : IntKind.u64.wrap ((n0 : Int) + (sl : Int)) = ((n0 + sl : Nat) : Int) := by rw [wrap_u64]; omega
      have W1 : IntKind.u64.wrap ((n1 : Int) + (sl : Int)) = ((n1 + sl : Nat) : Int) := by rw [wrap_u64]; omega
      obtain ⟨m0, hm0⟩ : ∃ m0, n0 + sl = m0 := ⟨_, rfl⟩
      obtain ⟨m1, hm1⟩ : ∃ m1, n1 + sl = m1 := ⟨_, rfl⟩
      rw [hm0] at W0
      rw [hm1] at W1
      have HT : Hid (sizeN false (l.take (i + 1)) = n0 + (if sw = false then sl else 0) ∧ sizeN true (l.take (i + 1)) = n1 + (if sw = true then sl else 0) ∧ n0 + sl = m0 ∧ n1 + sl = m1 ∧ i < L ∧ L ≤ 1000) := ⟨T0, T1, hm0, hm1, hlt, by have := HS.out.2; omega⟩
      have hi6 : i ≤ 1000 := by have := HS.out.2; omega
      clear T0 T1 U0 U1 hm0 hm1 hso x1 y1 z1 hcl hil hi hlt
      cases sw with
      | false =>
        go_wp2_with fail
        go_roundw
        case rel => exact ⟨i + 1, HT.out.2.2.2.2.1, by go_num, by rw [HT.out.1, ← HT.out.2.2.1]; rfl, by rw [HT.out.2.1]; rfl, XR.out⟩
        case measure => simp [intOf]; have := HT.out.2.2.2.2.1; omega
      | true =>
        go_wp2_with fail
        go_roundw
        case rel => exact ⟨i + 1, HT.out.2.2.2.2.1, by go_num, by rw [HT.out.1]; rfl, by rw [HT.out.2.1, ← HT.out.2.2.2.1]; rfl, XR.out⟩
        case measure => simp [intOf]; have := HT.out.2.2.2.2.1; omega
end Go.Proofs.YtmjdnocilbnoaaaGreat

/- The pieces of a chain. -/
namespace Go.Proofs.YtmjdnocilbnoaaaGreat
open Go.RowKit Go.Maps
set_option linter.unusedVariables false
set_option linter.unusedSimpArgs false
set_option maxRecDepth 100000
def PcS (w : World) (b : Bool) (l : List Seg) (f n : Nat) (a : Option Addr) (L c ta tl : Nat) (V : World) (vo : Value) (i f' n' : Nat) (out : List (Nat × Nat)) : Prop := SpanIn w.heap.size V vo out ∧ out.length ≤ i ∧ pcs b l f n = (out ++ (pcs b (l.drop i) f' n').1, (pcs b (l.drop i) f' n').2) ∧ f' ≤ f ∧ n' ≤ n ∧ Below w.heap.size w V ∧ V.heap[w.heap.size]? = some (.cells #[.slice a L c, .int .u64 (ta : Int), .int .u64 (tl : Int)] 59 (0, 0))
theorem PcS.below {w : World} {b : Bool} {l : List Seg} {f n : Nat} {a : Option Addr} {L c ta tl : Nat} {V V2 : World} {vo : Value} {i f' n' : Nat} {out : List (Nat × Nat)} (h : PcS w b l f n a L c ta tl V vo i f' n' out) (hb : Below V.heap.size V V2) : PcS w b l f n a L c ta tl V2 vo i f' n' out := ⟨h.1.kept (fun g hg => hb.block g (h.1.lt g hg).2), h.2.1, h.2.2.1, h.2.2.2.1, h.2.2.2.2.1, below_to h.2.2.2.2.2.1 hb, below_box h.2.2.2.2.2.2 hb⟩
theorem SpanIn.row {B : Nat} {w : World} {v : Value} {l : List (Nat × Nat)} {q : Nat} {cc : Array Value} (h : SpanIn B w v l) (hq : v.ownBlock = some q) (hb : w.heap[q]? = some (.cells cc 59 (0, 0))) : False := by
  rcases h.2 with ⟨rfl, _⟩ | ⟨g, cap, cur, rfl, _, hg, _⟩
  · cases hq
  · have : g = q := by simpa [Value.ownBlock] using hq
    subst this
    rw [hb] at hg
    simp at hg
theorem drop_cons {l : List Seg} {i : Nat} (h : i < l.length) : l.drop i = l[i] :: l.drop (i + 1) := List.drop_eq_getElem_cons h
theorem PcS.skip {w : World} {b : Bool} {l : List Seg} {f n : Nat} {a : Option Addr} {L c ta tl : Nat} {V : World} {vo : Value} {i f' n' : Nat} {out : List (Nat × Nat)} (h : PcS w b l f n a L c ta tl V vo i f' n' out) (hi : i < l.length) (hw : ¬ (l[i]).wr = b) : PcS w b l f n a L c ta tl V vo (i + 1) f' n' out :=
  ⟨h.1, by have := h.2.1; omega, by rw [h.2.2.1, drop_cons hi, pcs_other hw], h.2.2.2⟩
theorem PcS.none {w : World} {b : Bool} {l : List Seg} {f n : Nat} {a : Option Addr} {L c ta tl : Nat} {V : World} {vo : Value} {i f' n' sk : Nat} {out : List (Nat × Nat)} (h : PcS w b l f n a L c ta tl V vo i f' n' out) (hi : i < l.length) (hw : (l[i]).wr = b) (h1 : sk = min f' (l[i]).l) (h2 : 0 = min n' ((l[i]).l - sk)) : PcS w b l f n a L c ta tl V vo (i + 1) (f' - sk) (n' - 0) out :=
  ⟨h.1, by have := h.2.1; omega, by rw [h.2.2.1, drop_cons hi, pcs_none hw h1 h2 rfl], by have := h.2.2.2.1; omega, by have := h.2.2.2.2.1; omega, h.2.2.2.2.2⟩
theorem PcS.some {w : World} {b : Bool} {l : List Seg} {f n : Nat} {a : Option Addr} {L c ta tl : Nat} {V : World} {vo vo2 : Value} {i f' n' sk tk : Nat} {out : List (Nat × Nat)} (h : PcS w b l f n a L c ta tl V vo i f' n' out) {V2 : World} (hi : i < l.length) (hw : (l[i]).wr = b) (h1 : sk = min f' (l[i]).l) (h2 : tk = min n' ((l[i]).l - sk)) (h0 : ¬ tk = 0) (hs : SpanIn w.heap.size V2 vo2 (out ++ [((l[i]).a + sk, tk)])) (hb : Below w.heap.size w V2) (hbx : V2.heap[w.heap.size]? = .some (.cells #[.slice a L c, .int .u64 (ta : Int), .int .u64 (tl : Int)] 59 (0, 0))) : PcS w b l f n a L c ta tl V2 vo2 (i + 1) (f' - sk) (n' - tk) (out ++ [((l[i]).a + sk, tk)]) :=
  ⟨hs, by have := h.2.1; simp; omega, by rw [h.2.2.1, drop_cons hi, pcs_some hw h1 h2 h0]; simp, by have := h.2.2.2.1; omega, by have := h.2.2.2.2.1; omega, hb, hbx⟩
theorem min_if (x y : Nat) : (if (y : Int) < (x : Int) then (y : Int) else (x : Int)) = ((min x y : Nat) : Int) := by split <;> omega
theorem min_if2 (x y : Nat) : (if y < x then (y : Int) else (x : Int)) = ((min x y : Nat) : Int) := by split <;> omega
set_option maxHeartbeats 4000000 in
theorem pieces_any {w : World} {F : Nat → Prop} {rb kk : Nat} {M : Nat → Nat} (hr : RamAt w F rb 8192 kk (.pointer none) M) {a : Option Addr} {L c : Nat} {l : List Seg} (h : SegIn 0 w (.slice a L c) l) (hl : l.length ≤ 1000) (hok : ∀ s ∈ l, SegOk s) (ta tl : Nat) (b : Bool) (f n : Nat) (hf : f < 18446744073709551616) (hn : n < 18446744073709551616) :
    Calls Tryz.prog 98 #[.agg #[.slice a L c, .int .u64 (ta : Int), .int .u64 (tl : Int)], .pointer (some ⟨rb, 0, none⟩), .bool b, .int .u64 (f : Int), .int .u64 (n : Int)] w fun e w' => Below w.heap.size w w' ∧ ((roomB b l f n = false ∧ e = .returned (.tuple #[.slice none 0 0, .bool false])) ∨ (roomB b l f n = true ∧ ∃ vo, e = .returned (.tuple #[vo, .bool true]) ∧ SpanIn w.heap.size w' vo (pcs b l f n).1)) := by
  obtain ⟨i0, hi0, hz0, hz1, hz2⟩ := info_parts Tryz.info57
  have hLl : L = l.length := by
    obtain ⟨a2, c2, h⟩ := h.form
    simp only [Value.slice.injEq] at h
    exact h.2.1
  have h2 := heap_alloc_new w (.cells #[.slice a L c, .int .u64 (ta : Int), .int .u64 (tl : Int)] 59)
  have hb : Below w.heap.size w (w.alloc (.cells #[.slice a L c, .int .u64 (ta : Int), .int .u64 (tl : Int)] 59)) := (Below.refl _ _).alloc (Nat.le_refl _) _
  have XB : Hid (PcS w b l f n a L c ta tl (w.alloc (.cells #[.slice a L c, .int .u64 (ta : Int), .int .u64 (tl : Int)] 59)) (.slice none 0 0) 0 f n []) := ⟨⟨rfl, .inl ⟨rfl, rfl⟩⟩, Nat.le_refl _, rfl, Nat.le_refl _, Nat.le_refl _, hb, h2⟩
  have HS : Hid (SegIn 0 w (.slice a L c) l ∧ L = l.length ∧ l.length ≤ 1000 ∧ ∀ s ∈ l, SegOk s) := ⟨h, hLl, hl, hok⟩
  have HR : Hid (RamAt w F rb 8192 kk (.pointer none) M) := hr
  have HFN : Hid (f < 18446744073709551616 ∧ n < 18446744073709551616) := ⟨hf, hn⟩
  clear h hLl hl hok h2 hb hr hf hn
  go_enter Tryz.func98, Tryz.ntmps98
  go_upto_region 1 with fail
  obtain ⟨p0, p1, p2⟩ := box3_facts XB.out.2.2.2.2.2.2
  generalize w.alloc (.cells #[.slice a L c, .int .u64 (ta : Int), .int .u64 (tl : Int)] 59) = v0 at *
  go_wp2_with fail
  go_loopw [3, 4, 12, 21] (fun vf vn vo x wr => ∃ (i f' n' : Nat) (out : List (Nat × Nat)), i ≤ L ∧ x = .int .i64 (i : Int) ∧ vf = .int .u64 (f' : Int) ∧ vn = .int .u64 (n' : Int) ∧ PcS w b l f n a L c ta tl wr vo i f' n' out) (fun _ _ _ x _ => L - (intOf x).toNat)
  case atStart => exact ⟨0, f, n, [], Nat.zero_le _, rfl, rfl, rfl, XB.out⟩
  case round =>
    obtain ⟨i, f', n', out, hi, rfl, rfl, rfl, hx⟩ := hrel
    obtain ⟨ao, co, hvo⟩ := hx.1.form
    subst hvo
    obtain ⟨lo, hlo⟩ : ∃ lo, out.length = lo := ⟨_, rfl⟩
    rw [hlo] at hx ⊢
    have XR : Hid (PcS w b l f n a L c ta tl wr (.slice ao lo co) i f' n' out ∧ out.length = lo) := ⟨hx, hlo⟩
    clear hx hlo XB p0 p1 p2
    obtain ⟨p0, p1, p2⟩ := box3_facts XR.out.1.2.2.2.2.2.2
    by_cases hlt : i < L
    case neg =>
      have h1 : ¬ (i : Int) < (L : Int) := by omega
      have hil : i = l.length := by have := HS.out.2.1; omega
      have hp := XR.out.1.2.2.1
      rw [hil, List.drop_length] at hp
      have hp2 : pcs b l f n = (out, f', n') := by rw [hp]; simp [pcs]
      have HP : Hid (pcs b l f n = (out, f', n')) := hp2
      clear hlt hi hp hp2 hil
      by_cases hz : f' = 0 ∧ n' = 0
      · obtain ⟨rfl, rfl⟩ := hz
        go_wp2_with fail
        refine bodyPost_ret (v := .tuple #[.slice ao lo co, .bool true]) (by simp [results, Tryz.results98, go_sem]) rfl ?_
        refine ⟨XR.out.1.2.2.2.2.2.1, .inr ⟨(room_iff b l f n).2 (by rw [HP.out]), _, rfl, ?_⟩⟩
        rw [HP.out]
        exact XR.out.1.1
      · have HRB : Hid (roomB b l f n = false) := by
          show roomB b l f n = false
          cases hrb : roomB b l f n with
          | false => rfl
          | true =>
            have := (room_iff b l f n).1 hrb
            rw [HP.out] at this
            simp only [Prod.mk.injEq] at this
            exact absurd this hz
        by_cases hf0 : f' = 0
        · have g1 : (0 : Int) < (n' : Int) := by omega
          subst hf0
          clear hz
          go_wp2_with fail
          refine bodyPost_ret (v := .tuple #[.slice none 0 0, .bool false]) (by simp [results, Tryz.results98, go_sem]) rfl ?_
          exact ⟨XR.out.1.2.2.2.2.2.1, .inl ⟨HRB.out, rfl⟩⟩
        · have g1 : (0 : Int) < (f' : Int) := by omega
          clear hz
          go_wp2_with fail
          refine bodyPost_ret (v := .tuple #[.slice none 0 0, .bool false]) (by simp [results, Tryz.results98, go_sem]) rfl ?_
          exact ⟨XR.out.1.2.2.2.2.2.1, .inl ⟨HRB.out, rfl⟩⟩
    case pos =>
      have h1 : (i : Int) < (L : Int) := by omega
      have hil : i < l.length := by have := HS.out.2.1; omega
      obtain ⟨g, c', hsl, hcl⟩ := HS.out.1.cells (by omega)
      simp only [Value.slice.injEq] at hsl
      obtain ⟨rfl, -, rfl⟩ := hsl
      have hgl : g < w.heap.size := (HS.out.1.lt g rfl).2
      obtain ⟨x1, y1, z1⟩ := hcl i hil
      have x2 := (XR.out.1.2.2.2.2.2.1.cell (p := ⟨g, i * 3, none⟩) hgl).trans x1
      have y2 := (XR.out.1.2.2.2.2.2.1.cell (p := ⟨g, i * 3 + 1, none⟩) hgl).trans y1
      have z2 := (XR.out.1.2.2.2.2.2.1.cell (p := ⟨g, i * 3 + 2, none⟩) hgl).trans z1
      have hso := HS.out.2.2.2 _ (List.getElem_mem hil)
      obtain ⟨sa, hsa⟩ : ∃ sa, (l[i]).a = sa := ⟨_, rfl⟩
      obtain ⟨sl, hsl⟩ : ∃ sl, (l[i]).l = sl := ⟨_, rfl⟩
      obtain ⟨sw, hsw⟩ : ∃ sw, (l[i]).wr = sw := ⟨_, rfl⟩
      rw [hsa] at x2
      rw [hsl] at y2
      rw [hsw] at z2
      have HQ : Hid (∃ hil : i < l.length, (l[i]).a = sa ∧ (l[i]).l = sl ∧ (l[i]).wr = sw) := ⟨hil, hsa, hsl, hsw⟩
      have hin := in_len hso.i
      rw [hsa, hsl] at hin
      have HIN : Hid (sl ≤ 8192 ∧ 2147483648 ≤ sa ∧ sa + sl ≤ 2147491840) := hin
      have HLT : Hid (i < L ∧ L ≤ 1000) := ⟨hlt, by have := HS.out.2; omega⟩
      have hi6 : i ≤ 1000 := by have := HLT.out; omega
      clear x1 y1 z1 hcl hso hsa hsl hsw hgl hin hlt hi hil
      go_upto_region 5 with fail
      have X1 : Hid (PcS w b l f n (some ⟨g, 0, none⟩) L c ta tl (wr.alloc (.cells #[.int .u64 (sa : Int), .int .u64 (sl : Int), .bool sw] 118)) (.slice ao lo co) i f' n' out ∧ (wr.alloc (.cells #[.int .u64 (sa : Int), .int .u64 (sl : Int), .bool sw] 118)).heap[wr.heap.size]? = some (.cells #[.int .u64 (sa : Int), .int .u64 (sl : Int), .bool sw] 118 (0, 0))) := ⟨XR.out.1.below ((Below.refl _ _).alloc (Nat.le_refl _) _), heap_alloc_new _ _⟩
      have HLO : Hid (out.length = lo) := XR.out.2
      clear XR x2 y2 z2 p0 p1 p2
      generalize wr.alloc (.cells #[.int .u64 (sa : Int), .int .u64 (sl : Int), .bool sw] 118) = w1 at *
      generalize wr.heap.size = q at *
      obtain ⟨t0, t1, t2⟩ := box3_facts X1.out.2
      by_cases hwb : sw = b
      case neg =>
        have hne : (sw == b) = false := by simp [hwb]
        go_wp2_with fail
        go_roundw
        case rel => exact ⟨i + 1, f', n', out, HLT.out.1, by go_num, rfl, rfl, X1.out.1.skip HQ.out.1 (by rw [HQ.out.2.2.2]; exact hwb)⟩
        case measure => simp [intOf]; have := HLT.out.1; omega
      have hne : (sw == b) = true := by simp [hwb]
      have HWB : Hid (sw = b) := hwb
      clear hwb
      obtain ⟨sk, hsk⟩ : ∃ sk, sk = min f' sl := ⟨_, rfl⟩
      obtain ⟨df, hdf⟩ : ∃ df, df = sl - sk := ⟨_, rfl⟩
      obtain ⟨tk, htk⟩ : ∃ tk, tk = min n' df := ⟨_, rfl⟩
      have m1 : (if (sl : Int) < (f' : Int) then (sl : Int) else (f' : Int)) = (sk : Int) := by rw [hsk]; exact min_if f' sl
      have m2 : (if sl < f' then (sl : Int) else (f' : Int)) = (sk : Int) := by rw [hsk]; exact min_if2 f' sl
      have m3 : IntKind.u64.wrap ((sl : Int) - (sk : Int)) = (df : Int) := by have := HIN.out; rw [wrap_u64]; omega
      have m4 : (if (df : Int) < (n' : Int) then (df : Int) else (n' : Int)) = (tk : Int) := by rw [htk]; exact min_if n' df
      have m5 : (if df < n' then (df : Int) else (n' : Int)) = (tk : Int) := by rw [htk]; exact min_if2 n' df
      have HF2 : Hid (f' < 18446744073709551616 ∧ n' < 18446744073709551616) := ⟨Nat.lt_of_le_of_lt X1.out.1.2.2.2.1 HFN.out.1, Nat.lt_of_le_of_lt X1.out.1.2.2.2.2.1 HFN.out.2⟩
      have m6 : IntKind.u64.wrap ((f' : Int) - (sk : Int)) = ((f' - sk : Nat) : Int) := by have := HF2.out.1; rw [wrap_u64]; omega
      have m7 : IntKind.u64.wrap ((n' : Int) - (tk : Int)) = ((n' - tk : Nat) : Int) := by have := HF2.out.2; rw [wrap_u64]; omega
      have HK : Hid (sk = min f' sl ∧ tk = min n' (sl - sk)) := ⟨hsk, hdf ▸ htk⟩
      obtain ⟨f2, hf2⟩ : ∃ f2, f' - sk = f2 := ⟨_, rfl⟩
      obtain ⟨n2, hn2⟩ : ∃ n2, n' - tk = n2 := ⟨_, rfl⟩
      rw [hf2] at m6
      rw [hn2] at m7
      obtain ⟨x, hx⟩ : ∃ x, x = sa + sk := ⟨_, rfl⟩
      have m8 : IntKind.u64.wrap ((sa : Int) + (sk : Int)) = (x : Int) := by have := HIN.out; rw [wrap_u64]; omega
      have HX : Hid (x = sa + sk ∧ f' - sk = f2 ∧ n' - tk = n2 ∧ sk + tk ≤ sl) := ⟨hx, hf2, hn2, by omega⟩
      clear hsk hdf htk hf2 hn2 hx
      by_cases htz : tk = 0
      case pos =>
        have e0 : ((tk : Int) == 0) = true := by simp [htz]
        have HZ : Hid (tk = 0) := htz
        clear htz
        go_wp2_with fail
        go_roundw
        case rel => exact ⟨i + 1, f2, n2, out, HLT.out.1, by go_num, rfl, rfl, by
          have hh := HK.out.2
          rw [HZ.out] at hh
          have := X1.out.1.none (sk := sk) HQ.out.1 (by rw [HQ.out.2.2.2]; exact HWB.out) (by rw [HQ.out.2.2.1]; exact HK.out.1) (by rw [HQ.out.2.2.1]; exact hh)
          rw [← HX.out.2.1, ← HX.out.2.2.1, HZ.out]
          exact this⟩
        case measure => simp [intOf]; have := HLT.out.1; omega
      have e0 : ((tk : Int) == 0) = false := by simp; omega
      have HZ : Hid (¬ tk = 0) := htz
      clear htz
      go_upto_region 12 with fail
      have hb2 : Below w1.heap.size w1 (w1.alloc (.cells #[.int .u64 (x : Int), .int .u64 (tk : Int)] 57)) := (Below.refl _ _).alloc (Nat.le_refl _) _
      have X2 : Hid (PcS w b l f n (some ⟨g, 0, none⟩) L c ta tl (w1.alloc (.cells #[.int .u64 (x : Int), .int .u64 (tk : Int)] 57)) (.slice ao lo co) i f' n' out ∧ (w1.alloc (.cells #[.int .u64 (x : Int), .int .u64 (tk : Int)] 57)).heap[w1.heap.size]? = some (.cells #[.int .u64 (x : Int), .int .u64 (tk : Int)] 57 (0, 0))) := ⟨X1.out.1.below hb2, heap_alloc_new _ _⟩
      clear hb2 X1 t0 t1 t2
      generalize w1.alloc (.cells #[.int .u64 (x : Int), .int .u64 (tk : Int)] 57) = w2 at *
      generalize w1.heap.size = q2 at *
      obtain ⟨t0, t1, _, _⟩ := box_facts X2.out.2
      have K55 : Hid (∀ V, Below w.heap.size w V → Calls Tryz.prog 69 #[.pointer (some ⟨rb, 0, none⟩), .int .u64 (x : Int), .int .u64 (tk : Int)] V fun e w' => e = .returned (.bool true) ∧ w' = V) := by
        intro V hV
        have h1 := HIN.out
        have h2 := HX.out
        have := has_any (HR.out.below hV) (by omega) x tk (by omega) (by omega)
        have hin : inB (x : Int) (tk : Int) 2147483648 ((8192 : Nat) : Int) = true := by
          simp only [inB, Bool.and_eq_true, decide_eq_true_iff]
          omega
        rw [hin] at this
        exact this
      go_upto_region 14 with (go_at_call 69; refine (K55.out _ X2.out.1.2.2.2.2.2.1).mono ?_; rintro e w3 ⟨rfl, hw⟩; rw [hw]; clear hw w3)
      clear K55 m1 m2 m3 m4 m5 m6 m7 m8
      refine wp_region_list ?_
      (refine wpList_step (fun KK hKK => ?_); go_simp; refine hKK _ _ ?_; clear hKK KK)
      (refine wpList_step (fun KK hKK => ?_); go_simp; refine hKK _ _ ?_; clear hKK KK)
      (refine wpList_step (fun KK hKK => ?_); go_simp; refine hKK _ _ ?_; clear hKK KK)
      have hb3 : Below w2.heap.size w2 (w2.alloc (.cells #[.int .u64 (x : Int), .int .u64 (tk : Int)] 57)) := (Below.refl _ _).alloc (Nat.le_refl _) _
      have X3 : Hid (PcS w b l f n (some ⟨g, 0, none⟩) L c ta tl (w2.alloc (.cells #[.int .u64 (x : Int), .int .u64 (tk : Int)] 57)) (.slice ao lo co) i f' n' out) := X2.out.1.below hb3
      have HN3 : Hid (∀ j u, [Value.int .u64 (x : Int), .int .u64 (tk : Int)][j]? = some u → (w2.alloc (.cells #[.int .u64 (x : Int), .int .u64 (tk : Int)] 57)).cell? ((⟨w2.heap.size, 0, none⟩ : Addr).add j) = some u) := two_new w2 (.int .u64 (x : Int)) (.int .u64 (tk : Int)) 57
      clear hb3 X2 t0 t1
      generalize w2.alloc (.cells #[.int .u64 (x : Int), .int .u64 (tk : Int)] 57) = w3 at *
      generalize w2.heap.size = q3 at *
      refine wpList_append_own_at w3 rfl _ _ 51 rfl w.heap.size 57 i0 (.agg #[.int .u64 0, .int .u64 0]) 2 16 Tryz.underlying51 hi0 hz0 hz1 hz2 rfl (by decide) (.slice ao lo co) lo (spanRow out) rfl (by have := X3.out.1; unfold SpanIn at this; rw [HLO.out] at this; exact this) ⟨q3, 0, none⟩ 1 1 [.int .u64 (x : Int), .int .u64 (tk : Int)] rfl rfl HN3.out (by intro u hu; simp at hu; rcases hu with rfl | rfl <;> rfl) (by have := X3.out.2.1; have := HLO.out; unfold maxLen; omega) (by have := X3.out.2.1; have := HLO.out; omega) X3.out.2.2.2.2.2.1.size ?_
      intro v' w4 hown hgrow hnil hat
      have hbw : Below w.heap.size w w4 := Below.grown X3.out.2.2.2.2.2.1 hgrow X3.out.2.2.2.2.2.1.size (fun g hg => (X3.out.1.lt g hg).1)
      have hbx : w4.heap[w.heap.size]? = some (.cells #[.slice (some ⟨g, 0, none⟩) L c, .int .u64 (ta : Int), .int .u64 (tl : Int)] 59 (0, 0)) := (hgrow.block _ (Array.getElem?_eq_some_iff.1 X3.out.2.2.2.2.2.2).1 (fun e => by have := (X3.out.1.row e.symm X3.out.2.2.2.2.2.2); exact this)).trans X3.out.2.2.2.2.2.2
      have hsp : SpanIn w.heap.size w4 v' (out ++ [(x, tk)]) := by
        unfold SpanIn
        rw [spanRow_snoc, List.length_append, List.length_singleton, HLO.out]
        exact hown
      have X4 : Hid (PcS w b l f n (some ⟨g, 0, none⟩) L c ta tl w4 v' (i + 1) f2 n2 (out ++ [(x, tk)])) := by
        have := X3.out.some (vo2 := v') (V2 := w4) (sk := sk) (tk := tk) HQ.out.1 (by rw [HQ.out.2.2.2]; exact HWB.out) (by rw [HQ.out.2.2.1]; exact HK.out.1) (by rw [HQ.out.2.2.1]; exact HK.out.2) HZ.out (by rw [HQ.out.2.1, ← HX.out.1]; exact hsp) hbw hbx
        rw [HQ.out.2.1, ← HX.out.1, HX.out.2.1, HX.out.2.2.1] at this
        exact this
      clear hbw hbx hsp hown hgrow hnil hat X3
      go_wp2_with fail
      go_roundw
      case rel => exact ⟨i + 1, f2, n2, out ++ [(x, tk)], HLT.out.1, by go_num, rfl, rfl, X4.out⟩
      case measure => simp [intOf]; have := HLT.out.1; omega
end Go.Proofs.YtmjdnocilbnoaaaGreat

/- Gather. -/
namespace Go.Proofs.YtmjdnocilbnoaaaGreat
open Go.RowKit Go.Maps
set_option linter.unusedVariables false
set_option linter.unusedSimpArgs false
set_option maxRecDepth 100000
theorem spanA_take (ps : List (Nat × Nat)) (i : Nat) (hi : i < ps.length) : spanA (ps.take (i + 1)) = spanA (ps.take i) ++ (List.range (ps.getD i (0, 0)).2).map ((ps.getD i (0, 0)).1 + ·) := by
  rw [List.take_add_one, List.getElem?_eq_getElem hi, spanA_append]
  simp [spanA, List.getD, hi]
theorem spanA_len_le (ps : List (Nat × Nat)) (i : Nat) : (spanA (ps.take i)).length ≤ (spanA ps).length := by
  conv => rhs; rw [← List.take_append_drop i ps, spanA_append, List.length_append]
  omega
theorem room_len {b : Bool} {l : List Seg} {f n : Nat} (h : roomB b l f n = true) : (((addrs b l).drop f).take n).length = n := by
  simp only [roomB, decide_eq_true_iff] at h
  rw [List.length_take, List.length_drop, addrs_length]
  omega
end Go.Proofs.YtmjdnocilbnoaaaGreat

/- Scatter. -/
namespace Go.Proofs.YtmjdnocilbnoaaaGreat
open Go.RowKit Go.Maps
set_option linter.unusedVariables false
set_option linter.unusedSimpArgs false
set_option maxRecDepth 100000
/-- bytes laid at addresses, one behind the other -/
def layS (g : Nat → Nat) : List Nat → Nat → (Nat → Nat) → (Nat → Nat)
  | [], _, M => M
  | a :: xs, j, M => layS g xs (j + 1) (over M a 1 (fun _ => g j))
theorem layS_append (g : Nat → Nat) : ∀ (xs bs : List Nat) (j : Nat) (M : Nat → Nat), layS g (xs ++ bs) j M = layS g bs (j + xs.length) (layS g xs j M) := by
  intro xs
  induction xs with
  | nil => intro bs j M; rfl
  | cons a xs ih =>
    intro bs j M
    simp only [List.cons_append, layS, List.length_cons]
    rw [ih, show j + 1 + xs.length = j + (xs.length + 1) from by omega]
theorem over_one (M : Nat → Nat) (x L : Nat) (f : Nat → Nat) : over (over M x L f) (x + L) 1 (fun _ => f L) = over M x (L + 1) f := by
  funext a
  unfold over
  by_cases h1 : x + L ≤ a ∧ a < x + L + 1
  · have : a - x = L := by omega
    rw [if_pos h1, if_pos (by omega), this]
  · rw [if_neg h1]
    by_cases h2 : x ≤ a ∧ a < x + L
    · rw [if_pos h2, if_pos (by omega)]
    · rw [if_neg h2, if_neg (by omega)]
theorem layS_range (g : Nat → Nat) (j x : Nat) (M : Nat → Nat) : ∀ L, layS g ((List.range L).map (x + ·)) j M = over M x L (fun i => g (j + i)) := by
  intro L
  induction L with
  | zero => rw [over_zero]; rfl
  | succ L ih =>
    rw [List.range_succ, List.map_append, layS_append, ih, ← over_one]
    simp [layS]
theorem layS_le {g : Nat → Nat} (hg : ∀ i, g i ≤ 255) : ∀ (xs : List Nat) (j : Nat) (M : Nat → Nat), (∀ a, M a ≤ 255) → ∀ a, layS g xs j M a ≤ 255 := by
  intro xs
  induction xs with
  | nil => intro j M h; exact h
  | cons a xs ih => intro j M h; exact ih _ _ (over_le a 1 h (fun i _ => hg j))
def scaL (l : List Seg) (f n : Nat) : List Nat := ((addrs true l).drop f).take n
theorem span_step {B : Nat} {w w2 : World} {F F2 : Nat → Prop} {gs K co : Nat} {l : List (Nat × Nat)} (h : SpanIn B w (.slice (some ⟨gs, 0, none⟩) K co) l) (hn : ¬ F gs) (hs : Step F w F2 w2) : SpanIn B w2 (.slice (some ⟨gs, 0, none⟩) K co) l ∧ ¬ F2 gs := by
  have hlt := (h.lt gs rfl).2
  refine ⟨h.kept (fun q hq => ?_), fun hf => ?_⟩
  · have : q = gs := by simpa [Value.ownBlock] using hq.symm
    subst this
    exact hs.block _ hlt hn
  · rcases hs.old gs hf with h1 | h1
    · exact hn h1
    · omega
theorem reads_cells {F : Nat → Prop} {w : World} {bd od cd R : Nat} {f : Nat → Nat} (h : ReadsF F w (.slice (some ⟨bd, od, none⟩) R cd) R f) : ∀ i, i < R → w.cell? ⟨bd, od + i, none⟩ = some (.int .u8 (f i : Nat)) := by
  rcases h with ⟨h0, _⟩ | ⟨b', o', c', he, _, _, _, hcl⟩
  · intro i hi; omega
  · simp only [Value.slice.injEq, Option.some.injEq, Addr.mk.injEq, and_true, true_and] at he
    obtain ⟨⟨rfl, rfl⟩, rfl⟩ := he
    exact hcl
theorem reads_not {F F2 : Nat → Prop} {w w2 : World} {bd od cd R : Nat} {f : Nat → Nat} (h : ReadsF F w (.slice (some ⟨bd, od, none⟩) R cd) R f) (hs : Step F w F2 w2) (hn : ¬ F bd) (hR : 0 < R) : ¬ F2 bd := by
  have hlt := block_lt_of_cell (reads_cells h 0 hR)
  intro hf
  rcases hs.old bd hf with h1 | h1
  · exact hn h1
  · have h2 : bd < w.heap.size := hlt
    omega
theorem step_kept2 {F F2 : Nat → Prop} {V V2 : World} {q : Nat} {o : Obj} (h : V.heap[q]? = some o) (hs : Step F V F2 V2) (hq : ¬ F q) : V2.heap[q]? = some o ∧ ¬ F2 q := by
  have hlt := (Array.getElem?_eq_some_iff.1 h).1
  refine ⟨(hs.block q hlt hq).trans h, fun hf => ?_⟩
  rcases hs.old q hf with h1 | h1
  · exact hq h1
  · omega
set_option maxHeartbeats 4000000 in
theorem scatter_any {w : World} {F : Nat → Prop} {rb kk : Nat} {M : Nat → Nat} (hr : RamAt w F rb 8192 kk (.pointer none) M) (hkk : kk ≤ 900000) {a : Option Addr} {L c : Nat} {l : List Seg} (h : SegIn 0 w (.slice a L c) l) (hl : l.length ≤ 1000) (hok : ∀ s ∈ l, SegOk s) (ta tl : Nat) (f n : Nat) (hf : f < 18446744073709551616) (hn : n ≤ 4000) (g : Nat → Nat) (hg : ∀ i, g i ≤ 255) (va : Option Addr) (vc : Nat) (hd : ReadsF F w (.slice va n vc) n g) :
    Calls Tryz.prog 74 #[.agg #[.slice a L c, .int .u64 (ta : Int), .int .u64 (tl : Int)], .pointer (some ⟨rb, 0, none⟩), .int .u64 (f : Int), .slice va n vc] w fun e w' => e = .returned (.bool (roomB true l f n)) ∧ ∃ F', RamAt w' F' rb 8192 (kk + n) (.pointer none) (if roomB true l f n = true then layS g (scaL l f n) 0 M else M) ∧ Step F w F' w' := by
  have h2 := heap_alloc_new w (.cells #[.slice a L c, .int .u64 (ta : Int), .int .u64 (tl : Int)] 59)
  have hb : Below w.heap.size w (w.alloc (.cells #[.slice a L c, .int .u64 (ta : Int), .int .u64 (tl : Int)] 59)) := (Below.refl _ _).alloc (Nat.le_refl _) _
  have XB : Hid (Below w.heap.size w (w.alloc (.cells #[.slice a L c, .int .u64 (ta : Int), .int .u64 (tl : Int)] 59)) ∧ (w.alloc (.cells #[.slice a L c, .int .u64 (ta : Int), .int .u64 (tl : Int)] 59)).heap[w.heap.size]? = some (.cells #[.slice a L c, .int .u64 (ta : Int), .int .u64 (tl : Int)] 59 (0, 0))) := ⟨hb, h2⟩
  have K45 : Hid (∀ V, Below w.heap.size w V → Calls Tryz.prog 98 #[.agg #[.slice a L c, .int .u64 (ta : Int), .int .u64 (tl : Int)], .pointer (some ⟨rb, 0, none⟩), .bool true, .int .u64 (f : Int), .int .u64 (n : Int)] V fun e w' => Below V.heap.size V w' ∧ ((roomB true l f n = false ∧ e = .returned (.tuple #[.slice none 0 0, .bool false])) ∨ (roomB true l f n = true ∧ ∃ vo, e = .returned (.tuple #[vo, .bool true]) ∧ SpanIn V.heap.size w' vo (pcs true l f n).1))) := fun V hV => pieces_any (hr.below hV) (h.kept (fun g hg => hV.block g (h.lt g hg).2)) hl hok ta tl true f n hf (by omega)
  have HR : Hid (RamAt w F rb 8192 kk (.pointer none) M ∧ ReadsF F w (.slice va n vc) n g ∧ (∀ i, g i ≤ 255) ∧ kk ≤ 900000) := ⟨hr, hd, hg, hkk⟩
  have HP : Hid ((∀ p ∈ (pcs true l f n).1, inB p.1 p.2 2147483648 8192 = true ∧ 0 < p.2 ∧ p.1 < 18446744073709551616 ∧ p.2 ≤ 8192) ∧ (pcs true l f n).1.length ≤ 1000 ∧ spanA (pcs true l f n).1 = scaL l f n) := ⟨pcs_ok hok f n, Nat.le_trans (pcs_len true l f n) hl, pcs_span true l f n⟩
  have e1 : IntKind.u64.wrap (n : Int) = (n : Int) := by rw [wrap_u64]; omega
  obtain ⟨Mx, hMx⟩ : ∃ Mx, (if roomB true l f n = true then layS g (scaL l f n) 0 M else M) = Mx := ⟨_, rfl⟩
  rw [hMx]
  obtain ⟨rm, hrm⟩ : ∃ rm, roomB true l f n = rm := ⟨_, rfl⟩
  rw [hrm]
  have HMX : Hid ((rm = true → Mx = layS g (scaL l f n) 0 M) ∧ (rm = false → Mx = M) ∧ roomB true l f n = rm) := by
    rw [hrm] at hMx
    refine ⟨fun h => ?_, fun h => ?_, hrm⟩
    · rw [← hMx, h, if_pos rfl]
    · rw [← hMx, h, if_neg (by decide)]
  rw [hrm] at K45
  clear hMx hrm
  clear h2 hb hr h hl hok hf hd hg hkk
  go_enter Tryz.func74, Tryz.ntmps74
  go_upto_region 1 with fail
  obtain ⟨p0, p1, p2⟩ := box3_facts XB.out.2
  generalize w.alloc (.cells #[.slice a L c, .int .u64 (ta : Int), .int .u64 (tl : Int)] 59) = v0 at *
  go_upto_region 2 with (go_at_call 98; refine (K45.out _ XB.out.1).mono ?_; rintro e w1 ⟨hb1, hor⟩; rcases hor with ⟨hrb, rfl⟩ | ⟨hrb, vo, rfl, hsp⟩)
  · have X1 : Hid (Below w.heap.size w w1) := below_to XB.out.1 hb1
    subst hrb
    have HMM : Hid (Mx = M) := HMX.out.2.1 rfl
    clear hb1
    go_wp2_with fail
    go_ret
    refine ⟨rfl, F, ?_, Step.of_below X1.out⟩
    rw [HMM.out]
    exact (HR.out.1.below X1.out).mono (by omega)
  · subst hrb
    have hrb := HMX.out.2.2
    have HMM : Hid (Mx = layS g (scaL l f n) 0 M) := HMX.out.1 rfl
    obtain ⟨ao, co, hvo⟩ := hsp.form
    subst hvo
    obtain ⟨ps, hps⟩ : ∃ ps, (pcs true l f n).1 = ps := ⟨_, rfl⟩
    rw [hps] at hsp HP ⊢
    obtain ⟨K, hK⟩ : ∃ K, ps.length = K := ⟨_, rfl⟩
    have hlen : (spanA ps).length = n := by rw [HP.out.2.2]; exact room_len hrb
    have X1 : Hid (Below w.heap.size w w1 ∧ roomB true l f n = true ∧ SpanIn v0.heap.size w1 (.slice ao ps.length co) ps ∧ w.heap.size ≤ v0.heap.size) := ⟨below_to XB.out.1 hb1, hrb, hsp, XB.out.1.size⟩
    rw [hK] at X1 ⊢
    have HK : Hid (ps.length = K ∧ K ≤ 1000 ∧ (spanA ps).length = n) := ⟨hK, by have := HP.out.2.1; omega, hlen⟩
    clear hb1 hrb hsp hps hK XB p0 p1 p2 hlen K45
    go_wp2_with fail
    go_loopw [3, 27] (fun d xx wr => ∃ (i j : Nat) (G : Nat → Prop), i ≤ K ∧ xx = .int .i64 (i : Int) ∧ (spanA (ps.take i)).length = j ∧ j ≤ n ∧ ReadsF G wr d (n - j) (fun z => g (j + z)) ∧ RamAt wr G rb 8192 (kk + j) (.pointer none) (layS g (spanA (ps.take i)) 0 M) ∧ Step F w G wr ∧ SpanIn v0.heap.size wr (.slice ao K co) ps ∧ (∀ q, (Value.slice ao K co).ownBlock = some q → ¬ G q)) (fun _ xx _ => K - (intOf xx).toNat)
    case atStart =>
      refine ⟨0, 0, F, Nat.zero_le _, rfl, rfl, Nat.zero_le _, ?_, HR.out.1.below X1.out.1, Step.of_below X1.out.1, X1.out.2.2.1, fun q hq hf => ?_⟩
      · have := HR.out.2.1.step (Step.of_below X1.out.1)
        simpa using this
      · have h1 := (X1.out.2.2.1.lt q hq).1
        have h2 := HR.out.1.lt q hf
        have h3 := X1.out.2.2.2
        omega
    case round =>
      obtain ⟨i, j, G, hi, rfl, hj, hjn, hrd, hrm, hst, hsp, hgq⟩ := hrel
      by_cases hlt : i < K
      case neg =>
        have h1 : ¬ (i : Int) < (K : Int) := by omega
        have hiK : i = ps.length := by have := HK.out.1; omega
        rw [hiK, List.take_length] at hj hrm
        rw [HK.out.2.2] at hj
        subst hj
        have HM : Hid (RamAt wr G rb 8192 (kk + n) (.pointer none) (layS g (scaL l f n) 0 M) ∧ Step F w G wr) := ⟨by rw [← HP.out.2.2]; exact hrm, hst⟩
        rw [Nat.sub_self] at hrd
        clear hlt hi hiK hrm hst hsp hgq
        rcases hrd with ⟨_, a0, c0, _, rfl⟩ | ⟨b0, o0, c0, rfl, _⟩
        all_goals
          go_wp2_with fail
          go_ret
          refine ⟨rfl, G, ?_, HM.out.2⟩
          rw [HMM.out]
          exact HM.out.1
      case pos =>
        have h1 : (i : Int) < (K : Int) := by omega
        have hil : i < ps.length := by have := HK.out.1; omega
        obtain ⟨gs, cg, hsl, hcl⟩ := hsp.cells (by omega)
        have hsl2 := hsl
        rw [HK.out.1] at hsl2
        simp only [Value.slice.injEq, true_and] at hsl2
        obtain ⟨rfl, rfl⟩ := hsl2
        obtain ⟨x2, y2⟩ := hcl i hil
        have hpo := HP.out.1 (ps.getD i (0, 0)) (by simp [List.getD, hil])
        have ht := spanA_take ps i hil
        have hlen := spanA_len_le ps (i + 1)
        rw [HK.out.2.2] at hlen
        obtain ⟨x, hx⟩ : ∃ x, (ps.getD i (0, 0)).1 = x := ⟨_, rfl⟩
        obtain ⟨tk, htk⟩ : ∃ tk, (ps.getD i (0, 0)).2 = tk := ⟨_, rfl⟩
        rw [hx] at x2 ht hpo
        rw [htk] at y2 ht hpo
        have hlen2 : (spanA (ps.take (i + 1))).length = j + tk := by rw [ht, List.length_append, hj]; simp
        have hjt : j + tk ≤ n := by omega
        rcases hrd with ⟨h0, _⟩ | ⟨bd, od, cd, rfl, hG, hc1, hc2, hcell⟩
        · have := hpo.2.1; omega
        obtain ⟨R, hR⟩ : ∃ R, n - j = R := ⟨_, rfl⟩
        rw [hR] at hcell hc1 ⊢
        have htR : tk ≤ R := by omega
        have htc : (tk : Int) ≤ (cd : Int) := by omega
        have htc2 : (tk : Int) ≤ (R : Int) := by omega
        have hRc : (R : Int) ≤ (cd : Int) := by omega
        have HJ : Hid (spanA (ps.take (i + 1)) = spanA (ps.take i) ++ (List.range tk).map (x + ·) ∧ (spanA (ps.take (i + 1))).length = j + tk ∧ j + tk ≤ n ∧ n - j = R ∧ tk ≤ R ∧ (spanA (ps.take i)).length = j ∧ i < K ∧ inB x tk 2147483648 8192 = true ∧ x < 18446744073709551616) := ⟨ht, hlen2, hjt, hR, htR, hj, hlt, hpo.1, hpo.2.2.1⟩
        have HJ0 : Hid (0 < tk ∧ 0 < R) := ⟨hpo.2.1, by have := hpo.2.1; omega⟩
        have hi6 : i ≤ 1000 := by have := HK.out.2.1; omega
        have htk9 : tk ≤ 4000 := by omega
        have hb2 : Below wr.heap.size wr (wr.alloc (.cells #[.int .u64 (x : Int), .int .u64 (tk : Int)] 57)) := (Below.refl _ _).alloc (Nat.le_refl _) _
        have X2 : Hid (RamAt (wr.alloc (.cells #[.int .u64 (x : Int), .int .u64 (tk : Int)] 57)) G rb 8192 (kk + j) (.pointer none) (layS g (spanA (ps.take i)) 0 M) ∧ Step F w G (wr.alloc (.cells #[.int .u64 (x : Int), .int .u64 (tk : Int)] 57)) ∧ SpanIn v0.heap.size (wr.alloc (.cells #[.int .u64 (x : Int), .int .u64 (tk : Int)] 57)) (.slice (some ⟨gs, 0, none⟩) K co) ps ∧ ¬ G gs ∧ (wr.alloc (.cells #[.int .u64 (x : Int), .int .u64 (tk : Int)] 57)).heap[wr.heap.size]? = some (.cells #[.int .u64 (x : Int), .int .u64 (tk : Int)] 57 (0, 0)) ∧ ¬ G wr.heap.size ∧ ReadsF G (wr.alloc (.cells #[.int .u64 (x : Int), .int .u64 (tk : Int)] 57)) (.slice (some ⟨bd, od, none⟩) R cd) R (fun z => g (j + z))) := ⟨hrm.below hb2, hst.trans (Step.of_below hb2), hsp.kept (fun q hq => hb2.block q (hsp.lt q hq).2), hgq gs rfl, heap_alloc_new _ _, fun hf => by have := hrm.lt _ hf; omega, ReadsF.step (F := G) (F' := G) (.inr ⟨bd, od, cd, rfl, hG, hc1, hc2, hcell⟩) (Step.of_below hb2)⟩
        have HCB : Hid (¬ G bd ∧ R ≤ cd ∧ cd ≤ 9223372036854775807) := ⟨hG, hc1, hc2⟩
        clear hrm hst hsp hgq hcl hpo ht hlen hx htk hlen2 hjt hR htR hlt hil hsl hb2 hj hG hc1 hc2 hcell hjn hi
        go_upto_region 7 with fail
        clear x2 y2
        generalize wr.alloc (.cells #[.int .u64 (x : Int), .int .u64 (tk : Int)] 57) = w2 at *
        generalize wr.heap.size = q2 at *
        have Xd : Hid (RamAt w2.drew G rb 8192 (kk + j) (.pointer none) (layS g (spanA (ps.take i)) 0 M) ∧ Step F w G w2.drew ∧ SpanIn v0.heap.size w2.drew (.slice (some ⟨gs, 0, none⟩) K co) ps ∧ ¬ G gs ∧ w2.drew.heap[q2]? = some (.cells #[.int .u64 (x : Int), .int .u64 (tk : Int)] 57 (0, 0)) ∧ ¬ G q2 ∧ ReadsF G w2.drew (.slice (some ⟨bd, od, none⟩) R cd) R (fun z => g (j + z))) := ⟨X2.out.1.below (Below.refl _ _).drew, X2.out.2.1.trans (Step.of_below (Below.refl _ _).drew), X2.out.2.2.1, X2.out.2.2.2.1, X2.out.2.2.2.2.1, X2.out.2.2.2.2.2.1, ReadsF.step X2.out.2.2.2.2.2.2 (Step.of_below (Below.refl _ _).drew)⟩
        clear X2
        have K32 : Hid (Calls Tryz.prog 30 #[.pointer (some ⟨rb, 0, none⟩), .int .u64 (x : Int), .slice (some ⟨bd, od, none⟩) tk cd] w2.drew fun e w' => e = .returned (.bool true) ∧ ∃ F', RamAt w' F' rb 8192 (kk + j + tk) (.pointer none) (over (layS g (spanA (ps.take i)) 0 M) x tk (fun z => g (j + z))) ∧ Step G w2.drew F' w') := by
          have hrd2 : ReadsF G w2.drew (.slice (some ⟨bd, od, none⟩) tk cd) tk (fun z => g (j + z)) := by
            rcases Xd.out.2.2.2.2.2.2 with ⟨h0, _⟩ | ⟨b', o', c', he, hb', _, hc', hcl⟩
            · refine .inl ⟨by have := HJ.out.2.2.2.2.1; omega, ?_⟩
              have : tk = 0 := by have := HJ.out.2.2.2.2.1; omega
              subst this
              exact ⟨_, cd, HCB.out.2.2, rfl⟩
            · simp only [Value.slice.injEq, Option.some.injEq, Addr.mk.injEq, and_true, true_and] at he
              obtain ⟨⟨rfl, rfl⟩, rfl⟩ := he
              exact .inr ⟨_, _, _, rfl, hb', by have := HJ.out.2.2.2.2.1; have := HCB.out.2.1; omega, hc', fun z hz => hcl z (by have := HJ.out.2.2.2.2.1; omega)⟩
          have := write_any Xd.out.1 (by omega) x tk (fun z => g (j + z)) _ HJ.out.2.2.2.2.2.2.2.2 hrd2 (fun z _ => HR.out.2.2.1 _) (by have := HR.out.2.2.2; have := HJ.out.2.2.1; omega)
          have hin : inB (x : Int) (tk : Int) 2147483648 ((8192 : Nat) : Int) = true := HJ.out.2.2.2.2.2.2.2.1
          rw [hin, if_pos rfl] at this
          exact this
        obtain ⟨t0, t1, _, _⟩ := box_facts Xd.out.2.2.2.2.1
        go_region_held3 (fun Z => Z.cell? ⟨q2, 0, none⟩ = some (.int .u64 (x : Int)) ∧ Z.cell? ⟨q2, 1, none⟩ = some (.int .u64 (tk : Int))) (go_keep) (first | (go_at_call 30; refine (K32.out).mono ?_; rintro e w3 ⟨rfl, G3, hr3, hs3⟩; have X3 : Hid (RamAt w3 G3 rb 8192 (kk + j + tk) (.pointer none) (over (layS g (spanA (ps.take i)) 0 M) x tk (fun z => g (j + z))) ∧ Step F w G3 w3 ∧ (SpanIn v0.heap.size w3 (.slice (some ⟨gs, 0, none⟩) K co) ps ∧ ¬ G3 gs) ∧ w3.heap[q2]? = some (.cells #[.int .u64 (x : Int), .int .u64 (tk : Int)] 57 (0, 0)) ∧ ReadsF G3 w3 (.slice (some ⟨bd, od, none⟩) R cd) R (fun z => g (j + z)) ∧ ¬ G3 bd) := ⟨hr3, Xd.out.2.1.trans hs3, span_step Xd.out.2.2.1 Xd.out.2.2.2.1 hs3, (step_kept2 Xd.out.2.2.2.2.1 hs3 Xd.out.2.2.2.2.2.1).1, ReadsF.step Xd.out.2.2.2.2.2.2 hs3, reads_not Xd.out.2.2.2.2.2.2 hs3 HCB.out.1 HJ0.out.2⟩; clear hr3 hs3; obtain ⟨t2, t3, _, _⟩ := box_facts X3.out.2.2.2.1))
        clear Xd K32 t0 t1
        go_wp2_with fail
        go_roundw
        case rel =>
          refine ⟨i + 1, j + tk, G3, HJ.out.2.2.2.2.2.2.1, by go_num, HJ.out.2.1, HJ.out.2.2.1, ?_, ?_, X3.out.2.1, X3.out.2.2.1.1, fun q hq => ?_⟩
          · have hcut := ReadsF.cut (F := G3) (w := w3) (b := bd) (off := od) (cap := cd) (n := R) (m := tk) (f := fun z => g (j + z)) X3.out.2.2.2.2.2 HCB.out.2.1 HCB.out.2.2 HJ.out.2.2.2.2.1 (reads_cells X3.out.2.2.2.2.1)
            rw [show n - (j + tk) = R - tk from by have := HJ.out; omega]
            simpa [Nat.add_assoc] using hcut
          · rw [HJ.out.1, layS_append, HJ.out.2.2.2.2.2.1, Nat.zero_add, layS_range]
            rw [← Nat.add_assoc]
            exact X3.out.1
          · have : q = gs := by simpa [Value.ownBlock] using hq.symm
            subst this
            exact X3.out.2.2.1.2
        case measure => simp [intOf]; have := HJ.out.2.2.2.2.2.2.1; omega
end Go.Proofs.YtmjdnocilbnoaaaGreat
