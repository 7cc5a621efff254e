/- The document's walk along one table. -/
import Derived.Test.YtcgjfklglckjcaaDa
import Derived.Deep.Upon
namespace Go.Proofs.Ytcgjfklglckjcaa
open Go.RowKit Go.Maps
set_option linter.unusedVariables false
set_option linter.unusedSimpArgs false
set_option maxRecDepth 100000
theorem Dp.beside {w V V2 : World} {va : Option Addr} {nn vc : Nat} {cc : Array Value} {p da dl df dx g : Nat} (h : Dp w V va nn vc cc p da dl df dx) (hb : Below g V V2) (hp : p < g) : Dp w V2 va nn vc cc p da dl df dx := by
  obtain ⟨⟨h1, h2, h3, h4, h5⟩, h6, h7⟩ := h
  have hs := h5.size
  have f : ∀ {q : Nat} {o : Obj}, V.heap[q]? = some o → q ≤ p → V2.heap[q]? = some o := fun h hq => (hb.block _ (by omega)).trans h
  refine ⟨⟨f h1 (by omega), f h2 (by omega), f h3 (by omega), f h4 (by omega), h5.trans (hb.mono (by omega))⟩, f h6 (Nat.le_refl _), h7⟩
theorem Dp.seg {w V : World} {va : Option Addr} {nn vc : Nat} {x y z : Value} {p da dl df dx : Nat} (h : Dp w V va nn vc #[x, y, z] p da dl df dx) (u : Value) : Dp w (V.setCell ⟨w.heap.size + 1, 0, none⟩ u) va nn vc #[u, y, z] p da dl df dx := by
  obtain ⟨⟨h1, h2, h3, h4, h5⟩, h6, h7⟩ := h
  have f : ∀ {q : Nat} {o : Obj}, V.heap[q]? = some o → q ≠ w.heap.size + 1 → (V.setCell ⟨w.heap.size + 1, 0, none⟩ u).heap[q]? = some o := fun h hq => (heap_setCell _ _ _ _ _ hq).trans h
  refine ⟨⟨f h1 (by omega), ?_, f h3 (by omega), f h4 (by omega), h5.setCell (by simp) _⟩, f h6 (by omega), h7⟩
  rw [setCell_eq_setRow V (w.heap.size + 1) 0 _ 44 (0, 0) u h2, setRow_heap V (w.heap.size + 1) _ _ 44 _ h2]; rfl
theorem SegIn.low {B : Nat} {w : World} {v : Value} {l : List Seg} (h : SegIn B w v l) : SegIn 0 w v l := by
  refine ⟨h.1, ?_⟩
  rcases h.2 with hn | ⟨g, cap, cur, rfl, hb, rest⟩
  · exact .inl hn
  · exact .inr ⟨g, cap, cur, rfl, Nat.zero_le _, rest⟩
theorem len_le {L : Nat} {l : List Seg} {s : Seg} {k : Nat} (h : L = l.length ∧ l.length + (k + 1) ≤ 600) : (l ++ [s]).length + k ≤ 600 := by simp; omega
def Dfin (w V : World) (dc cc : Array Value) : Prop := Below w.heap.size w V ∧ V.heap[w.heap.size + 1 + 1]? = some (.cells dc 92 (0, 0)) ∧ V.heap[w.heap.size + 1 + 1 + 1]? = some (.cells cc 44 (0, 0))
theorem Dp.rec {w V V2 : World} {va : Option Addr} {nn vc : Nat} {cc : Array Value} {p da dl df dx g6 : Nat} (h : Dp w V va nn vc cc p da dl df dx) (hb : Below V.heap.size V V2) (dc c2 : Array Value) {v u : Value} {l : List Seg} {e : Nat} {d dd : De} (hp : p < g6) (hu : ∀ g, u.ownBlock = some g → g6 ≤ g) (hd : e = 0 → d = dd ∧ SegIn 0 V2 v l ∧ ∀ g, v.ownBlock = some g → u.ownBlock = some g ∨ V.heap.size ≤ g) : Dfin w ((V2.setRow (w.heap.size + 1 + 1) dc).setRow (w.heap.size + 1 + 1 + 1) c2) dc c2 ∧ (e = 0 → d = dd ∧ SegIn 0 ((V2.setRow (w.heap.size + 1 + 1) dc).setRow (w.heap.size + 1 + 1 + 1) c2) v l ∧ ∀ g, v.ownBlock = some g → w.heap.size ≤ g) := by
  obtain ⟨⟨h1, h2, h3, h4, h5⟩, h6, h7⟩ := h
  have hpl : p < V.heap.size := (Array.getElem?_eq_some_iff.1 h6).1
  refine ⟨⟨below_setRow (below_setRow (below_to h5 hb) (by omega) _) (by omega) _, (setRow_other _ _ _ _ (by omega)).trans (setRow_heap _ _ _ _ _ _ (below_box h3 hb)), setRow_heap _ _ _ _ _ _ ((setRow_other _ _ _ _ (by omega)).trans (below_box h4 hb))⟩, fun he => ?_⟩
  obtain ⟨g1, g2, g3⟩ := hd he
  have hgt : ∀ g, v.ownBlock = some g → p < g := fun g hg => by
    rcases g3 g hg with h | h
    · have := hu g h; omega
    · omega
  refine ⟨g1, g2.kept (fun g hg => ?_), fun g hg => by have := hgt g hg; omega⟩
  have := hgt g hg
  rw [setRow_other _ _ _ _ (by omega), setRow_other _ _ _ _ (by omega)]
theorem seg_one (l : List Seg) : ∀ u ∈ segRow l, u.oneCell' = true := by
  intro u hu
  simp only [segRow, List.mem_flatMap] at hu
  obtain ⟨s, _, hs⟩ := hu
  simp at hs
  rcases hs with rfl | rfl | rfl <;> rfl
/-- segments appended to a row of none -/
theorem wpList_append_segs {w : World} {ops : Array Oper} {rest : List Oper} {o : Oper} {a : Act} {Q : Exit → Act → World → Prop} (hgd : o.guard = none) (s x : Operand) (ho : o.op = .call { callee := .builtin .append, args := #[s, x], argTypes := #[36, 36] })
    (B g : Nat) (hs : a.eval s = .slice (some ⟨g, 0, none⟩) 0 0) (hg : w.heap[g]? = some (.cells #[] 52 (0, 0))) (hBg : B ≤ g) (v2 : Value) (hx : a.eval x = v2) (l : List Seg) (hl : SegIn 0 w v2 l) (hL : l.length ≤ 1000) (hB : B ≤ w.heap.size)
    (h : ∀ g' cap w', SegIn B w' (.slice (some ⟨g', 0, none⟩) l.length cap) l → Below B w w' → wpList Try.prog ops Q rest (a.put o.dst (.slice (some ⟨g', 0, none⟩) l.length cap)) w') : wpList Try.prog ops Q (o :: rest) a w := by
  obtain ⟨i0, hi, hz0, hz1, hz2⟩ := info_parts Try.info52s
  have hown : w.ownsRow B 52 3 (.slice (some ⟨g, 0, none⟩) 0 0) 0 [] := ⟨rfl, .inr ⟨g, 0, #[], rfl, hBg, hg, Nat.le_refl _, Nat.zero_le _, rfl, rfl⟩⟩
  rcases hl.2 with ⟨rfl, h0⟩ | ⟨g2, cap, cur, rfl, _, hgg, hle, hml, hsz, htk⟩
  · refine wpList_plain hgd fun K hK => ?_
    have hr := run_append_nothing (P := Try.prog) w 36 36 o.type 52 i0 Try.underlying36 hi (some ⟨g, 0, none⟩) 0 0 (Nat.le_refl _) (.slice none 0 0) (Src.ofNil w Try.underlying36 0)
    unfold Oper.wp execOp
    simp only [ho, resolve, invoke, builtin, Sem.run_bind, Sem.run_pure, Result.andThen_ok, List.map_toArray, List.map_cons, List.map_nil, hs, hx, hr]
    refine hK _ _ ?_
    have hl0 : l = [] := List.length_eq_zero_iff.1 h0
    subst hl0
    exact h g 0 w hown (Below.refl _ _)
  · refine wpList_append_own w hgd s x 36 ho B 52 i0 (.agg #[.int .u64 0, .int .u64 0, .bool false]) 3 24 Try.underlying36 hi hz0 hz1 hz2 rfl (by decide) _ 0 [] hs hown ⟨g2, 0, none⟩ l.length cap (segRow l) hx hl.1 (World.ownsRow.cells hl (g := g2) rfl) (seg_one l) (by unfold maxLen; omega) (by omega) hB ?_
    intro v' w' hown' hgrow hnil
    rw [Nat.zero_add, List.nil_append] at hown'
    have hlow : ∀ q, (Value.slice (some ⟨g, 0, none⟩) 0 0).ownBlock = some q → B ≤ q := fun q hq => (hown.lt q hq).1
    rcases hown'.2 with ⟨rfl, _⟩ | ⟨g', cap, cur, rfl, hb', _⟩
    · have := hnil.1 rfl; cases this.1
    · exact h g' cap w' hown' (Below.grown (Below.refl _ _) hgrow hB hlow)
set_option maxHeartbeats 4000000 in
theorem dalong_in {w0 : World} {va : Option Addr} {nn vc : Nat} {M : Nat → Nat} (hM : ∀ a, M a ≤ 255) (hD : DDesc w0 va nn vc M) (t n k j : Nat) (hn : n ≤ 256) (hj : j < n) (hk : k ≤ 256) (IH : DIH w0 va nn vc M t n k) (l : List Seg) (a : Option Addr) (L c ta tl : Nat) (w : World) (hw0 : Below w0.heap.size w0 w) (hsg : SegIn 0 w (.slice a L c) l) (hl : l.length + (k + 1) ≤ 600) : Calls Try.prog 38 #[.agg #[.int .u64 8192, .slice va nn vc], .int .u64 (t : Int), .int .i64 (n : Int), .int .i64 (j : Int), .int .i64 ((k + 1 : Nat) : Int), .agg #[.slice a L c, .int .u64 (ta : Int), .int .u64 (tl : Int)]] w fun e w' => ∃ (d : De) (a' : Option Addr) (L' c' : Nat), e = .returned (.tuple #[.agg #[.int .u64 (d.a : Int), .int .u32 (d.l : Int), .int .u16 (d.f : Int), .int .u16 (d.x : Int)], .agg #[.slice a' L' c', .int .u64 (ta : Int), .int .u64 (tl : Int)], .int .i64 ((alongR M t n (k + 1) (j : Int) l).e : Int)]) ∧ (((alongR M t n (k + 1) (j : Int) l).e) = 0 → d = (alongR M t n (k + 1) (j : Int) l).d ∧ SegIn 0 w' (.slice a' L' c') (alongR M t n (k + 1) (j : Int) l).l ∧ ∀ g, (Value.slice a' L' c').ownBlock = some g → (Value.slice a L c).ownBlock = some g ∨ w.heap.size ≤ g) ∧ Below w.heap.size w w' := by
  obtain ⟨r, hr⟩ : ∃ r, alongR M t n (k + 1) (j : Int) l = r := ⟨_, rfl⟩
  rw [hr]
  have HR : Hid (alongR M t n (k + 1) (j : Int) l = r) := hr
  have X0 : Hid (Db w ((((w.alloc (.cells #[.int .u64 8192, .slice va nn vc] 32)).alloc (.cells #[.slice a L c, .int .u64 (ta : Int), .int .u64 (tl : Int)] 44)).alloc (.cells #[.int .u64 0, .int .u32 0, .int .u16 0, .int .u16 0] 92)).alloc (.cells #[.slice none 0 0, .int .u64 0, .int .u64 0] 44)) va nn vc #[.slice a L c, .int .u64 (ta : Int), .int .u64 (tl : Int)]) := four_in w _ _ _ _
  have hLl : L = l.length := by
    obtain ⟨a2, c2, h⟩ := hsg.form
    simp only [Value.slice.injEq] at h
    exact h.2.1
  have HS : Hid (SegIn 0 w (.slice a L c) l ∧ L = l.length ∧ l.length + (k + 1) ≤ 600) := ⟨hsg, hLl, hl⟩
  have h1 : ¬ (j : Int) < 0 := by omega
  have h2 : ¬ (n : Int) ≤ (j : Int) := by omega
  have h3 : ((((k + 1 : Nat) : Int)) == 0) = false := by simp; omega
  have h3' : ¬ (((k + 1 : Nat) : Int)) = 0 := by omega
  obtain ⟨⟨da, dl, df, dx⟩, hde⟩ : ∃ d, deN M t j = d := ⟨_, rfl⟩
  obtain ⟨ok, hok⟩ : ∃ ok, deB t j = ok := ⟨_, rfl⟩
  have HO : Hid (deN M t j = ⟨da, dl, df, dx⟩ ∧ deB t j = ok ∧ (De.mk da dl df dx).Ok ∧ j < n) := ⟨hde, hok, hde ▸ deN_ok hM t j, hj⟩
  have hf : df ≤ 65535 := HO.out.2.2.1.f
  have hdl : dl ≤ 4294967295 := HO.out.2.2.1.l
  have hwr : IntKind.u64.wrap (dl : Int) = (dl : Int) := by rw [wrap_u64]; omega
  have H60 : Hid (∀ V, Below w.heap.size w V → Calls Try.prog 60 #[.agg #[.int .u64 8192, .slice va nn vc], .int .u64 (t : Int), .int .i64 (j : Int)] V fun e w' => e = .returned (.tuple #[.agg #[.int .u64 (da : Int), .int .u32 (dl : Int), .int .u16 (df : Int), .int .u16 (dx : Int)], .bool ok]) ∧ Below V.heap.size V w') := by
    intro V hV
    have := hD V (below_to hw0 hV) t j (by omega)
    rw [hde, hok] at this
    exact this
  have HI : Hid (DIH w0 va nn vc M t n k ∧ ∀ V, Below w.heap.size w V → Below w0.heap.size w0 V) := ⟨IH, fun V hV => below_to hw0 hV⟩
  obtain ⟨kk, hkk⟩ : ∃ kk : Int, ((k + 1 : Nat) : Int) = kk := ⟨_, rfl⟩
  have HK : Hid (kk = (k : Int) + 1 ∧ k ≤ 256) := ⟨by rw [← hkk]; omega, hk⟩
  rw [hkk] at h3 h3' ⊢
  clear hr hLl hsg hl hde hok hD IH hj hkk hk
  go_enter Try.func38, Try.ntmps38
  go_upto_region 1 with fail
  generalize (((w.alloc (.cells #[.int .u64 8192, .slice va nn vc] 32)).alloc (.cells #[.slice a L c, .int .u64 (ta : Int), .int .u64 (tl : Int)] 44)).alloc (.cells #[.int .u64 0, .int .u32 0, .int .u16 0, .int .u16 0] 92)).alloc (.cells #[.slice none 0 0, .int .u64 0, .int .u64 0] 44) = v0 at *
  obtain ⟨m0, m1, _, _⟩ := box_facts X0.out.1
  go_upto_region 6 with (go_at_call 60; refine (H60.out _ X0.out.2.2.2.2).mono ?_; rintro e w1 ⟨rfl, hb1⟩; have X1 : Hid (Db w w1 va nn vc #[.slice a L c, .int .u64 (ta : Int), .int .u64 (tl : Int)]) := X0.out.below hb1; clear hb1 X0 m0 m1)
  have hb2 : Below w1.heap.size w1 (w1.alloc (.cells #[.int .u64 (da : Int), .int .u32 (dl : Int), .int .u16 (df : Int), .int .u16 (dx : Int)] 92)) := (Below.refl _ _).alloc (Nat.le_refl _) _
  have X2 : Hid (Dp w (w1.alloc (.cells #[.int .u64 (da : Int), .int .u32 (dl : Int), .int .u16 (df : Int), .int .u16 (dx : Int)] 92)) va nn vc #[.slice a L c, .int .u64 (ta : Int), .int .u64 (tl : Int)] w1.heap.size da dl df dx) := ⟨X1.out.below hb2, heap_alloc_new _ _, (Array.getElem?_eq_some_iff.1 X1.out.2.2.2.1).1⟩
  clear hb2 X1 H60
  generalize w1.alloc (.cells #[.int .u64 (da : Int), .int .u32 (dl : Int), .int .u16 (df : Int), .int .u16 (dx : Int)] 92) = w2 at *
  generalize w1.heap.size = p at *
  cases ok with
  | false =>
    have HRR : Hid (r = ⟨21, De.zero, l⟩) := HR.out.symm.trans (along_not HO.out.2.2.2 HO.out.2.1)
    go_upto_region 7 with fail
    have Xd : Hid (Dp w w2.drew va nn vc #[.slice a L c, .int .u64 (ta : Int), .int .u64 (tl : Int)] p da dl df dx) := X2.out.below (Below.refl _ _).drew
    refine wp_region_held_drew (S := fun Z => Z.cell? ⟨w.heap.size + 1, 0, none⟩ = some (.slice a L c) ∧ Z.cell? ⟨w.heap.size + 1, 1, none⟩ = some (.int .u64 (ta : Int)) ∧ Z.cell? ⟨w.heap.size + 1, 2, none⟩ = some (.int .u64 (tl : Int)) ∧ Z.cell? ⟨p, 0, none⟩ = some (.int .u64 (da : Int)) ∧ Z.cell? ⟨p, 1, none⟩ = some (.int .u32 (dl : Int)) ∧ Z.cell? ⟨p, 2, none⟩ = some (.int .u16 (df : Int)) ∧ Z.cell? ⟨p, 3, none⟩ = some (.int .u16 (dx : Int))) (by kernel_rfl) ⟨cellOf Xd.out.1.2.1 0 _ rfl, cellOf Xd.out.1.2.1 1 _ rfl, cellOf Xd.out.1.2.1 2 _ rfl, cellOf Xd.out.2.1 0 _ rfl, cellOf Xd.out.2.1 1 _ rfl, cellOf Xd.out.2.1 2 _ rfl, cellOf Xd.out.2.1 3 _ rfl⟩ ?_
    intro hS
    clear X2
    generalize w2.drew = Vd at *
    refine wpAnyH_take (i := 0) (v := ?_) rfl (by kernel_rfl) (by kernel_rfl) (by kernel_rfl) (fun _ _ _ h => h) (Or.inl ⟨by kernel_rfl, ?_⟩) hS ?_
    rotate_left
    · intro w hSw; (try dsimp only at hSw); go_simp; try (with_reducible rfl)
    (try simp only [Act.put, List.getElem_toArray, List.getElem_cons_succ, List.getElem_cons_zero, List.setIfInBounds_toArray, List.set_cons_zero, List.set_cons_succ])
    refine wpAnyH_take (i := 1) (v := ?_) rfl (by kernel_rfl) (by kernel_rfl) (by kernel_rfl) (fun _ _ _ h => h) (Or.inl ⟨by kernel_rfl, ?_⟩) hS ?_
    rotate_left
    · intro w hSw; (try dsimp only at hSw); go_simp; try (with_reducible rfl)
    (try simp only [Act.put, List.getElem_toArray, List.getElem_cons_succ, List.getElem_cons_zero, List.setIfInBounds_toArray, List.set_cons_zero, List.set_cons_succ])
    refine wpAnyH_ready (rs := [2]) (by kernel_rfl) (by simp) ?_
    refine AllReadyH.cons rfl (fun K1 hK1 => ?_) AllReadyH.nil
    rw [if_pos (by kernel_rfl)]
    refine wp_store_row 92 _ _ rfl (w.heap.size + 1 + 1) #[.int .u64 (da : Int), .int .u32 (dl : Int), .int .u16 (df : Int), .int .u16 (dx : Int)] rfl rfl 92 #[.int .u64 0, .int .u32 0, .int .u16 0, .int .u16 0] Xd.out.1.2.2.1 info47 rfl (by simp [Value.oneCell']) ?_
    have Xe : Hid ((Dq w (Vd.setRow (w.heap.size + 1 + 1) #[.int .u64 (da : Int), .int .u32 (dl : Int), .int .u16 (df : Int), .int .u16 (dx : Int)]) va nn vc #[.slice a L c, .int .u64 (ta : Int), .int .u64 (tl : Int)] p da dl df dx #[.int .u64 (da : Int), .int .u32 (dl : Int), .int .u16 (df : Int), .int .u16 (dx : Int)])) := Xd.out.set #[.int .u64 (da : Int), .int .u32 (dl : Int), .int .u16 (df : Int), .int .u16 (dx : Int)]
    clear Xd
    generalize Vd.setRow (w.heap.size + 1 + 1) #[.int .u64 (da : Int), .int .u32 (dl : Int), .int .u16 (df : Int), .int .u16 (dx : Int)] = Ve at *
    refine hK1.out _ _ ⟨cellOf Xe.out.1.2.1 0 _ rfl, cellOf Xe.out.1.2.1 1 _ rfl, cellOf Xe.out.1.2.1 2 _ rfl, cellOf Xe.out.2.1 0 _ rfl, cellOf Xe.out.2.1 1 _ rfl, cellOf Xe.out.2.1 2 _ rfl, cellOf Xe.out.2.1 3 _ rfl⟩ (fun h2 => ?_)
    clear hK1 K1 hS
    (try simp only [Act.put, List.getElem_toArray, List.getElem_cons_succ, List.getElem_cons_zero, List.setIfInBounds_toArray, List.set_cons_zero, List.set_cons_succ])
    refine wpAnyH_ready (rs := [3]) (by kernel_rfl) (by simp) ?_
    refine AllReadyH.cons rfl (fun K1 hK1 => ?_) AllReadyH.nil
    rw [if_pos (by kernel_rfl)]
    refine wp_store_row 44 _ _ rfl (w.heap.size + 1 + 1 + 1) #[.slice a L c, .int .u64 (ta : Int), .int .u64 (tl : Int)] rfl rfl 44 #[.slice none 0 0, .int .u64 0, .int .u64 0] Xe.out.1.2.2.2.1 info44 rfl (by simp [Value.oneCell']) ?_
    have Xf : Hid (Below w.heap.size w (Ve.setRow (w.heap.size + 1 + 1 + 1) #[.slice a L c, .int .u64 (ta : Int), .int .u64 (tl : Int)]) ∧ (Ve.setRow (w.heap.size + 1 + 1 + 1) #[.slice a L c, .int .u64 (ta : Int), .int .u64 (tl : Int)]).heap[w.heap.size + 1 + 1]? = some (.cells #[.int .u64 (da : Int), .int .u32 (dl : Int), .int .u16 (df : Int), .int .u16 (dx : Int)] 92 (0, 0)) ∧ (Ve.setRow (w.heap.size + 1 + 1 + 1) #[.slice a L c, .int .u64 (ta : Int), .int .u64 (tl : Int)]).heap[w.heap.size + 1 + 1 + 1]? = some (.cells #[.slice a L c, .int .u64 (ta : Int), .int .u64 (tl : Int)] 44 (0, 0)) ∧ (Ve.setRow (w.heap.size + 1 + 1 + 1) #[.slice a L c, .int .u64 (ta : Int), .int .u64 (tl : Int)]).cell? ⟨w.heap.size + 1, 0, none⟩ = some (.slice a L c) ∧ (Ve.setRow (w.heap.size + 1 + 1 + 1) #[.slice a L c, .int .u64 (ta : Int), .int .u64 (tl : Int)]).cell? ⟨w.heap.size + 1, 1, none⟩ = some (.int .u64 (ta : Int)) ∧ (Ve.setRow (w.heap.size + 1 + 1 + 1) #[.slice a L c, .int .u64 (ta : Int), .int .u64 (tl : Int)]).cell? ⟨w.heap.size + 1, 2, none⟩ = some (.int .u64 (tl : Int)) ∧ (Ve.setRow (w.heap.size + 1 + 1 + 1) #[.slice a L c, .int .u64 (ta : Int), .int .u64 (tl : Int)]).cell? ⟨p, 0, none⟩ = some (.int .u64 (da : Int)) ∧ (Ve.setRow (w.heap.size + 1 + 1 + 1) #[.slice a L c, .int .u64 (ta : Int), .int .u64 (tl : Int)]).cell? ⟨p, 1, none⟩ = some (.int .u32 (dl : Int)) ∧ (Ve.setRow (w.heap.size + 1 + 1 + 1) #[.slice a L c, .int .u64 (ta : Int), .int .u64 (tl : Int)]).cell? ⟨p, 2, none⟩ = some (.int .u16 (df : Int)) ∧ (Ve.setRow (w.heap.size + 1 + 1 + 1) #[.slice a L c, .int .u64 (ta : Int), .int .u64 (tl : Int)]).cell? ⟨p, 3, none⟩ = some (.int .u16 (dx : Int))) := Xe.out.fin
    clear Xe
    generalize Ve.setRow (w.heap.size + 1 + 1 + 1) #[.slice a L c, .int .u64 (ta : Int), .int .u64 (tl : Int)] = Vf at *
    refine hK1.out _ _ Xf.out.2.2.2 (fun h3 => ?_)
    clear hK1 K1 h2
    (try simp only [Act.put, List.getElem_toArray, List.getElem_cons_succ, List.getElem_cons_zero, List.setIfInBounds_toArray, List.set_cons_zero, List.set_cons_succ])
    refine wpAnyH_take (i := 4) (v := ?_) rfl (by kernel_rfl) (by kernel_rfl) (by kernel_rfl) (fun _ _ _ h => h) (Or.inl ⟨by kernel_rfl, ?_⟩) h3 ?_
    rotate_left
    · intro w hSw; (try dsimp only at hSw); go_simp; try (with_reducible rfl)
    (try simp only [Act.put, List.getElem_toArray, List.getElem_cons_succ, List.getElem_cons_zero, List.setIfInBounds_toArray, List.set_cons_zero, List.set_cons_succ])
    refine wpAnyH_done (by kernel_rfl) ?_ _
    clear h3
    obtain ⟨r0, r1, r2, r3⟩ := box4_facts Xf.out.2.1
    obtain ⟨q0, q1, q2⟩ := box3_facts Xf.out.2.2.1
    go_wp2_with fail
    refine bodyPost_ret (v := .tuple #[.agg #[.int .u64 (da : Int), .int .u32 (dl : Int), .int .u16 (df : Int), .int .u16 (dx : Int)], .agg #[.slice a L c, .int .u64 (ta : Int), .int .u64 (tl : Int)], .int .i64 21]) (by simp [results, Try.results38, go_sem, r0, r1, r2, r3, q0, q1, q2]) rfl ?_
    rw [HRR.out]
    exact ⟨⟨da, dl, df, dx⟩, a, L, c, rfl, (fun h => by cases h), Xf.out.1⟩
  | true =>
    obtain ⟨f4, hf4⟩ : ∃ b, fl df 4 = b := ⟨_, rfl⟩
    have H4 : Hid (∀ V, Calls Try.prog 39 #[.agg #[.int .u64 (da : Int), .int .u32 (dl : Int), .int .u16 (df : Int), .int .u16 (dx : Int)], .int .u16 4] V fun e w' => e = .returned (.bool f4) ∧ Below V.heap.size V w') := by
      intro V; rw [← hf4]; exact flag4 da dl df dx hf V
    have HF4 : Hid (fl df 4 = f4) := hf4
    clear hf4
    obtain ⟨d0, d1, d2, d3⟩ := box4_facts X2.out.2.1
    cases f4 with
    | true =>
      have HRR : Hid (r = ⟨0, ⟨da, dl, df, dx⟩, l⟩) := HR.out.symm.trans (along_ind HO.out.2.2.2 HO.out.2.1 HO.out.1 HF4.out)
      go_upto_region 9 with (go_at_call 39; refine (H4.out _).mono ?_; rintro e w3 ⟨rfl, hb⟩; have X3 : Hid (Dp w w3 va nn vc #[.slice a L c, .int .u64 (ta : Int), .int .u64 (tl : Int)] p da dl df dx) := X2.out.below hb; clear hb X2 d0 d1 d2 d3)
      go_upto_region 9 with fail
      have Xd : Hid (Dp w w3.drew va nn vc #[.slice a L c, .int .u64 (ta : Int), .int .u64 (tl : Int)] p da dl df dx) := X3.out.below (Below.refl _ _).drew
      refine wp_region_held_drew (S := fun Z => Z.cell? ⟨w.heap.size + 1, 0, none⟩ = some (.slice a L c) ∧ Z.cell? ⟨w.heap.size + 1, 1, none⟩ = some (.int .u64 (ta : Int)) ∧ Z.cell? ⟨w.heap.size + 1, 2, none⟩ = some (.int .u64 (tl : Int)) ∧ Z.cell? ⟨p, 0, none⟩ = some (.int .u64 (da : Int)) ∧ Z.cell? ⟨p, 1, none⟩ = some (.int .u32 (dl : Int)) ∧ Z.cell? ⟨p, 2, none⟩ = some (.int .u16 (df : Int)) ∧ Z.cell? ⟨p, 3, none⟩ = some (.int .u16 (dx : Int))) (by kernel_rfl) ⟨cellOf Xd.out.1.2.1 0 _ rfl, cellOf Xd.out.1.2.1 1 _ rfl, cellOf Xd.out.1.2.1 2 _ rfl, cellOf Xd.out.2.1 0 _ rfl, cellOf Xd.out.2.1 1 _ rfl, cellOf Xd.out.2.1 2 _ rfl, cellOf Xd.out.2.1 3 _ rfl⟩ ?_
      intro hS
      clear X3
      generalize w3.drew = Vd at *
      refine wpAnyH_take (i := 0) (v := ?_) rfl (by kernel_rfl) (by kernel_rfl) (by kernel_rfl) (fun _ _ _ h => h) (Or.inl ⟨by kernel_rfl, ?_⟩) hS ?_
      rotate_left
      · intro w hSw; (try dsimp only at hSw); go_simp; try (with_reducible rfl)
      (try simp only [Act.put, List.getElem_toArray, List.getElem_cons_succ, List.getElem_cons_zero, List.setIfInBounds_toArray, List.set_cons_zero, List.set_cons_succ])
      refine wpAnyH_take (i := 1) (v := ?_) rfl (by kernel_rfl) (by kernel_rfl) (by kernel_rfl) (fun _ _ _ h => h) (Or.inl ⟨by kernel_rfl, ?_⟩) hS ?_
      rotate_left
      · intro w hSw; (try dsimp only at hSw); go_simp; try (with_reducible rfl)
      (try simp only [Act.put, List.getElem_toArray, List.getElem_cons_succ, List.getElem_cons_zero, List.setIfInBounds_toArray, List.set_cons_zero, List.set_cons_succ])
      refine wpAnyH_ready (rs := [2]) (by kernel_rfl) (by simp) ?_
      refine AllReadyH.cons rfl (fun K1 hK1 => ?_) AllReadyH.nil
      rw [if_pos (by kernel_rfl)]
      refine wp_store_row 92 _ _ rfl (w.heap.size + 1 + 1) #[.int .u64 (da : Int), .int .u32 (dl : Int), .int .u16 (df : Int), .int .u16 (dx : Int)] rfl rfl 92 #[.int .u64 0, .int .u32 0, .int .u16 0, .int .u16 0] Xd.out.1.2.2.1 info47 rfl (by simp [Value.oneCell']) ?_
      have Xe : Hid ((Dq w (Vd.setRow (w.heap.size + 1 + 1) #[.int .u64 (da : Int), .int .u32 (dl : Int), .int .u16 (df : Int), .int .u16 (dx : Int)]) va nn vc #[.slice a L c, .int .u64 (ta : Int), .int .u64 (tl : Int)] p da dl df dx #[.int .u64 (da : Int), .int .u32 (dl : Int), .int .u16 (df : Int), .int .u16 (dx : Int)])) := Xd.out.set #[.int .u64 (da : Int), .int .u32 (dl : Int), .int .u16 (df : Int), .int .u16 (dx : Int)]
      clear Xd
      generalize Vd.setRow (w.heap.size + 1 + 1) #[.int .u64 (da : Int), .int .u32 (dl : Int), .int .u16 (df : Int), .int .u16 (dx : Int)] = Ve at *
      refine hK1.out _ _ ⟨cellOf Xe.out.1.2.1 0 _ rfl, cellOf Xe.out.1.2.1 1 _ rfl, cellOf Xe.out.1.2.1 2 _ rfl, cellOf Xe.out.2.1 0 _ rfl, cellOf Xe.out.2.1 1 _ rfl, cellOf Xe.out.2.1 2 _ rfl, cellOf Xe.out.2.1 3 _ rfl⟩ (fun h2 => ?_)
      clear hK1 K1 hS
      (try simp only [Act.put, List.getElem_toArray, List.getElem_cons_succ, List.getElem_cons_zero, List.setIfInBounds_toArray, List.set_cons_zero, List.set_cons_succ])
      refine wpAnyH_ready (rs := [3]) (by kernel_rfl) (by simp) ?_
      refine AllReadyH.cons rfl (fun K1 hK1 => ?_) AllReadyH.nil
      rw [if_pos (by kernel_rfl)]
      refine wp_store_row 44 _ _ rfl (w.heap.size + 1 + 1 + 1) #[.slice a L c, .int .u64 (ta : Int), .int .u64 (tl : Int)] rfl rfl 44 #[.slice none 0 0, .int .u64 0, .int .u64 0] Xe.out.1.2.2.2.1 info44 rfl (by simp [Value.oneCell']) ?_
      have Xf : Hid (Below w.heap.size w (Ve.setRow (w.heap.size + 1 + 1 + 1) #[.slice a L c, .int .u64 (ta : Int), .int .u64 (tl : Int)]) ∧ (Ve.setRow (w.heap.size + 1 + 1 + 1) #[.slice a L c, .int .u64 (ta : Int), .int .u64 (tl : Int)]).heap[w.heap.size + 1 + 1]? = some (.cells #[.int .u64 (da : Int), .int .u32 (dl : Int), .int .u16 (df : Int), .int .u16 (dx : Int)] 92 (0, 0)) ∧ (Ve.setRow (w.heap.size + 1 + 1 + 1) #[.slice a L c, .int .u64 (ta : Int), .int .u64 (tl : Int)]).heap[w.heap.size + 1 + 1 + 1]? = some (.cells #[.slice a L c, .int .u64 (ta : Int), .int .u64 (tl : Int)] 44 (0, 0)) ∧ (Ve.setRow (w.heap.size + 1 + 1 + 1) #[.slice a L c, .int .u64 (ta : Int), .int .u64 (tl : Int)]).cell? ⟨w.heap.size + 1, 0, none⟩ = some (.slice a L c) ∧ (Ve.setRow (w.heap.size + 1 + 1 + 1) #[.slice a L c, .int .u64 (ta : Int), .int .u64 (tl : Int)]).cell? ⟨w.heap.size + 1, 1, none⟩ = some (.int .u64 (ta : Int)) ∧ (Ve.setRow (w.heap.size + 1 + 1 + 1) #[.slice a L c, .int .u64 (ta : Int), .int .u64 (tl : Int)]).cell? ⟨w.heap.size + 1, 2, none⟩ = some (.int .u64 (tl : Int)) ∧ (Ve.setRow (w.heap.size + 1 + 1 + 1) #[.slice a L c, .int .u64 (ta : Int), .int .u64 (tl : Int)]).cell? ⟨p, 0, none⟩ = some (.int .u64 (da : Int)) ∧ (Ve.setRow (w.heap.size + 1 + 1 + 1) #[.slice a L c, .int .u64 (ta : Int), .int .u64 (tl : Int)]).cell? ⟨p, 1, none⟩ = some (.int .u32 (dl : Int)) ∧ (Ve.setRow (w.heap.size + 1 + 1 + 1) #[.slice a L c, .int .u64 (ta : Int), .int .u64 (tl : Int)]).cell? ⟨p, 2, none⟩ = some (.int .u16 (df : Int)) ∧ (Ve.setRow (w.heap.size + 1 + 1 + 1) #[.slice a L c, .int .u64 (ta : Int), .int .u64 (tl : Int)]).cell? ⟨p, 3, none⟩ = some (.int .u16 (dx : Int))) := Xe.out.fin
      clear Xe
      generalize Ve.setRow (w.heap.size + 1 + 1 + 1) #[.slice a L c, .int .u64 (ta : Int), .int .u64 (tl : Int)] = Vf at *
      refine hK1.out _ _ Xf.out.2.2.2 (fun h3 => ?_)
      clear hK1 K1 h2
      (try simp only [Act.put, List.getElem_toArray, List.getElem_cons_succ, List.getElem_cons_zero, List.setIfInBounds_toArray, List.set_cons_zero, List.set_cons_succ])
      refine wpAnyH_take (i := 4) (v := ?_) rfl (by kernel_rfl) (by kernel_rfl) (by kernel_rfl) (fun _ _ _ h => h) (Or.inl ⟨by kernel_rfl, ?_⟩) h3 ?_
      rotate_left
      · intro w hSw; (try dsimp only at hSw); go_simp; try (with_reducible rfl)
      (try simp only [Act.put, List.getElem_toArray, List.getElem_cons_succ, List.getElem_cons_zero, List.setIfInBounds_toArray, List.set_cons_zero, List.set_cons_succ])
      refine wpAnyH_done (by kernel_rfl) ?_ _
      clear h3
      obtain ⟨r0, r1, r2, r3⟩ := box4_facts Xf.out.2.1
      obtain ⟨q0, q1, q2⟩ := box3_facts Xf.out.2.2.1
      go_wp2_with fail
      refine bodyPost_ret (v := .tuple #[.agg #[.int .u64 (da : Int), .int .u32 (dl : Int), .int .u16 (df : Int), .int .u16 (dx : Int)], .agg #[.slice a L c, .int .u64 (ta : Int), .int .u64 (tl : Int)], .int .i64 0]) (by simp [results, Try.results38, go_sem, r0, r1, r2, r3, q0, q1, q2]) rfl ?_
      rw [HRR.out]
      exact ⟨⟨da, dl, df, dx⟩, a, L, c, rfl, fun _ => ⟨rfl, HS.out.1.kept (fun g hg => Xf.out.1.block g (HS.out.1.lt g hg).2), fun g hg => .inl hg⟩, Xf.out.1⟩
    | false =>
      obtain ⟨ib, hin⟩ : ∃ b, inB da dl 2147483648 8192 = b := ⟨_, rfl⟩
      have H17 : Hid (∀ V, Calls Try.prog 17 #[.agg #[.int .u64 8192, .slice va nn vc], .int .u64 (da : Int), .int .u64 (dl : Int)] V fun e w' => e = .returned (.bool ib) ∧ Below V.heap.size V w') := by
        intro V
        rw [← hin]
        exact (rhas_any 8192 da dl (.slice va nn vc) (by omega) HO.out.2.2.1.a (by omega) V).mono fun e w' ⟨he, hb⟩ => ⟨he, hb⟩
      have HIN : Hid (inB da dl 2147483648 8192 = ib) := hin
      clear hin
      obtain ⟨m0, m1, _, _⟩ := box_facts X2.out.1.1
      have ARM : True := trivial
      cases ib with
      | false =>
        have HRR : Hid (r = ⟨21, De.zero, l⟩) := HR.out.symm.trans (along_err HO.out.2.2.2 HO.out.2.1 HO.out.1 HF4.out (by simp [addE, HIN.out]) (by decide))
        go_upto_region 11 with (first | (go_at_call 39; refine (H4.out _).mono ?_; rintro e w3 ⟨rfl, hb⟩; have X3 : Hid (Dp w w3 va nn vc #[.slice a L c, .int .u64 (ta : Int), .int .u64 (tl : Int)] p da dl df dx) := X2.out.below hb; clear hb X2 d0 d1 d2 d3 m0 m1; obtain ⟨d0, d1, d2, d3⟩ := box4_facts X3.out.2.1; obtain ⟨m0, m1, _, _⟩ := box_facts X3.out.1.1) | (go_at_call 17; refine (H17.out _).mono ?_; rintro e w4 ⟨rfl, hb⟩; have X4 : Hid (Dp w w4 va nn vc #[.slice a L c, .int .u64 (ta : Int), .int .u64 (tl : Int)] p da dl df dx) := X3.out.below hb; clear hb X3 d0 d1 d2 d3 m0 m1))
        go_upto_region 11 with fail
        have Xd : Hid (Dp w w4.drew va nn vc #[.slice a L c, .int .u64 (ta : Int), .int .u64 (tl : Int)] p da dl df dx) := X4.out.below (Below.refl _ _).drew
        refine wp_region_held_drew (S := fun Z => Z.cell? ⟨w.heap.size + 1, 0, none⟩ = some (.slice a L c) ∧ Z.cell? ⟨w.heap.size + 1, 1, none⟩ = some (.int .u64 (ta : Int)) ∧ Z.cell? ⟨w.heap.size + 1, 2, none⟩ = some (.int .u64 (tl : Int)) ∧ Z.cell? ⟨p, 0, none⟩ = some (.int .u64 (da : Int)) ∧ Z.cell? ⟨p, 1, none⟩ = some (.int .u32 (dl : Int)) ∧ Z.cell? ⟨p, 2, none⟩ = some (.int .u16 (df : Int)) ∧ Z.cell? ⟨p, 3, none⟩ = some (.int .u16 (dx : Int))) (by kernel_rfl) ⟨cellOf Xd.out.1.2.1 0 _ rfl, cellOf Xd.out.1.2.1 1 _ rfl, cellOf Xd.out.1.2.1 2 _ rfl, cellOf Xd.out.2.1 0 _ rfl, cellOf Xd.out.2.1 1 _ rfl, cellOf Xd.out.2.1 2 _ rfl, cellOf Xd.out.2.1 3 _ rfl⟩ ?_
        intro hS
        clear X4
        generalize w4.drew = Vd at *
        refine wpAnyH_take (i := 0) (v := ?_) rfl (by kernel_rfl) (by kernel_rfl) (by kernel_rfl) (fun _ _ _ h => h) (Or.inl ⟨by kernel_rfl, ?_⟩) hS ?_
        rotate_left
        · intro w hSw; (try dsimp only at hSw); go_simp; try (with_reducible rfl)
        (try simp only [Act.put, List.getElem_toArray, List.getElem_cons_succ, List.getElem_cons_zero, List.setIfInBounds_toArray, List.set_cons_zero, List.set_cons_succ])
        refine wpAnyH_take (i := 1) (v := ?_) rfl (by kernel_rfl) (by kernel_rfl) (by kernel_rfl) (fun _ _ _ h => h) (Or.inl ⟨by kernel_rfl, ?_⟩) hS ?_
        rotate_left
        · intro w hSw; (try dsimp only at hSw); go_simp; try (with_reducible rfl)
        (try simp only [Act.put, List.getElem_toArray, List.getElem_cons_succ, List.getElem_cons_zero, List.setIfInBounds_toArray, List.set_cons_zero, List.set_cons_succ])
        refine wpAnyH_ready (rs := [2]) (by kernel_rfl) (by simp) ?_
        refine AllReadyH.cons rfl (fun K1 hK1 => ?_) AllReadyH.nil
        rw [if_pos (by kernel_rfl)]
        refine wp_store_row 92 _ _ rfl (w.heap.size + 1 + 1) #[.int .u64 (da : Int), .int .u32 (dl : Int), .int .u16 (df : Int), .int .u16 (dx : Int)] rfl rfl 92 #[.int .u64 0, .int .u32 0, .int .u16 0, .int .u16 0] Xd.out.1.2.2.1 info47 rfl (by simp [Value.oneCell']) ?_
        have Xe : Hid ((Dq w (Vd.setRow (w.heap.size + 1 + 1) #[.int .u64 (da : Int), .int .u32 (dl : Int), .int .u16 (df : Int), .int .u16 (dx : Int)]) va nn vc #[.slice a L c, .int .u64 (ta : Int), .int .u64 (tl : Int)] p da dl df dx #[.int .u64 (da : Int), .int .u32 (dl : Int), .int .u16 (df : Int), .int .u16 (dx : Int)])) := Xd.out.set #[.int .u64 (da : Int), .int .u32 (dl : Int), .int .u16 (df : Int), .int .u16 (dx : Int)]
        clear Xd
        generalize Vd.setRow (w.heap.size + 1 + 1) #[.int .u64 (da : Int), .int .u32 (dl : Int), .int .u16 (df : Int), .int .u16 (dx : Int)] = Ve at *
        refine hK1.out _ _ ⟨cellOf Xe.out.1.2.1 0 _ rfl, cellOf Xe.out.1.2.1 1 _ rfl, cellOf Xe.out.1.2.1 2 _ rfl, cellOf Xe.out.2.1 0 _ rfl, cellOf Xe.out.2.1 1 _ rfl, cellOf Xe.out.2.1 2 _ rfl, cellOf Xe.out.2.1 3 _ rfl⟩ (fun h2 => ?_)
        clear hK1 K1 hS
        (try simp only [Act.put, List.getElem_toArray, List.getElem_cons_succ, List.getElem_cons_zero, List.setIfInBounds_toArray, List.set_cons_zero, List.set_cons_succ])
        refine wpAnyH_ready (rs := [3]) (by kernel_rfl) (by simp) ?_
        refine AllReadyH.cons rfl (fun K1 hK1 => ?_) AllReadyH.nil
        rw [if_pos (by kernel_rfl)]
        refine wp_store_row 44 _ _ rfl (w.heap.size + 1 + 1 + 1) #[.slice a L c, .int .u64 (ta : Int), .int .u64 (tl : Int)] rfl rfl 44 #[.slice none 0 0, .int .u64 0, .int .u64 0] Xe.out.1.2.2.2.1 info44 rfl (by simp [Value.oneCell']) ?_
        have Xf : Hid (Below w.heap.size w (Ve.setRow (w.heap.size + 1 + 1 + 1) #[.slice a L c, .int .u64 (ta : Int), .int .u64 (tl : Int)]) ∧ (Ve.setRow (w.heap.size + 1 + 1 + 1) #[.slice a L c, .int .u64 (ta : Int), .int .u64 (tl : Int)]).heap[w.heap.size + 1 + 1]? = some (.cells #[.int .u64 (da : Int), .int .u32 (dl : Int), .int .u16 (df : Int), .int .u16 (dx : Int)] 92 (0, 0)) ∧ (Ve.setRow (w.heap.size + 1 + 1 + 1) #[.slice a L c, .int .u64 (ta : Int), .int .u64 (tl : Int)]).heap[w.heap.size + 1 + 1 + 1]? = some (.cells #[.slice a L c, .int .u64 (ta : Int), .int .u64 (tl : Int)] 44 (0, 0)) ∧ (Ve.setRow (w.heap.size + 1 + 1 + 1) #[.slice a L c, .int .u64 (ta : Int), .int .u64 (tl : Int)]).cell? ⟨w.heap.size + 1, 0, none⟩ = some (.slice a L c) ∧ (Ve.setRow (w.heap.size + 1 + 1 + 1) #[.slice a L c, .int .u64 (ta : Int), .int .u64 (tl : Int)]).cell? ⟨w.heap.size + 1, 1, none⟩ = some (.int .u64 (ta : Int)) ∧ (Ve.setRow (w.heap.size + 1 + 1 + 1) #[.slice a L c, .int .u64 (ta : Int), .int .u64 (tl : Int)]).cell? ⟨w.heap.size + 1, 2, none⟩ = some (.int .u64 (tl : Int)) ∧ (Ve.setRow (w.heap.size + 1 + 1 + 1) #[.slice a L c, .int .u64 (ta : Int), .int .u64 (tl : Int)]).cell? ⟨p, 0, none⟩ = some (.int .u64 (da : Int)) ∧ (Ve.setRow (w.heap.size + 1 + 1 + 1) #[.slice a L c, .int .u64 (ta : Int), .int .u64 (tl : Int)]).cell? ⟨p, 1, none⟩ = some (.int .u32 (dl : Int)) ∧ (Ve.setRow (w.heap.size + 1 + 1 + 1) #[.slice a L c, .int .u64 (ta : Int), .int .u64 (tl : Int)]).cell? ⟨p, 2, none⟩ = some (.int .u16 (df : Int)) ∧ (Ve.setRow (w.heap.size + 1 + 1 + 1) #[.slice a L c, .int .u64 (ta : Int), .int .u64 (tl : Int)]).cell? ⟨p, 3, none⟩ = some (.int .u16 (dx : Int))) := Xe.out.fin
        clear Xe
        generalize Ve.setRow (w.heap.size + 1 + 1 + 1) #[.slice a L c, .int .u64 (ta : Int), .int .u64 (tl : Int)] = Vf at *
        refine hK1.out _ _ Xf.out.2.2.2 (fun h3 => ?_)
        clear hK1 K1 h2
        (try simp only [Act.put, List.getElem_toArray, List.getElem_cons_succ, List.getElem_cons_zero, List.setIfInBounds_toArray, List.set_cons_zero, List.set_cons_succ])
        refine wpAnyH_take (i := 4) (v := ?_) rfl (by kernel_rfl) (by kernel_rfl) (by kernel_rfl) (fun _ _ _ h => h) (Or.inl ⟨by kernel_rfl, ?_⟩) h3 ?_
        rotate_left
        · intro w hSw; (try dsimp only at hSw); go_simp; try (with_reducible rfl)
        (try simp only [Act.put, List.getElem_toArray, List.getElem_cons_succ, List.getElem_cons_zero, List.setIfInBounds_toArray, List.set_cons_zero, List.set_cons_succ])
        refine wpAnyH_done (by kernel_rfl) ?_ _
        clear h3
        obtain ⟨r0, r1, r2, r3⟩ := box4_facts Xf.out.2.1
        obtain ⟨q0, q1, q2⟩ := box3_facts Xf.out.2.2.1
        go_wp2_with fail
        refine bodyPost_ret (v := .tuple #[.agg #[.int .u64 (da : Int), .int .u32 (dl : Int), .int .u16 (df : Int), .int .u16 (dx : Int)], .agg #[.slice a L c, .int .u64 (ta : Int), .int .u64 (tl : Int)], .int .i64 21]) (by simp [results, Try.results38, go_sem, r0, r1, r2, r3, q0, q1, q2]) rfl ?_
        rw [HRR.out]
        exact ⟨⟨da, dl, df, dx⟩, a, L, c, rfl, (fun h => by cases h), Xf.out.1⟩
      | true =>
        go_upto_region 12 with (first | (go_at_call 39; refine (H4.out _).mono ?_; rintro e w3 ⟨rfl, hb⟩; have X3 : Hid (Dp w w3 va nn vc #[.slice a L c, .int .u64 (ta : Int), .int .u64 (tl : Int)] p da dl df dx) := X2.out.below hb; clear hb X2 d0 d1 d2 d3 m0 m1; obtain ⟨d0, d1, d2, d3⟩ := box4_facts X3.out.2.1; obtain ⟨m0, m1, _, _⟩ := box_facts X3.out.1.1) | (go_at_call 17; refine (H17.out _).mono ?_; rintro e w4 ⟨rfl, hb⟩; have X4 : Hid (Dp w w4 va nn vc #[.slice a L c, .int .u64 (ta : Int), .int .u64 (tl : Int)] p da dl df dx) := X3.out.below hb; clear hb X3 d0 d1 d2 d3 m0 m1))
        obtain ⟨sb, hsb⟩ : ∃ sb, fl df 2 = sb := ⟨_, rfl⟩
        have H2 : Hid (∀ V, Calls Try.prog 39 #[.agg #[.int .u64 (da : Int), .int .u32 (dl : Int), .int .u16 (df : Int), .int .u16 (dx : Int)], .int .u16 2] V fun e w' => e = .returned (.bool sb) ∧ Below V.heap.size V w') := by
          intro V; rw [← hsb]; exact flag2 da dl df dx hf V
        have HSB : Hid (fl df 2 = sb) := hsb
        clear hsb H4 H17
        obtain ⟨lb, hlb⟩ : ∃ lb, (lastW l && !sb) = lb := ⟨_, rfl⟩
        have HL : Hid ((lastW l && !sb) = lb) := hlb
        clear hlb
        obtain ⟨e0, e1, e2⟩ := box3_facts X4.out.1.2.1
        obtain ⟨d0, d1, d2, d3⟩ := box4_facts X4.out.2.1
        go_upto_region 13 with fail
        go_cut [75] (fun x wx => x = .bool lb ∧ Dp w wx va nn vc #[.slice a L c, .int .u64 (ta : Int), .int .u64 (tl : Int)] p da dl df dx)
        case first =>
          by_cases h0 : L = 0
          · have g1 : ¬ (0 : Int) < L := by omega
            have el : lb = false := by
              have : l = [] := List.length_eq_zero_iff.1 (by have := HS.out.2.1; omega)
              rw [← HL.out, this]; rfl
            subst el
            clear h0
            go_wp2_with fail
            go_meet
            exact ⟨rfl, X4.out⟩
          · obtain ⟨q, hq⟩ : ∃ q, L = q + 1 := ⟨L - 1, by omega⟩
            have hql : q < l.length := by have := HS.out.2.1; omega
            obtain ⟨g, c', hsl, hcl⟩ := HS.out.1.cells (by omega)
            simp only [Value.slice.injEq] at hsl
            obtain ⟨rfl, -, rfl⟩ := hsl
            have hgl : g < w.heap.size := (HS.out.1.lt g rfl).2
            have hlast := (hcl q hql).2.2
            rw [← lastW_get hql (by have := HS.out.2.1; omega)] at hlast
            have hlast2 : w4.cell? ⟨g, q * 3 + 2, none⟩ = some (.bool (lastW l)) := (X4.out.1.2.2.2.2.cell (p := ⟨g, q * 3 + 2, none⟩) hgl).trans hlast
            have g1 : (0 : Int) < L := by omega
            have g4 : (L : Int) - 1 = (q : Int) := by omega
            have hL6 : L ≤ 600 := by have := HS.out.2; omega
            have g5 : wrap64 (q : Int) = (q : Int) := by unfold wrap64; omega
            have g6 : (q : Int) < L := by omega
            have hL2 := HL.out
            obtain ⟨lw, hlw⟩ : ∃ lw, lastW l = lw := ⟨_, rfl⟩
            rw [hlw] at hlast2 hL2
            clear hq h0 hcl hql hlw hlast hgl hL6
            cases lw with
            | false =>
              have el : lb = false := by simpa using hL2.symm
              subst el
              clear hL2
              go_wp2_with fail
              go_meet
              exact ⟨rfl, X4.out⟩
            | true =>
              have el : lb = !sb := by simpa using hL2.symm
              subst el
              clear hL2
              go_wp2_with (go_at_call 39; refine (H2.out _).mono ?_; rintro e w5 ⟨rfl, hb⟩; have X5 : Hid (Dp w w5 va nn vc #[.slice (some ⟨g, 0, none⟩) L c, .int .u64 (ta : Int), .int .u64 (tl : Int)] p da dl df dx) := X4.out.below hb; clear hb)
              go_meet
              exact ⟨rfl, X5.out⟩
        case rest =>
        obtain ⟨rfl, ht⟩ := hcut
        have X5 : Hid (Dp w wc va nn vc #[.slice a L c, .int .u64 (ta : Int), .int .u64 (tl : Int)] p da dl df dx) := ht
        clear ht X4 d0 d1 d2 d3 e0 e1 e2
        cases lb with
        | true =>
          have HRR : Hid (r = ⟨155, De.zero, l⟩) := HR.out.symm.trans (along_err HO.out.2.2.2 HO.out.2.1 HO.out.1 HF4.out (by have := HL.out; simp only [addE, HIN.out, if_true, HSB.out, this]) (by decide))
          go_upto_region 14 with fail
          have Xd : Hid (Dp w wc.drew va nn vc #[.slice a L c, .int .u64 (ta : Int), .int .u64 (tl : Int)] p da dl df dx) := X5.out.below (Below.refl _ _).drew
          refine wp_region_held_drew (S := fun Z => Z.cell? ⟨w.heap.size + 1, 0, none⟩ = some (.slice a L c) ∧ Z.cell? ⟨w.heap.size + 1, 1, none⟩ = some (.int .u64 (ta : Int)) ∧ Z.cell? ⟨w.heap.size + 1, 2, none⟩ = some (.int .u64 (tl : Int)) ∧ Z.cell? ⟨p, 0, none⟩ = some (.int .u64 (da : Int)) ∧ Z.cell? ⟨p, 1, none⟩ = some (.int .u32 (dl : Int)) ∧ Z.cell? ⟨p, 2, none⟩ = some (.int .u16 (df : Int)) ∧ Z.cell? ⟨p, 3, none⟩ = some (.int .u16 (dx : Int))) (by kernel_rfl) ⟨cellOf Xd.out.1.2.1 0 _ rfl, cellOf Xd.out.1.2.1 1 _ rfl, cellOf Xd.out.1.2.1 2 _ rfl, cellOf Xd.out.2.1 0 _ rfl, cellOf Xd.out.2.1 1 _ rfl, cellOf Xd.out.2.1 2 _ rfl, cellOf Xd.out.2.1 3 _ rfl⟩ ?_
          intro hS
          clear X5
          generalize wc.drew = Vd at *
          refine wpAnyH_take (i := 0) (v := ?_) rfl (by kernel_rfl) (by kernel_rfl) (by kernel_rfl) (fun _ _ _ h => h) (Or.inl ⟨by kernel_rfl, ?_⟩) hS ?_
          rotate_left
          · intro w hSw; (try dsimp only at hSw); go_simp; try (with_reducible rfl)
          (try simp only [Act.put, List.getElem_toArray, List.getElem_cons_succ, List.getElem_cons_zero, List.setIfInBounds_toArray, List.set_cons_zero, List.set_cons_succ])
          refine wpAnyH_take (i := 1) (v := ?_) rfl (by kernel_rfl) (by kernel_rfl) (by kernel_rfl) (fun _ _ _ h => h) (Or.inl ⟨by kernel_rfl, ?_⟩) hS ?_
          rotate_left
          · intro w hSw; (try dsimp only at hSw); go_simp; try (with_reducible rfl)
          (try simp only [Act.put, List.getElem_toArray, List.getElem_cons_succ, List.getElem_cons_zero, List.setIfInBounds_toArray, List.set_cons_zero, List.set_cons_succ])
          refine wpAnyH_ready (rs := [2]) (by kernel_rfl) (by simp) ?_
          refine AllReadyH.cons rfl (fun K1 hK1 => ?_) AllReadyH.nil
          rw [if_pos (by kernel_rfl)]
          refine wp_store_row 92 _ _ rfl (w.heap.size + 1 + 1) #[.int .u64 (da : Int), .int .u32 (dl : Int), .int .u16 (df : Int), .int .u16 (dx : Int)] rfl rfl 92 #[.int .u64 0, .int .u32 0, .int .u16 0, .int .u16 0] Xd.out.1.2.2.1 info47 rfl (by simp [Value.oneCell']) ?_
          have Xe : Hid ((Dq w (Vd.setRow (w.heap.size + 1 + 1) #[.int .u64 (da : Int), .int .u32 (dl : Int), .int .u16 (df : Int), .int .u16 (dx : Int)]) va nn vc #[.slice a L c, .int .u64 (ta : Int), .int .u64 (tl : Int)] p da dl df dx #[.int .u64 (da : Int), .int .u32 (dl : Int), .int .u16 (df : Int), .int .u16 (dx : Int)])) := Xd.out.set #[.int .u64 (da : Int), .int .u32 (dl : Int), .int .u16 (df : Int), .int .u16 (dx : Int)]
          clear Xd
          generalize Vd.setRow (w.heap.size + 1 + 1) #[.int .u64 (da : Int), .int .u32 (dl : Int), .int .u16 (df : Int), .int .u16 (dx : Int)] = Ve at *
          refine hK1.out _ _ ⟨cellOf Xe.out.1.2.1 0 _ rfl, cellOf Xe.out.1.2.1 1 _ rfl, cellOf Xe.out.1.2.1 2 _ rfl, cellOf Xe.out.2.1 0 _ rfl, cellOf Xe.out.2.1 1 _ rfl, cellOf Xe.out.2.1 2 _ rfl, cellOf Xe.out.2.1 3 _ rfl⟩ (fun h2 => ?_)
          clear hK1 K1 hS
          (try simp only [Act.put, List.getElem_toArray, List.getElem_cons_succ, List.getElem_cons_zero, List.setIfInBounds_toArray, List.set_cons_zero, List.set_cons_succ])
          refine wpAnyH_ready (rs := [3]) (by kernel_rfl) (by simp) ?_
          refine AllReadyH.cons rfl (fun K1 hK1 => ?_) AllReadyH.nil
          rw [if_pos (by kernel_rfl)]
          refine wp_store_row 44 _ _ rfl (w.heap.size + 1 + 1 + 1) #[.slice a L c, .int .u64 (ta : Int), .int .u64 (tl : Int)] rfl rfl 44 #[.slice none 0 0, .int .u64 0, .int .u64 0] Xe.out.1.2.2.2.1 info44 rfl (by simp [Value.oneCell']) ?_
          have Xf : Hid (Below w.heap.size w (Ve.setRow (w.heap.size + 1 + 1 + 1) #[.slice a L c, .int .u64 (ta : Int), .int .u64 (tl : Int)]) ∧ (Ve.setRow (w.heap.size + 1 + 1 + 1) #[.slice a L c, .int .u64 (ta : Int), .int .u64 (tl : Int)]).heap[w.heap.size + 1 + 1]? = some (.cells #[.int .u64 (da : Int), .int .u32 (dl : Int), .int .u16 (df : Int), .int .u16 (dx : Int)] 92 (0, 0)) ∧ (Ve.setRow (w.heap.size + 1 + 1 + 1) #[.slice a L c, .int .u64 (ta : Int), .int .u64 (tl : Int)]).heap[w.heap.size + 1 + 1 + 1]? = some (.cells #[.slice a L c, .int .u64 (ta : Int), .int .u64 (tl : Int)] 44 (0, 0)) ∧ (Ve.setRow (w.heap.size + 1 + 1 + 1) #[.slice a L c, .int .u64 (ta : Int), .int .u64 (tl : Int)]).cell? ⟨w.heap.size + 1, 0, none⟩ = some (.slice a L c) ∧ (Ve.setRow (w.heap.size + 1 + 1 + 1) #[.slice a L c, .int .u64 (ta : Int), .int .u64 (tl : Int)]).cell? ⟨w.heap.size + 1, 1, none⟩ = some (.int .u64 (ta : Int)) ∧ (Ve.setRow (w.heap.size + 1 + 1 + 1) #[.slice a L c, .int .u64 (ta : Int), .int .u64 (tl : Int)]).cell? ⟨w.heap.size + 1, 2, none⟩ = some (.int .u64 (tl : Int)) ∧ (Ve.setRow (w.heap.size + 1 + 1 + 1) #[.slice a L c, .int .u64 (ta : Int), .int .u64 (tl : Int)]).cell? ⟨p, 0, none⟩ = some (.int .u64 (da : Int)) ∧ (Ve.setRow (w.heap.size + 1 + 1 + 1) #[.slice a L c, .int .u64 (ta : Int), .int .u64 (tl : Int)]).cell? ⟨p, 1, none⟩ = some (.int .u32 (dl : Int)) ∧ (Ve.setRow (w.heap.size + 1 + 1 + 1) #[.slice a L c, .int .u64 (ta : Int), .int .u64 (tl : Int)]).cell? ⟨p, 2, none⟩ = some (.int .u16 (df : Int)) ∧ (Ve.setRow (w.heap.size + 1 + 1 + 1) #[.slice a L c, .int .u64 (ta : Int), .int .u64 (tl : Int)]).cell? ⟨p, 3, none⟩ = some (.int .u16 (dx : Int))) := Xe.out.fin
          clear Xe
          generalize Ve.setRow (w.heap.size + 1 + 1 + 1) #[.slice a L c, .int .u64 (ta : Int), .int .u64 (tl : Int)] = Vf at *
          refine hK1.out _ _ Xf.out.2.2.2 (fun h3 => ?_)
          clear hK1 K1 h2
          (try simp only [Act.put, List.getElem_toArray, List.getElem_cons_succ, List.getElem_cons_zero, List.setIfInBounds_toArray, List.set_cons_zero, List.set_cons_succ])
          refine wpAnyH_take (i := 4) (v := ?_) rfl (by kernel_rfl) (by kernel_rfl) (by kernel_rfl) (fun _ _ _ h => h) (Or.inl ⟨by kernel_rfl, ?_⟩) h3 ?_
          rotate_left
          · intro w hSw; (try dsimp only at hSw); go_simp; try (with_reducible rfl)
          (try simp only [Act.put, List.getElem_toArray, List.getElem_cons_succ, List.getElem_cons_zero, List.setIfInBounds_toArray, List.set_cons_zero, List.set_cons_succ])
          refine wpAnyH_done (by kernel_rfl) ?_ _
          clear h3
          obtain ⟨r0, r1, r2, r3⟩ := box4_facts Xf.out.2.1
          obtain ⟨q0, q1, q2⟩ := box3_facts Xf.out.2.2.1
          go_wp2_with fail
          refine bodyPost_ret (v := .tuple #[.agg #[.int .u64 (da : Int), .int .u32 (dl : Int), .int .u16 (df : Int), .int .u16 (dx : Int)], .agg #[.slice a L c, .int .u64 (ta : Int), .int .u64 (tl : Int)], .int .i64 155]) (by simp [results, Try.results38, go_sem, r0, r1, r2, r3, q0, q1, q2]) rfl ?_
          rw [HRR.out]
          exact ⟨⟨da, dl, df, dx⟩, a, L, c, rfl, (fun h => by cases h), Xf.out.1⟩
        | false =>
          have HA : Hid (addE l ⟨da, dl, df, dx⟩ = 0) := by
            have := HL.out
            show addE l ⟨da, dl, df, dx⟩ = 0
            simp [addE, HIN.out, HSB.out, this]
          go_upto_region 15 with fail
          refine wp_region_list ?_
          (refine wpList_step (fun KK hKK => ?_); go_simp; refine hKK _ _ ?_; clear hKK KK)
          have hb6 : Below wc.heap.size wc (wc.alloc (.cells #[] 52)) := (Below.refl _ _).alloc (Nat.le_refl _) _
          have X6 : Hid (Dp w (wc.alloc (.cells #[] 52)) va nn vc #[.slice a L c, .int .u64 (ta : Int), .int .u64 (tl : Int)] p da dl df dx) := X5.out.below hb6
          have G6 : Hid ((wc.alloc (.cells #[] 52)).heap[wc.heap.size]? = some (.cells #[] 52 (0, 0)) ∧ p < wc.heap.size ∧ wc.heap.size ≤ (wc.alloc (.cells #[] 52)).heap.size) := ⟨heap_alloc_new _ _, (Array.getElem?_eq_some_iff.1 X5.out.2.1).1, hb6.size⟩
          clear hb6 X5
          generalize wc.alloc (.cells #[] 52) = w6 at *
          generalize wc.heap.size = g6 at *
          obtain ⟨e0, e1, e2⟩ := box3_facts X6.out.1.2.1
          (refine wpList_step (fun KK hKK => ?_); go_simp; refine hKK _ _ ?_; clear hKK KK)
          (refine wpList_step (fun KK hKK => ?_); go_simp; refine hKK _ _ ?_; clear hKK KK)
          refine wpList_append_segs rfl _ _ rfl g6 g6 rfl G6.out.1 (Nat.le_refl _) (.slice a L c) rfl l (HS.out.1.kept (fun g hg => X6.out.1.2.2.2.2.block g (HS.out.1.lt g hg).2)) (by have := HS.out.2; omega) G6.out.2.2 ?_
          intro g7 cap7 w7 hs7 hb7
          have X7 : Hid (Dp w w7 va nn vc #[.slice a L c, .int .u64 (ta : Int), .int .u64 (tl : Int)] p da dl df dx) := X6.out.beside hb7 G6.out.2.1
          have S7 : Hid (SegIn g6 w7 (.slice (some ⟨g7, 0, none⟩) L cap7) l ∧ p < g6 ∧ g6 ≤ w7.heap.size) := ⟨by have := HS.out.2.1; rw [this]; exact hs7, G6.out.2.1, Nat.le_trans G6.out.2.2 hb7.size⟩
          have hLL := HS.out.2.1
          rw [← hLL]
          clear hs7 hb7 X6 G6 e0 e1 e2 hLL
          go_upto_region 16 with fail
          have Xd : Hid (Dp w w7.drew va nn vc #[.slice a L c, .int .u64 (ta : Int), .int .u64 (tl : Int)] p da dl df dx) := X7.out.below (Below.refl _ _).drew
          have Sd : Hid (SegIn g6 w7.drew (.slice (some ⟨g7, 0, none⟩) L cap7) l ∧ p < g6 ∧ g6 ≤ w7.drew.heap.size) := S7.out
          refine wp_region_held_drew (S := fun Z => Z.cell? ⟨p, 0, none⟩ = some (.int .u64 (da : Int)) ∧ Z.cell? ⟨p, 1, none⟩ = some (.int .u32 (dl : Int)) ∧ Z.cell? ⟨p, 2, none⟩ = some (.int .u16 (df : Int)) ∧ Z.cell? ⟨p, 3, none⟩ = some (.int .u16 (dx : Int))) (by kernel_rfl) ⟨cellOf Xd.out.2.1 0 _ rfl, cellOf Xd.out.2.1 1 _ rfl, cellOf Xd.out.2.1 2 _ rfl, cellOf Xd.out.2.1 3 _ rfl⟩ ?_
          intro hS
          clear X7 S7
          generalize w7.drew = w8 at *
          refine wpAnyH_take (i := 0) (v := ?_) rfl (by kernel_rfl) (by kernel_rfl) (by kernel_rfl) (fun _ _ _ h => h) (Or.inl ⟨by kernel_rfl, ?_⟩) hS ?_
          rotate_left
          · intro w hSw; (try dsimp only at hSw); go_simp; try (with_reducible rfl)
          (try simp only [Act.put, List.getElem_toArray, List.getElem_cons_succ, List.getElem_cons_zero, List.setIfInBounds_toArray, List.set_cons_zero, List.set_cons_succ])
          refine wpAnyH_take (i := 1) (v := ?_) rfl (by kernel_rfl) (by kernel_rfl) (by kernel_rfl) (fun _ _ _ h => h) (Or.inl ⟨by kernel_rfl, ?_⟩) hS ?_
          rotate_left
          · intro w hSw; (try dsimp only at hSw); go_simp; try (with_reducible rfl)
          (try simp only [Act.put, List.getElem_toArray, List.getElem_cons_succ, List.getElem_cons_zero, List.setIfInBounds_toArray, List.set_cons_zero, List.set_cons_succ])
          refine wpAnyH_take (i := 2) (v := ?_) rfl (by kernel_rfl) (by kernel_rfl) (by kernel_rfl) (fun _ _ _ h => h) (Or.inl ⟨by kernel_rfl, ?_⟩) hS ?_
          rotate_left
          · intro w hSw; (try dsimp only at hSw); go_simp; try (with_reducible rfl)
          (try simp only [Act.put, List.getElem_toArray, List.getElem_cons_succ, List.getElem_cons_zero, List.setIfInBounds_toArray, List.set_cons_zero, List.set_cons_succ])
          refine wpAnyH_take (i := 3) (v := ?_) rfl (by kernel_rfl) (by kernel_rfl) (by kernel_rfl) (fun _ _ _ h => h) (Or.inl ⟨by kernel_rfl, ?_⟩) hS ?_
          rotate_left
          · intro w hSw; (try dsimp only at hSw); go_simp; try (with_reducible rfl)
          (try simp only [Act.put, List.getElem_toArray, List.getElem_cons_succ, List.getElem_cons_zero, List.setIfInBounds_toArray, List.set_cons_zero, List.set_cons_succ])
          refine wpAnyH_take (i := 4) (v := ?_) rfl (by kernel_rfl) (by kernel_rfl) (by kernel_rfl) (fun _ _ _ h => h) (Or.inl ⟨by kernel_rfl, ?_⟩) hS ?_
          rotate_left
          · intro w hSw; (try dsimp only at hSw); go_simp; try (with_reducible rfl)
          (try simp only [Act.put, List.getElem_toArray, List.getElem_cons_succ, List.getElem_cons_zero, List.setIfInBounds_toArray, List.set_cons_zero, List.set_cons_succ])
          refine wpAnyH_take (i := 5) (v := ?_) rfl (by kernel_rfl) (by kernel_rfl) (by kernel_rfl) (fun _ _ _ h => h) (Or.inl ⟨by kernel_rfl, ?_⟩) hS ?_
          rotate_left
          · intro w hSw; (try dsimp only at hSw); go_simp; try (with_reducible rfl)
          (try simp only [Act.put, List.getElem_toArray, List.getElem_cons_succ, List.getElem_cons_zero, List.setIfInBounds_toArray, List.set_cons_zero, List.set_cons_succ])
          refine wpAnyH_take (i := 6) (v := ?_) rfl (by kernel_rfl) (by kernel_rfl) (by kernel_rfl) (fun _ _ _ h => h) (Or.inl ⟨by kernel_rfl, ?_⟩) hS ?_
          rotate_left
          · intro w hSw; (try dsimp only at hSw); go_simp; try (with_reducible rfl)
          (try simp only [Act.put, List.getElem_toArray, List.getElem_cons_succ, List.getElem_cons_zero, List.setIfInBounds_toArray, List.set_cons_zero, List.set_cons_succ])
          refine wpAnyH_ready (rs := [7]) (by kernel_rfl) (by simp) ?_
          refine AllReadyH.cons rfl (fun K1 hK1 => ?_) AllReadyH.nil
          go_simp
          refine (H2.out _).mono ?_
          rintro e w9 ⟨rfl, hb⟩
          have X9 : Hid (Dp w w9 va nn vc #[.slice a L c, .int .u64 (ta : Int), .int .u64 (tl : Int)] p da dl df dx) := Xd.out.below hb
          have S9 : Hid (SegIn g6 w9 (.slice (some ⟨g7, 0, none⟩) L cap7) l ∧ p < g6 ∧ g6 ≤ w9.heap.size) := ⟨Sd.out.1.kept (fun g hg => hb.block g (Sd.out.1.lt g hg).2), Sd.out.2.1, Nat.le_trans Sd.out.2.2 hb.size⟩
          clear hb Xd Sd
          refine hK1.out _ _ ⟨cellOf X9.out.2.1 0 _ rfl, cellOf X9.out.2.1 1 _ rfl, cellOf X9.out.2.1 2 _ rfl, cellOf X9.out.2.1 3 _ rfl⟩ (fun h9 => ?_)
          clear hK1 K1 hS
          (try simp only [Act.put, List.getElem_toArray, List.getElem_cons_succ, List.getElem_cons_zero, List.setIfInBounds_toArray, List.set_cons_zero, List.set_cons_succ])
          refine wpAnyH_take (i := 8) (v := ?_) rfl (by kernel_rfl) (by kernel_rfl) (by kernel_rfl) (fun _ _ _ h => h) (Or.inl ⟨by kernel_rfl, ?_⟩) h9 ?_
          rotate_left
          · intro w hSw; (try dsimp only at hSw); go_simp; try (with_reducible rfl)
          (try simp only [Act.put, List.getElem_toArray, List.getElem_cons_succ, List.getElem_cons_zero, List.setIfInBounds_toArray, List.set_cons_zero, List.set_cons_succ])
          refine wpAnyH_ready (rs := [9]) (by kernel_rfl) (by simp) ?_
          refine AllReadyH.cons rfl (fun K1 hK1 => ?_) AllReadyH.nil
          go_simp
          have hb3 : Below w9.heap.size w9 (w9.alloc (.cells #[.int .u64 (da : Int), .int .u64 (dl : Int), .bool sb] 52)) := (Below.refl _ _).alloc (Nat.le_refl _) _
          have XA : Hid (Dp w (w9.alloc (.cells #[.int .u64 (da : Int), .int .u64 (dl : Int), .bool sb] 52)) va nn vc #[.slice a L c, .int .u64 (ta : Int), .int .u64 (tl : Int)] p da dl df dx) := X9.out.below hb3
          have SA : Hid (SegIn g6 (w9.alloc (.cells #[.int .u64 (da : Int), .int .u64 (dl : Int), .bool sb] 52)) (.slice (some ⟨g7, 0, none⟩) L cap7) l ∧ p < g6 ∧ g6 ≤ (w9.alloc (.cells #[.int .u64 (da : Int), .int .u64 (dl : Int), .bool sb] 52)).heap.size) := ⟨S9.out.1.kept (fun g hg => hb3.block g (S9.out.1.lt g hg).2), S9.out.2.1, Nat.le_trans S9.out.2.2 hb3.size⟩
          have HN3 : Hid (∀ j u, [Value.int .u64 (da : Int), .int .u64 (dl : Int), .bool sb][j]? = some u → (w9.alloc (.cells #[.int .u64 (da : Int), .int .u64 (dl : Int), .bool sb] 52)).cell? ((⟨w9.heap.size, 0, none⟩ : Addr).add j) = some u) := three_new w9 (.int .u64 (da : Int)) (.int .u64 (dl : Int)) (.bool sb) 52
          clear hb3 X9 S9
          generalize w9.alloc (.cells #[.int .u64 (da : Int), .int .u64 (dl : Int), .bool sb] 52) = wA at *
          generalize w9.heap.size = gA at *
          refine hK1.out _ _ ⟨cellOf XA.out.2.1 0 _ rfl, cellOf XA.out.2.1 1 _ rfl, cellOf XA.out.2.1 2 _ rfl, cellOf XA.out.2.1 3 _ rfl⟩ (fun hA => ?_)
          clear hK1 K1 h9
          (try simp only [Act.put, List.getElem_toArray, List.getElem_cons_succ, List.getElem_cons_zero, List.setIfInBounds_toArray, List.set_cons_zero, List.set_cons_succ])
          refine wpAnyH_ready (rs := [10]) (by kernel_rfl) (by simp) ?_
          refine AllReadyH.cons rfl (fun K1 hK1 => ?_) AllReadyH.nil
          rw [if_pos (by kernel_rfl)]
          obtain ⟨i0, hi, hz0, hz1, hz2⟩ := info_parts Try.info52s
          refine wp_append_lies wA _ _ 36 rfl g6 52 i0 (.agg #[.int .u64 0, .int .u64 0, .bool false]) 3 24 Try.underlying36 hi hz0 hz1 hz2 rfl (by decide) (.slice (some ⟨g7, 0, none⟩) L cap7) L (segRow l) rfl (by have := SA.out.1; unfold SegIn at this; rw [← HS.out.2.1] at this; exact this) ⟨gA, 0, none⟩ 1 1 [.int .u64 (da : Int), .int .u64 (dl : Int), .bool sb] rfl rfl HN3.out (by intro u hu; simp at hu; rcases hu with rfl | rfl | rfl <;> rfl) (by omega) (by have := HS.out.2; unfold maxLen; omega) (by have := HS.out.2; omega) SA.out.2.2 wA.heap.size rfl ?_
          intro gB capB wB hown hgrow hat hlt
          have hbB : Below g6 wA wB := Below.grown (Below.refl _ _) hgrow SA.out.2.2 (fun g hg => (SA.out.1.lt g hg).1)
          have XB : Hid (Dp w wB va nn vc #[.slice a L c, .int .u64 (ta : Int), .int .u64 (tl : Int)] p da dl df dx) := XA.out.beside hbB SA.out.2.1
          have SB : Hid (SegIn g6 wB (.slice (some ⟨gB, 0, none⟩) (L + 1) capB) (l ++ [⟨da, dl, sb⟩]) ∧ p < g6) := ⟨by
            unfold SegIn
            rw [segRow_snoc, List.length_append, List.length_singleton, ← HS.out.2.1]
            exact hown, SA.out.2.1⟩
          clear hown hgrow hat hlt hbB XA SA
          refine hK1.out _ _ ⟨cellOf XB.out.2.1 0 _ rfl, cellOf XB.out.2.1 1 _ rfl, cellOf XB.out.2.1 2 _ rfl, cellOf XB.out.2.1 3 _ rfl⟩ (fun hB => ?_)
          clear hK1 K1 hA
          (try simp only [Act.put, List.getElem_toArray, List.getElem_cons_succ, List.getElem_cons_zero, List.setIfInBounds_toArray, List.set_cons_zero, List.set_cons_succ])
          refine wpAnyH_take (i := 11) (v := ?_) rfl (by kernel_rfl) (by kernel_rfl) (by kernel_rfl) (fun _ _ _ h => h) (Or.inl ⟨by kernel_rfl, ?_⟩) hB ?_
          rotate_left
          · intro w hSw; (try dsimp only at hSw); go_simp; try (with_reducible rfl)
          (try simp only [Act.put, List.getElem_toArray, List.getElem_cons_succ, List.getElem_cons_zero, List.setIfInBounds_toArray, List.set_cons_zero, List.set_cons_succ])
          refine wpAnyH_ready (rs := [12]) (by kernel_rfl) (by simp) ?_
          refine AllReadyH.cons rfl (fun K1 hK1 => ?_) AllReadyH.nil
          have m1 := cellOf XB.out.1.2.1 0 _ rfl
          have m2 := frozenOf XB.out.1.2.1 0
          go_simp
          have XC : Hid (Dp w (wB.setCell ⟨w.heap.size + 1, 0, none⟩ (.slice (some ⟨gB, 0, none⟩) (L + 1) capB)) va nn vc #[.slice (some ⟨gB, 0, none⟩) (L + 1) capB, .int .u64 (ta : Int), .int .u64 (tl : Int)] p da dl df dx) := XB.out.seg _
          have SCC : Hid (SegIn g6 (wB.setCell ⟨w.heap.size + 1, 0, none⟩ (.slice (some ⟨gB, 0, none⟩) (L + 1) capB)) (.slice (some ⟨gB, 0, none⟩) (L + 1) capB) (l ++ [⟨da, dl, sb⟩]) ∧ p < g6) := ⟨SB.out.1.kept (fun g hg => heap_setCell _ _ _ _ _ (by have := (SB.out.1.lt g hg).1; have := SB.out.2; have := XB.out.2.2; omega)), SB.out.2⟩
          clear m1 m2 XB SB
          generalize wB.setCell ⟨w.heap.size + 1, 0, none⟩ (.slice (some ⟨gB, 0, none⟩) (L + 1) capB) = wC at *
          refine hK1.out _ _ ⟨cellOf XC.out.2.1 0 _ rfl, cellOf XC.out.2.1 1 _ rfl, cellOf XC.out.2.1 2 _ rfl, cellOf XC.out.2.1 3 _ rfl⟩ (fun hC => ?_)
          clear hK1 K1 hB
          (try simp only [Act.put, List.getElem_toArray, List.getElem_cons_succ, List.getElem_cons_zero, List.setIfInBounds_toArray, List.set_cons_zero, List.set_cons_succ])
          refine wpAnyH_done (by kernel_rfl) ?_ _
          clear hC
          obtain ⟨f1, hf1⟩ : ∃ b, fl df 1 = b := ⟨_, rfl⟩
          have H1 : Hid (∀ V, Calls Try.prog 39 #[.agg #[.int .u64 (da : Int), .int .u32 (dl : Int), .int .u16 (df : Int), .int .u16 (dx : Int)], .int .u16 1] V fun e w' => e = .returned (.bool f1) ∧ Below V.heap.size V w') := by
            intro V; rw [← hf1]; exact flag1 da dl df dx hf V
          have HF1 : Hid (fl df 1 = f1) := hf1
          clear hf1 H2
          obtain ⟨d0, d1, d2, d3⟩ := box4_facts XC.out.2.1
          obtain ⟨L2, hL2⟩ : ∃ L2, L + 1 = L2 := ⟨_, rfl⟩
          rw [hL2] at XC SCC ⊢
          cases f1 with
          | false =>
            have HRR : Hid (r = ⟨0, ⟨da, dl, df, dx⟩, l ++ [⟨da, dl, sb⟩]⟩) := HR.out.symm.trans (by rw [along_end HO.out.2.2.2 HO.out.2.1 HO.out.1 HF4.out HA.out HF1.out]; simp only [De.seg, HSB.out])
            go_upto_region 18 with (go_at_call 39; refine (H1.out _).mono ?_; rintro e wD ⟨rfl, hb⟩; have XD : Hid (Dp w wD va nn vc #[.slice (some ⟨gB, 0, none⟩) L2 capB, .int .u64 (ta : Int), .int .u64 (tl : Int)] p da dl df dx) := XC.out.below hb; have SD : Hid (SegIn g6 wD (.slice (some ⟨gB, 0, none⟩) L2 capB) (l ++ [⟨da, dl, sb⟩]) ∧ p < g6 ∧ w.heap.size < p) := ⟨SCC.out.1.kept (fun g hg => hb.block g (SCC.out.1.lt g hg).2), SCC.out.2, by have := XC.out.2.2; omega⟩; clear hb XC d0 d1 d2 d3)
            go_upto_region 18 with fail
            have Xd : Hid (Dp w wD.drew va nn vc #[.slice (some ⟨gB, 0, none⟩) L2 capB, .int .u64 (ta : Int), .int .u64 (tl : Int)] p da dl df dx) := XD.out.below (Below.refl _ _).drew
            refine wp_region_held_drew (S := fun Z => Z.cell? ⟨w.heap.size + 1, 0, none⟩ = some (.slice (some ⟨gB, 0, none⟩) L2 capB) ∧ Z.cell? ⟨w.heap.size + 1, 1, none⟩ = some (.int .u64 (ta : Int)) ∧ Z.cell? ⟨w.heap.size + 1, 2, none⟩ = some (.int .u64 (tl : Int)) ∧ Z.cell? ⟨p, 0, none⟩ = some (.int .u64 (da : Int)) ∧ Z.cell? ⟨p, 1, none⟩ = some (.int .u32 (dl : Int)) ∧ Z.cell? ⟨p, 2, none⟩ = some (.int .u16 (df : Int)) ∧ Z.cell? ⟨p, 3, none⟩ = some (.int .u16 (dx : Int))) (by kernel_rfl) ⟨cellOf Xd.out.1.2.1 0 _ rfl, cellOf Xd.out.1.2.1 1 _ rfl, cellOf Xd.out.1.2.1 2 _ rfl, cellOf Xd.out.2.1 0 _ rfl, cellOf Xd.out.2.1 1 _ rfl, cellOf Xd.out.2.1 2 _ rfl, cellOf Xd.out.2.1 3 _ rfl⟩ ?_
            intro hS
            have Gd : Hid (SegIn g6 wD.drew (.slice (some ⟨gB, 0, none⟩) L2 capB) (l ++ [⟨da, dl, sb⟩]) ∧ p < g6 ∧ w.heap.size < p) := SD.out
            clear SD
            clear XD
            generalize wD.drew = Vd at *
            refine wpAnyH_take (i := 0) (v := ?_) rfl (by kernel_rfl) (by kernel_rfl) (by kernel_rfl) (fun _ _ _ h => h) (Or.inl ⟨by kernel_rfl, ?_⟩) hS ?_
            rotate_left
            · intro w hSw; (try dsimp only at hSw); go_simp; try (with_reducible rfl)
            (try simp only [Act.put, List.getElem_toArray, List.getElem_cons_succ, List.getElem_cons_zero, List.setIfInBounds_toArray, List.set_cons_zero, List.set_cons_succ])
            refine wpAnyH_take (i := 1) (v := ?_) rfl (by kernel_rfl) (by kernel_rfl) (by kernel_rfl) (fun _ _ _ h => h) (Or.inl ⟨by kernel_rfl, ?_⟩) hS ?_
            rotate_left
            · intro w hSw; (try dsimp only at hSw); go_simp; try (with_reducible rfl)
            (try simp only [Act.put, List.getElem_toArray, List.getElem_cons_succ, List.getElem_cons_zero, List.setIfInBounds_toArray, List.set_cons_zero, List.set_cons_succ])
            refine wpAnyH_ready (rs := [2]) (by kernel_rfl) (by simp) ?_
            refine AllReadyH.cons rfl (fun K1 hK1 => ?_) AllReadyH.nil
            rw [if_pos (by kernel_rfl)]
            refine wp_store_row 92 _ _ rfl (w.heap.size + 1 + 1) #[.int .u64 (da : Int), .int .u32 (dl : Int), .int .u16 (df : Int), .int .u16 (dx : Int)] rfl rfl 92 #[.int .u64 0, .int .u32 0, .int .u16 0, .int .u16 0] Xd.out.1.2.2.1 info47 rfl (by simp [Value.oneCell']) ?_
            have Xe : Hid ((Dq w (Vd.setRow (w.heap.size + 1 + 1) #[.int .u64 (da : Int), .int .u32 (dl : Int), .int .u16 (df : Int), .int .u16 (dx : Int)]) va nn vc #[.slice (some ⟨gB, 0, none⟩) L2 capB, .int .u64 (ta : Int), .int .u64 (tl : Int)] p da dl df dx #[.int .u64 (da : Int), .int .u32 (dl : Int), .int .u16 (df : Int), .int .u16 (dx : Int)])) := Xd.out.set #[.int .u64 (da : Int), .int .u32 (dl : Int), .int .u16 (df : Int), .int .u16 (dx : Int)]
            have Ge : Hid (SegIn g6 (Vd.setRow (w.heap.size + 1 + 1) #[.int .u64 (da : Int), .int .u32 (dl : Int), .int .u16 (df : Int), .int .u16 (dx : Int)]) (.slice (some ⟨gB, 0, none⟩) L2 capB) (l ++ [⟨da, dl, sb⟩]) ∧ p < g6 ∧ w.heap.size < p) := ⟨Gd.out.1.kept (fun g hg => setRow_other _ _ _ _ (by have := (Gd.out.1.lt g hg).1; have := Gd.out.2; have := Xe.out.2.2; omega)), Gd.out.2⟩
            clear Gd
            clear Xd
            generalize Vd.setRow (w.heap.size + 1 + 1) #[.int .u64 (da : Int), .int .u32 (dl : Int), .int .u16 (df : Int), .int .u16 (dx : Int)] = Ve at *
            refine hK1.out _ _ ⟨cellOf Xe.out.1.2.1 0 _ rfl, cellOf Xe.out.1.2.1 1 _ rfl, cellOf Xe.out.1.2.1 2 _ rfl, cellOf Xe.out.2.1 0 _ rfl, cellOf Xe.out.2.1 1 _ rfl, cellOf Xe.out.2.1 2 _ rfl, cellOf Xe.out.2.1 3 _ rfl⟩ (fun h2 => ?_)
            clear hK1 K1 hS
            (try simp only [Act.put, List.getElem_toArray, List.getElem_cons_succ, List.getElem_cons_zero, List.setIfInBounds_toArray, List.set_cons_zero, List.set_cons_succ])
            refine wpAnyH_ready (rs := [3]) (by kernel_rfl) (by simp) ?_
            refine AllReadyH.cons rfl (fun K1 hK1 => ?_) AllReadyH.nil
            rw [if_pos (by kernel_rfl)]
            refine wp_store_row 44 _ _ rfl (w.heap.size + 1 + 1 + 1) #[.slice (some ⟨gB, 0, none⟩) L2 capB, .int .u64 (ta : Int), .int .u64 (tl : Int)] rfl rfl 44 #[.slice none 0 0, .int .u64 0, .int .u64 0] Xe.out.1.2.2.2.1 info44 rfl (by simp [Value.oneCell']) ?_
            have Xf : Hid (Below w.heap.size w (Ve.setRow (w.heap.size + 1 + 1 + 1) #[.slice (some ⟨gB, 0, none⟩) L2 capB, .int .u64 (ta : Int), .int .u64 (tl : Int)]) ∧ (Ve.setRow (w.heap.size + 1 + 1 + 1) #[.slice (some ⟨gB, 0, none⟩) L2 capB, .int .u64 (ta : Int), .int .u64 (tl : Int)]).heap[w.heap.size + 1 + 1]? = some (.cells #[.int .u64 (da : Int), .int .u32 (dl : Int), .int .u16 (df : Int), .int .u16 (dx : Int)] 92 (0, 0)) ∧ (Ve.setRow (w.heap.size + 1 + 1 + 1) #[.slice (some ⟨gB, 0, none⟩) L2 capB, .int .u64 (ta : Int), .int .u64 (tl : Int)]).heap[w.heap.size + 1 + 1 + 1]? = some (.cells #[.slice (some ⟨gB, 0, none⟩) L2 capB, .int .u64 (ta : Int), .int .u64 (tl : Int)] 44 (0, 0)) ∧ (Ve.setRow (w.heap.size + 1 + 1 + 1) #[.slice (some ⟨gB, 0, none⟩) L2 capB, .int .u64 (ta : Int), .int .u64 (tl : Int)]).cell? ⟨w.heap.size + 1, 0, none⟩ = some (.slice (some ⟨gB, 0, none⟩) L2 capB) ∧ (Ve.setRow (w.heap.size + 1 + 1 + 1) #[.slice (some ⟨gB, 0, none⟩) L2 capB, .int .u64 (ta : Int), .int .u64 (tl : Int)]).cell? ⟨w.heap.size + 1, 1, none⟩ = some (.int .u64 (ta : Int)) ∧ (Ve.setRow (w.heap.size + 1 + 1 + 1) #[.slice (some ⟨gB, 0, none⟩) L2 capB, .int .u64 (ta : Int), .int .u64 (tl : Int)]).cell? ⟨w.heap.size + 1, 2, none⟩ = some (.int .u64 (tl : Int)) ∧ (Ve.setRow (w.heap.size + 1 + 1 + 1) #[.slice (some ⟨gB, 0, none⟩) L2 capB, .int .u64 (ta : Int), .int .u64 (tl : Int)]).cell? ⟨p, 0, none⟩ = some (.int .u64 (da : Int)) ∧ (Ve.setRow (w.heap.size + 1 + 1 + 1) #[.slice (some ⟨gB, 0, none⟩) L2 capB, .int .u64 (ta : Int), .int .u64 (tl : Int)]).cell? ⟨p, 1, none⟩ = some (.int .u32 (dl : Int)) ∧ (Ve.setRow (w.heap.size + 1 + 1 + 1) #[.slice (some ⟨gB, 0, none⟩) L2 capB, .int .u64 (ta : Int), .int .u64 (tl : Int)]).cell? ⟨p, 2, none⟩ = some (.int .u16 (df : Int)) ∧ (Ve.setRow (w.heap.size + 1 + 1 + 1) #[.slice (some ⟨gB, 0, none⟩) L2 capB, .int .u64 (ta : Int), .int .u64 (tl : Int)]).cell? ⟨p, 3, none⟩ = some (.int .u16 (dx : Int))) := Xe.out.fin
            have Gf : Hid (SegIn g6 (Ve.setRow (w.heap.size + 1 + 1 + 1) #[.slice (some ⟨gB, 0, none⟩) L2 capB, .int .u64 (ta : Int), .int .u64 (tl : Int)]) (.slice (some ⟨gB, 0, none⟩) L2 capB) (l ++ [⟨da, dl, sb⟩]) ∧ p < g6 ∧ w.heap.size < p) := ⟨Ge.out.1.kept (fun g hg => setRow_other _ _ _ _ (by have := (Ge.out.1.lt g hg).1; have := Ge.out.2; have := Xe.out.2.2; omega)), Ge.out.2⟩
            clear Ge
            clear Xe
            generalize Ve.setRow (w.heap.size + 1 + 1 + 1) #[.slice (some ⟨gB, 0, none⟩) L2 capB, .int .u64 (ta : Int), .int .u64 (tl : Int)] = Vf at *
            refine hK1.out _ _ Xf.out.2.2.2 (fun h3 => ?_)
            clear hK1 K1 h2
            (try simp only [Act.put, List.getElem_toArray, List.getElem_cons_succ, List.getElem_cons_zero, List.setIfInBounds_toArray, List.set_cons_zero, List.set_cons_succ])
            refine wpAnyH_take (i := 4) (v := ?_) rfl (by kernel_rfl) (by kernel_rfl) (by kernel_rfl) (fun _ _ _ h => h) (Or.inl ⟨by kernel_rfl, ?_⟩) h3 ?_
            rotate_left
            · intro w hSw; (try dsimp only at hSw); go_simp; try (with_reducible rfl)
            (try simp only [Act.put, List.getElem_toArray, List.getElem_cons_succ, List.getElem_cons_zero, List.setIfInBounds_toArray, List.set_cons_zero, List.set_cons_succ])
            refine wpAnyH_done (by kernel_rfl) ?_ _
            clear h3
            obtain ⟨r0, r1, r2, r3⟩ := box4_facts Xf.out.2.1
            obtain ⟨q0, q1, q2⟩ := box3_facts Xf.out.2.2.1
            go_wp2_with fail
            refine bodyPost_ret (v := .tuple #[.agg #[.int .u64 (da : Int), .int .u32 (dl : Int), .int .u16 (df : Int), .int .u16 (dx : Int)], .agg #[.slice (some ⟨gB, 0, none⟩) L2 capB, .int .u64 (ta : Int), .int .u64 (tl : Int)], .int .i64 0]) (by simp [results, Try.results38, go_sem, r0, r1, r2, r3, q0, q1, q2]) rfl ?_
            rw [HRR.out]
            exact ⟨⟨da, dl, df, dx⟩, (some ⟨gB, 0, none⟩), L2, capB, rfl, fun _ => ⟨rfl, Gf.out.1.low, fun g hg => .inr (by have := (Gf.out.1.lt g hg).1; have := Gf.out.2.1; have := Gf.out.2.2; omega)⟩, Xf.out.1⟩
          | true =>
            have HRR : Hid (r = alongR M t n k (dx : Int) (l ++ [⟨da, dl, sb⟩])) := HR.out.symm.trans (by rw [along_next HO.out.2.2.2 HO.out.2.1 HO.out.1 HF4.out HA.out HF1.out]; simp only [De.seg, HSB.out])
            have hx5 : dx ≤ 65535 := HO.out.2.2.1.x
            have k1 : kk - 1 = (k : Int) := by have := HK.out.1; omega
            have k2 : wrap64 (k : Int) = (k : Int) := by have := HK.out.2; unfold wrap64; omega
            have k3 : IntKind.i64.wrap (dx : Int) = (dx : Int) := wrapi dx (by omega)
            have H38 : Hid (∀ V, Below w.heap.size w V → SegIn 0 V (.slice (some ⟨gB, 0, none⟩) L2 capB) (l ++ [⟨da, dl, sb⟩]) → Calls Try.prog 38 #[.agg #[.int .u64 8192, .slice va nn vc], .int .u64 (t : Int), .int .i64 (n : Int), .int .i64 (dx : Int), .int .i64 (k : Int), .agg #[.slice (some ⟨gB, 0, none⟩) L2 capB, .int .u64 (ta : Int), .int .u64 (tl : Int)]] V fun e w' => ∃ (d : De) (a' : Option Addr) (L' c' : Nat), e = .returned (.tuple #[.agg #[.int .u64 (d.a : Int), .int .u32 (d.l : Int), .int .u16 (d.f : Int), .int .u16 (d.x : Int)], .agg #[.slice a' L' c', .int .u64 (ta : Int), .int .u64 (tl : Int)], .int .i64 ((r).e : Int)]) ∧ (((r).e) = 0 → d = (r).d ∧ SegIn 0 w' (.slice a' L' c') (r).l ∧ ∀ g, (Value.slice a' L' c').ownBlock = some g → (Value.slice (some ⟨gB, 0, none⟩) L2 capB).ownBlock = some g ∨ V.heap.size ≤ g) ∧ Below V.heap.size V w') := by
              intro V hV hs
              have := HI.out.1 (dx : Int) (l ++ [⟨da, dl, sb⟩]) (some ⟨gB, 0, none⟩) L2 capB ta tl V (HI.out.2 V hV) hs (len_le HS.out.2)
              rw [← HRR.out] at this
              exact this
            go_upto_region 19 with (go_at_call 39; refine (H1.out _).mono ?_; rintro e wD ⟨rfl, hb⟩; have XD : Hid (Dp w wD va nn vc #[.slice (some ⟨gB, 0, none⟩) L2 capB, .int .u64 (ta : Int), .int .u64 (tl : Int)] p da dl df dx) := XC.out.below hb; have SD : Hid (SegIn g6 wD (.slice (some ⟨gB, 0, none⟩) L2 capB) (l ++ [⟨da, dl, sb⟩]) ∧ p < g6) := ⟨SCC.out.1.kept (fun g hg => hb.block g (SCC.out.1.lt g hg).2), SCC.out.2⟩; clear hb XC d0 d1 d2 d3)
            obtain ⟨d0, d1, d2, d3⟩ := box4_facts XD.out.2.1
            obtain ⟨m0, m1, _, _⟩ := box_facts XD.out.1.1
            obtain ⟨c0, c1, c2⟩ := box3_facts XD.out.1.2.1
            clear HRR
            go_wp2_with (go_at_call 38; refine (H38.out _ XD.out.1.2.2.2.2 SD.out.1.low).mono ?_; rintro e wE ⟨⟨ea, el, ef, ex⟩, a', L', c', rfl, hd, hb⟩; have HX := Dp.rec XD.out hb #[.int .u64 (ea : Int), .int .u32 (el : Int), .int .u16 (ef : Int), .int .u16 (ex : Int)] #[.slice a' L' c', .int .u64 (ta : Int), .int .u64 (tl : Int)] (v := .slice a' L' c') (l := r.l) (e := r.e) (d := De.mk ea el ef ex) (dd := r.d) (u := .slice (some ⟨gB, 0, none⟩) L2 capB) SD.out.2 (fun g hg => (SD.out.1.lt g hg).1) hd; have XE : Hid (Db w wE va nn vc #[.slice (some ⟨gB, 0, none⟩) L2 capB, .int .u64 (ta : Int), .int .u64 (tl : Int)]) := XD.out.1.below hb; have HXX : Hid (Dfin w ((wE.setRow (w.heap.size + 1 + 1) #[.int .u64 (ea : Int), .int .u32 (el : Int), .int .u16 (ef : Int), .int .u16 (ex : Int)]).setRow (w.heap.size + 1 + 1 + 1) #[.slice a' L' c', .int .u64 (ta : Int), .int .u64 (tl : Int)]) #[.int .u64 (ea : Int), .int .u32 (el : Int), .int .u16 (ef : Int), .int .u16 (ex : Int)] #[.slice a' L' c', .int .u64 (ta : Int), .int .u64 (tl : Int)] ∧ (r.e = 0 → De.mk ea el ef ex = r.d ∧ SegIn 0 ((wE.setRow (w.heap.size + 1 + 1) #[.int .u64 (ea : Int), .int .u32 (el : Int), .int .u16 (ef : Int), .int .u16 (ex : Int)]).setRow (w.heap.size + 1 + 1 + 1) #[.slice a' L' c', .int .u64 (ta : Int), .int .u64 (tl : Int)]) (.slice a' L' c') r.l ∧ ∀ g, (Value.slice a' L' c').ownBlock = some g → w.heap.size ≤ g)) := HX; clear HX hb hd XD SD d0 d1 d2 d3 m0 m1 c0 c1 c2; rename_i KK hKK; refine hKK _ _ ?_; clear hKK; (refine wpList_step (fun KK hKK => ?_); go_simp; refine hKK _ _ ?_; clear hKK KK); (refine wpList_step (fun KK hKK => ?_); go_simp; refine hKK _ _ ?_; clear hKK KK); (refine wpList_step (fun KK hKK => ?_); go_simp; refine hKK _ _ ?_; clear hKK KK); refine wpList_store_row rfl 92 _ _ rfl (w.heap.size + 1 + 1) #[.int .u64 (ea : Int), .int .u32 (el : Int), .int .u16 (ef : Int), .int .u16 (ex : Int)] rfl rfl 92 #[.int .u64 0, .int .u32 0, .int .u16 0, .int .u16 0] XE.out.2.2.1 info47 rfl (by simp [Value.oneCell']) ?_; refine wpList_store_row rfl 44 _ _ rfl (w.heap.size + 1 + 1 + 1) #[.slice a' L' c', .int .u64 (ta : Int), .int .u64 (tl : Int)] rfl rfl 44 #[.slice none 0 0, .int .u64 0, .int .u64 0] ((setRow_other _ _ _ _ (by omega)).trans XE.out.2.2.2.1) info44 rfl (by simp [Value.oneCell']) ?_; clear XE; generalize (wE.setRow (w.heap.size + 1 + 1) #[.int .u64 (ea : Int), .int .u32 (el : Int), .int .u16 (ef : Int), .int .u16 (ex : Int)]).setRow (w.heap.size + 1 + 1 + 1) #[.slice a' L' c', .int .u64 (ta : Int), .int .u64 (tl : Int)] = wF at *; obtain ⟨r0, r1, r2, r3⟩ := box4_facts HXX.out.1.2.1; obtain ⟨q0, q1, q2⟩ := box3_facts HXX.out.1.2.2)
            refine bodyPost_ret (v := .tuple #[.agg #[.int .u64 (ea : Int), .int .u32 (el : Int), .int .u16 (ef : Int), .int .u16 (ex : Int)], .agg #[.slice a' L' c', .int .u64 (ta : Int), .int .u64 (tl : Int)], .int .i64 (r.e : Int)]) (by simp [results, Try.results38, go_sem, r0, r1, r2, r3, q0, q1, q2]) rfl ?_
            exact ⟨⟨ea, el, ef, ex⟩, a', L', c', rfl, fun h => ⟨(HXX.out.2 h).1, (HXX.out.2 h).2.1, fun g hg => .inr ((HXX.out.2 h).2.2 g hg)⟩, HXX.out.1.1⟩
end Go.Proofs.Ytcgjfklglckjcaa
