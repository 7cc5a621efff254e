/- A walk along one table. -/
import Derived.Test.YtcgjfklglckjcaaCd
namespace Go.Proofs.Ytcgjfklglckjcaa
open Go.RowKit Go.Maps
set_option linter.unusedVariables false
set_option linter.unusedSimpArgs false
set_option maxRecDepth 100000
theorem wrapi (y : Nat) (h : y < 9223372036854775808) : IntKind.i64.wrap (y : Int) = (y : Int) := by
  simp [IntKind.wrap, IntKind.signed, IntKind.bits]
  omega
/-- what Desc tells of the descriptors of one table -/
def DescOk (rb : Nat) (M : Nat → Nat) (Inv : (Nat → Prop) → World → Prop) (t n : Nat) : Prop := ∀ (F : Nat → Prop) (w : World) (i : Nat), i < n → Inv F w → Calls Try.prog 58 #[.pointer (some ⟨rb, 0, none⟩), .int .u64 (t : Int), .int .i64 (i : Int)] w fun e w' => e = .returned (.tuple #[.agg #[.int .u64 ((deN M t i).a : Int), .int .u32 ((deN M t i).l : Int), .int .u16 ((deN M t i).f : Int), .int .u16 ((deN M t i).x : Int)], .bool (deB t i)]) ∧ ∃ F', Inv F' w' ∧ Step F w F' w'
def AlS (rb wb : Nat) (M : Nat → Nat) (Inv : (Nat → Prop) → World → Prop) (O F : Nat → Prop) (w w1 : World) (t n : Nat) (i : Int) (l : List Seg) (k : Nat) (i' : Int) (l' : List Seg) (F' : Nat → Prop) (V : World) : Prop := alongR M t n n i l = alongR M t n (n - k) i' l' ∧ Wd Inv (fun k => O k ∨ k = w.heap.size) F' V rb wb l' ∧ Fly (fun k => O k ∨ k = w.heap.size) F w1 F' V ∧ V.heap[w.heap.size]? = some (.cells #[.int .u64 0, .int .u32 0, .int .u16 0, .int .u16 0] 92 (0, 0)) ∧ ¬ F' w.heap.size ∧ l'.length ≤ 300 + k
theorem AlS.told {rb wb : Nat} {M : Nat → Nat} {Inv : (Nat → Prop) → World → Prop} {O F : Nat → Prop} {w w1 : World} {t n : Nat} {i : Int} {l : List Seg} {k : Nat} {i' : Int} {l' : List Seg} {F' F2 : Nat → Prop} {V V2 : World} (h : AlS rb wb M Inv O F w w1 t n i l k i' l' F' V) (hi : Inv F2 V2) (hs : Step F' V F2 V2) : AlS rb wb M Inv O F w w1 t n i l k i' l' F2 V2 := by
  obtain ⟨h1, h2, h3, h4, h5, h6⟩ := h
  have hlt : w.heap.size < V.heap.size := (Array.getElem?_eq_some_iff.1 h4).1
  refine ⟨h1, h2.told hi hs, h3.trans (Fly.of_step hs h2.old), (hs.block _ hlt h5).trans h4, fun hf => ?_, h6⟩
  rcases hs.old _ hf with h | h
  · exact h5 h
  · omega
theorem AlS.below {rb wb : Nat} {M : Nat → Nat} {Inv : (Nat → Prop) → World → Prop} {O F : Nat → Prop} {w w1 : World} {t n : Nat} {i : Int} {l : List Seg} {k : Nat} {i' : Int} {l' : List Seg} {F' : Nat → Prop} {V V2 : World} (m : Wm rb M Inv) (h : AlS rb wb M Inv O F w w1 t n i l k i' l' F' V) (hb : Below V.heap.size V V2) : AlS rb wb M Inv O F w w1 t n i l k i' l' F' V2 := h.told (m.below h.2.1.1 hb) (Step.of_below hb)
theorem AlS.ret {rb wb : Nat} {M : Nat → Nat} {Inv : (Nat → Prop) → World → Prop} {O F : Nat → Prop} {w w1 : World} {t n : Nat} {i : Int} {l : List Seg} {k : Nat} {i' : Int} {l' : List Seg} {F' : Nat → Prop} {V : World} (m : Wm rb M Inv) (hO : ∀ k, O k → k < w.heap.size) (h : AlS rb wb M Inv O F w w1 t n i l k i' l' F' V) (c : Array Value) : Wd Inv O F' (V.setRow w.heap.size c) rb wb l' ∧ Fly O F w1 F' (V.setRow w.heap.size c) ∧ (V.setRow w.heap.size c).heap[w.heap.size]? = some (.cells c 92 (0, 0)) := by
  obtain ⟨h1, h2, h3, h4, h5, h6⟩ := h
  have hsz : (V.setRow w.heap.size c).heap.size = V.heap.size := by simp [World.setRow]
  have hst : Step (fun k => k = w.heap.size) V (fun k => k = w.heap.size) (V.setRow w.heap.size c) := ⟨rfl, rfl, rfl, by omega, fun k _ hk => setRow_other _ _ _ _ hk, fun _ h => .inl h, fun _ h => h⟩
  obtain ⟨k1, k2, k3, v, k4, k5, k6⟩ := h2
  refine ⟨⟨m.step F' V _ _ _ k1 hst (fun k hk e => h5 (e ▸ hk)), ⟨fun k hk => by rw [hsz]; exact k2.1 k (.inl hk), fun hk => k2.2 (.inl hk)⟩, k3, v, (setRow_other _ _ _ _ (fun e => k2.2 (.inr e))).trans k4, k5.kept (fun g hg => setRow_other _ _ _ _ (fun e => (k6 g hg).2.2 (.inr e))), fun g hg => ⟨(k6 g hg).1, (k6 g hg).2.1, fun hk => (k6 g hg).2.2 (.inl hk)⟩⟩, (h3.mono (fun k hk => .inl hk)).trans ⟨rfl, rfl, rfl, by omega, fun k hk _ => setRow_other _ _ _ _ (fun e => by have := hO k hk; omega), fun _ h => .inl h, fun _ h => h⟩, setRow_heap _ _ _ _ _ _ h4⟩
def Al3 (rb wb : Nat) (Inv : (Nat → Prop) → World → Prop) (O F : Nat → Prop) (w w1 : World) (l' : List Seg) (F' : Nat → Prop) (V : World) (p da dl df dx : Nat) : Prop :=
  (True ∧ Wd Inv (fun k => O k ∨ k = w.heap.size) F' V rb wb l' ∧ Fly (fun k => O k ∨ k = w.heap.size) F w1 F' V ∧ V.heap[w.heap.size]? = some (.cells #[.int .u64 0, .int .u32 0, .int .u16 0, .int .u16 0] 92 (0, 0)) ∧ ¬ F' w.heap.size) ∧ V.heap[p]? = some (.cells #[.int .u64 (da : Int), .int .u32 (dl : Int), .int .u16 (df : Int), .int .u16 (dx : Int)] 92 (0, 0))
def Al2 (rb wb : Nat) (M : Nat → Nat) (Inv : (Nat → Prop) → World → Prop) (O F : Nat → Prop) (w w1 : World) (t n : Nat) (i : Int) (l : List Seg) (k : Nat) (i' : Int) (l' : List Seg) (F' : Nat → Prop) (V : World) (p da dl df dx : Nat) : Prop :=
  AlS rb wb M Inv O F w w1 t n i l k i' l' F' V ∧ V.heap[p]? = some (.cells #[.int .u64 (da : Int), .int .u32 (dl : Int), .int .u16 (df : Int), .int .u16 (dx : Int)] 92 (0, 0)) ∧ Wd Inv (fun z => (O z ∨ z = w.heap.size) ∨ z = p) F' V rb wb l' ∧ ¬ F' p
section
variable {rb wb : Nat} {M : Nat → Nat} {Inv : (Nat → Prop) → World → Prop} {O F : Nat → Prop} {w w1 : World} {t n : Nat} {i : Int} {l : List Seg} {k k' : Nat} {i' i2 : Int} {l' l2 : List Seg} {F' : Nat → Prop} {V V2 : World} {p da dl df dx : Nat}
theorem Al2.below (m : Wm rb M Inv) (h : Al2 rb wb M Inv O F w w1 t n i l k i' l' F' V p da dl df dx) (hb : Below V.heap.size V V2) : Al2 rb wb M Inv O F w w1 t n i l k i' l' F' V2 p da dl df dx := ⟨h.1.below m hb, below_box h.2.1 hb, h.2.2.1.below m hb, h.2.2.2⟩
theorem Al2.flew (h : Al2 rb wb M Inv O F w w1 t n i l k i' l' F' V p da dl df dx) (hw : Wd Inv (fun z => (O z ∨ z = w.heap.size) ∨ z = p) F' V2 rb wb l2) (hf : Fly (fun z => (O z ∨ z = w.heap.size) ∨ z = p) F' V F' V2) (he : alongR M t n n i l = alongR M t n (n - k') i2 l2) (hl : l2.length ≤ 300 + k') : Al2 rb wb M Inv O F w w1 t n i l k' i2 l2 F' V2 p da dl df dx :=
  ⟨⟨he, hw.mono (fun _ h => .inl h), h.1.2.2.1.trans (hf.mono (fun _ h => .inl h)), (hf.block _ (.inl (.inr rfl)) h.1.2.2.2.2.1).trans h.1.2.2.2.1, h.1.2.2.2.2.1, hl⟩, (hf.block _ (.inr rfl) h.2.2.2).trans h.2.1, hw, h.2.2.2⟩
theorem Al2.flew3 (h : Al2 rb wb M Inv O F w w1 t n i l k i' l' F' V p da dl df dx) (hw : Wd Inv (fun z => (O z ∨ z = w.heap.size) ∨ z = p) F' V2 rb wb l2) (hf : Fly (fun z => (O z ∨ z = w.heap.size) ∨ z = p) F' V F' V2) : Al3 rb wb Inv O F w w1 l2 F' V2 p da dl df dx :=
  ⟨⟨trivial, hw.mono (fun _ h => .inl h), h.1.2.2.1.trans (hf.mono (fun _ h => .inl h)), (hf.block _ (.inl (.inr rfl)) h.1.2.2.2.2.1).trans h.1.2.2.2.1, h.1.2.2.2.2.1⟩, (hf.block _ (.inr rfl) h.2.2.2).trans h.2.1⟩
theorem Al3.below (m : Wm rb M Inv) (h : Al3 rb wb Inv O F w w1 l' F' V p da dl df dx) (hb : Below V.heap.size V V2) : Al3 rb wb Inv O F w w1 l' F' V2 p da dl df dx :=
  ⟨⟨trivial, h.1.2.1.below m hb, h.1.2.2.1.trans (Fly.of_below hb h.1.2.1.old), below_box h.1.2.2.2.1 hb, h.1.2.2.2.2⟩, below_box h.2 hb⟩
theorem Al3.ret (m : Wm rb M Inv) (hO : ∀ k, O k → k < w.heap.size) (h : Al3 rb wb Inv O F w w1 l' F' V p da dl df dx) (c : Array Value) : Wd Inv O F' (V.setRow w.heap.size c) rb wb l' ∧ Fly O F w1 F' (V.setRow w.heap.size c) ∧ (V.setRow w.heap.size c).heap[w.heap.size]? = some (.cells c 92 (0, 0)) := by
  obtain ⟨⟨_, h2, h3, h4, h5⟩, _⟩ := h
  have hsz : (V.setRow w.heap.size c).heap.size = V.heap.size := by simp [World.setRow]
  have hst : Step (fun k => k = w.heap.size) V (fun k => k = w.heap.size) (V.setRow w.heap.size c) := ⟨rfl, rfl, rfl, by omega, fun k _ hk => setRow_other _ _ _ _ hk, fun _ h => .inl h, fun _ h => h⟩
  obtain ⟨k1, k2, k3, v, k4, k5, k6⟩ := h2
  refine ⟨⟨m.step F' V _ _ _ k1 hst (fun k hk e => h5 (e ▸ hk)), ⟨fun k hk => by rw [hsz]; exact k2.1 k (.inl hk), fun hk => k2.2 (.inl hk)⟩, k3, v, (setRow_other _ _ _ _ (fun e => k2.2 (.inr e))).trans k4, k5.kept (fun g hg => setRow_other _ _ _ _ (fun e => (k6 g hg).2.2 (.inr e))), fun g hg => ⟨(k6 g hg).1, (k6 g hg).2.1, fun hk => (k6 g hg).2.2 (.inl hk)⟩⟩, (h3.mono (fun k hk => .inl hk)).trans ⟨rfl, rfl, rfl, by omega, fun k hk _ => setRow_other _ _ _ _ (fun e => by have := hO k hk; omega), fun _ h => .inl h, fun _ h => h⟩, setRow_heap _ _ _ _ _ _ h4⟩
theorem Al2.to3 (h : Al2 rb wb M Inv O F w w1 t n i l k i' l' F' V p da dl df dx) : Al3 rb wb Inv O F w w1 l' F' V p da dl df dx := ⟨⟨trivial, h.1.2.1, h.1.2.2.1, h.1.2.2.2.1, h.1.2.2.2.2.1⟩, h.2.1⟩
theorem AlS.to (h : AlS rb wb M Inv O F w w1 t n i l k i' l' F' V) : True ∧ Wd Inv (fun k => O k ∨ k = w.heap.size) F' V rb wb l' ∧ Fly (fun k => O k ∨ k = w.heap.size) F w1 F' V ∧ V.heap[w.heap.size]? = some (.cells #[.int .u64 0, .int .u32 0, .int .u16 0, .int .u16 0] 92 (0, 0)) ∧ ¬ F' w.heap.size := ⟨trivial, h.2.1, h.2.2.1, h.2.2.2.1, h.2.2.2.2.1⟩
end
set_option maxHeartbeats 4000000 in
theorem along_any {rb wb : Nat} {M : Nat → Nat} {Inv : (Nat → Prop) → World → Prop} {O F : Nat → Prop} {w : World} {l : List Seg} (m : Wm rb M Inv) (hM : ∀ a, M a ≤ 255) (t n : Nat) (hn : n ≤ 256) (hD : DescOk rb M Inv t n) (h : Wd Inv O F w rb wb l) (hl : l.length ≤ 300) (i : Int) :
    Calls Try.prog 35 #[.pointer (some ⟨wb, 0, none⟩), .int .u64 (t : Int), .int .i64 (n : Int), .int .i64 i] w fun e w' => e = .returned (.tuple #[.agg #[.int .u64 ((alongR M t n n i l).d.a : Int), .int .u32 ((alongR M t n n i l).d.l : Int), .int .u16 ((alongR M t n n i l).d.f : Int), .int .u16 ((alongR M t n n i l).d.x : Int)], .int .i64 ((alongR M t n n i l).e : Int)]) ∧ ∃ F', Wd Inv O F' w' rb wb (alongR M t n n i l).l ∧ Fly O F w F' w' := by
  obtain ⟨r, hr⟩ : ∃ r, alongR M t n n i l = r := ⟨_, rfl⟩
  rw [hr]
  have hb0 : Below w.heap.size w (w.alloc (.cells #[.int .u64 0, .int .u32 0, .int .u16 0, .int .u16 0] 92)) := (Below.refl _ _).alloc (Nat.le_refl _) _
  have A0 : Hid (AlS rb wb M Inv O F w (w.alloc (.cells #[.int .u64 0, .int .u32 0, .int .u16 0, .int .u16 0] 92)) t n i l 0 i l F (w.alloc (.cells #[.int .u64 0, .int .u32 0, .int .u16 0, .int .u16 0] 92))) := ⟨rfl, h.box m hb0 (Nat.le_refl _) (by simp), Fly.refl _ _ _, heap_alloc_new _ _, fun hf => by have := m.lt F w h.1 _ hf; omega, by omega⟩
  have HF0 : Hid (Fly O F w F (w.alloc (.cells #[.int .u64 0, .int .u32 0, .int .u16 0, .int .u16 0] 92))) := Fly.of_below hb0 h.old
  have HR : Hid (alongR M t n n i l = r) := hr
  have HOO : Hid (∀ k, O k → k < w.heap.size) := h.old
  have HMD : Hid ((∀ a, M a ≤ 255) ∧ DescOk rb M Inv t n) := ⟨hM, hD⟩
  clear hr hb0 h hM hD hl
  go_enter Try.func35, Try.ntmps35
  go_upto_region 1 with fail
  generalize w.alloc (.cells #[.int .u64 0, .int .u32 0, .int .u16 0, .int .u16 0] 92) = w1 at *
  go_wp2_with fail
  go_loopw [3, 10] (fun v3 v10 wr => ∃ (k : Nat) (i' : Int) (l' : List Seg) (F' : Nat → Prop), v3 = .int .i64 i' ∧ v10 = .int .i64 (k : Int) ∧ k ≤ n ∧ AlS rb wb M Inv O F w w1 t n i l k i' l' F' wr) (fun _ v10 _ => n - (intOf v10).toNat)
  case atStart => exact ⟨0, i, l, F, rfl, rfl, Nat.zero_le _, A0.out⟩
  case round =>
    obtain ⟨k, i', l', F', rfl, rfl, hk, ha⟩ := hrel
    have A1 : Hid (AlS rb wb M Inv O F w w1 t n i l k i' l' F' wr) := ha
    clear ha A0
    by_cases hi : 0 ≤ i' ∧ i' < (n : Int)
    case neg =>
      have HRR : Hid (r = ⟨151, De.zero, l'⟩) := by
        show r = _
        rw [← HR.out, A1.out.1]
        exact along_out hi
      by_cases h1 : i' < 0
      · clear hi
        go_upto_region 4 with fail
        refine wp_region_list ?_
        (refine wpList_step (fun KK hKK => ?_); go_simp; refine hKK _ _ ?_; clear hKK KK)
        refine wpList_store_row rfl 92 _ _ rfl w.heap.size #[.int .u64 0, .int .u32 0, .int .u16 0, .int .u16 0] rfl rfl 92 #[.int .u64 0, .int .u32 0, .int .u16 0, .int .u16 0] A1.out.2.2.2.1 info47 rfl (by simp [Value.oneCell']) ?_
        have Y := (A1.out).ret m HOO.out #[.int .u64 0, .int .u32 0, .int .u16 0, .int .u16 0]
        have HY : Hid (Wd Inv O F' (wr.setRow w.heap.size #[.int .u64 0, .int .u32 0, .int .u16 0, .int .u16 0]) rb wb l' ∧ Fly O F w1 F' (wr.setRow w.heap.size #[.int .u64 0, .int .u32 0, .int .u16 0, .int .u16 0]) ∧ (wr.setRow w.heap.size #[.int .u64 0, .int .u32 0, .int .u16 0, .int .u16 0]).heap[w.heap.size]? = some (.cells #[.int .u64 0, .int .u32 0, .int .u16 0, .int .u16 0] 92 (0, 0))) := Y
        clear Y
        generalize wr.setRow w.heap.size #[.int .u64 0, .int .u32 0, .int .u16 0, .int .u16 0] = w9 at *
        obtain ⟨c0, c1, c2, c3⟩ := box4_facts HY.out.2.2
        go_wp2_with fail
        refine bodyPost_ret (v := .tuple #[.agg #[.int .u64 0, .int .u32 0, .int .u16 0, .int .u16 0], .int .i64 151]) (by simp [results, Try.results35, go_sem, c0, c1, c2, c3]) rfl ?_
        rw [HRR.out]
        exact ⟨rfl, F', HY.out.1, HF0.out.trans HY.out.2.1⟩
      · have h2 : (n : Int) ≤ i' := by omega
        clear hi
        go_upto_region 4 with fail
        refine wp_region_list ?_
        (refine wpList_step (fun KK hKK => ?_); go_simp; refine hKK _ _ ?_; clear hKK KK)
        refine wpList_store_row rfl 92 _ _ rfl w.heap.size #[.int .u64 0, .int .u32 0, .int .u16 0, .int .u16 0] rfl rfl 92 #[.int .u64 0, .int .u32 0, .int .u16 0, .int .u16 0] A1.out.2.2.2.1 info47 rfl (by simp [Value.oneCell']) ?_
        have Y := (A1.out).ret m HOO.out #[.int .u64 0, .int .u32 0, .int .u16 0, .int .u16 0]
        have HY : Hid (Wd Inv O F' (wr.setRow w.heap.size #[.int .u64 0, .int .u32 0, .int .u16 0, .int .u16 0]) rb wb l' ∧ Fly O F w1 F' (wr.setRow w.heap.size #[.int .u64 0, .int .u32 0, .int .u16 0, .int .u16 0]) ∧ (wr.setRow w.heap.size #[.int .u64 0, .int .u32 0, .int .u16 0, .int .u16 0]).heap[w.heap.size]? = some (.cells #[.int .u64 0, .int .u32 0, .int .u16 0, .int .u16 0] 92 (0, 0))) := Y
        clear Y
        generalize wr.setRow w.heap.size #[.int .u64 0, .int .u32 0, .int .u16 0, .int .u16 0] = w9 at *
        obtain ⟨c0, c1, c2, c3⟩ := box4_facts HY.out.2.2
        go_wp2_with fail
        refine bodyPost_ret (v := .tuple #[.agg #[.int .u64 0, .int .u32 0, .int .u16 0, .int .u16 0], .int .i64 151]) (by simp [results, Try.results35, go_sem, c0, c1, c2, c3]) rfl ?_
        rw [HRR.out]
        exact ⟨rfl, F', HY.out.1, HF0.out.trans HY.out.2.1⟩
    obtain ⟨j, hj⟩ : ∃ j : Nat, i' = j := ⟨i'.toNat, by omega⟩
    subst hj
    have h1 : ¬ (j : Int) < 0 := by omega
    have h2 : ¬ (n : Int) ≤ (j : Int) := by omega
    have hjn : j < n := by omega
    clear hi
    by_cases hkn : k = n
    case pos =>
      have HRR : Hid (r = ⟨152, De.zero, l'⟩) := by
        show r = _
        rw [← HR.out, A1.out.1, hkn, Nat.sub_self]
        exact along_loop (by omega)
      have h3 : (n : Int) ≤ (k : Int) := by omega
      clear hkn
      go_upto_region 6 with fail
      refine wp_region_list ?_
      (refine wpList_step (fun KK hKK => ?_); go_simp; refine hKK _ _ ?_; clear hKK KK)
      refine wpList_store_row rfl 92 _ _ rfl w.heap.size #[.int .u64 0, .int .u32 0, .int .u16 0, .int .u16 0] rfl rfl 92 #[.int .u64 0, .int .u32 0, .int .u16 0, .int .u16 0] A1.out.2.2.2.1 info47 rfl (by simp [Value.oneCell']) ?_
      have Y := (A1.out).ret m HOO.out #[.int .u64 0, .int .u32 0, .int .u16 0, .int .u16 0]
      have HY : Hid (Wd Inv O F' (wr.setRow w.heap.size #[.int .u64 0, .int .u32 0, .int .u16 0, .int .u16 0]) rb wb l' ∧ Fly O F w1 F' (wr.setRow w.heap.size #[.int .u64 0, .int .u32 0, .int .u16 0, .int .u16 0]) ∧ (wr.setRow w.heap.size #[.int .u64 0, .int .u32 0, .int .u16 0, .int .u16 0]).heap[w.heap.size]? = some (.cells #[.int .u64 0, .int .u32 0, .int .u16 0, .int .u16 0] 92 (0, 0))) := Y
      clear Y
      generalize wr.setRow w.heap.size #[.int .u64 0, .int .u32 0, .int .u16 0, .int .u16 0] = w9 at *
      obtain ⟨c0, c1, c2, c3⟩ := box4_facts HY.out.2.2
      go_wp2_with fail
      refine bodyPost_ret (v := .tuple #[.agg #[.int .u64 0, .int .u32 0, .int .u16 0, .int .u16 0], .int .i64 152]) (by simp [results, Try.results35, go_sem, c0, c1, c2, c3]) rfl ?_
      rw [HRR.out]
      exact ⟨rfl, F', HY.out.1, HF0.out.trans HY.out.2.1⟩
    have h3 : ¬ (n : Int) ≤ (k : Int) := by omega
    obtain ⟨q, hq⟩ : ∃ q, n - k = q + 1 := ⟨n - k - 1, by omega⟩
    have A1' : Hid (AlS rb wb M Inv O F w w1 t n i l k (j : Int) l' F' wr ∧ n - k = q + 1) := ⟨A1.out, hq⟩
    clear A1 hq
    have p0 : wr.cell? ⟨wb, 0, none⟩ = some (.pointer (some ⟨rb, 0, none⟩)) := by
      obtain ⟨a, c, hwb, _⟩ := A1'.out.1.2.1.boxes
      exact cellOf hwb 0 _ rfl
    obtain ⟨⟨da, dl, df, dx⟩, hde⟩ : ∃ d, deN M t j = d := ⟨_, rfl⟩
    obtain ⟨ok, hok⟩ : ∃ ok, deB t j = ok := ⟨_, rfl⟩
    have HO : Hid (deN M t j = ⟨da, dl, df, dx⟩ ∧ deB t j = ok ∧ (De.mk da dl df dx).Ok) := ⟨hde, hok, hde ▸ deN_ok HMD.out.1 t j⟩
    have hf : df ≤ 65535 := HO.out.2.2.f
    have hx5 : dx ≤ 65535 := HO.out.2.2.x
    have hdc := HMD.out.2 F' wr j hjn A1'.out.1.2.1.1
    rw [hde, hok] at hdc
    have HDD : Hid (_root_.True ∧ Calls Try.prog 58 #[.pointer (some ⟨rb, 0, none⟩), .int .u64 (t : Int), .int .i64 (j : Int)] wr fun e w' => e = .returned (.tuple #[.agg #[.int .u64 (da : Int), .int .u32 (dl : Int), .int .u16 (df : Int), .int .u16 (dx : Int)], .bool ok]) ∧ ∃ F2, Inv F2 w' ∧ Step F' wr F2 w') := ⟨trivial, hdc⟩
    clear hdc hde hok
    go_upto_region 7 with fail
    go_upto_region 8 with (go_at_call 58; refine (HDD.out.2).mono ?_; rintro e w2 ⟨rfl, F2, hi2, hs2⟩; have A2 : Hid (AlS rb wb M Inv O F w w1 t n i l k (j : Int) l' F2 w2 ∧ n - k = q + 1) := ⟨A1'.out.1.told hi2 hs2, A1'.out.2⟩; clear hi2 hs2 HDD)
    clear A1' p0
    have hb3 : Below w2.heap.size w2 (w2.alloc (.cells #[.int .u64 (da : Int), .int .u32 (dl : Int), .int .u16 (df : Int), .int .u16 (dx : Int)] 92)) := (Below.refl _ _).alloc (Nat.le_refl _) _
    have A3 : Hid (Al2 rb wb M Inv O F w w1 t n i l k (j : Int) l' F2 (w2.alloc (.cells #[.int .u64 (da : Int), .int .u32 (dl : Int), .int .u16 (df : Int), .int .u16 (dx : Int)] 92)) w2.heap.size da dl df dx) := ⟨A2.out.1.below m hb3, heap_alloc_new _ _, A2.out.1.2.1.box m hb3 (Nat.le_refl _) (by simp), fun hf => by have := m.lt F2 w2 A2.out.1.2.1.1 _ hf; omega⟩
    have HQ : Hid (n - k = q + 1) := A2.out.2
    clear hb3 A2
    generalize w2.alloc (.cells #[.int .u64 (da : Int), .int .u32 (dl : Int), .int .u16 (df : Int), .int .u16 (dx : Int)] 92) = w3 at *
    generalize w2.heap.size = p at *
    cases ok with
    | false =>
      have HRR : Hid (r = ⟨21, De.zero, l'⟩) := by
        show r = _
        rw [← HR.out, A3.out.1.1, HQ.out]
        exact along_not hjn HO.out.2.1
      go_upto_region 9 with fail
      refine wp_region_list ?_
      (refine wpList_step (fun KK hKK => ?_); go_simp; refine hKK _ _ ?_; clear hKK KK)
      refine wpList_store_row rfl 92 _ _ rfl w.heap.size #[.int .u64 0, .int .u32 0, .int .u16 0, .int .u16 0] rfl rfl 92 #[.int .u64 0, .int .u32 0, .int .u16 0, .int .u16 0] A3.out.1.2.2.2.1 info47 rfl (by simp [Value.oneCell']) ?_
      have Y := (A3.out.to3).ret m HOO.out #[.int .u64 0, .int .u32 0, .int .u16 0, .int .u16 0]
      have HY : Hid (Wd Inv O F2 (w3.setRow w.heap.size #[.int .u64 0, .int .u32 0, .int .u16 0, .int .u16 0]) rb wb l' ∧ Fly O F w1 F2 (w3.setRow w.heap.size #[.int .u64 0, .int .u32 0, .int .u16 0, .int .u16 0]) ∧ (w3.setRow w.heap.size #[.int .u64 0, .int .u32 0, .int .u16 0, .int .u16 0]).heap[w.heap.size]? = some (.cells #[.int .u64 0, .int .u32 0, .int .u16 0, .int .u16 0] 92 (0, 0))) := Y
      clear Y
      generalize w3.setRow w.heap.size #[.int .u64 0, .int .u32 0, .int .u16 0, .int .u16 0] = w9 at *
      obtain ⟨c0, c1, c2, c3⟩ := box4_facts HY.out.2.2
      go_wp2_with fail
      refine bodyPost_ret (v := .tuple #[.agg #[.int .u64 0, .int .u32 0, .int .u16 0, .int .u16 0], .int .i64 21]) (by simp [results, Try.results35, go_sem, c0, c1, c2, c3]) rfl ?_
      rw [HRR.out]
      exact ⟨rfl, F2, HY.out.1, HF0.out.trans HY.out.2.1⟩
    | true =>
      obtain ⟨f4, hf4⟩ : ∃ b, fl df 4 = b := ⟨_, rfl⟩
      have H4 : Hid (∀ V, Calls Try.prog 36 #[.agg #[.int .u64 (da : Int), .int .u32 (dl : Int), .int .u16 (df : Int), .int .u16 (dx : Int)], .int .u16 4] V fun e w' => e = .returned (.bool f4) ∧ Below V.heap.size V w') := by
        intro V; rw [← hf4]; exact hasf4 da dl df dx hf V
      have HF4 : Hid (fl df 4 = f4) := hf4
      clear hf4
      obtain ⟨d0, d1, d2, d3⟩ := box4_facts A3.out.2.1
      cases f4 with
      | true =>
        have HRR : Hid (r = ⟨0, ⟨da, dl, df, dx⟩, l'⟩) := by
          show r = _
          rw [← HR.out, A3.out.1.1, HQ.out]
          exact along_ind hjn HO.out.2.1 HO.out.1 HF4.out
        go_upto_region 11 with (go_at_call 36; refine (H4.out _).mono ?_; rintro e w4 ⟨rfl, hb4⟩; have A4 : Hid (Al2 rb wb M Inv O F w w1 t n i l k (j : Int) l' F2 w4 p da dl df dx) := A3.out.below m hb4; clear hb4 A3 d0 d1 d2 d3; obtain ⟨d0, d1, d2, d3⟩ := box4_facts A4.out.2.1)
        go_upto_region 11 with fail
        refine wp_region_list ?_
        (refine wpList_step (fun KK hKK => ?_); go_simp; refine hKK _ _ ?_; clear hKK KK)
        refine wpList_store_row rfl 92 _ _ rfl w.heap.size #[.int .u64 (da : Int), .int .u32 (dl : Int), .int .u16 (df : Int), .int .u16 (dx : Int)] rfl rfl 92 #[.int .u64 0, .int .u32 0, .int .u16 0, .int .u16 0] A4.out.1.2.2.2.1 info47 rfl (by simp [Value.oneCell']) ?_
        have Y := (A4.out.to3).ret m HOO.out #[.int .u64 (da : Int), .int .u32 (dl : Int), .int .u16 (df : Int), .int .u16 (dx : Int)]
        have HY : Hid (Wd Inv O F2 (w4.setRow w.heap.size #[.int .u64 (da : Int), .int .u32 (dl : Int), .int .u16 (df : Int), .int .u16 (dx : Int)]) rb wb l' ∧ Fly O F w1 F2 (w4.setRow w.heap.size #[.int .u64 (da : Int), .int .u32 (dl : Int), .int .u16 (df : Int), .int .u16 (dx : Int)]) ∧ (w4.setRow w.heap.size #[.int .u64 (da : Int), .int .u32 (dl : Int), .int .u16 (df : Int), .int .u16 (dx : Int)]).heap[w.heap.size]? = some (.cells #[.int .u64 (da : Int), .int .u32 (dl : Int), .int .u16 (df : Int), .int .u16 (dx : Int)] 92 (0, 0))) := Y
        clear Y
        generalize w4.setRow w.heap.size #[.int .u64 (da : Int), .int .u32 (dl : Int), .int .u16 (df : Int), .int .u16 (dx : Int)] = w9 at *
        obtain ⟨c0, c1, c2, c3⟩ := box4_facts HY.out.2.2
        go_wp2_with fail
        refine bodyPost_ret (v := .tuple #[.agg #[.int .u64 (da : Int), .int .u32 (dl : Int), .int .u16 (df : Int), .int .u16 (dx : Int)], .int .i64 0]) (by simp [results, Try.results35, go_sem, c0, c1, c2, c3]) rfl ?_
        rw [HRR.out]
        exact ⟨rfl, F2, HY.out.1, HF0.out.trans HY.out.2.1⟩
      | false =>
        by_cases hz : addE l' ⟨da, dl, df, dx⟩ = 0
        case neg =>
          obtain ⟨ae, hae⟩ : ∃ ae, addE l' ⟨da, dl, df, dx⟩ = ae := ⟨_, rfl⟩
          rw [hae] at hz
          have HRR : Hid (r = ⟨ae, De.zero, l'⟩) := by
            show r = _
            rw [← HR.out, A3.out.1.1, HQ.out]
            exact along_err hjn HO.out.2.1 HO.out.1 HF4.out hae hz
          have H59 : Hid (∀ V, Wd Inv (fun z => (O z ∨ z = w.heap.size) ∨ z = p) F2 V rb wb l' → Calls Try.prog 59 #[.pointer (some ⟨wb, 0, none⟩), .agg #[.int .u64 (da : Int), .int .u32 (dl : Int), .int .u16 (df : Int), .int .u16 (dx : Int)]] V fun e w' => e = .returned (.int .i64 (ae : Int)) ∧ Wd Inv (fun z => (O z ∨ z = w.heap.size) ∨ z = p) F2 w' rb wb l' ∧ Fly (fun z => (O z ∨ z = w.heap.size) ∨ z = p) F2 V F2 w') := by
            intro V hV
            have := seg_any m hV da dl df dx HO.out.2.2 (by have := A3.out.1.2.2.2.2.2; omega)
            rw [hae, if_neg hz] at this
            exact this
          have hz1 : ((ae : Int) != 0) = true := by simp; omega
          have hz2 : ¬ (ae : Int) = 0 := by omega
          clear hz hae
          go_upto_region 14 with (first | (go_at_call 36; refine (H4.out _).mono ?_; rintro e w4 ⟨rfl, hb4⟩; have A4 : Hid (Al2 rb wb M Inv O F w w1 t n i l k (j : Int) l' F2 w4 p da dl df dx) := A3.out.below m hb4; clear hb4 A3 d0 d1 d2 d3; obtain ⟨d0, d1, d2, d3⟩ := box4_facts A4.out.2.1) | (go_at_call 59; refine (H59.out _ A4.out.2.2.1).mono ?_; rintro e w5 ⟨rfl, hw5, hy5⟩; have A5 : Hid (Al2 rb wb M Inv O F w w1 t n i l k (j : Int) l' F2 w5 p da dl df dx) := A4.out.flew hw5 hy5 A4.out.1.1 A4.out.1.2.2.2.2.2; clear hw5 hy5 A4 d0 d1 d2 d3; obtain ⟨d0, d1, d2, d3⟩ := box4_facts A5.out.2.1))
          go_upto_region 14 with fail
          refine wp_region_list ?_
          (refine wpList_step (fun KK hKK => ?_); go_simp; refine hKK _ _ ?_; clear hKK KK)
          (refine wpList_step (fun KK hKK => ?_); go_simp; refine hKK _ _ ?_; clear hKK KK)
          refine wpList_store_row rfl 92 _ _ rfl w.heap.size #[.int .u64 0, .int .u32 0, .int .u16 0, .int .u16 0] rfl rfl 92 #[.int .u64 0, .int .u32 0, .int .u16 0, .int .u16 0] A5.out.1.2.2.2.1 info47 rfl (by simp [Value.oneCell']) ?_
          have Y := (A5.out.to3).ret m HOO.out #[.int .u64 0, .int .u32 0, .int .u16 0, .int .u16 0]
          have HY : Hid (Wd Inv O F2 (w5.setRow w.heap.size #[.int .u64 0, .int .u32 0, .int .u16 0, .int .u16 0]) rb wb l' ∧ Fly O F w1 F2 (w5.setRow w.heap.size #[.int .u64 0, .int .u32 0, .int .u16 0, .int .u16 0]) ∧ (w5.setRow w.heap.size #[.int .u64 0, .int .u32 0, .int .u16 0, .int .u16 0]).heap[w.heap.size]? = some (.cells #[.int .u64 0, .int .u32 0, .int .u16 0, .int .u16 0] 92 (0, 0))) := Y
          clear Y
          generalize w5.setRow w.heap.size #[.int .u64 0, .int .u32 0, .int .u16 0, .int .u16 0] = w9 at *
          obtain ⟨c0, c1, c2, c3⟩ := box4_facts HY.out.2.2
          go_wp2_with fail
          refine bodyPost_ret (v := .tuple #[.agg #[.int .u64 0, .int .u32 0, .int .u16 0, .int .u16 0], .int .i64 (ae : Int)]) (by simp [results, Try.results35, go_sem, c0, c1, c2, c3]) rfl ?_
          rw [HRR.out]
          exact ⟨rfl, F2, HY.out.1, HF0.out.trans HY.out.2.1⟩
        case pos =>
          have H59 : Hid (∀ V, Wd Inv (fun z => (O z ∨ z = w.heap.size) ∨ z = p) F2 V rb wb l' → Calls Try.prog 59 #[.pointer (some ⟨wb, 0, none⟩), .agg #[.int .u64 (da : Int), .int .u32 (dl : Int), .int .u16 (df : Int), .int .u16 (dx : Int)]] V fun e w' => e = .returned (.int .i64 0) ∧ Wd Inv (fun z => (O z ∨ z = w.heap.size) ∨ z = p) F2 w' rb wb (l' ++ [⟨da, dl, fl df 2⟩]) ∧ Fly (fun z => (O z ∨ z = w.heap.size) ∨ z = p) F2 V F2 w') := by
            intro V hV
            have := seg_any m hV da dl df dx HO.out.2.2 (by have := A3.out.1.2.2.2.2.2; omega)
            rw [hz, if_pos rfl] at this
            exact this
          obtain ⟨f1, hf1⟩ : ∃ b, fl df 1 = b := ⟨_, rfl⟩
          have H1 : Hid (∀ V, Calls Try.prog 36 #[.agg #[.int .u64 (da : Int), .int .u32 (dl : Int), .int .u16 (df : Int), .int .u16 (dx : Int)], .int .u16 1] V fun e w' => e = .returned (.bool f1) ∧ Below V.heap.size V w') := by
            intro V; rw [← hf1]; exact hasf1 da dl df dx hf V
          have HF1 : Hid (fl df 1 = f1 ∧ addE l' ⟨da, dl, df, dx⟩ = 0) := ⟨hf1, hz⟩
          clear hf1 hz
          go_upto_region 15 with (first | (go_at_call 36; refine (H4.out _).mono ?_; rintro e w4 ⟨rfl, hb4⟩; have A4 : Hid (Al2 rb wb M Inv O F w w1 t n i l k (j : Int) l' F2 w4 p da dl df dx) := A3.out.below m hb4; clear hb4 A3 d0 d1 d2 d3; obtain ⟨d0, d1, d2, d3⟩ := box4_facts A4.out.2.1) | (go_at_call 59; refine (H59.out _ A4.out.2.2.1).mono ?_; rintro e w5 ⟨rfl, hw5, hy5⟩))
          cases f1 with
          | false =>
            have HRR : Hid (r = ⟨0, ⟨da, dl, df, dx⟩, l' ++ [⟨da, dl, fl df 2⟩]⟩) := by
              show r = _
              rw [← HR.out, A4.out.1.1, HQ.out]
              exact along_end hjn HO.out.2.1 HO.out.1 HF4.out HF1.out.2 HF1.out.1
            have A5 : Hid (Al3 rb wb Inv O F w w1 (l' ++ [⟨da, dl, fl df 2⟩]) F2 w5 p da dl df dx) := A4.out.flew3 hw5 hy5
            clear hw5 hy5 A4 d0 d1 d2 d3
            obtain ⟨d0, d1, d2, d3⟩ := box4_facts A5.out.2
            go_upto_region 16 with (go_at_call 36; refine (H1.out _).mono ?_; rintro e w6 ⟨rfl, hb6⟩; have A6 : Hid (Al3 rb wb Inv O F w w1 (l' ++ [⟨da, dl, fl df 2⟩]) F2 w6 p da dl df dx) := A5.out.below m hb6; clear hb6 A5 d0 d1 d2 d3; obtain ⟨d0, d1, d2, d3⟩ := box4_facts A6.out.2)
            go_upto_region 16 with fail
            refine wp_region_list ?_
            (refine wpList_step (fun KK hKK => ?_); go_simp; refine hKK _ _ ?_; clear hKK KK)
            refine wpList_store_row rfl 92 _ _ rfl w.heap.size #[.int .u64 (da : Int), .int .u32 (dl : Int), .int .u16 (df : Int), .int .u16 (dx : Int)] rfl rfl 92 #[.int .u64 0, .int .u32 0, .int .u16 0, .int .u16 0] A6.out.1.2.2.2.1 info47 rfl (by simp [Value.oneCell']) ?_
            have Y := (A6.out).ret m HOO.out #[.int .u64 (da : Int), .int .u32 (dl : Int), .int .u16 (df : Int), .int .u16 (dx : Int)]
            have HY : Hid (Wd Inv O F2 (w6.setRow w.heap.size #[.int .u64 (da : Int), .int .u32 (dl : Int), .int .u16 (df : Int), .int .u16 (dx : Int)]) rb wb (l' ++ [⟨da, dl, fl df 2⟩]) ∧ Fly O F w1 F2 (w6.setRow w.heap.size #[.int .u64 (da : Int), .int .u32 (dl : Int), .int .u16 (df : Int), .int .u16 (dx : Int)]) ∧ (w6.setRow w.heap.size #[.int .u64 (da : Int), .int .u32 (dl : Int), .int .u16 (df : Int), .int .u16 (dx : Int)]).heap[w.heap.size]? = some (.cells #[.int .u64 (da : Int), .int .u32 (dl : Int), .int .u16 (df : Int), .int .u16 (dx : Int)] 92 (0, 0))) := Y
            clear Y
            generalize w6.setRow w.heap.size #[.int .u64 (da : Int), .int .u32 (dl : Int), .int .u16 (df : Int), .int .u16 (dx : Int)] = w9 at *
            obtain ⟨c0, c1, c2, c3⟩ := box4_facts HY.out.2.2
            go_wp2_with fail
            refine bodyPost_ret (v := .tuple #[.agg #[.int .u64 (da : Int), .int .u32 (dl : Int), .int .u16 (df : Int), .int .u16 (dx : Int)], .int .i64 0]) (by simp [results, Try.results35, go_sem, c0, c1, c2, c3]) rfl ?_
            rw [HRR.out]
            exact ⟨rfl, F2, HY.out.1, HF0.out.trans HY.out.2.1⟩
          | true =>
            have A5 : Hid (Al2 rb wb M Inv O F w w1 t n i l (k + 1) (dx : Int) (l' ++ [⟨da, dl, fl df 2⟩]) F2 w5 p da dl df dx) := A4.out.flew hw5 hy5 (by
              rw [A4.out.1.1, HQ.out, show n - (k + 1) = q from by have := HQ.out; omega]
              exact along_next hjn HO.out.2.1 HO.out.1 HF4.out HF1.out.2 HF1.out.1) (by have := A4.out.1.2.2.2.2.2; simp; omega)
            clear hw5 hy5 A4 d0 d1 d2 d3
            obtain ⟨d0, d1, d2, d3⟩ := box4_facts A5.out.2.1
            have e3 : IntKind.i64.wrap (dx : Int) = (dx : Int) := wrapi dx (by omega)
            go_wp2_with (go_at_call 36; refine (H1.out _).mono ?_; rintro e w6 ⟨rfl, hb6⟩; have A6 : Hid (Al2 rb wb M Inv O F w w1 t n i l (k + 1) (dx : Int) (l' ++ [⟨da, dl, fl df 2⟩]) F2 w6 p da dl df dx) := A5.out.below m hb6; clear hb6 A5 d0 d1 d2 d3; obtain ⟨d0, d1, d2, d3⟩ := box4_facts A6.out.2.1)
            go_roundw
            case rel => exact ⟨k + 1, (dx : Int), l' ++ [⟨da, dl, fl df 2⟩], F2, rfl, by go_num, by omega, A6.out.1⟩
            case measure => simp [intOf]; omega
end Go.Proofs.Ytcgjfklglckjcaa
