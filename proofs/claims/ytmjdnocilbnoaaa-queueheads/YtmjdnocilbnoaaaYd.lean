/- Texts put together. -/
import Derived.Test.YtmjdnocilbnoaaaYc
import Derived.Deep.Upon
import Derived.Laws.StructEq
/- A walk along one table. -/
namespace Go.Proofs.Ytmjdnocilbnoaaa
open Go.RowKit Go.Maps
set_option linter.unusedVariables false
set_option linter.unusedSimpArgs false
set_option maxRecDepth 100000
theorem wrapi (y : Nat) (h : y < 9223372036854775808) : IntKind.i64.wrap (y : Int) = (y : Int) := by
  simp [IntKind.wrap, IntKind.signed, IntKind.bits]
  omega
/-- what Desc tells of the descriptors of one table -/
def DescOk (rb : Nat) (M : Nat → Nat) (Inv : (Nat → Prop) → World → Prop) (t n : Nat) : Prop := ∀ (F : Nat → Prop) (w : World) (i : Nat), i < n → Inv F w → Calls Try.prog 98 #[.pointer (some ⟨rb, 0, none⟩), .int .u64 (t : Int), .int .i64 (i : Int)] w fun e w' => e = .returned (.tuple #[.agg #[.int .u64 ((deN M t i).a : Int), .int .u32 ((deN M t i).l : Int), .int .u16 ((deN M t i).f : Int), .int .u16 ((deN M t i).x : Int)], .bool (deB t i)]) ∧ ∃ F', Inv F' w' ∧ Step F w F' w'
def AlS (rb wb : Nat) (M : Nat → Nat) (Inv : (Nat → Prop) → World → Prop) (O F : Nat → Prop) (w w1 : World) (t n : Nat) (i : Int) (l : List Seg) (k : Nat) (i' : Int) (l' : List Seg) (F' : Nat → Prop) (V : World) : Prop := alongR M t n n i l = alongR M t n (n - k) i' l' ∧ Wd Inv (fun k => O k ∨ k = w.heap.size) F' V rb wb l' ∧ Fly (fun k => O k ∨ k = w.heap.size) F w1 F' V ∧ V.heap[w.heap.size]? = some (.cells #[.int .u64 0, .int .u32 0, .int .u16 0, .int .u16 0] 151 (0, 0)) ∧ ¬ F' w.heap.size ∧ l'.length ≤ 300 + k
theorem AlS.told {rb wb : Nat} {M : Nat → Nat} {Inv : (Nat → Prop) → World → Prop} {O F : Nat → Prop} {w w1 : World} {t n : Nat} {i : Int} {l : List Seg} {k : Nat} {i' : Int} {l' : List Seg} {F' F2 : Nat → Prop} {V V2 : World} (h : AlS rb wb M Inv O F w w1 t n i l k i' l' F' V) (hi : Inv F2 V2) (hs : Step F' V F2 V2) : AlS rb wb M Inv O F w w1 t n i l k i' l' F2 V2 := by
  obtain ⟨h1, h2, h3, h4, h5, h6⟩ := h
  have hlt : w.heap.size < V.heap.size := (Array.getElem?_eq_some_iff.1 h4).1
  refine ⟨h1, h2.told hi hs, h3.trans (Fly.of_step hs h2.old), (hs.block _ hlt h5).trans h4, fun hf => ?_, h6⟩
  rcases hs.old _ hf with h | h
  · exact h5 h
  · omega
theorem AlS.below {rb wb : Nat} {M : Nat → Nat} {Inv : (Nat → Prop) → World → Prop} {O F : Nat → Prop} {w w1 : World} {t n : Nat} {i : Int} {l : List Seg} {k : Nat} {i' : Int} {l' : List Seg} {F' : Nat → Prop} {V V2 : World} (m : Wm rb M Inv) (h : AlS rb wb M Inv O F w w1 t n i l k i' l' F' V) (hb : Below V.heap.size V V2) : AlS rb wb M Inv O F w w1 t n i l k i' l' F' V2 := h.told (m.below h.2.1.1 hb) (Step.of_below hb)
theorem AlS.ret {rb wb : Nat} {M : Nat → Nat} {Inv : (Nat → Prop) → World → Prop} {O F : Nat → Prop} {w w1 : World} {t n : Nat} {i : Int} {l : List Seg} {k : Nat} {i' : Int} {l' : List Seg} {F' : Nat → Prop} {V : World} (m : Wm rb M Inv) (hO : ∀ k, O k → k < w.heap.size) (h : AlS rb wb M Inv O F w w1 t n i l k i' l' F' V) (c : Array Value) : Wd Inv O F' (V.setRow w.heap.size c) rb wb l' ∧ Fly O F w1 F' (V.setRow w.heap.size c) ∧ (V.setRow w.heap.size c).heap[w.heap.size]? = some (.cells c 151 (0, 0)) := by
  obtain ⟨h1, h2, h3, h4, h5, h6⟩ := h
  have hsz : (V.setRow w.heap.size c).heap.size = V.heap.size := by simp [World.setRow]
  have hst : Step (fun k => k = w.heap.size) V (fun k => k = w.heap.size) (V.setRow w.heap.size c) := ⟨rfl, rfl, rfl, by omega, fun k _ hk => setRow_other _ _ _ _ hk, fun _ h => .inl h, fun _ h => h⟩
  obtain ⟨k1, k2, k3, v, k4, k5, k6⟩ := h2
  refine ⟨⟨m.step F' V _ _ _ k1 hst (fun k hk e => h5 (e ▸ hk)), ⟨fun k hk => by rw [hsz]; exact k2.1 k (.inl hk), fun hk => k2.2 (.inl hk)⟩, k3, v, (setRow_other _ _ _ _ (fun e => k2.2 (.inr e))).trans k4, k5.kept (fun g hg => setRow_other _ _ _ _ (fun e => (k6 g hg).2.2 (.inr e))), fun g hg => ⟨(k6 g hg).1, (k6 g hg).2.1, fun hk => (k6 g hg).2.2 (.inl hk)⟩⟩, (h3.mono (fun k hk => .inl hk)).trans ⟨rfl, rfl, rfl, by omega, fun k hk _ => setRow_other _ _ _ _ (fun e => by have := hO k hk; omega), fun _ h => .inl h, fun _ h => h⟩, setRow_heap _ _ _ _ _ _ h4⟩
def Al3 (rb wb : Nat) (Inv : (Nat → Prop) → World → Prop) (O F : Nat → Prop) (w w1 : World) (l' : List Seg) (F' : Nat → Prop) (V : World) (p da dl df dx : Nat) : Prop :=
  (True ∧ Wd Inv (fun k => O k ∨ k = w.heap.size) F' V rb wb l' ∧ Fly (fun k => O k ∨ k = w.heap.size) F w1 F' V ∧ V.heap[w.heap.size]? = some (.cells #[.int .u64 0, .int .u32 0, .int .u16 0, .int .u16 0] 151 (0, 0)) ∧ ¬ F' w.heap.size) ∧ V.heap[p]? = some (.cells #[.int .u64 (da : Int), .int .u32 (dl : Int), .int .u16 (df : Int), .int .u16 (dx : Int)] 151 (0, 0))
def Al2 (rb wb : Nat) (M : Nat → Nat) (Inv : (Nat → Prop) → World → Prop) (O F : Nat → Prop) (w w1 : World) (t n : Nat) (i : Int) (l : List Seg) (k : Nat) (i' : Int) (l' : List Seg) (F' : Nat → Prop) (V : World) (p da dl df dx : Nat) : Prop :=
  AlS rb wb M Inv O F w w1 t n i l k i' l' F' V ∧ V.heap[p]? = some (.cells #[.int .u64 (da : Int), .int .u32 (dl : Int), .int .u16 (df : Int), .int .u16 (dx : Int)] 151 (0, 0)) ∧ Wd Inv (fun z => (O z ∨ z = w.heap.size) ∨ z = p) F' V rb wb l' ∧ ¬ F' p
section
variable {rb wb : Nat} {M : Nat → Nat} {Inv : (Nat → Prop) → World → Prop} {O F : Nat → Prop} {w w1 : World} {t n : Nat} {i : Int} {l : List Seg} {k k' : Nat} {i' i2 : Int} {l' l2 : List Seg} {F' : Nat → Prop} {V V2 : World} {p da dl df dx : Nat}
theorem Al2.below (m : Wm rb M Inv) (h : Al2 rb wb M Inv O F w w1 t n i l k i' l' F' V p da dl df dx) (hb : Below V.heap.size V V2) : Al2 rb wb M Inv O F w w1 t n i l k i' l' F' V2 p da dl df dx := ⟨h.1.below m hb, below_box h.2.1 hb, h.2.2.1.below m hb, h.2.2.2⟩
theorem Al2.flew (h : Al2 rb wb M Inv O F w w1 t n i l k i' l' F' V p da dl df dx) (hw : Wd Inv (fun z => (O z ∨ z = w.heap.size) ∨ z = p) F' V2 rb wb l2) (hf : Fly (fun z => (O z ∨ z = w.heap.size) ∨ z = p) F' V F' V2) (he : alongR M t n n i l = alongR M t n (n - k') i2 l2) (hl : l2.length ≤ 300 + k') : Al2 rb wb M Inv O F w w1 t n i l k' i2 l2 F' V2 p da dl df dx :=
  ⟨⟨he, hw.mono (fun _ h => .inl h), h.1.2.2.1.trans (hf.mono (fun _ h => .inl h)), (hf.block _ (.inl (.inr rfl)) h.1.2.2.2.2.1).trans h.1.2.2.2.1, h.1.2.2.2.2.1, hl⟩, (hf.block _ (.inr rfl) h.2.2.2).trans h.2.1, hw, h.2.2.2⟩
theorem Al2.flew3 (h : Al2 rb wb M Inv O F w w1 t n i l k i' l' F' V p da dl df dx) (hw : Wd Inv (fun z => (O z ∨ z = w.heap.size) ∨ z = p) F' V2 rb wb l2) (hf : Fly (fun z => (O z ∨ z = w.heap.size) ∨ z = p) F' V F' V2) : Al3 rb wb Inv O F w w1 l2 F' V2 p da dl df dx :=
  ⟨⟨trivial, hw.mono (fun _ h => .inl h), h.1.2.2.1.trans (hf.mono (fun _ h => .inl h)), (hf.block _ (.inl (.inr rfl)) h.1.2.2.2.2.1).trans h.1.2.2.2.1, h.1.2.2.2.2.1⟩, (hf.block _ (.inr rfl) h.2.2.2).trans h.2.1⟩
theorem Al3.below (m : Wm rb M Inv) (h : Al3 rb wb Inv O F w w1 l' F' V p da dl df dx) (hb : Below V.heap.size V V2) : Al3 rb wb Inv O F w w1 l' F' V2 p da dl df dx :=
  ⟨⟨trivial, h.1.2.1.below m hb, h.1.2.2.1.trans (Fly.of_below hb h.1.2.1.old), below_box h.1.2.2.2.1 hb, h.1.2.2.2.2⟩, below_box h.2 hb⟩
theorem Al3.ret (m : Wm rb M Inv) (hO : ∀ k, O k → k < w.heap.size) (h : Al3 rb wb Inv O F w w1 l' F' V p da dl df dx) (c : Array Value) : Wd Inv O F' (V.setRow w.heap.size c) rb wb l' ∧ Fly O F w1 F' (V.setRow w.heap.size c) ∧ (V.setRow w.heap.size c).heap[w.heap.size]? = some (.cells c 151 (0, 0)) := by
  obtain ⟨⟨_, h2, h3, h4, h5⟩, _⟩ := h
  have hsz : (V.setRow w.heap.size c).heap.size = V.heap.size := by simp [World.setRow]
  have hst : Step (fun k => k = w.heap.size) V (fun k => k = w.heap.size) (V.setRow w.heap.size c) := ⟨rfl, rfl, rfl, by omega, fun k _ hk => setRow_other _ _ _ _ hk, fun _ h => .inl h, fun _ h => h⟩
  obtain ⟨k1, k2, k3, v, k4, k5, k6⟩ := h2
  refine ⟨⟨m.step F' V _ _ _ k1 hst (fun k hk e => h5 (e ▸ hk)), ⟨fun k hk => by rw [hsz]; exact k2.1 k (.inl hk), fun hk => k2.2 (.inl hk)⟩, k3, v, (setRow_other _ _ _ _ (fun e => k2.2 (.inr e))).trans k4, k5.kept (fun g hg => setRow_other _ _ _ _ (fun e => (k6 g hg).2.2 (.inr e))), fun g hg => ⟨(k6 g hg).1, (k6 g hg).2.1, fun hk => (k6 g hg).2.2 (.inl hk)⟩⟩, (h3.mono (fun k hk => .inl hk)).trans ⟨rfl, rfl, rfl, by omega, fun k hk _ => setRow_other _ _ _ _ (fun e => by have := hO k hk; omega), fun _ h => .inl h, fun _ h => h⟩, setRow_heap _ _ _ _ _ _ h4⟩
theorem Al2.to3 (h : Al2 rb wb M Inv O F w w1 t n i l k i' l' F' V p da dl df dx) : Al3 rb wb Inv O F w w1 l' F' V p da dl df dx := ⟨⟨trivial, h.1.2.1, h.1.2.2.1, h.1.2.2.2.1, h.1.2.2.2.2.1⟩, h.2.1⟩
theorem AlS.to (h : AlS rb wb M Inv O F w w1 t n i l k i' l' F' V) : True ∧ Wd Inv (fun k => O k ∨ k = w.heap.size) F' V rb wb l' ∧ Fly (fun k => O k ∨ k = w.heap.size) F w1 F' V ∧ V.heap[w.heap.size]? = some (.cells #[.int .u64 0, .int .u32 0, .int .u16 0, .int .u16 0] 151 (0, 0)) ∧ ¬ F' w.heap.size := ⟨trivial, h.2.1, h.2.2.1, h.2.2.2.1, h.2.2.2.2.1⟩
end
set_option maxHeartbeats 4000000 in
theorem along_any {rb wb : Nat} {M : Nat → Nat} {Inv : (Nat → Prop) → World → Prop} {O F : Nat → Prop} {w : World} {l : List Seg} (m : Wm rb M Inv) (hM : ∀ a, M a ≤ 255) (t n : Nat) (hn : n ≤ 256) (hD : DescOk rb M Inv t n) (h : Wd Inv O F w rb wb l) (hl : l.length ≤ 300) (i : Int) :
    Calls Try.prog 82 #[.pointer (some ⟨wb, 0, none⟩), .int .u64 (t : Int), .int .i64 (n : Int), .int .i64 i] w fun e w' => e = .returned (.tuple #[.agg #[.int .u64 ((alongR M t n n i l).d.a : Int), .int .u32 ((alongR M t n n i l).d.l : Int), .int .u16 ((alongR M t n n i l).d.f : Int), .int .u16 ((alongR M t n n i l).d.x : Int)], .int .i64 ((alongR M t n n i l).e : Int)]) ∧ ∃ F', Wd Inv O F' w' rb wb (alongR M t n n i l).l ∧ Fly O F w F' w' := by
  obtain ⟨r, hr⟩ : ∃ r, alongR M t n n i l = r := ⟨_, rfl⟩
  rw [hr]
  have hb0 : Below w.heap.size w (w.alloc (.cells #[.int .u64 0, .int .u32 0, .int .u16 0, .int .u16 0] 151)) := (Below.refl _ _).alloc (Nat.le_refl _) _
  have A0 : Hid (AlS rb wb M Inv O F w (w.alloc (.cells #[.int .u64 0, .int .u32 0, .int .u16 0, .int .u16 0] 151)) t n i l 0 i l F (w.alloc (.cells #[.int .u64 0, .int .u32 0, .int .u16 0, .int .u16 0] 151))) := ⟨rfl, h.box m hb0 (Nat.le_refl _) (by simp), Fly.refl _ _ _, heap_alloc_new _ _, fun hf => by have := m.lt F w h.1 _ hf; omega, by omega⟩
  have HF0 : Hid (Fly O F w F (w.alloc (.cells #[.int .u64 0, .int .u32 0, .int .u16 0, .int .u16 0] 151))) := Fly.of_below hb0 h.old
  have HR : Hid (alongR M t n n i l = r) := hr
  have HOO : Hid (∀ k, O k → k < w.heap.size) := h.old
  have HMD : Hid ((∀ a, M a ≤ 255) ∧ DescOk rb M Inv t n) := ⟨hM, hD⟩
  clear hr hb0 h hM hD hl
  go_enter Try.func82, Try.ntmps82
  go_upto_region 1 with fail
  generalize w.alloc (.cells #[.int .u64 0, .int .u32 0, .int .u16 0, .int .u16 0] 151) = w1 at *
  go_wp2_with fail
  go_loopw [3, 10] (fun v3 v10 wr => ∃ (k : Nat) (i' : Int) (l' : List Seg) (F' : Nat → Prop), v3 = .int .i64 i' ∧ v10 = .int .i64 (k : Int) ∧ k ≤ n ∧ AlS rb wb M Inv O F w w1 t n i l k i' l' F' wr) (fun _ v10 _ => n - (intOf v10).toNat)
  case atStart => exact ⟨0, i, l, F, rfl, rfl, Nat.zero_le _, A0.out⟩
  case round =>
    obtain ⟨k, i', l', F', rfl, rfl, hk, ha⟩ := hrel
    have A1 : Hid (AlS rb wb M Inv O F w w1 t n i l k i' l' F' wr) := ha
    clear ha A0
    by_cases hi : 0 ≤ i' ∧ i' < (n : Int)
    case neg =>
      have HRR : Hid (r = ⟨151, De.zero, l'⟩) := by
        show r = _
        rw [← HR.out, A1.out.1]
        exact along_out hi
      by_cases h1 : i' < 0
      · clear hi
        go_upto_region 4 with fail
        refine wp_region_list ?_
        (refine wpList_step (fun KK hKK => ?_); go_simp; refine hKK _ _ ?_; clear hKK KK)
        refine wpList_store_row rfl 151 _ _ rfl w.heap.size #[.int .u64 0, .int .u32 0, .int .u16 0, .int .u16 0] rfl rfl 151 #[.int .u64 0, .int .u32 0, .int .u16 0, .int .u16 0] A1.out.2.2.2.1 info47 rfl (by simp [Value.oneCell']) ?_
        have Y := (A1.out).ret m HOO.out #[.int .u64 0, .int .u32 0, .int .u16 0, .int .u16 0]
        have HY : Hid (Wd Inv O F' (wr.setRow w.heap.size #[.int .u64 0, .int .u32 0, .int .u16 0, .int .u16 0]) rb wb l' ∧ Fly O F w1 F' (wr.setRow w.heap.size #[.int .u64 0, .int .u32 0, .int .u16 0, .int .u16 0]) ∧ (wr.setRow w.heap.size #[.int .u64 0, .int .u32 0, .int .u16 0, .int .u16 0]).heap[w.heap.size]? = some (.cells #[.int .u64 0, .int .u32 0, .int .u16 0, .int .u16 0] 151 (0, 0))) := Y
        clear Y
        generalize wr.setRow w.heap.size #[.int .u64 0, .int .u32 0, .int .u16 0, .int .u16 0] = w9 at *
        obtain ⟨c0, c1, c2, c3⟩ := box4_facts HY.out.2.2
        go_wp2_with fail
        refine bodyPost_ret (v := .tuple #[.agg #[.int .u64 0, .int .u32 0, .int .u16 0, .int .u16 0], .int .i64 151]) (by simp [results, Try.results82, go_sem, c0, c1, c2, c3]) rfl ?_
        rw [HRR.out]
        exact ⟨rfl, F', HY.out.1, HF0.out.trans HY.out.2.1⟩
      · have h2 : (n : Int) ≤ i' := by omega
        clear hi
        go_upto_region 4 with fail
        refine wp_region_list ?_
        (refine wpList_step (fun KK hKK => ?_); go_simp; refine hKK _ _ ?_; clear hKK KK)
        refine wpList_store_row rfl 151 _ _ rfl w.heap.size #[.int .u64 0, .int .u32 0, .int .u16 0, .int .u16 0] rfl rfl 151 #[.int .u64 0, .int .u32 0, .int .u16 0, .int .u16 0] A1.out.2.2.2.1 info47 rfl (by simp [Value.oneCell']) ?_
        have Y := (A1.out).ret m HOO.out #[.int .u64 0, .int .u32 0, .int .u16 0, .int .u16 0]
        have HY : Hid (Wd Inv O F' (wr.setRow w.heap.size #[.int .u64 0, .int .u32 0, .int .u16 0, .int .u16 0]) rb wb l' ∧ Fly O F w1 F' (wr.setRow w.heap.size #[.int .u64 0, .int .u32 0, .int .u16 0, .int .u16 0]) ∧ (wr.setRow w.heap.size #[.int .u64 0, .int .u32 0, .int .u16 0, .int .u16 0]).heap[w.heap.size]? = some (.cells #[.int .u64 0, .int .u32 0, .int .u16 0, .int .u16 0] 151 (0, 0))) := Y
        clear Y
        generalize wr.setRow w.heap.size #[.int .u64 0, .int .u32 0, .int .u16 0, .int .u16 0] = w9 at *
        obtain ⟨c0, c1, c2, c3⟩ := box4_facts HY.out.2.2
        go_wp2_with fail
        refine bodyPost_ret (v := .tuple #[.agg #[.int .u64 0, .int .u32 0, .int .u16 0, .int .u16 0], .int .i64 151]) (by simp [results, Try.results82, go_sem, c0, c1, c2, c3]) rfl ?_
        rw [HRR.out]
        exact ⟨rfl, F', HY.out.1, HF0.out.trans HY.out.2.1⟩
    obtain ⟨j, hj⟩ : ∃ j : Nat, i' = j := ⟨i'.toNat, by omega⟩
    subst hj
    have h1 : ¬ (j : Int) < 0 := by omega
    have h2 : ¬ (n : Int) ≤ (j : Int) := by omega
    have hjn : j < n := by omega
    clear hi
    by_cases hkn : k = n
    case pos =>
      have HRR : Hid (r = ⟨152, De.zero, l'⟩) := by
        show r = _
        rw [← HR.out, A1.out.1, hkn, Nat.sub_self]
        exact along_loop (by omega)
      have h3 : (n : Int) ≤ (k : Int) := by omega
      clear hkn
      go_upto_region 6 with fail
      refine wp_region_list ?_
      (refine wpList_step (fun KK hKK => ?_); go_simp; refine hKK _ _ ?_; clear hKK KK)
      refine wpList_store_row rfl 151 _ _ rfl w.heap.size #[.int .u64 0, .int .u32 0, .int .u16 0, .int .u16 0] rfl rfl 151 #[.int .u64 0, .int .u32 0, .int .u16 0, .int .u16 0] A1.out.2.2.2.1 info47 rfl (by simp [Value.oneCell']) ?_
      have Y := (A1.out).ret m HOO.out #[.int .u64 0, .int .u32 0, .int .u16 0, .int .u16 0]
      have HY : Hid (Wd Inv O F' (wr.setRow w.heap.size #[.int .u64 0, .int .u32 0, .int .u16 0, .int .u16 0]) rb wb l' ∧ Fly O F w1 F' (wr.setRow w.heap.size #[.int .u64 0, .int .u32 0, .int .u16 0, .int .u16 0]) ∧ (wr.setRow w.heap.size #[.int .u64 0, .int .u32 0, .int .u16 0, .int .u16 0]).heap[w.heap.size]? = some (.cells #[.int .u64 0, .int .u32 0, .int .u16 0, .int .u16 0] 151 (0, 0))) := Y
      clear Y
      generalize wr.setRow w.heap.size #[.int .u64 0, .int .u32 0, .int .u16 0, .int .u16 0] = w9 at *
      obtain ⟨c0, c1, c2, c3⟩ := box4_facts HY.out.2.2
      go_wp2_with fail
      refine bodyPost_ret (v := .tuple #[.agg #[.int .u64 0, .int .u32 0, .int .u16 0, .int .u16 0], .int .i64 152]) (by simp [results, Try.results82, go_sem, c0, c1, c2, c3]) rfl ?_
      rw [HRR.out]
      exact ⟨rfl, F', HY.out.1, HF0.out.trans HY.out.2.1⟩
    have h3 : ¬ (n : Int) ≤ (k : Int) := by omega
    obtain ⟨q, hq⟩ : ∃ q, n - k = q + 1 := ⟨n - k - 1, by omega⟩
    have A1' : Hid (AlS rb wb M Inv O F w w1 t n i l k (j : Int) l' F' wr ∧ n - k = q + 1) := ⟨A1.out, hq⟩
    clear A1 hq
    have p0 : wr.cell? ⟨wb, 0, none⟩ = some (.pointer (some ⟨rb, 0, none⟩)) := by
      obtain ⟨a, c, hwb, _⟩ := A1'.out.1.2.1.boxes
      exact cellOf hwb 0 _ rfl
    obtain ⟨⟨da, dl, df, dx⟩, hde⟩ : ∃ d, deN M t j = d := ⟨_, rfl⟩
    obtain ⟨ok, hok⟩ : ∃ ok, deB t j = ok := ⟨_, rfl⟩
    have HO : Hid (deN M t j = ⟨da, dl, df, dx⟩ ∧ deB t j = ok ∧ (De.mk da dl df dx).Ok) := ⟨hde, hok, hde ▸ deN_ok HMD.out.1 t j⟩
    have hf : df ≤ 65535 := HO.out.2.2.f
    have hx5 : dx ≤ 65535 := HO.out.2.2.x
    have hdc := HMD.out.2 F' wr j hjn A1'.out.1.2.1.1
    rw [hde, hok] at hdc
    have HDD : Hid (_root_.True ∧ Calls Try.prog 98 #[.pointer (some ⟨rb, 0, none⟩), .int .u64 (t : Int), .int .i64 (j : Int)] wr fun e w' => e = .returned (.tuple #[.agg #[.int .u64 (da : Int), .int .u32 (dl : Int), .int .u16 (df : Int), .int .u16 (dx : Int)], .bool ok]) ∧ ∃ F2, Inv F2 w' ∧ Step F' wr F2 w') := ⟨trivial, hdc⟩
    clear hdc hde hok
    go_upto_region 7 with fail
    go_upto_region 8 with (go_at_call 98; refine (HDD.out.2).mono ?_; rintro e w2 ⟨rfl, F2, hi2, hs2⟩; have A2 : Hid (AlS rb wb M Inv O F w w1 t n i l k (j : Int) l' F2 w2 ∧ n - k = q + 1) := ⟨A1'.out.1.told hi2 hs2, A1'.out.2⟩; clear hi2 hs2 HDD)
    clear A1' p0
    have hb3 : Below w2.heap.size w2 (w2.alloc (.cells #[.int .u64 (da : Int), .int .u32 (dl : Int), .int .u16 (df : Int), .int .u16 (dx : Int)] 151)) := (Below.refl _ _).alloc (Nat.le_refl _) _
    have A3 : Hid (Al2 rb wb M Inv O F w w1 t n i l k (j : Int) l' F2 (w2.alloc (.cells #[.int .u64 (da : Int), .int .u32 (dl : Int), .int .u16 (df : Int), .int .u16 (dx : Int)] 151)) w2.heap.size da dl df dx) := ⟨A2.out.1.below m hb3, heap_alloc_new _ _, A2.out.1.2.1.box m hb3 (Nat.le_refl _) (by simp), fun hf => by have := m.lt F2 w2 A2.out.1.2.1.1 _ hf; omega⟩
    have HQ : Hid (n - k = q + 1) := A2.out.2
    clear hb3 A2
    generalize w2.alloc (.cells #[.int .u64 (da : Int), .int .u32 (dl : Int), .int .u16 (df : Int), .int .u16 (dx : Int)] 151) = w3 at *
    generalize w2.heap.size = p at *
    cases ok with
    | false =>
      have HRR : Hid (r = ⟨21, De.zero, l'⟩) := by
        show r = _
        rw [← HR.out, A3.out.1.1, HQ.out]
        exact along_not hjn HO.out.2.1
      go_upto_region 9 with fail
      refine wp_region_list ?_
      (refine wpList_step (fun KK hKK => ?_); go_simp; refine hKK _ _ ?_; clear hKK KK)
      refine wpList_store_row rfl 151 _ _ rfl w.heap.size #[.int .u64 0, .int .u32 0, .int .u16 0, .int .u16 0] rfl rfl 151 #[.int .u64 0, .int .u32 0, .int .u16 0, .int .u16 0] A3.out.1.2.2.2.1 info47 rfl (by simp [Value.oneCell']) ?_
      have Y := (A3.out.to3).ret m HOO.out #[.int .u64 0, .int .u32 0, .int .u16 0, .int .u16 0]
      have HY : Hid (Wd Inv O F2 (w3.setRow w.heap.size #[.int .u64 0, .int .u32 0, .int .u16 0, .int .u16 0]) rb wb l' ∧ Fly O F w1 F2 (w3.setRow w.heap.size #[.int .u64 0, .int .u32 0, .int .u16 0, .int .u16 0]) ∧ (w3.setRow w.heap.size #[.int .u64 0, .int .u32 0, .int .u16 0, .int .u16 0]).heap[w.heap.size]? = some (.cells #[.int .u64 0, .int .u32 0, .int .u16 0, .int .u16 0] 151 (0, 0))) := Y
      clear Y
      generalize w3.setRow w.heap.size #[.int .u64 0, .int .u32 0, .int .u16 0, .int .u16 0] = w9 at *
      obtain ⟨c0, c1, c2, c3⟩ := box4_facts HY.out.2.2
      go_wp2_with fail
      refine bodyPost_ret (v := .tuple #[.agg #[.int .u64 0, .int .u32 0, .int .u16 0, .int .u16 0], .int .i64 21]) (by simp [results, Try.results82, go_sem, c0, c1, c2, c3]) rfl ?_
      rw [HRR.out]
      exact ⟨rfl, F2, HY.out.1, HF0.out.trans HY.out.2.1⟩
    | true =>
      obtain ⟨f4, hf4⟩ : ∃ b, fl df 4 = b := ⟨_, rfl⟩
      have H4 : Hid (∀ V, Calls Try.prog 83 #[.agg #[.int .u64 (da : Int), .int .u32 (dl : Int), .int .u16 (df : Int), .int .u16 (dx : Int)], .int .u16 4] V fun e w' => e = .returned (.bool f4) ∧ Below V.heap.size V w') := by
        intro V; rw [← hf4]; exact hasf4 da dl df dx hf V
      have HF4 : Hid (fl df 4 = f4) := hf4
      clear hf4
      obtain ⟨d0, d1, d2, d3⟩ := box4_facts A3.out.2.1
      cases f4 with
      | true =>
        have HRR : Hid (r = ⟨0, ⟨da, dl, df, dx⟩, l'⟩) := by
          show r = _
          rw [← HR.out, A3.out.1.1, HQ.out]
          exact along_ind hjn HO.out.2.1 HO.out.1 HF4.out
        go_upto_region 11 with (go_at_call 83; refine (H4.out _).mono ?_; rintro e w4 ⟨rfl, hb4⟩; have A4 : Hid (Al2 rb wb M Inv O F w w1 t n i l k (j : Int) l' F2 w4 p da dl df dx) := A3.out.below m hb4; clear hb4 A3 d0 d1 d2 d3; obtain ⟨d0, d1, d2, d3⟩ := box4_facts A4.out.2.1)
        go_upto_region 11 with fail
        refine wp_region_list ?_
        (refine wpList_step (fun KK hKK => ?_); go_simp; refine hKK _ _ ?_; clear hKK KK)
        refine wpList_store_row rfl 151 _ _ rfl w.heap.size #[.int .u64 (da : Int), .int .u32 (dl : Int), .int .u16 (df : Int), .int .u16 (dx : Int)] rfl rfl 151 #[.int .u64 0, .int .u32 0, .int .u16 0, .int .u16 0] A4.out.1.2.2.2.1 info47 rfl (by simp [Value.oneCell']) ?_
        have Y := (A4.out.to3).ret m HOO.out #[.int .u64 (da : Int), .int .u32 (dl : Int), .int .u16 (df : Int), .int .u16 (dx : Int)]
        have HY : Hid (Wd Inv O F2 (w4.setRow w.heap.size #[.int .u64 (da : Int), .int .u32 (dl : Int), .int .u16 (df : Int), .int .u16 (dx : Int)]) rb wb l' ∧ Fly O F w1 F2 (w4.setRow w.heap.size #[.int .u64 (da : Int), .int .u32 (dl : Int), .int .u16 (df : Int), .int .u16 (dx : Int)]) ∧ (w4.setRow w.heap.size #[.int .u64 (da : Int), .int .u32 (dl : Int), .int .u16 (df : Int), .int .u16 (dx : Int)]).heap[w.heap.size]? = some (.cells #[.int .u64 (da : Int), .int .u32 (dl : Int), .int .u16 (df : Int), .int .u16 (dx : Int)] 151 (0, 0))) := Y
        clear Y
        generalize w4.setRow w.heap.size #[.int .u64 (da : Int), .int .u32 (dl : Int), .int .u16 (df : Int), .int .u16 (dx : Int)] = w9 at *
        obtain ⟨c0, c1, c2, c3⟩ := box4_facts HY.out.2.2
        go_wp2_with fail
        refine bodyPost_ret (v := .tuple #[.agg #[.int .u64 (da : Int), .int .u32 (dl : Int), .int .u16 (df : Int), .int .u16 (dx : Int)], .int .i64 0]) (by simp [results, Try.results82, go_sem, c0, c1, c2, c3]) rfl ?_
        rw [HRR.out]
        exact ⟨rfl, F2, HY.out.1, HF0.out.trans HY.out.2.1⟩
      | false =>
        by_cases hz : addE l' ⟨da, dl, df, dx⟩ = 0
        case neg =>
          obtain ⟨ae, hae⟩ : ∃ ae, addE l' ⟨da, dl, df, dx⟩ = ae := ⟨_, rfl⟩
          rw [hae] at hz
          have HRR : Hid (r = ⟨ae, De.zero, l'⟩) := by
            show r = _
            rw [← HR.out, A3.out.1.1, HQ.out]
            exact along_err hjn HO.out.2.1 HO.out.1 HF4.out hae hz
          have H59 : Hid (∀ V, Wd Inv (fun z => (O z ∨ z = w.heap.size) ∨ z = p) F2 V rb wb l' → Calls Try.prog 99 #[.pointer (some ⟨wb, 0, none⟩), .agg #[.int .u64 (da : Int), .int .u32 (dl : Int), .int .u16 (df : Int), .int .u16 (dx : Int)]] V fun e w' => e = .returned (.int .i64 (ae : Int)) ∧ Wd Inv (fun z => (O z ∨ z = w.heap.size) ∨ z = p) F2 w' rb wb l' ∧ Fly (fun z => (O z ∨ z = w.heap.size) ∨ z = p) F2 V F2 w') := by
            intro V hV
            have := seg_any m hV da dl df dx HO.out.2.2 (by have := A3.out.1.2.2.2.2.2; omega)
            rw [hae, if_neg hz] at this
            exact this
          have hz1 : ((ae : Int) != 0) = true := by simp; omega
          have hz2 : ¬ (ae : Int) = 0 := by omega
          clear hz hae
          go_upto_region 14 with (first | (go_at_call 83; refine (H4.out _).mono ?_; rintro e w4 ⟨rfl, hb4⟩; have A4 : Hid (Al2 rb wb M Inv O F w w1 t n i l k (j : Int) l' F2 w4 p da dl df dx) := A3.out.below m hb4; clear hb4 A3 d0 d1 d2 d3; obtain ⟨d0, d1, d2, d3⟩ := box4_facts A4.out.2.1) | (go_at_call 99; refine (H59.out _ A4.out.2.2.1).mono ?_; rintro e w5 ⟨rfl, hw5, hy5⟩; have A5 : Hid (Al2 rb wb M Inv O F w w1 t n i l k (j : Int) l' F2 w5 p da dl df dx) := A4.out.flew hw5 hy5 A4.out.1.1 A4.out.1.2.2.2.2.2; clear hw5 hy5 A4 d0 d1 d2 d3; obtain ⟨d0, d1, d2, d3⟩ := box4_facts A5.out.2.1))
          go_upto_region 14 with fail
          refine wp_region_list ?_
          (refine wpList_step (fun KK hKK => ?_); go_simp; refine hKK _ _ ?_; clear hKK KK)
          (refine wpList_step (fun KK hKK => ?_); go_simp; refine hKK _ _ ?_; clear hKK KK)
          refine wpList_store_row rfl 151 _ _ rfl w.heap.size #[.int .u64 0, .int .u32 0, .int .u16 0, .int .u16 0] rfl rfl 151 #[.int .u64 0, .int .u32 0, .int .u16 0, .int .u16 0] A5.out.1.2.2.2.1 info47 rfl (by simp [Value.oneCell']) ?_
          have Y := (A5.out.to3).ret m HOO.out #[.int .u64 0, .int .u32 0, .int .u16 0, .int .u16 0]
          have HY : Hid (Wd Inv O F2 (w5.setRow w.heap.size #[.int .u64 0, .int .u32 0, .int .u16 0, .int .u16 0]) rb wb l' ∧ Fly O F w1 F2 (w5.setRow w.heap.size #[.int .u64 0, .int .u32 0, .int .u16 0, .int .u16 0]) ∧ (w5.setRow w.heap.size #[.int .u64 0, .int .u32 0, .int .u16 0, .int .u16 0]).heap[w.heap.size]? = some (.cells #[.int .u64 0, .int .u32 0, .int .u16 0, .int .u16 0] 151 (0, 0))) := Y
          clear Y
          generalize w5.setRow w.heap.size #[.int .u64 0, .int .u32 0, .int .u16 0, .int .u16 0] = w9 at *
          obtain ⟨c0, c1, c2, c3⟩ := box4_facts HY.out.2.2
          go_wp2_with fail
          refine bodyPost_ret (v := .tuple #[.agg #[.int .u64 0, .int .u32 0, .int .u16 0, .int .u16 0], .int .i64 (ae : Int)]) (by simp [results, Try.results82, go_sem, c0, c1, c2, c3]) rfl ?_
          rw [HRR.out]
          exact ⟨rfl, F2, HY.out.1, HF0.out.trans HY.out.2.1⟩
        case pos =>
          have H59 : Hid (∀ V, Wd Inv (fun z => (O z ∨ z = w.heap.size) ∨ z = p) F2 V rb wb l' → Calls Try.prog 99 #[.pointer (some ⟨wb, 0, none⟩), .agg #[.int .u64 (da : Int), .int .u32 (dl : Int), .int .u16 (df : Int), .int .u16 (dx : Int)]] V fun e w' => e = .returned (.int .i64 0) ∧ Wd Inv (fun z => (O z ∨ z = w.heap.size) ∨ z = p) F2 w' rb wb (l' ++ [⟨da, dl, fl df 2⟩]) ∧ Fly (fun z => (O z ∨ z = w.heap.size) ∨ z = p) F2 V F2 w') := by
            intro V hV
            have := seg_any m hV da dl df dx HO.out.2.2 (by have := A3.out.1.2.2.2.2.2; omega)
            rw [hz, if_pos rfl] at this
            exact this
          obtain ⟨f1, hf1⟩ : ∃ b, fl df 1 = b := ⟨_, rfl⟩
          have H1 : Hid (∀ V, Calls Try.prog 83 #[.agg #[.int .u64 (da : Int), .int .u32 (dl : Int), .int .u16 (df : Int), .int .u16 (dx : Int)], .int .u16 1] V fun e w' => e = .returned (.bool f1) ∧ Below V.heap.size V w') := by
            intro V; rw [← hf1]; exact hasf1 da dl df dx hf V
          have HF1 : Hid (fl df 1 = f1 ∧ addE l' ⟨da, dl, df, dx⟩ = 0) := ⟨hf1, hz⟩
          clear hf1 hz
          go_upto_region 15 with (first | (go_at_call 83; refine (H4.out _).mono ?_; rintro e w4 ⟨rfl, hb4⟩; have A4 : Hid (Al2 rb wb M Inv O F w w1 t n i l k (j : Int) l' F2 w4 p da dl df dx) := A3.out.below m hb4; clear hb4 A3 d0 d1 d2 d3; obtain ⟨d0, d1, d2, d3⟩ := box4_facts A4.out.2.1) | (go_at_call 99; refine (H59.out _ A4.out.2.2.1).mono ?_; rintro e w5 ⟨rfl, hw5, hy5⟩))
          cases f1 with
          | false =>
            have HRR : Hid (r = ⟨0, ⟨da, dl, df, dx⟩, l' ++ [⟨da, dl, fl df 2⟩]⟩) := by
              show r = _
              rw [← HR.out, A4.out.1.1, HQ.out]
              exact along_end hjn HO.out.2.1 HO.out.1 HF4.out HF1.out.2 HF1.out.1
            have A5 : Hid (Al3 rb wb Inv O F w w1 (l' ++ [⟨da, dl, fl df 2⟩]) F2 w5 p da dl df dx) := A4.out.flew3 hw5 hy5
            clear hw5 hy5 A4 d0 d1 d2 d3
            obtain ⟨d0, d1, d2, d3⟩ := box4_facts A5.out.2
            go_upto_region 16 with (go_at_call 83; refine (H1.out _).mono ?_; rintro e w6 ⟨rfl, hb6⟩; have A6 : Hid (Al3 rb wb Inv O F w w1 (l' ++ [⟨da, dl, fl df 2⟩]) F2 w6 p da dl df dx) := A5.out.below m hb6; clear hb6 A5 d0 d1 d2 d3; obtain ⟨d0, d1, d2, d3⟩ := box4_facts A6.out.2)
            go_upto_region 16 with fail
            refine wp_region_list ?_
            (refine wpList_step (fun KK hKK => ?_); go_simp; refine hKK _ _ ?_; clear hKK KK)
            refine wpList_store_row rfl 151 _ _ rfl w.heap.size #[.int .u64 (da : Int), .int .u32 (dl : Int), .int .u16 (df : Int), .int .u16 (dx : Int)] rfl rfl 151 #[.int .u64 0, .int .u32 0, .int .u16 0, .int .u16 0] A6.out.1.2.2.2.1 info47 rfl (by simp [Value.oneCell']) ?_
            have Y := (A6.out).ret m HOO.out #[.int .u64 (da : Int), .int .u32 (dl : Int), .int .u16 (df : Int), .int .u16 (dx : Int)]
            have HY : Hid (Wd Inv O F2 (w6.setRow w.heap.size #[.int .u64 (da : Int), .int .u32 (dl : Int), .int .u16 (df : Int), .int .u16 (dx : Int)]) rb wb (l' ++ [⟨da, dl, fl df 2⟩]) ∧ Fly O F w1 F2 (w6.setRow w.heap.size #[.int .u64 (da : Int), .int .u32 (dl : Int), .int .u16 (df : Int), .int .u16 (dx : Int)]) ∧ (w6.setRow w.heap.size #[.int .u64 (da : Int), .int .u32 (dl : Int), .int .u16 (df : Int), .int .u16 (dx : Int)]).heap[w.heap.size]? = some (.cells #[.int .u64 (da : Int), .int .u32 (dl : Int), .int .u16 (df : Int), .int .u16 (dx : Int)] 151 (0, 0))) := Y
            clear Y
            generalize w6.setRow w.heap.size #[.int .u64 (da : Int), .int .u32 (dl : Int), .int .u16 (df : Int), .int .u16 (dx : Int)] = w9 at *
            obtain ⟨c0, c1, c2, c3⟩ := box4_facts HY.out.2.2
            go_wp2_with fail
            refine bodyPost_ret (v := .tuple #[.agg #[.int .u64 (da : Int), .int .u32 (dl : Int), .int .u16 (df : Int), .int .u16 (dx : Int)], .int .i64 0]) (by simp [results, Try.results82, go_sem, c0, c1, c2, c3]) rfl ?_
            rw [HRR.out]
            exact ⟨rfl, F2, HY.out.1, HF0.out.trans HY.out.2.1⟩
          | true =>
            have A5 : Hid (Al2 rb wb M Inv O F w w1 t n i l (k + 1) (dx : Int) (l' ++ [⟨da, dl, fl df 2⟩]) F2 w5 p da dl df dx) := A4.out.flew hw5 hy5 (by
              rw [A4.out.1.1, HQ.out, show n - (k + 1) = q from by have := HQ.out; omega]
              exact along_next hjn HO.out.2.1 HO.out.1 HF4.out HF1.out.2 HF1.out.1) (by have := A4.out.1.2.2.2.2.2; simp; omega)
            clear hw5 hy5 A4 d0 d1 d2 d3
            obtain ⟨d0, d1, d2, d3⟩ := box4_facts A5.out.2.1
            have e3 : IntKind.i64.wrap (dx : Int) = (dx : Int) := wrapi dx (by omega)
            go_wp2_with (go_at_call 83; refine (H1.out _).mono ?_; rintro e w6 ⟨rfl, hb6⟩; have A6 : Hid (Al2 rb wb M Inv O F w w1 t n i l (k + 1) (dx : Int) (l' ++ [⟨da, dl, fl df 2⟩]) F2 w6 p da dl df dx) := A5.out.below m hb6; clear hb6 A5 d0 d1 d2 d3; obtain ⟨d0, d1, d2, d3⟩ := box4_facts A6.out.2.1)
            go_roundw
            case rel => exact ⟨k + 1, (dx : Int), l' ++ [⟨da, dl, fl df 2⟩], F2, rfl, by go_num, by omega, A6.out.1⟩
            case measure => simp [intOf]; omega
end Go.Proofs.Ytmjdnocilbnoaaa

/- The table that a descriptor names. -/
namespace Go.Proofs.Ytmjdnocilbnoaaa
open Go.RowKit Go.Maps
set_option linter.unusedVariables false
set_option linter.unusedSimpArgs false
set_option maxRecDepth 100000
theorem info38 : (Try.prog.info? 48).map (·.size) = some 2 := by kernel_rfl
theorem three_in (w : World) (o1 o2 o3 : Obj) : (((w.alloc o1).alloc o2).alloc o3).heap[w.heap.size]? = some o1 ∧ (((w.alloc o1).alloc o2).alloc o3).heap[w.heap.size + 1]? = some o2 ∧ (((w.alloc o1).alloc o2).alloc o3).heap[w.heap.size + 1 + 1]? = some o3 ∧ Below w.heap.size w (((w.alloc o1).alloc o2).alloc o3) := by
  have h := two_in w o1 o2
  have hb : Below ((w.alloc o1).alloc o2).heap.size ((w.alloc o1).alloc o2) (((w.alloc o1).alloc o2).alloc o3) := (Below.refl _ _).alloc (Nat.le_refl _) _
  have hs : ((w.alloc o1).alloc o2).heap.size = w.heap.size + 1 + 1 := by simp
  refine ⟨below_box h.1 hb, below_box h.2 hb, ?_, (((Below.refl _ _).alloc (Nat.le_refl _) _).alloc (by simp) _).alloc (by simp; omega) _⟩
  rw [← hs]; exact heap_alloc_new _ _
theorem tabE_nest {d : De} {al : Bool} (h : (!al || fl d.f 1) = true) : tabE d al = 153 := by simp only [tabE, h, if_true]
theorem tabE_bad {d : De} {al : Bool} (h : (!al || fl d.f 1) = false) (h2 : d.l = 0 ∨ 4096 < d.l ∨ ¬ d.l % 16 = 0) : tabE d al = 154 := by
  have : (decide (d.l = 0) || decide (4096 < d.l) || decide (¬ d.l % 16 = 0)) = true := by
    simp only [Bool.or_eq_true, decide_eq_true_iff]
    omega
  rw [tabE, h, if_neg (by decide), this, if_pos rfl]
theorem tabE_go {d : De} {al : Bool} (h : (!al || fl d.f 1) = false) (h2 : ¬ (d.l = 0 ∨ 4096 < d.l ∨ ¬ d.l % 16 = 0)) : tabE d al = if inB d.a d.l 2147483648 8192 = true then 0 else 21 := by
  have : (decide (d.l = 0) || decide (4096 < d.l) || decide (¬ d.l % 16 = 0)) = false := by
    simp only [Bool.or_eq_false_iff, decide_eq_false_iff_not]
    omega
  rw [tabE, h, if_neg (by decide), this, if_neg (by decide)]
/-- the piece that is told -/
def tabV (e da dl : Nat) : Value := if e = 0 then .agg #[.int .u64 (da : Int), .int .u64 (dl : Int)] else .agg #[.int .u64 0, .int .u64 0]
set_option maxHeartbeats 2000000 in
theorem tab_any {rb wb : Nat} {w : World} {v : Value} (da dl df dx : Nat) (hd : (De.mk da dl df dx).Ok) (al : Bool) (hwb : w.heap[wb]? = some (.cells #[.pointer (some ⟨rb, 0, none⟩), v] 149 (0, 0))) (hh : ∀ V, Below w.heap.size w V → Calls Try.prog 33 #[.pointer (some ⟨rb, 0, none⟩), .int .u64 (da : Int), .int .u64 (dl : Int)] V fun e w' => e = .returned (.bool (inB da dl 2147483648 8192)) ∧ w' = V) :
    Calls Try.prog 84 #[.pointer (some ⟨wb, 0, none⟩), .agg #[.int .u64 (da : Int), .int .u32 (dl : Int), .int .u16 (df : Int), .int .u16 (dx : Int)], .bool al] w fun e w' => e = .returned (.tuple #[tabV (tabE ⟨da, dl, df, dx⟩ al) da dl, .int .i64 (tabE ⟨da, dl, df, dx⟩ al : Int)]) ∧ Below w.heap.size w w' := by
  have hf : df ≤ 65535 := hd.f
  have hl5 : dl ≤ 4294967295 := hd.l
  have hwr : IntKind.u64.wrap (dl : Int) = (dl : Int) := by rw [wrap_u64]; omega
  have X0 : Hid ((((w.alloc (.cells #[.int .u64 (da : Int), .int .u32 (dl : Int), .int .u16 (df : Int), .int .u16 (dx : Int)] 151)).alloc (.cells #[.int .u64 0, .int .u64 0] 48)).alloc (.cells #[.int .u64 (da : Int), .int .u64 (dl : Int)] 48)).heap[w.heap.size]? = some (.cells #[.int .u64 (da : Int), .int .u32 (dl : Int), .int .u16 (df : Int), .int .u16 (dx : Int)] 151 (0, 0)) ∧ (((w.alloc (.cells #[.int .u64 (da : Int), .int .u32 (dl : Int), .int .u16 (df : Int), .int .u16 (dx : Int)] 151)).alloc (.cells #[.int .u64 0, .int .u64 0] 48)).alloc (.cells #[.int .u64 (da : Int), .int .u64 (dl : Int)] 48)).heap[w.heap.size + 1]? = some (.cells #[.int .u64 0, .int .u64 0] 48 (0, 0)) ∧ (((w.alloc (.cells #[.int .u64 (da : Int), .int .u32 (dl : Int), .int .u16 (df : Int), .int .u16 (dx : Int)] 151)).alloc (.cells #[.int .u64 0, .int .u64 0] 48)).alloc (.cells #[.int .u64 (da : Int), .int .u64 (dl : Int)] 48)).heap[w.heap.size + 1 + 1]? = some (.cells #[.int .u64 (da : Int), .int .u64 (dl : Int)] 48 (0, 0)) ∧ Below w.heap.size w (((w.alloc (.cells #[.int .u64 (da : Int), .int .u32 (dl : Int), .int .u16 (df : Int), .int .u16 (dx : Int)] 151)).alloc (.cells #[.int .u64 0, .int .u64 0] 48)).alloc (.cells #[.int .u64 (da : Int), .int .u64 (dl : Int)] 48))) := three_in w _ _ _
  have HW : Hid (∀ V, Below w.heap.size w V → V.cell? ⟨wb, 0, none⟩ = some (.pointer (some ⟨rb, 0, none⟩))) := fun V hV => cellOf (below_box hwb hV) 0 _ rfl
  have HH : Hid (∀ V, Below w.heap.size w V → Calls Try.prog 33 #[.pointer (some ⟨rb, 0, none⟩), .int .u64 (da : Int), .int .u64 (dl : Int)] V fun e w' => e = .returned (.bool (inB da dl 2147483648 8192)) ∧ w' = V) := hh
  obtain ⟨te, hte⟩ : ∃ te, tabE ⟨da, dl, df, dx⟩ al = te := ⟨_, rfl⟩
  rw [hte]
  have HT : Hid (tabE ⟨da, dl, df, dx⟩ al = te) := hte
  clear hte hwb hh hd
  go_enter Try.func84, Try.ntmps84
  go_upto_region 2 with fail
  generalize ((w.alloc (.cells #[.int .u64 (da : Int), .int .u32 (dl : Int), .int .u16 (df : Int), .int .u16 (dx : Int)] 151)).alloc (.cells #[.int .u64 0, .int .u64 0] 48)).alloc (.cells #[.int .u64 (da : Int), .int .u64 (dl : Int)] 48) = v0 at *
  obtain ⟨d0, d1, d2, d3⟩ := box4_facts X0.out.1
  obtain ⟨p0, p1, _, _⟩ := box_facts X0.out.2.2.1
  cases al with
  | false =>
    have HE : Hid (te = 153) := HT.out.symm.trans (tabE_nest rfl)
    go_upto_region 3 with fail
    refine wp_region_list ?_
    (refine wpList_step (fun KK hKK => ?_); go_simp; refine hKK _ _ ?_; clear hKK KK)
    refine wpList_store_row rfl 48 _ _ rfl (w.heap.size + 1) #[.int .u64 0, .int .u64 0] rfl rfl 48 #[.int .u64 0, .int .u64 0] X0.out.2.1 info38 rfl (by simp [Value.oneCell']) ?_
    have HY : Hid (Below w.heap.size w (v0.setRow (w.heap.size + 1) #[.int .u64 0, .int .u64 0]) ∧ (v0.setRow (w.heap.size + 1) #[.int .u64 0, .int .u64 0]).heap[w.heap.size + 1]? = some (.cells #[.int .u64 0, .int .u64 0] 48 (0, 0))) := ⟨below_setRow X0.out.2.2.2 (Nat.le_succ _) _, setRow_heap _ _ _ _ _ _ X0.out.2.1⟩
    generalize v0.setRow (w.heap.size + 1) #[.int .u64 0, .int .u64 0] = w9 at *
    obtain ⟨c0, c1, _, _⟩ := box_facts HY.out.2
    go_wp2_with fail
    refine bodyPost_ret (v := .tuple #[.agg #[.int .u64 0, .int .u64 0], .int .i64 153]) (by simp [results, Try.results84, go_sem, c0, c1]) rfl ?_
    rw [HE.out]
    exact ⟨rfl, HY.out.1⟩
  | true =>
    obtain ⟨f1, hf1⟩ : ∃ b, fl df 1 = b := ⟨_, rfl⟩
    have H1 : Hid (∀ V, Calls Try.prog 83 #[.agg #[.int .u64 (da : Int), .int .u32 (dl : Int), .int .u16 (df : Int), .int .u16 (dx : Int)], .int .u16 1] V fun e w' => e = .returned (.bool f1) ∧ Below V.heap.size V w') := by
      intro V; rw [← hf1]; exact hasf1 da dl df dx hf V
    have HF1 : Hid ((!true || fl (De.mk da dl df dx).f 1) = f1) := hf1
    clear hf1
    have ARM : True := trivial
    cases f1 with
    | true =>
      have HE : Hid (te = 153) := HT.out.symm.trans (tabE_nest HF1.out)
      go_upto_region 3 with (go_at_call 83; refine (H1.out _).mono ?_; rintro e v1 ⟨rfl, hb⟩; have X1 : Hid (v1.heap[w.heap.size]? = some (.cells #[.int .u64 (da : Int), .int .u32 (dl : Int), .int .u16 (df : Int), .int .u16 (dx : Int)] 151 (0, 0)) ∧ v1.heap[w.heap.size + 1]? = some (.cells #[.int .u64 0, .int .u64 0] 48 (0, 0)) ∧ v1.heap[w.heap.size + 1 + 1]? = some (.cells #[.int .u64 (da : Int), .int .u64 (dl : Int)] 48 (0, 0)) ∧ Below w.heap.size w v1) := ⟨below_box X0.out.1 hb, below_box X0.out.2.1 hb, below_box X0.out.2.2.1 hb, below_to X0.out.2.2.2 hb⟩; clear hb)
      go_upto_region 3 with fail
      refine wp_region_list ?_
      (refine wpList_step (fun KK hKK => ?_); go_simp; refine hKK _ _ ?_; clear hKK KK)
      refine wpList_store_row rfl 48 _ _ rfl (w.heap.size + 1) #[.int .u64 0, .int .u64 0] rfl rfl 48 #[.int .u64 0, .int .u64 0] X1.out.2.1 info38 rfl (by simp [Value.oneCell']) ?_
      have HY : Hid (Below w.heap.size w (v1.setRow (w.heap.size + 1) #[.int .u64 0, .int .u64 0]) ∧ (v1.setRow (w.heap.size + 1) #[.int .u64 0, .int .u64 0]).heap[w.heap.size + 1]? = some (.cells #[.int .u64 0, .int .u64 0] 48 (0, 0))) := ⟨below_setRow X1.out.2.2.2 (Nat.le_succ _) _, setRow_heap _ _ _ _ _ _ X1.out.2.1⟩
      generalize v1.setRow (w.heap.size + 1) #[.int .u64 0, .int .u64 0] = w9 at *
      obtain ⟨c0, c1, _, _⟩ := box_facts HY.out.2
      go_wp2_with fail
      refine bodyPost_ret (v := .tuple #[.agg #[.int .u64 0, .int .u64 0], .int .i64 153]) (by simp [results, Try.results84, go_sem, c0, c1]) rfl ?_
      rw [HE.out]
      exact ⟨rfl, HY.out.1⟩
    | false =>
      go_upto_region 4 with (go_at_call 83; refine (H1.out _).mono ?_; rintro e v1 ⟨rfl, hb⟩; have X1 : Hid (v1.heap[w.heap.size]? = some (.cells #[.int .u64 (da : Int), .int .u32 (dl : Int), .int .u16 (df : Int), .int .u16 (dx : Int)] 151 (0, 0)) ∧ v1.heap[w.heap.size + 1]? = some (.cells #[.int .u64 0, .int .u64 0] 48 (0, 0)) ∧ v1.heap[w.heap.size + 1 + 1]? = some (.cells #[.int .u64 (da : Int), .int .u64 (dl : Int)] 48 (0, 0)) ∧ Below w.heap.size w v1) := ⟨below_box X0.out.1 hb, below_box X0.out.2.1 hb, below_box X0.out.2.2.1 hb, below_to X0.out.2.2.2 hb⟩; clear hb)
      clear X0 d0 d1 d2 d3 p0 p1
      obtain ⟨d0, d1, d2, d3⟩ := box4_facts X1.out.1
      obtain ⟨p0, p1, _, _⟩ := box_facts X1.out.2.2.1
      by_cases hbad : dl = 0 ∨ 4096 < dl ∨ ¬ dl % 16 = 0
      · have HE : Hid (te = 154) := HT.out.symm.trans (tabE_bad HF1.out hbad)
        by_cases z0 : dl = 0
        · have e0 : ((dl : Int) == 0) = true := by simp [z0]
          clear z0 hbad
          go_upto_region 5 with fail
          refine wp_region_list ?_
          (refine wpList_step (fun KK hKK => ?_); go_simp; refine hKK _ _ ?_; clear hKK KK)
          refine wpList_store_row rfl 48 _ _ rfl (w.heap.size + 1) #[.int .u64 0, .int .u64 0] rfl rfl 48 #[.int .u64 0, .int .u64 0] X1.out.2.1 info38 rfl (by simp [Value.oneCell']) ?_
          have HY : Hid (Below w.heap.size w (v1.setRow (w.heap.size + 1) #[.int .u64 0, .int .u64 0]) ∧ (v1.setRow (w.heap.size + 1) #[.int .u64 0, .int .u64 0]).heap[w.heap.size + 1]? = some (.cells #[.int .u64 0, .int .u64 0] 48 (0, 0))) := ⟨below_setRow X1.out.2.2.2 (Nat.le_succ _) _, setRow_heap _ _ _ _ _ _ X1.out.2.1⟩
          generalize v1.setRow (w.heap.size + 1) #[.int .u64 0, .int .u64 0] = w9 at *
          obtain ⟨c0, c1, _, _⟩ := box_facts HY.out.2
          go_wp2_with fail
          refine bodyPost_ret (v := .tuple #[.agg #[.int .u64 0, .int .u64 0], .int .i64 154]) (by simp [results, Try.results84, go_sem, c0, c1]) rfl ?_
          rw [HE.out]
          exact ⟨rfl, HY.out.1⟩
        · have e0 : ((dl : Int) == 0) = false := by simp [z0]
          by_cases z1 : 4096 < dl
          · have e1 : (4096 : Int) < dl := by omega
            clear z0 hbad z1
            go_upto_region 5 with fail
            refine wp_region_list ?_
            (refine wpList_step (fun KK hKK => ?_); go_simp; refine hKK _ _ ?_; clear hKK KK)
            refine wpList_store_row rfl 48 _ _ rfl (w.heap.size + 1) #[.int .u64 0, .int .u64 0] rfl rfl 48 #[.int .u64 0, .int .u64 0] X1.out.2.1 info38 rfl (by simp [Value.oneCell']) ?_
            have HY : Hid (Below w.heap.size w (v1.setRow (w.heap.size + 1) #[.int .u64 0, .int .u64 0]) ∧ (v1.setRow (w.heap.size + 1) #[.int .u64 0, .int .u64 0]).heap[w.heap.size + 1]? = some (.cells #[.int .u64 0, .int .u64 0] 48 (0, 0))) := ⟨below_setRow X1.out.2.2.2 (Nat.le_succ _) _, setRow_heap _ _ _ _ _ _ X1.out.2.1⟩
            generalize v1.setRow (w.heap.size + 1) #[.int .u64 0, .int .u64 0] = w9 at *
            obtain ⟨c0, c1, _, _⟩ := box_facts HY.out.2
            go_wp2_with fail
            refine bodyPost_ret (v := .tuple #[.agg #[.int .u64 0, .int .u64 0], .int .i64 154]) (by simp [results, Try.results84, go_sem, c0, c1]) rfl ?_
            rw [HE.out]
            exact ⟨rfl, HY.out.1⟩
          · have e1 : ¬ (4096 : Int) < dl := by omega
            obtain ⟨y, hy⟩ : ∃ y, dl % 16 = y := ⟨_, rfl⟩
            have e2 : (dl : Int) % 16 = (y : Int) := by omega
            have e2' : (dl : Int).tmod 16 = (y : Int) := by rw [Int.tmod_eq_emod_of_nonneg (by omega)]; exact e2
            have e3 : ((y : Int) != 0) = true := by simp; omega
            clear z0 hbad z1 hy
            go_upto_region 5 with fail
            refine wp_region_list ?_
            (refine wpList_step (fun KK hKK => ?_); go_simp; refine hKK _ _ ?_; clear hKK KK)
            refine wpList_store_row rfl 48 _ _ rfl (w.heap.size + 1) #[.int .u64 0, .int .u64 0] rfl rfl 48 #[.int .u64 0, .int .u64 0] X1.out.2.1 info38 rfl (by simp [Value.oneCell']) ?_
            have HY : Hid (Below w.heap.size w (v1.setRow (w.heap.size + 1) #[.int .u64 0, .int .u64 0]) ∧ (v1.setRow (w.heap.size + 1) #[.int .u64 0, .int .u64 0]).heap[w.heap.size + 1]? = some (.cells #[.int .u64 0, .int .u64 0] 48 (0, 0))) := ⟨below_setRow X1.out.2.2.2 (Nat.le_succ _) _, setRow_heap _ _ _ _ _ _ X1.out.2.1⟩
            generalize v1.setRow (w.heap.size + 1) #[.int .u64 0, .int .u64 0] = w9 at *
            obtain ⟨c0, c1, _, _⟩ := box_facts HY.out.2
            go_wp2_with fail
            refine bodyPost_ret (v := .tuple #[.agg #[.int .u64 0, .int .u64 0], .int .i64 154]) (by simp [results, Try.results84, go_sem, c0, c1]) rfl ?_
            rw [HE.out]
            exact ⟨rfl, HY.out.1⟩
      · have e0 : ((dl : Int) == 0) = false := by simp; omega
        have e1 : ¬ (4096 : Int) < dl := by omega
        have e2 : (dl : Int) % 16 = 0 := by omega
        have e2' : (dl : Int).tmod 16 = 0 := by rw [Int.tmod_eq_emod_of_nonneg (by omega)]; exact e2
        have HE0 : Hid (te = if inB da dl 2147483648 8192 = true then 0 else 21) := HT.out.symm.trans (tabE_go HF1.out hbad)
        clear hbad
        go_upto_region 6 with fail
        have Xd : Hid (v1.drew.heap[w.heap.size]? = some (.cells #[.int .u64 (da : Int), .int .u32 (dl : Int), .int .u16 (df : Int), .int .u16 (dx : Int)] 151 (0, 0)) ∧ v1.drew.heap[w.heap.size + 1]? = some (.cells #[.int .u64 0, .int .u64 0] 48 (0, 0)) ∧ v1.drew.heap[w.heap.size + 1 + 1]? = some (.cells #[.int .u64 (da : Int), .int .u64 (dl : Int)] 48 (0, 0)) ∧ Below w.heap.size w v1.drew) := ⟨X1.out.1, X1.out.2.1, X1.out.2.2.1, X1.out.2.2.2.drew⟩
        have q0 := HW.out _ Xd.out.2.2.2
        obtain ⟨ib, hin⟩ : ∃ ib, inB da dl 2147483648 8192 = ib := ⟨_, rfl⟩
        have HI : Hid (inB da dl 2147483648 8192 = ib) := hin
        rw [hin] at HE0
        clear hin X1 d0 d1 d2 d3 p0 p1
        obtain ⟨p0, p1, _, _⟩ := box_facts Xd.out.2.2.1
        go_region_held3 (fun Z => Z.cell? ⟨wb, 0, none⟩ = some (.pointer (some ⟨rb, 0, none⟩)) ∧ Z.cell? ⟨w.heap.size + 1 + 1, 0, none⟩ = some (.int .u64 (da : Int)) ∧ Z.cell? ⟨w.heap.size + 1 + 1, 1, none⟩ = some (.int .u64 (dl : Int))) (go_keep) (first | (go_at_call 33; refine (HH.out _ Xd.out.2.2.2).mono ?_; rintro e w2 ⟨rfl, hw⟩; rw [hw]; clear hw w2; rw [HI.out]))
        generalize v1.drew = v2 at *
        cases ib with
        | false =>
          have HE : Hid (te = 21) := HE0.out
          go_upto_region 7 with fail
          refine wp_region_list ?_
          (refine wpList_step (fun KK hKK => ?_); go_simp; refine hKK _ _ ?_; clear hKK KK)
          refine wpList_store_row rfl 48 _ _ rfl (w.heap.size + 1) #[.int .u64 0, .int .u64 0] rfl rfl 48 #[.int .u64 0, .int .u64 0] Xd.out.2.1 info38 rfl (by simp [Value.oneCell']) ?_
          have HY : Hid (Below w.heap.size w (v2.setRow (w.heap.size + 1) #[.int .u64 0, .int .u64 0]) ∧ (v2.setRow (w.heap.size + 1) #[.int .u64 0, .int .u64 0]).heap[w.heap.size + 1]? = some (.cells #[.int .u64 0, .int .u64 0] 48 (0, 0))) := ⟨below_setRow Xd.out.2.2.2 (Nat.le_succ _) _, setRow_heap _ _ _ _ _ _ Xd.out.2.1⟩
          generalize v2.setRow (w.heap.size + 1) #[.int .u64 0, .int .u64 0] = w9 at *
          obtain ⟨c0, c1, _, _⟩ := box_facts HY.out.2
          go_wp2_with fail
          refine bodyPost_ret (v := .tuple #[.agg #[.int .u64 0, .int .u64 0], .int .i64 21]) (by simp [results, Try.results84, go_sem, c0, c1]) rfl ?_
          rw [HE.out]
          exact ⟨rfl, HY.out.1⟩
        | true =>
          have HE : Hid (te = 0) := HE0.out
          go_upto_region 8 with fail
          refine wp_region_list ?_
          (refine wpList_step (fun KK hKK => ?_); go_simp; refine hKK _ _ ?_; clear hKK KK)
          refine wpList_store_row rfl 48 _ _ rfl (w.heap.size + 1) #[.int .u64 (da : Int), .int .u64 (dl : Int)] rfl rfl 48 #[.int .u64 0, .int .u64 0] Xd.out.2.1 info38 rfl (by simp [Value.oneCell']) ?_
          have HY : Hid (Below w.heap.size w (v2.setRow (w.heap.size + 1) #[.int .u64 (da : Int), .int .u64 (dl : Int)]) ∧ (v2.setRow (w.heap.size + 1) #[.int .u64 (da : Int), .int .u64 (dl : Int)]).heap[w.heap.size + 1]? = some (.cells #[.int .u64 (da : Int), .int .u64 (dl : Int)] 48 (0, 0))) := ⟨below_setRow Xd.out.2.2.2 (Nat.le_succ _) _, setRow_heap _ _ _ _ _ _ Xd.out.2.1⟩
          generalize v2.setRow (w.heap.size + 1) #[.int .u64 (da : Int), .int .u64 (dl : Int)] = w9 at *
          obtain ⟨c0, c1, _, _⟩ := box_facts HY.out.2
          go_wp2_with fail
          refine bodyPost_ret (v := .tuple #[.agg #[.int .u64 (da : Int), .int .u64 (dl : Int)], .int .i64 0]) (by simp [results, Try.results84, go_sem, c0, c1]) rfl ?_
          rw [HE.out]
          exact ⟨rfl, HY.out.1⟩
end Go.Proofs.Ytmjdnocilbnoaaa

/- Walk. -/
namespace Go.Proofs.Ytmjdnocilbnoaaa
open Go.RowKit Go.Maps
set_option linter.unusedVariables false
set_option linter.unusedSimpArgs false
set_option maxRecDepth 100000
theorem info40 : (Try.prog.info? 50).map (·.size) = some 3 := by kernel_rfl
theorem segs_nil (B : Nat) (w : World) : SegIn B w (.slice none 0 0) [] := ⟨rfl, .inl ⟨rfl, rfl⟩⟩
/-- behind a walk: the memory; the segments -/
def ChP (Inv : (Nat → Prop) → World → Prop) (F : Nat → Prop) (w w' : World) (v : Value) (l : List Seg) : Prop := ∃ F', Inv F' w' ∧ Step F w F' w' ∧ SegIn w.heap.size w' v l ∧ ∀ g, v.ownBlock = some g → ¬ F' g
def WkS (rb : Nat) (Inv : (Nat → Prop) → World → Prop) (F : Nat → Prop) (w v0 : World) (F' : Nat → Prop) (V : World) (l : List Seg) : Prop := Wd Inv (fun k => k < w.heap.size + 1 + 1) F' V rb (w.heap.size + 1 + 1) l ∧ Fly (fun k => k < w.heap.size + 1 + 1) F v0 F' V ∧ V.heap[w.heap.size + 1]? = some (.cells #[.slice none 0 0, .int .u64 0, .int .u64 0] 50 (0, 0)) ∧ ¬ F' (w.heap.size + 1)
section
variable {rb : Nat} {M : Nat → Nat} {Inv : (Nat → Prop) → World → Prop} {F : Nat → Prop} {w : World} {v0 V V2 : World} {F' F2 : Nat → Prop} {l l2 : List Seg}
theorem WkS.below (m : Wm rb M Inv) (h : WkS rb Inv F w v0 F' V l) (hb : Below V.heap.size V V2) : WkS rb Inv F w v0 F' V2 l := ⟨h.1.below m hb, h.2.1.trans (Fly.of_below hb h.1.old), below_box h.2.2.1 hb, h.2.2.2⟩
theorem WkS.flew (h : WkS rb Inv F w v0 F' V l) (hw : Wd Inv (fun k => k < w.heap.size + 1 + 1) F2 V2 rb (w.heap.size + 1 + 1) l2) (hf : Fly (fun k => k < w.heap.size + 1 + 1) F' V F2 V2) : WkS rb Inv F w v0 F2 V2 l2 := ⟨hw, h.2.1.trans hf, (hf.block _ (Nat.lt_succ_self _) h.2.2.2).trans h.2.2.1, fun hk => by
  rcases hf.old _ hk with h1 | h1
  · exact h.2.2.2 h1
  · exact h1 (Nat.lt_succ_self _)⟩
theorem WkS.ret (m : Wm rb M Inv) (h0 : Below w.heap.size w v0) (h : WkS rb Inv F w v0 F' V l) (C : Array Value) {v : Value} {l2 : List Seg} (hs : SegIn 0 V v l2) (hg : ∀ g, v.ownBlock = some g → ¬ F' g ∧ w.heap.size + 1 + 1 ≤ g) : ChP Inv F w (V.setRow (w.heap.size + 1) C) v l2 := by
  obtain ⟨h1, h2, h3, h4⟩ := h
  have hsz : (V.setRow (w.heap.size + 1) C).heap.size = V.heap.size := by simp [World.setRow]
  have hst : Step (fun k => k = w.heap.size + 1) V (fun k => k = w.heap.size + 1) (V.setRow (w.heap.size + 1) C) := ⟨rfl, rfl, rfl, by omega, fun k _ hk => setRow_other _ _ _ _ hk, fun _ h => .inl h, fun _ h => h⟩
  refine ⟨F', m.step F' V _ _ _ h1.1 hst (fun k hk e => h4 (e ▸ hk)), ⟨h2.os.trans h0.os, h2.tape.trans h0.tape, h2.output.trans h0.output, by have := h2.size; have := h0.size; omega, fun k hk hf => ?_, fun k hk => ?_, h2.keep⟩, ?_, fun g hg' => (hg g hg').1⟩
  · rw [setRow_other _ _ _ _ (by omega)]
    exact (h2.block k (by show k < _; omega) hf).trans (h0.block k hk)
  · exact (h2.old k hk).imp id (fun hn => by have hn' : ¬ k < w.heap.size + 1 + 1 := hn; omega)
  · refine ⟨hs.1, ?_⟩
    rcases hs.2 with hn | ⟨g, cap, cur, rfl, hb, hgg, rest⟩
    · exact .inl hn
    · have := (hg g rfl).2
      exact .inr ⟨g, cap, cur, rfl, by omega, (setRow_other _ _ _ _ (by omega)).trans hgg, rest⟩
theorem WkS.seg (h : WkS rb Inv F w v0 F' V l) : ∃ a c, V.heap[w.heap.size + 1 + 1]? = some (.cells #[.pointer (some ⟨rb, 0, none⟩), .slice a l.length c] 149 (0, 0)) ∧ SegIn 0 V (.slice a l.length c) l ∧ ∀ g, (Value.slice a l.length c).ownBlock = some g → ¬ F' g ∧ w.heap.size + 1 + 1 ≤ g := by
  obtain ⟨a, c, h1, h2, h3⟩ := h.1.boxes
  exact ⟨a, c, h1, h2, fun g hg => ⟨(h3 g hg).2.1, by have : ¬ g < w.heap.size + 1 + 1 := (h3 g hg).2.2; omega⟩⟩
end
def Wk2 (rb : Nat) (Inv : (Nat → Prop) → World → Prop) (F : Nat → Prop) (w v0 : World) (F' : Nat → Prop) (V : World) (l : List Seg) (p : Nat) (c : Array Value) : Prop := WkS rb Inv F w v0 F' V l ∧ Wd Inv (fun k => k < w.heap.size + 1 + 1 ∨ k = p) F' V rb (w.heap.size + 1 + 1) l ∧ V.heap[p]? = some (.cells c 151 (0, 0)) ∧ ¬ F' p ∧ w.heap.size + 1 + 1 < p
def Wk3 (rb : Nat) (Inv : (Nat → Prop) → World → Prop) (F : Nat → Prop) (w v0 : World) (F' : Nat → Prop) (V : World) (l : List Seg) (p : Nat) (c : Array Value) (q : Nat) (d : Array Value) : Prop := Wk2 rb Inv F w v0 F' V l p c ∧ Wd Inv (fun k => (k < w.heap.size + 1 + 1 ∨ k = p) ∨ k = q) F' V rb (w.heap.size + 1 + 1) l ∧ V.heap[q]? = some (.cells d 48 (0, 0)) ∧ ¬ F' q ∧ q ≠ p
section
variable {rb : Nat} {M : Nat → Nat} {Inv : (Nat → Prop) → World → Prop} {F : Nat → Prop} {w : World} {v0 V V2 : World} {F' F2 : Nat → Prop} {l l2 : List Seg} {p q : Nat} {c d : Array Value}
theorem Wk2.below (m : Wm rb M Inv) (h : Wk2 rb Inv F w v0 F' V l p c) (hb : Below V.heap.size V V2) : Wk2 rb Inv F w v0 F' V2 l p c := ⟨h.1.below m hb, h.2.1.below m hb, below_box h.2.2.1 hb, h.2.2.2⟩
theorem Wk3.below (m : Wm rb M Inv) (h : Wk3 rb Inv F w v0 F' V l p c q d) (hb : Below V.heap.size V V2) : Wk3 rb Inv F w v0 F' V2 l p c q d := ⟨h.1.below m hb, h.2.1.below m hb, below_box h.2.2.1 hb, h.2.2.2⟩
theorem Wk3.flew (h : Wk3 rb Inv F w v0 F' V l p c q d) (hw : Wd Inv (fun k => (k < w.heap.size + 1 + 1 ∨ k = p) ∨ k = q) F2 V2 rb (w.heap.size + 1 + 1) l2) (hf : Fly (fun k => (k < w.heap.size + 1 + 1 ∨ k = p) ∨ k = q) F' V F2 V2) : Wk3 rb Inv F w v0 F2 V2 l2 p c q d := by
  have hn : ∀ k, ((k < w.heap.size + 1 + 1 ∨ k = p) ∨ k = q) → ¬ F' k → ¬ F2 k := fun k hk hf' hk2 => by
    rcases hf.old _ hk2 with h1 | h1
    · exact hf' h1
    · exact h1 hk
  exact ⟨⟨h.1.1.flew (hw.mono (fun _ h => .inl (.inl h))) (hf.mono (fun _ h => .inl (.inl h))), hw.mono (fun _ h => .inl h), (hf.block _ (.inl (.inr rfl)) h.1.2.2.2.1).trans h.1.2.2.1, hn _ (.inl (.inr rfl)) h.1.2.2.2.1, h.1.2.2.2.2⟩, hw, (hf.block _ (.inr rfl) h.2.2.2.1).trans h.2.2.1, hn _ (.inr rfl) h.2.2.2.1, h.2.2.2.2⟩
theorem Wd.setrow {O : Nat → Prop} {wb : Nat} (m : Wm rb M Inv) (h : Wd Inv O F' V rb wb l) (hp : O p) (hF : ¬ F' p) (c : Array Value) : Wd Inv O F' (V.setRow p c) rb wb l := by
  have hsz : (V.setRow p c).heap.size = V.heap.size := by simp [World.setRow]
  have hst : Step (fun k => k = p) V (fun k => k = p) (V.setRow p c) := ⟨rfl, rfl, rfl, by omega, fun k _ hk => setRow_other _ _ _ _ hk, fun _ h => .inl h, fun _ h => h⟩
  obtain ⟨k1, k2, k3, v, k4, k5, k6⟩ := h
  exact ⟨m.step F' V _ _ _ k1 hst (fun k hk e => hF (e ▸ hk)), ⟨fun k hk => by rw [hsz]; exact k2.1 k hk, k2.2⟩, k3, v, (setRow_other _ _ _ _ (fun e => k2.2 (by rw [e]; exact hp))).trans k4, k5.kept (fun g hg => setRow_other _ _ _ _ (fun e => (k6 g hg).2.2 (by rw [e]; exact hp))), k6⟩
theorem Wk3.set (m : Wm rb M Inv) (h : Wk3 rb Inv F w v0 F' V l p c q d) (e : Array Value) : Wk3 rb Inv F w v0 F' (V.setRow p e) l p e q d := by
  have h2 := h.2.1.setrow m (.inl (.inr rfl)) h.1.2.2.2.1 e
  have hsz : (V.setRow p e).heap.size = V.heap.size := by simp [World.setRow]
  refine ⟨⟨⟨h2.mono (fun _ h => .inl (.inl h)), h.1.1.2.1.trans ⟨rfl, rfl, rfl, by omega, fun k hk _ => setRow_other _ _ _ _ (fun he => by have hk' : k < w.heap.size + 1 + 1 := hk; have := h.1.2.2.2.2; omega), fun _ h => .inl h, fun _ h => h⟩, (setRow_other _ _ _ _ (fun he => by have := h.1.2.2.2.2; omega)).trans h.1.1.2.2.1, h.1.1.2.2.2⟩, h2.mono (fun _ h => .inl h), setRow_heap _ _ _ _ _ _ h.1.2.2.1, h.1.2.2.2⟩, h2, (setRow_other _ _ _ _ h.2.2.2.2).trans h.2.2.1, h.2.2.2⟩
end
set_option maxHeartbeats 4000000 in
theorem walk_any {rb : Nat} {M : Nat → Nat} {Inv : (Nat → Prop) → World → Prop} {F : Nat → Prop} {w : World} (m : Wm rb M Inv) (hM : ∀ a, M a ≤ 255) (n D A Uu : Nat) (hn : n ≤ 256) (hd : Int) (al : Bool) (h : Inv F w) (hD1 : DescOk rb M Inv D n) (hD2 : ∀ r, alongR M D n n hd [] = r → r.e = 0 → fl r.d.f 4 = true → tabE r.d al = 0 → DescOk rb M Inv r.d.a (r.d.l / 16)) :
    Calls Try.prog 69 #[.pointer (some ⟨rb, 0, none⟩), .agg #[.int .i64 (n : Int), .int .u64 (D : Int), .int .u64 (A : Int), .int .u64 (Uu : Int)], .int .i64 hd, .bool al] w fun e w' => ∃ v, e = .returned (.tuple #[.agg #[v, .int .u64 ((walkR M D n hd al).ta : Int), .int .u64 ((walkR M D n hd al).tl : Int)], .int .i64 ((walkR M D n hd al).e : Int)]) ∧ ChP Inv F w w' v (walkR M D n hd al).l := by
  obtain ⟨cn, hcn⟩ : ∃ cn, walkR M D n hd al = cn := ⟨_, rfl⟩
  rw [hcn]
  obtain ⟨r, hr⟩ : ∃ r, alongR M D n n hd [] = r := ⟨_, rfl⟩
  have hra := along_all hM D n n hd [] (by simp)
  rw [hr] at hra
  have h3 := three_in w (.cells #[.int .i64 (n : Int), .int .u64 (D : Int), .int .u64 (A : Int), .int .u64 (Uu : Int)] 25) (.cells #[.slice none 0 0, .int .u64 0, .int .u64 0] 50) (.cells #[.pointer (some ⟨rb, 0, none⟩), .slice none 0 0] 149)
  have hF : ∀ k, F k → k < w.heap.size := m.lt F w h
  have X0 : Hid (WkS rb Inv F w (((w.alloc (.cells #[.int .i64 (n : Int), .int .u64 (D : Int), .int .u64 (A : Int), .int .u64 (Uu : Int)] 25)).alloc (.cells #[.slice none 0 0, .int .u64 0, .int .u64 0] 50)).alloc (.cells #[.pointer (some ⟨rb, 0, none⟩), .slice none 0 0] 149)) F (((w.alloc (.cells #[.int .i64 (n : Int), .int .u64 (D : Int), .int .u64 (A : Int), .int .u64 (Uu : Int)] 25)).alloc (.cells #[.slice none 0 0, .int .u64 0, .int .u64 0] 50)).alloc (.cells #[.pointer (some ⟨rb, 0, none⟩), .slice none 0 0] 149)) []) := ⟨⟨m.below h h3.2.2.2, ⟨fun k hk => by have : k < w.heap.size + 1 + 1 := hk; simp; omega, fun hk => by have : w.heap.size + 1 + 1 < w.heap.size + 1 + 1 := hk; omega⟩, fun hf => by have := hF _ hf; omega, _, h3.2.2.1, segs_nil _ _, fun g hg => by cases hg⟩, Fly.refl _ _ _, h3.2.1, fun hf => by have := hF _ hf; omega⟩
  have HB0 : Hid (Below w.heap.size w (((w.alloc (.cells #[.int .i64 (n : Int), .int .u64 (D : Int), .int .u64 (A : Int), .int .u64 (Uu : Int)] 25)).alloc (.cells #[.slice none 0 0, .int .u64 0, .int .u64 0] 50)).alloc (.cells #[.pointer (some ⟨rb, 0, none⟩), .slice none 0 0] 149))) := h3.2.2.2
  have HL : Hid ((((w.alloc (.cells #[.int .i64 (n : Int), .int .u64 (D : Int), .int .u64 (A : Int), .int .u64 (Uu : Int)] 25)).alloc (.cells #[.slice none 0 0, .int .u64 0, .int .u64 0] 50)).alloc (.cells #[.pointer (some ⟨rb, 0, none⟩), .slice none 0 0] 149)).heap[w.heap.size]? = some (.cells #[.int .i64 (n : Int), .int .u64 (D : Int), .int .u64 (A : Int), .int .u64 (Uu : Int)] 25 (0, 0))) := h3.1
  have HCN : Hid (walkR M D n hd al = cn ∧ alongR M D n n hd [] = r) := ⟨hcn, hr⟩
  have HRA : Hid (r.d.Ok ∧ r.l.length ≤ 256) := ⟨hra.2.1, by have := hra.2.2; simp at this; omega⟩
  have HD : Hid (DescOk rb M Inv D n ∧ (r.e = 0 → fl r.d.f 4 = true → tabE r.d al = 0 → DescOk rb M Inv r.d.a (r.d.l / 16))) := ⟨hD1, hD2 r hr⟩
  have HM : Hid (∀ a, M a ≤ 255) := hM
  have hmin : (if (256 : Int) < n then (256 : Int) else n) = n := if_neg (by omega)
  have hmin2 : (if (256 : Nat) < n then (256 : Int) else n) = n := if_neg (by omega)
  have hn1 : ¬ (256 : Int) < n := by omega
  clear hcn hr hra h3 hF h hD1 hD2 hM
  go_enter Try.func69, Try.ntmps69
  go_upto_region 2 with fail
  have W35 : Hid (∀ V, WkS rb Inv F w (((w.alloc (.cells #[.int .i64 (n : Int), .int .u64 (D : Int), .int .u64 (A : Int), .int .u64 (Uu : Int)] 25)).alloc (.cells #[.slice none 0 0, .int .u64 0, .int .u64 0] 50)).alloc (.cells #[.pointer (some ⟨rb, 0, none⟩), .slice none 0 0] 149)) F V [] → Calls Try.prog 82 #[.pointer (some ⟨w.heap.size + 1 + 1, 0, none⟩), .int .u64 (D : Int), .int .i64 (n : Int), .int .i64 hd] V fun e w' => e = .returned (.tuple #[.agg #[.int .u64 (r.d.a : Int), .int .u32 (r.d.l : Int), .int .u16 (r.d.f : Int), .int .u16 (r.d.x : Int)], .int .i64 (r.e : Int)]) ∧ ∃ F', Wd Inv (fun k => k < w.heap.size + 1 + 1) F' w' rb (w.heap.size + 1 + 1) r.l ∧ Fly (fun k => k < w.heap.size + 1 + 1) F V F' w') := by
    intro V hV
    have := along_any m HM.out D n hn HD.out.1 hV.1 (by simp) hd
    rw [HCN.out.2] at this
    exact this
  generalize ((w.alloc (.cells #[.int .i64 (n : Int), .int .u64 (D : Int), .int .u64 (A : Int), .int .u64 (Uu : Int)] 25)).alloc (.cells #[.slice none 0 0, .int .u64 0, .int .u64 0] 50)).alloc (.cells #[.pointer (some ⟨rb, 0, none⟩), .slice none 0 0] 149) = v0 at *
  obtain ⟨⟨da, dl, df, dx⟩, hde⟩ : ∃ d, r.d = d := ⟨_, rfl⟩
  obtain ⟨re, hre⟩ : ∃ e, r.e = e := ⟨_, rfl⟩
  obtain ⟨rl, hrl⟩ : ∃ e, r.l = e := ⟨_, rfl⟩
  have HRE : Hid (r.d = ⟨da, dl, df, dx⟩ ∧ r.e = re ∧ r.l = rl) := ⟨hde, hre, hrl⟩
  rw [hde, hre, hrl] at W35
  rw [hde, hrl] at HRA
  simp only at W35
  clear hde hre hrl
  obtain ⟨l0, l1, l2, l3⟩ := box4_facts HL.out
  go_upto_region 3 with (go_at_call 82; refine (W35.out _ X0.out).mono ?_; rintro e w1 ⟨rfl, F1, hw1, hy1⟩; have X1 : Hid (WkS rb Inv F w v0 F1 w1 rl) := X0.out.flew hw1 hy1; clear hw1 hy1 W35 X0)
  clear l0 l1 l2 l3 HL
  have hb2 : Below w1.heap.size w1 (w1.alloc (.cells #[.int .u64 (da : Int), .int .u32 (dl : Int), .int .u16 (df : Int), .int .u16 (dx : Int)] 151)) := (Below.refl _ _).alloc (Nat.le_refl _) _
  have X2 : Hid (Wk2 rb Inv F w v0 F1 (w1.alloc (.cells #[.int .u64 (da : Int), .int .u32 (dl : Int), .int .u16 (df : Int), .int .u16 (dx : Int)] 151)) rl w1.heap.size #[.int .u64 (da : Int), .int .u32 (dl : Int), .int .u16 (df : Int), .int .u16 (dx : Int)]) := ⟨X1.out.below m hb2, X1.out.1.box m hb2 (Nat.le_refl _) (by simp), heap_alloc_new _ _, fun hf => by have := m.lt F1 w1 X1.out.1.1 _ hf; omega, X1.out.1.lt⟩
  clear hb2 X1
  generalize w1.alloc (.cells #[.int .u64 (da : Int), .int .u32 (dl : Int), .int .u16 (df : Int), .int .u16 (dx : Int)] 151) = w2 at *
  generalize w1.heap.size = p at *
  by_cases hz : re = 0
  case neg =>
    have hz1 : ((re : Int) != 0) = true := by simp; omega
    have hz2 : ¬ (re : Int) = 0 := by omega
    have HE : Hid (cn = ⟨re, [], 0, 0⟩) := HCN.out.1.symm.trans (by rw [walk_err HCN.out.2 (by rw [HRE.out.2.1]; exact hz), HRE.out.2.1])
    clear hz
    go_upto_region 4 with fail
    refine wp_region_list ?_
    (refine wpList_step (fun KK hKK => ?_); go_simp; refine hKK _ _ ?_; clear hKK KK)
    (refine wpList_step (fun KK hKK => ?_); go_simp; refine hKK _ _ ?_; clear hKK KK)
    refine wpList_store_row rfl 50 _ _ rfl (w.heap.size + 1) #[.slice none 0 0, .int .u64 0, .int .u64 0] rfl rfl 50 #[.slice none 0 0, .int .u64 0, .int .u64 0] X2.out.1.2.2.1 info40 rfl (by simp [Value.oneCell']) ?_
    have HY : Hid (ChP Inv F w (w2.setRow (w.heap.size + 1) #[.slice none 0 0, .int .u64 0, .int .u64 0]) (.slice none 0 0) [] ∧ (w2.setRow (w.heap.size + 1) #[.slice none 0 0, .int .u64 0, .int .u64 0]).heap[w.heap.size + 1]? = some (.cells #[.slice none 0 0, .int .u64 0, .int .u64 0] 50 (0, 0))) := ⟨X2.out.1.ret m HB0.out #[.slice none 0 0, .int .u64 0, .int .u64 0] (segs_nil _ _) (fun g hg => by cases hg), setRow_heap _ _ _ _ _ _ X2.out.1.2.2.1⟩
    generalize w2.setRow (w.heap.size + 1) #[.slice none 0 0, .int .u64 0, .int .u64 0] = w9 at *
    obtain ⟨c0, c1, c2⟩ := box3_facts HY.out.2
    go_wp2_with fail
    refine bodyPost_ret (v := .tuple #[.agg #[.slice none 0 0, .int .u64 0, .int .u64 0], .int .i64 (re : Int)]) (by simp [results, Try.results69, go_sem, c0, c1, c2]) rfl ?_
    rw [HE.out]
    exact ⟨_, rfl, HY.out.1⟩
  subst hz
  obtain ⟨d0, d1, d2, d3⟩ := box4_facts X2.out.2.2.1
  have hf : df ≤ 65535 := HRA.out.1.f
  obtain ⟨f4, hf4⟩ : ∃ b, fl df 4 = b := ⟨_, rfl⟩
  have H4 : Hid (∀ V, Calls Try.prog 83 #[.agg #[.int .u64 (da : Int), .int .u32 (dl : Int), .int .u16 (df : Int), .int .u16 (dx : Int)], .int .u16 4] V fun e w' => e = .returned (.bool f4) ∧ Below V.heap.size V w') := by
    intro V; rw [← hf4]; exact hasf4 da dl df dx hf V
  have HF4 : Hid (fl r.d.f 4 = f4) := by show fl r.d.f 4 = f4; rw [HRE.out.1]; exact hf4
  clear hf4
  cases f4 with
  | false =>
    have HE : Hid (cn = ⟨0, rl, 0, 0⟩) := HCN.out.1.symm.trans (by rw [walk_plain HCN.out.2 HRE.out.2.1 HF4.out, HRE.out.2.2])
    go_upto_region 6 with (go_at_call 83; refine (H4.out _).mono ?_; rintro e w3 ⟨rfl, hb3⟩; have X3 : Hid (Wk2 rb Inv F w v0 F1 w3 rl p #[.int .u64 (da : Int), .int .u32 (dl : Int), .int .u16 (df : Int), .int .u16 (dx : Int)]) := X2.out.below m hb3; clear hb3 d0 d1 d2 d3)
    clear X2
    obtain ⟨a, c, hwb, hsg, hgg⟩ := X3.out.1.seg
    have HG : Hid (SegIn 0 w3 (.slice a rl.length c) rl ∧ ∀ g, (Value.slice a rl.length c).ownBlock = some g → ¬ F1 g ∧ w.heap.size + 1 + 1 ≤ g) := ⟨hsg, hgg⟩
    have m1 := cellOf hwb 1 _ rfl
    clear hwb hsg hgg
    obtain ⟨nl, hnl⟩ : ∃ nl, rl.length = nl := ⟨_, rfl⟩
    rw [hnl] at HG m1
    go_upto_region 6 with fail
    refine wp_region_list ?_
    (refine wpList_step (fun KK hKK => ?_); go_simp; refine hKK _ _ ?_; clear hKK KK)
    (refine wpList_step (fun KK hKK => ?_); go_simp; refine hKK _ _ ?_; clear hKK KK)
    (refine wpList_step (fun KK hKK => ?_); go_simp; refine hKK _ _ ?_; clear hKK KK)
    refine wpList_store_row rfl 50 _ _ rfl (w.heap.size + 1) #[.slice a nl c, .int .u64 0, .int .u64 0] rfl rfl 50 #[.slice none 0 0, .int .u64 0, .int .u64 0] X3.out.1.2.2.1 info40 rfl (by simp [Value.oneCell']) ?_
    have HY : Hid (ChP Inv F w (w3.setRow (w.heap.size + 1) #[.slice a nl c, .int .u64 0, .int .u64 0]) (.slice a nl c) rl ∧ (w3.setRow (w.heap.size + 1) #[.slice a nl c, .int .u64 0, .int .u64 0]).heap[w.heap.size + 1]? = some (.cells #[.slice a nl c, .int .u64 0, .int .u64 0] 50 (0, 0))) := ⟨X3.out.1.ret m HB0.out #[.slice a nl c, .int .u64 0, .int .u64 0] (HG.out.1) (HG.out.2), setRow_heap _ _ _ _ _ _ X3.out.1.2.2.1⟩
    generalize w3.setRow (w.heap.size + 1) #[.slice a nl c, .int .u64 0, .int .u64 0] = w9 at *
    obtain ⟨c0, c1, c2⟩ := box3_facts HY.out.2
    go_wp2_with fail
    refine bodyPost_ret (v := .tuple #[.agg #[.slice a nl c, .int .u64 0, .int .u64 0], .int .i64 0]) (by simp [results, Try.results69, go_sem, c0, c1, c2]) rfl ?_
    rw [HE.out]
    exact ⟨_, rfl, HY.out.1⟩
  | true =>
    have H55 : Hid (∀ V, Inv F1 V → Calls Try.prog 33 #[.pointer (some ⟨rb, 0, none⟩), .int .u64 (da : Int), .int .u64 (dl : Int)] V fun e w' => e = .returned (.bool (inB da dl 2147483648 8192)) ∧ w' = V) := by
      intro V hV
      obtain ⟨G, n, lg, hr⟩ := m.ram F1 V hV
      exact has_any hr (by omega) da dl HRA.out.1.a (by have := HRA.out.1.l; simp at this; omega)
    obtain ⟨te, hte⟩ : ∃ te, tabE ⟨da, dl, df, dx⟩ al = te := ⟨_, rfl⟩
    have H37 : Hid (∀ V, Wk2 rb Inv F w v0 F1 V rl p #[.int .u64 (da : Int), .int .u32 (dl : Int), .int .u16 (df : Int), .int .u16 (dx : Int)] → Calls Try.prog 84 #[.pointer (some ⟨w.heap.size + 1 + 1, 0, none⟩), .agg #[.int .u64 (da : Int), .int .u32 (dl : Int), .int .u16 (df : Int), .int .u16 (dx : Int)], .bool al] V fun e w' => e = .returned (.tuple #[tabV te da dl, .int .i64 (te : Int)]) ∧ Below V.heap.size V w') := by
      intro V hV
      obtain ⟨a, c, hwb, _⟩ := hV.1.seg
      rw [← hte]
      exact tab_any da dl df dx HRA.out.1 al hwb (fun V2 hV2 => H55.out V2 (m.below hV.1.1.1 hV2))
    have HTE : Hid (tabE r.d al = te) := by show tabE r.d al = te; rw [HRE.out.1]; exact hte
    clear hte H55
    by_cases hz : te = 0
    case neg =>
      have hz1 : ((te : Int) != 0) = true := by simp; omega
      have hz2 : ¬ (te : Int) = 0 := by omega
      have HE : Hid (cn = ⟨te, [], 0, 0⟩) := HCN.out.1.symm.trans (walk_tab HCN.out.2 HRE.out.2.1 HF4.out HTE.out hz)
      have hT : tabV te da dl = .agg #[.int .u64 0, .int .u64 0] := if_neg hz
      rw [hT] at H37
      clear hz hT
      go_upto_region 8 with (first | (go_at_call 83; refine (H4.out _).mono ?_; rintro e w3 ⟨rfl, hb3⟩; have X3 : Hid (Wk2 rb Inv F w v0 F1 w3 rl p #[.int .u64 (da : Int), .int .u32 (dl : Int), .int .u16 (df : Int), .int .u16 (dx : Int)]) := X2.out.below m hb3; clear hb3 d0 d1 d2 d3 X2; obtain ⟨d0, d1, d2, d3⟩ := box4_facts X3.out.2.2.1) | (go_at_call 84; refine (H37.out _ X3.out).mono ?_; rintro e w4 ⟨rfl, hb4⟩; have X4 : Hid (Wk2 rb Inv F w v0 F1 w4 rl p #[.int .u64 (da : Int), .int .u32 (dl : Int), .int .u16 (df : Int), .int .u16 (dx : Int)]) := X3.out.below m hb4; clear hb4 d0 d1 d2 d3 X3))
      have X5 : Hid (Wk2 rb Inv F w v0 F1 (w4.alloc (.cells #[.int .u64 0, .int .u64 0] 48)) rl p #[.int .u64 (da : Int), .int .u32 (dl : Int), .int .u16 (df : Int), .int .u16 (dx : Int)]) := X4.out.below m ((Below.refl _ _).alloc (Nat.le_refl _) _)
      clear X4
      generalize w4.alloc (.cells #[.int .u64 0, .int .u64 0] 48) = w5 at *
      go_upto_region 9 with fail
      refine wp_region_list ?_
      (refine wpList_step (fun KK hKK => ?_); go_simp; refine hKK _ _ ?_; clear hKK KK)
      (refine wpList_step (fun KK hKK => ?_); go_simp; refine hKK _ _ ?_; clear hKK KK)
      refine wpList_store_row rfl 50 _ _ rfl (w.heap.size + 1) #[.slice none 0 0, .int .u64 0, .int .u64 0] rfl rfl 50 #[.slice none 0 0, .int .u64 0, .int .u64 0] X5.out.1.2.2.1 info40 rfl (by simp [Value.oneCell']) ?_
      have HY : Hid (ChP Inv F w (w5.setRow (w.heap.size + 1) #[.slice none 0 0, .int .u64 0, .int .u64 0]) (.slice none 0 0) [] ∧ (w5.setRow (w.heap.size + 1) #[.slice none 0 0, .int .u64 0, .int .u64 0]).heap[w.heap.size + 1]? = some (.cells #[.slice none 0 0, .int .u64 0, .int .u64 0] 50 (0, 0))) := ⟨X5.out.1.ret m HB0.out #[.slice none 0 0, .int .u64 0, .int .u64 0] (segs_nil _ _) (fun g hg => by cases hg), setRow_heap _ _ _ _ _ _ X5.out.1.2.2.1⟩
      generalize w5.setRow (w.heap.size + 1) #[.slice none 0 0, .int .u64 0, .int .u64 0] = w9 at *
      obtain ⟨c0, c1, c2⟩ := box3_facts HY.out.2
      go_wp2_with fail
      refine bodyPost_ret (v := .tuple #[.agg #[.slice none 0 0, .int .u64 0, .int .u64 0], .int .i64 (te : Int)]) (by simp [results, Try.results69, go_sem, c0, c1, c2]) rfl ?_
      rw [HE.out]
      exact ⟨_, rfl, HY.out.1⟩
    subst hz
    have hT : tabV 0 da dl = .agg #[.int .u64 (da : Int), .int .u64 (dl : Int)] := if_pos rfl
    rw [hT] at H37
    clear hT
    have HTI := tab_in HTE.out
    rw [HRE.out.1] at HTI
    have hdl : dl ≤ 4096 := HTI.2.2.2.2.1
    have hdl16 : 16 ≤ dl := HTI.2.2.2.1
    clear HTI
    obtain ⟨y, hy⟩ : ∃ y, dl / 16 = y := ⟨_, rfl⟩
    have e1 : (dl : Int) / 16 = (y : Int) := by omega
    have e2 : (dl : Int).tdiv 16 = (y : Int) := by rw [Int.tdiv_eq_ediv_of_nonneg (by omega)]; exact e1
    have e3 : IntKind.u64.wrap (y : Int) = (y : Int) := by rw [wrap_u64]; omega
    have e4 : IntKind.i64.wrap (y : Int) = (y : Int) := wrapi y (by omega)
    have hy2 : y ≤ 256 := by omega
    have HYY : Hid (dl / 16 = y) := hy
    clear hy
    go_upto_region 8 with (first | (go_at_call 83; refine (H4.out _).mono ?_; rintro e w3 ⟨rfl, hb3⟩; have X3 : Hid (Wk2 rb Inv F w v0 F1 w3 rl p #[.int .u64 (da : Int), .int .u32 (dl : Int), .int .u16 (df : Int), .int .u16 (dx : Int)]) := X2.out.below m hb3; clear hb3 d0 d1 d2 d3 X2; obtain ⟨d0, d1, d2, d3⟩ := box4_facts X3.out.2.2.1) | (go_at_call 84; refine (H37.out _ X3.out).mono ?_; rintro e w4 ⟨rfl, hb4⟩; have X4 : Hid (Wk2 rb Inv F w v0 F1 w4 rl p #[.int .u64 (da : Int), .int .u32 (dl : Int), .int .u16 (df : Int), .int .u16 (dx : Int)]) := X3.out.below m hb4; clear hb4 d0 d1 d2 d3 X3))
    have hb5 : Below w4.heap.size w4 (w4.alloc (.cells #[.int .u64 (da : Int), .int .u64 (dl : Int)] 48)) := (Below.refl _ _).alloc (Nat.le_refl _) _
    have X5 : Hid (Wk3 rb Inv F w v0 F1 (w4.alloc (.cells #[.int .u64 (da : Int), .int .u64 (dl : Int)] 48)) rl p #[.int .u64 (da : Int), .int .u32 (dl : Int), .int .u16 (df : Int), .int .u16 (dx : Int)] w4.heap.size #[.int .u64 (da : Int), .int .u64 (dl : Int)]) := ⟨X4.out.below m hb5, X4.out.2.1.box m hb5 (Nat.le_refl _) (by simp), heap_alloc_new _ _, fun hf => by have := m.lt F1 w4 X4.out.1.1.1 _ hf; omega, fun e => by have := (Array.getElem?_eq_some_iff.1 X4.out.2.2.1).1; omega⟩
    clear hb5 X4
    generalize w4.alloc (.cells #[.int .u64 (da : Int), .int .u64 (dl : Int)] 48) = w5 at *
    generalize w4.heap.size = p3 at *
    obtain ⟨s, hs⟩ : ∃ s, alongR M da y y 0 rl = s := ⟨_, rfl⟩
    have HS : Hid (alongR M r.d.a (r.d.l / 16) (r.d.l / 16) 0 r.l = s) := by show alongR M r.d.a (r.d.l / 16) (r.d.l / 16) 0 r.l = s; rw [HRE.out.1, HRE.out.2.2]; simp only; rw [HYY.out]; exact hs
    have hsa := along_all HM.out da y y 0 rl (by
      have := along_all HM.out D n n hd [] (by simp)
      rw [HCN.out.2, HRE.out.2.2] at this
      exact this.1)
    rw [hs] at hsa
    have hsf : s.d.f ≤ 65535 := hsa.2.1.f
    clear hsa
    have H352 : Hid (∀ V, Wk3 rb Inv F w v0 F1 V rl p #[.int .u64 (da : Int), .int .u32 (dl : Int), .int .u16 (df : Int), .int .u16 (dx : Int)] p3 #[.int .u64 (da : Int), .int .u64 (dl : Int)] → Calls Try.prog 82 #[.pointer (some ⟨w.heap.size + 1 + 1, 0, none⟩), .int .u64 (da : Int), .int .i64 (y : Int), .int .i64 0] V fun e w' => e = .returned (.tuple #[.agg #[.int .u64 (s.d.a : Int), .int .u32 (s.d.l : Int), .int .u16 (s.d.f : Int), .int .u16 (s.d.x : Int)], .int .i64 (s.e : Int)]) ∧ ∃ F', Wd Inv (fun k => (k < w.heap.size + 1 + 1 ∨ k = p) ∨ k = p3) F' w' rb (w.heap.size + 1 + 1) s.l ∧ Fly (fun k => (k < w.heap.size + 1 + 1 ∨ k = p) ∨ k = p3) F1 V F' w') := by
      intro V hV
      have hdo := HD.out.2 HRE.out.2.1 HF4.out HTE.out
      rw [HRE.out.1] at hdo
      simp only at hdo
      rw [HYY.out] at hdo
      have := along_any m HM.out da y hy2 hdo hV.2.1 (by have := HRA.out.2; omega) 0
      rw [hs] at this
      exact this
    clear hs
    obtain ⟨⟨ea, el, ef, ex⟩, hde⟩ : ∃ d, s.d = d := ⟨_, rfl⟩
    obtain ⟨se, hse⟩ : ∃ e, s.e = e := ⟨_, rfl⟩
    obtain ⟨sl, hsl⟩ : ∃ e, s.l = e := ⟨_, rfl⟩
    have HSE : Hid (s.d = ⟨ea, el, ef, ex⟩ ∧ s.e = se ∧ s.l = sl) := ⟨hde, hse, hsl⟩
    rw [hde, hse, hsl] at H352
    rw [hde] at hsf
    simp only at H352 hsf
    clear hde hse hsl
    obtain ⟨t0, t1, _, _⟩ := box_facts X5.out.2.2.1
    go_upto_region 11 with (go_at_call 82; refine (H352.out _ X5.out).mono ?_; rintro e w6 ⟨rfl, F2, hw6, hy6⟩; have X6 : Hid (Wk3 rb Inv F w v0 F2 w6 sl p #[.int .u64 (da : Int), .int .u32 (dl : Int), .int .u16 (df : Int), .int .u16 (dx : Int)] p3 #[.int .u64 (da : Int), .int .u64 (dl : Int)]) := X5.out.flew hw6 hy6; clear hw6 hy6 X5 t0 t1; rename_i KK hKK; refine hKK _ _ ?_; clear hKK; (refine wpList_step (fun KK hKK => ?_); go_simp; refine hKK _ _ ?_; clear hKK KK); (refine wpList_step (fun KK hKK => ?_); go_simp; refine hKK _ _ ?_; clear hKK KK); (refine wpList_step (fun KK hKK => ?_); go_simp; refine hKK _ _ ?_; clear hKK KK); refine wpList_store_row rfl 151 _ _ rfl p #[.int .u64 (ea : Int), .int .u32 (el : Int), .int .u16 (ef : Int), .int .u16 (ex : Int)] rfl rfl 151 #[.int .u64 (da : Int), .int .u32 (dl : Int), .int .u16 (df : Int), .int .u16 (dx : Int)] X6.out.1.2.2.1 info47 rfl (by simp [Value.oneCell']) ?_; have X7 : Hid (Wk3 rb Inv F w v0 F2 (w6.setRow p #[.int .u64 (ea : Int), .int .u32 (el : Int), .int .u16 (ef : Int), .int .u16 (ex : Int)]) sl p #[.int .u64 (ea : Int), .int .u32 (el : Int), .int .u16 (ef : Int), .int .u16 (ex : Int)] p3 #[.int .u64 (da : Int), .int .u64 (dl : Int)]) := X6.out.set m _; clear X6; generalize w6.setRow p #[.int .u64 (ea : Int), .int .u32 (el : Int), .int .u16 (ef : Int), .int .u16 (ex : Int)] = w7 at *)
    obtain ⟨d0, d1, d2, d3⟩ := box4_facts X7.out.1.2.2.1
    by_cases hz : se = 0
    case neg =>
      have hz1 : ((se : Int) != 0) = true := by simp; omega
      have hz2 : ¬ (se : Int) = 0 := by omega
      have HE : Hid (cn = ⟨se, [], 0, 0⟩) := HCN.out.1.symm.trans (by rw [walk_err2 HCN.out.2 HRE.out.2.1 HF4.out HTE.out HS.out (by rw [HSE.out.2.1]; exact hz), HSE.out.2.1])
      clear hz
      go_upto_region 12 with fail
      refine wp_region_list ?_
      (refine wpList_step (fun KK hKK => ?_); go_simp; refine hKK _ _ ?_; clear hKK KK)
      (refine wpList_step (fun KK hKK => ?_); go_simp; refine hKK _ _ ?_; clear hKK KK)
      refine wpList_store_row rfl 50 _ _ rfl (w.heap.size + 1) #[.slice none 0 0, .int .u64 0, .int .u64 0] rfl rfl 50 #[.slice none 0 0, .int .u64 0, .int .u64 0] X7.out.1.1.2.2.1 info40 rfl (by simp [Value.oneCell']) ?_
      have HY : Hid (ChP Inv F w (w7.setRow (w.heap.size + 1) #[.slice none 0 0, .int .u64 0, .int .u64 0]) (.slice none 0 0) [] ∧ (w7.setRow (w.heap.size + 1) #[.slice none 0 0, .int .u64 0, .int .u64 0]).heap[w.heap.size + 1]? = some (.cells #[.slice none 0 0, .int .u64 0, .int .u64 0] 50 (0, 0))) := ⟨X7.out.1.1.ret m HB0.out #[.slice none 0 0, .int .u64 0, .int .u64 0] (segs_nil _ _) (fun g hg => by cases hg), setRow_heap _ _ _ _ _ _ X7.out.1.1.2.2.1⟩
      generalize w7.setRow (w.heap.size + 1) #[.slice none 0 0, .int .u64 0, .int .u64 0] = w9 at *
      obtain ⟨c0, c1, c2⟩ := box3_facts HY.out.2
      go_wp2_with fail
      refine bodyPost_ret (v := .tuple #[.agg #[.slice none 0 0, .int .u64 0, .int .u64 0], .int .i64 (se : Int)]) (by simp [results, Try.results69, go_sem, c0, c1, c2]) rfl ?_
      rw [HE.out]
      exact ⟨_, rfl, HY.out.1⟩
    subst hz
    obtain ⟨f5, hf5⟩ : ∃ b, fl ef 4 = b := ⟨_, rfl⟩
    have H5 : Hid (∀ V, Calls Try.prog 83 #[.agg #[.int .u64 (ea : Int), .int .u32 (el : Int), .int .u16 (ef : Int), .int .u16 (ex : Int)], .int .u16 4] V fun e w' => e = .returned (.bool f5) ∧ Below V.heap.size V w') := by
      intro V; rw [← hf5]; exact hasf4 ea el ef ex hsf V
    have HF5 : Hid (fl s.d.f 4 = f5) := by show fl s.d.f 4 = f5; rw [HSE.out.1]; exact hf5
    clear hf5
    cases f5 with
    | true =>
      have HE : Hid (cn = ⟨153, [], 0, 0⟩) := HCN.out.1.symm.trans (walk_nest HCN.out.2 HRE.out.2.1 HF4.out HTE.out HS.out HSE.out.2.1 HF5.out)
      go_upto_region 14 with (go_at_call 83; refine (H5.out _).mono ?_; rintro e w8 ⟨rfl, hb8⟩; have X8 : Hid (Wk3 rb Inv F w v0 F2 w8 sl p #[.int .u64 (ea : Int), .int .u32 (el : Int), .int .u16 (ef : Int), .int .u16 (ex : Int)] p3 #[.int .u64 (da : Int), .int .u64 (dl : Int)]) := X7.out.below m hb8; clear hb8 d0 d1 d2 d3)
      clear X7
      go_upto_region 14 with fail
      refine wp_region_list ?_
      (refine wpList_step (fun KK hKK => ?_); go_simp; refine hKK _ _ ?_; clear hKK KK)
      refine wpList_store_row rfl 50 _ _ rfl (w.heap.size + 1) #[.slice none 0 0, .int .u64 0, .int .u64 0] rfl rfl 50 #[.slice none 0 0, .int .u64 0, .int .u64 0] X8.out.1.1.2.2.1 info40 rfl (by simp [Value.oneCell']) ?_
      have HY : Hid (ChP Inv F w (w8.setRow (w.heap.size + 1) #[.slice none 0 0, .int .u64 0, .int .u64 0]) (.slice none 0 0) [] ∧ (w8.setRow (w.heap.size + 1) #[.slice none 0 0, .int .u64 0, .int .u64 0]).heap[w.heap.size + 1]? = some (.cells #[.slice none 0 0, .int .u64 0, .int .u64 0] 50 (0, 0))) := ⟨X8.out.1.1.ret m HB0.out #[.slice none 0 0, .int .u64 0, .int .u64 0] (segs_nil _ _) (fun g hg => by cases hg), setRow_heap _ _ _ _ _ _ X8.out.1.1.2.2.1⟩
      generalize w8.setRow (w.heap.size + 1) #[.slice none 0 0, .int .u64 0, .int .u64 0] = w9 at *
      obtain ⟨c0, c1, c2⟩ := box3_facts HY.out.2
      go_wp2_with fail
      refine bodyPost_ret (v := .tuple #[.agg #[.slice none 0 0, .int .u64 0, .int .u64 0], .int .i64 153]) (by simp [results, Try.results69, go_sem, c0, c1, c2]) rfl ?_
      rw [HE.out]
      exact ⟨_, rfl, HY.out.1⟩
    | false =>
      have HE : Hid (cn = ⟨0, sl, da, dl⟩) := HCN.out.1.symm.trans (by rw [walk_two HCN.out.2 HRE.out.2.1 HF4.out HTE.out HS.out HSE.out.2.1 HF5.out, HRE.out.1, HSE.out.2.2])
      go_upto_region 15 with (go_at_call 83; refine (H5.out _).mono ?_; rintro e w8 ⟨rfl, hb8⟩; have X8 : Hid (Wk3 rb Inv F w v0 F2 w8 sl p #[.int .u64 (ea : Int), .int .u32 (el : Int), .int .u16 (ef : Int), .int .u16 (ex : Int)] p3 #[.int .u64 (da : Int), .int .u64 (dl : Int)]) := X7.out.below m hb8; clear hb8 d0 d1 d2 d3)
      clear X7
      obtain ⟨t0, t1, _, _⟩ := box_facts X8.out.2.2.1
      obtain ⟨a, c, hwb, hsg, hgg⟩ := X8.out.1.1.seg
      have HG : Hid (SegIn 0 w8 (.slice a sl.length c) sl ∧ ∀ g, (Value.slice a sl.length c).ownBlock = some g → ¬ F2 g ∧ w.heap.size + 1 + 1 ≤ g) := ⟨hsg, hgg⟩
      have m1 := cellOf hwb 1 _ rfl
      clear hwb hsg hgg
      obtain ⟨nl, hnl⟩ : ∃ nl, sl.length = nl := ⟨_, rfl⟩
      rw [hnl] at HG m1
      go_upto_region 15 with fail
      refine wp_region_list ?_
      (refine wpList_step (fun KK hKK => ?_); go_simp; refine hKK _ _ ?_; clear hKK KK)
      (refine wpList_step (fun KK hKK => ?_); go_simp; refine hKK _ _ ?_; clear hKK KK)
      (refine wpList_step (fun KK hKK => ?_); go_simp; refine hKK _ _ ?_; clear hKK KK)
      (refine wpList_step (fun KK hKK => ?_); go_simp; refine hKK _ _ ?_; clear hKK KK)
      refine wpList_store_row rfl 50 _ _ rfl (w.heap.size + 1) #[.slice a nl c, .int .u64 (da : Int), .int .u64 (dl : Int)] rfl rfl 50 #[.slice none 0 0, .int .u64 0, .int .u64 0] X8.out.1.1.2.2.1 info40 rfl (by simp [Value.oneCell']) ?_
      have HY : Hid (ChP Inv F w (w8.setRow (w.heap.size + 1) #[.slice a nl c, .int .u64 (da : Int), .int .u64 (dl : Int)]) (.slice a nl c) sl ∧ (w8.setRow (w.heap.size + 1) #[.slice a nl c, .int .u64 (da : Int), .int .u64 (dl : Int)]).heap[w.heap.size + 1]? = some (.cells #[.slice a nl c, .int .u64 (da : Int), .int .u64 (dl : Int)] 50 (0, 0))) := ⟨X8.out.1.1.ret m HB0.out #[.slice a nl c, .int .u64 (da : Int), .int .u64 (dl : Int)] (HG.out.1) (HG.out.2), setRow_heap _ _ _ _ _ _ X8.out.1.1.2.2.1⟩
      generalize w8.setRow (w.heap.size + 1) #[.slice a nl c, .int .u64 (da : Int), .int .u64 (dl : Int)] = w9 at *
      obtain ⟨c0, c1, c2⟩ := box3_facts HY.out.2
      go_wp2_with fail
      refine bodyPost_ret (v := .tuple #[.agg #[.slice a nl c, .int .u64 (da : Int), .int .u64 (dl : Int)], .int .i64 0]) (by simp [results, Try.results69, go_sem, c0, c1, c2]) rfl ?_
      rw [HE.out]
      exact ⟨_, rfl, HY.out.1⟩

end Go.Proofs.Ytmjdnocilbnoaaa

/- Sizes on both sides. -/
namespace Go.Proofs.Ytmjdnocilbnoaaa
open Go.RowKit Go.Maps
set_option linter.unusedVariables false
set_option linter.unusedSimpArgs false
set_option maxRecDepth 100000
set_option maxHeartbeats 2000000 in
theorem psizes_any {w : World} {a : Option Addr} {L c : Nat} {l : List Seg} (h : SegIn 0 w (.slice a L c) l) (hl : l.length ≤ 1000) (hok : ∀ s ∈ l, SegOk s) (ta tl : Nat) : Calls Try.prog 36 #[.agg #[.slice a L c, .int .u64 (ta : Int), .int .u64 (tl : Int)]] w fun e w' => e = .returned (.tuple #[.int .u64 (sizeN false l : Int), .int .u64 (sizeN true l : Int)]) ∧ Below w.heap.size w w' := by
  have hLl : L = l.length := by
    obtain ⟨a2, c2, h⟩ := h.form
    simp only [Value.slice.injEq] at h
    exact h.2.1
  have h2 := heap_alloc_new w (.cells #[.slice a L c, .int .u64 (ta : Int), .int .u64 (tl : Int)] 50)
  have hb : Below w.heap.size w (w.alloc (.cells #[.slice a L c, .int .u64 (ta : Int), .int .u64 (tl : Int)] 50)) := (Below.refl _ _).alloc (Nat.le_refl _) _
  have XB : Hid (Below w.heap.size w (w.alloc (.cells #[.slice a L c, .int .u64 (ta : Int), .int .u64 (tl : Int)] 50)) ∧ (w.alloc (.cells #[.slice a L c, .int .u64 (ta : Int), .int .u64 (tl : Int)] 50)).heap[w.heap.size]? = some (.cells #[.slice a L c, .int .u64 (ta : Int), .int .u64 (tl : Int)] 50 (0, 0))) := ⟨hb, h2⟩
  have HS : Hid (SegIn 0 w (.slice a L c) l ∧ L = l.length ∧ l.length ≤ 1000 ∧ ∀ s ∈ l, SegOk s) := ⟨h, hLl, hl, hok⟩
  clear h hLl hl hok h2 hb
  go_enter Try.func36, Try.ntmps36
  go_upto_region 1 with fail
  obtain ⟨p0, p1, p2⟩ := box3_facts XB.out.2
  generalize w.alloc (.cells #[.slice a L c, .int .u64 (ta : Int), .int .u64 (tl : Int)] 50) = v0 at *
  go_wp2_with fail
  go_loopw [4, 5, 11] (fun r q x wr => ∃ i : Nat, i ≤ L ∧ x = .int .i64 (i : Int) ∧ r = .int .u64 (sizeN false (l.take i) : Int) ∧ q = .int .u64 (sizeN true (l.take i) : Int) ∧ Below w.heap.size w wr ∧ wr.heap[w.heap.size]? = some (.cells #[.slice a L c, .int .u64 (ta : Int), .int .u64 (tl : Int)] 50 (0, 0))) (fun _ _ x _ => L - (intOf x).toNat)
  case atStart => exact ⟨0, Nat.zero_le _, rfl, rfl, rfl, XB.out⟩
  case round =>
    obtain ⟨i, hi, rfl, rfl, rfl, hbr⟩ := hrel
    have XR : Hid (Below w.heap.size w wr ∧ wr.heap[w.heap.size]? = some (.cells #[.slice a L c, .int .u64 (ta : Int), .int .u64 (tl : Int)] 50 (0, 0))) := hbr
    clear hbr XB p0 p1 p2
    obtain ⟨p0, p1, p2⟩ := box3_facts XR.out.2
    by_cases hlt : i < L
    case neg =>
      have h1 : ¬ (i : Int) < (L : Int) := by omega
      have hil : i = l.length := by have := HS.out.2.1; omega
      subst hil
      rw [List.take_length]
      clear hlt hi
      go_wp2_with fail
      refine bodyPost_ret (v := .tuple #[.int .u64 (sizeN false l : Int), .int .u64 (sizeN true l : Int)]) (by simp [results, Try.results36, go_sem]) rfl ⟨rfl, XR.out.1⟩
    case pos =>
      have h1 : (i : Int) < (L : Int) := by omega
      have hil : i < l.length := by have := HS.out.2.1; omega
      obtain ⟨g, c', hsl, hcl⟩ := HS.out.1.cells (by omega)
      simp only [Value.slice.injEq] at hsl
      obtain ⟨rfl, -, rfl⟩ := hsl
      have hgl : g < w.heap.size := (HS.out.1.lt g rfl).2
      obtain ⟨x1, y1, z1⟩ := hcl i hil
      have x2 := (XR.out.1.cell (p := ⟨g, i * 3, none⟩) hgl).trans x1
      have y2 := (XR.out.1.cell (p := ⟨g, i * 3 + 1, none⟩) hgl).trans y1
      have z2 := (XR.out.1.cell (p := ⟨g, i * 3 + 2, none⟩) hgl).trans z1
      have hso := HS.out.2.2.2 _ (List.getElem_mem hil)
      have T0 := sizeN_take false l i hil
      have T1 := sizeN_take true l i hil
      have U0 : sizeN false (l.take i) + (l[i]).l ≤ 9000000 := by
        have := sizeN_le false (l.take i) (fun s hs => HS.out.2.2.2 s (List.mem_of_mem_take hs))
        have := HS.out.2.2.1
        have := hso.l
        simp only [List.length_take] at *
        omega
      have U1 : sizeN true (l.take i) + (l[i]).l ≤ 9000000 := by
        have := sizeN_le true (l.take i) (fun s hs => HS.out.2.2.2 s (List.mem_of_mem_take hs))
        have := HS.out.2.2.1
        have := hso.l
        simp only [List.length_take] at *
        omega
      generalize (l[i]).a = sa at *
      generalize (l[i]).l = sl at *
      generalize (l[i]).wr = sw at *
      generalize sizeN false (l.take i) = n0 at *
      generalize sizeN true (l.take i) = n1 at *
      have W0 : IntKind.u64.wrap ((n0 : Int) + (sl : Int)) = ((n0 + sl : Nat) : Int) := by rw [wrap_u64]; omega
      have W1 : IntKind.u64.wrap ((n1 : Int) + (sl : Int)) = ((n1 + sl : Nat) : Int) := by rw [wrap_u64]; omega
      obtain ⟨m0, hm0⟩ : ∃ m0, n0 + sl = m0 := ⟨_, rfl⟩
      obtain ⟨m1, hm1⟩ : ∃ m1, n1 + sl = m1 := ⟨_, rfl⟩
      rw [hm0] at W0
      rw [hm1] at W1
      have HT : Hid (sizeN false (l.take (i + 1)) = n0 + (if sw = false then sl else 0) ∧ sizeN true (l.take (i + 1)) = n1 + (if sw = true then sl else 0) ∧ n0 + sl = m0 ∧ n1 + sl = m1 ∧ i < L ∧ L ≤ 1000) := ⟨T0, T1, hm0, hm1, hlt, by have := HS.out.2; omega⟩
      have hi6 : i ≤ 1000 := by have := HS.out.2; omega
      clear T0 T1 U0 U1 hm0 hm1 hso x1 y1 z1 hcl hil hi hlt
      cases sw with
      | false =>
        go_wp2_with fail
        go_roundw
        case rel => exact ⟨i + 1, HT.out.2.2.2.2.1, by go_num, by rw [HT.out.1, ← HT.out.2.2.1]; rfl, by rw [HT.out.2.1]; rfl, XR.out.1.alloc XR.out.1.size _, below_box XR.out.2 ((Below.refl _ _).alloc (Nat.le_refl _) _)⟩
        case measure => simp [intOf]; have := HT.out.2.2.2.2.1; omega
      | true =>
        go_wp2_with fail
        go_roundw
        case rel => exact ⟨i + 1, HT.out.2.2.2.2.1, by go_num, by rw [HT.out.1]; rfl, by rw [HT.out.2.1, ← HT.out.2.2.2.1]; rfl, XR.out.1.alloc XR.out.1.size _, below_box XR.out.2 ((Below.refl _ _).alloc (Nat.le_refl _) _)⟩
        case measure => simp [intOf]; have := HT.out.2.2.2.2.1; omega
end Go.Proofs.Ytmjdnocilbnoaaa

/- The pieces of a chain. -/
namespace Go.Proofs.Ytmjdnocilbnoaaa
open Go.RowKit Go.Maps
set_option linter.unusedVariables false
set_option linter.unusedSimpArgs false
set_option maxRecDepth 100000
def PcS (w : World) (b : Bool) (l : List Seg) (f n : Nat) (a : Option Addr) (L c ta tl : Nat) (V : World) (vo : Value) (i f' n' : Nat) (out : List (Nat × Nat)) : Prop := SpanIn w.heap.size V vo out ∧ out.length ≤ i ∧ pcs b l f n = (out ++ (pcs b (l.drop i) f' n').1, (pcs b (l.drop i) f' n').2) ∧ f' ≤ f ∧ n' ≤ n ∧ Below w.heap.size w V ∧ V.heap[w.heap.size]? = some (.cells #[.slice a L c, .int .u64 (ta : Int), .int .u64 (tl : Int)] 50 (0, 0))
theorem PcS.below {w : World} {b : Bool} {l : List Seg} {f n : Nat} {a : Option Addr} {L c ta tl : Nat} {V V2 : World} {vo : Value} {i f' n' : Nat} {out : List (Nat × Nat)} (h : PcS w b l f n a L c ta tl V vo i f' n' out) (hb : Below V.heap.size V V2) : PcS w b l f n a L c ta tl V2 vo i f' n' out := ⟨h.1.kept (fun g hg => hb.block g (h.1.lt g hg).2), h.2.1, h.2.2.1, h.2.2.2.1, h.2.2.2.2.1, below_to h.2.2.2.2.2.1 hb, below_box h.2.2.2.2.2.2 hb⟩
theorem SpanIn.row {B : Nat} {w : World} {v : Value} {l : List (Nat × Nat)} {q : Nat} {cc : Array Value} (h : SpanIn B w v l) (hq : v.ownBlock = some q) (hb : w.heap[q]? = some (.cells cc 50 (0, 0))) : False := by
  rcases h.2 with ⟨rfl, _⟩ | ⟨g, cap, cur, rfl, _, hg, _⟩
  · cases hq
  · have : g = q := by simpa [Value.ownBlock] using hq
    subst this
    rw [hb] at hg
    simp at hg
theorem drop_cons {l : List Seg} {i : Nat} (h : i < l.length) : l.drop i = l[i] :: l.drop (i + 1) := List.drop_eq_getElem_cons h
theorem PcS.skip {w : World} {b : Bool} {l : List Seg} {f n : Nat} {a : Option Addr} {L c ta tl : Nat} {V : World} {vo : Value} {i f' n' : Nat} {out : List (Nat × Nat)} (h : PcS w b l f n a L c ta tl V vo i f' n' out) (hi : i < l.length) (hw : ¬ (l[i]).wr = b) : PcS w b l f n a L c ta tl V vo (i + 1) f' n' out :=
  ⟨h.1, by have := h.2.1; omega, by rw [h.2.2.1, drop_cons hi, pcs_other hw], h.2.2.2⟩
theorem PcS.none {w : World} {b : Bool} {l : List Seg} {f n : Nat} {a : Option Addr} {L c ta tl : Nat} {V : World} {vo : Value} {i f' n' sk : Nat} {out : List (Nat × Nat)} (h : PcS w b l f n a L c ta tl V vo i f' n' out) (hi : i < l.length) (hw : (l[i]).wr = b) (h1 : sk = min f' (l[i]).l) (h2 : 0 = min n' ((l[i]).l - sk)) : PcS w b l f n a L c ta tl V vo (i + 1) (f' - sk) (n' - 0) out :=
  ⟨h.1, by have := h.2.1; omega, by rw [h.2.2.1, drop_cons hi, pcs_none hw h1 h2 rfl], by have := h.2.2.2.1; omega, by have := h.2.2.2.2.1; omega, h.2.2.2.2.2⟩
theorem PcS.some {w : World} {b : Bool} {l : List Seg} {f n : Nat} {a : Option Addr} {L c ta tl : Nat} {V : World} {vo vo2 : Value} {i f' n' sk tk : Nat} {out : List (Nat × Nat)} (h : PcS w b l f n a L c ta tl V vo i f' n' out) {V2 : World} (hi : i < l.length) (hw : (l[i]).wr = b) (h1 : sk = min f' (l[i]).l) (h2 : tk = min n' ((l[i]).l - sk)) (h0 : ¬ tk = 0) (hs : SpanIn w.heap.size V2 vo2 (out ++ [((l[i]).a + sk, tk)])) (hb : Below w.heap.size w V2) (hbx : V2.heap[w.heap.size]? = .some (.cells #[.slice a L c, .int .u64 (ta : Int), .int .u64 (tl : Int)] 50 (0, 0))) : PcS w b l f n a L c ta tl V2 vo2 (i + 1) (f' - sk) (n' - tk) (out ++ [((l[i]).a + sk, tk)]) :=
  ⟨hs, by have := h.2.1; simp; omega, by rw [h.2.2.1, drop_cons hi, pcs_some hw h1 h2 h0]; simp, by have := h.2.2.2.1; omega, by have := h.2.2.2.2.1; omega, hb, hbx⟩
theorem min_if (x y : Nat) : (if (y : Int) < (x : Int) then (y : Int) else (x : Int)) = ((min x y : Nat) : Int) := by split <;> omega
theorem min_if2 (x y : Nat) : (if y < x then (y : Int) else (x : Int)) = ((min x y : Nat) : Int) := by split <;> omega
set_option maxHeartbeats 4000000 in
theorem pieces_any {w : World} {F : Nat → Prop} {rb kk : Nat} {M : Nat → Nat} (hr : RamAt w F rb 8192 kk (.pointer none) M) {a : Option Addr} {L c : Nat} {l : List Seg} (h : SegIn 0 w (.slice a L c) l) (hl : l.length ≤ 1000) (hok : ∀ s ∈ l, SegOk s) (ta tl : Nat) (b : Bool) (f n : Nat) (hf : f < 18446744073709551616) (hn : n < 18446744073709551616) :
    Calls Try.prog 60 #[.agg #[.slice a L c, .int .u64 (ta : Int), .int .u64 (tl : Int)], .pointer (some ⟨rb, 0, none⟩), .bool b, .int .u64 (f : Int), .int .u64 (n : Int)] w fun e w' => Below w.heap.size w w' ∧ ((roomB b l f n = false ∧ e = .returned (.tuple #[.slice none 0 0, .bool false])) ∨ (roomB b l f n = true ∧ ∃ vo, e = .returned (.tuple #[vo, .bool true]) ∧ SpanIn w.heap.size w' vo (pcs b l f n).1)) := by
  obtain ⟨i0, hi0, hz0, hz1, hz2⟩ := info_parts Try.info48
  have hLl : L = l.length := by
    obtain ⟨a2, c2, h⟩ := h.form
    simp only [Value.slice.injEq] at h
    exact h.2.1
  have h2 := heap_alloc_new w (.cells #[.slice a L c, .int .u64 (ta : Int), .int .u64 (tl : Int)] 50)
  have hb : Below w.heap.size w (w.alloc (.cells #[.slice a L c, .int .u64 (ta : Int), .int .u64 (tl : Int)] 50)) := (Below.refl _ _).alloc (Nat.le_refl _) _
  have XB : Hid (PcS w b l f n a L c ta tl (w.alloc (.cells #[.slice a L c, .int .u64 (ta : Int), .int .u64 (tl : Int)] 50)) (.slice none 0 0) 0 f n []) := ⟨⟨rfl, .inl ⟨rfl, rfl⟩⟩, Nat.le_refl _, rfl, Nat.le_refl _, Nat.le_refl _, hb, h2⟩
  have HS : Hid (SegIn 0 w (.slice a L c) l ∧ L = l.length ∧ l.length ≤ 1000 ∧ ∀ s ∈ l, SegOk s) := ⟨h, hLl, hl, hok⟩
  have HR : Hid (RamAt w F rb 8192 kk (.pointer none) M) := hr
  have HFN : Hid (f < 18446744073709551616 ∧ n < 18446744073709551616) := ⟨hf, hn⟩
  clear h hLl hl hok h2 hb hr hf hn
  go_enter Try.func60, Try.ntmps60
  go_upto_region 1 with fail
  obtain ⟨p0, p1, p2⟩ := box3_facts XB.out.2.2.2.2.2.2
  generalize w.alloc (.cells #[.slice a L c, .int .u64 (ta : Int), .int .u64 (tl : Int)] 50) = v0 at *
  go_wp2_with fail
  go_loopw [3, 4, 12, 21] (fun vf vn vo x wr => ∃ (i f' n' : Nat) (out : List (Nat × Nat)), i ≤ L ∧ x = .int .i64 (i : Int) ∧ vf = .int .u64 (f' : Int) ∧ vn = .int .u64 (n' : Int) ∧ PcS w b l f n a L c ta tl wr vo i f' n' out) (fun _ _ _ x _ => L - (intOf x).toNat)
  case atStart => exact ⟨0, f, n, [], Nat.zero_le _, rfl, rfl, rfl, XB.out⟩
  case round =>
    obtain ⟨i, f', n', out, hi, rfl, rfl, rfl, hx⟩ := hrel
    obtain ⟨ao, co, hvo⟩ := hx.1.form
    subst hvo
    obtain ⟨lo, hlo⟩ : ∃ lo, out.length = lo := ⟨_, rfl⟩
    rw [hlo] at hx ⊢
    have XR : Hid (PcS w b l f n a L c ta tl wr (.slice ao lo co) i f' n' out ∧ out.length = lo) := ⟨hx, hlo⟩
    clear hx hlo XB p0 p1 p2
    obtain ⟨p0, p1, p2⟩ := box3_facts XR.out.1.2.2.2.2.2.2
    by_cases hlt : i < L
    case neg =>
      have h1 : ¬ (i : Int) < (L : Int) := by omega
      have hil : i = l.length := by have := HS.out.2.1; omega
      have hp := XR.out.1.2.2.1
      rw [hil, List.drop_length] at hp
      have hp2 : pcs b l f n = (out, f', n') := by rw [hp]; simp [pcs]
      have HP : Hid (pcs b l f n = (out, f', n')) := hp2
      clear hlt hi hp hp2 hil
      by_cases hz : f' = 0 ∧ n' = 0
      · obtain ⟨rfl, rfl⟩ := hz
        go_wp2_with fail
        refine bodyPost_ret (v := .tuple #[.slice ao lo co, .bool true]) (by simp [results, Try.results60, go_sem]) rfl ?_
        refine ⟨XR.out.1.2.2.2.2.2.1, .inr ⟨(room_iff b l f n).2 (by rw [HP.out]), _, rfl, ?_⟩⟩
        rw [HP.out]
        exact XR.out.1.1
      · have HRB : Hid (roomB b l f n = false) := by
          show roomB b l f n = false
          cases hrb : roomB b l f n with
          | false => rfl
          | true =>
            have := (room_iff b l f n).1 hrb
            rw [HP.out] at this
            simp only [Prod.mk.injEq] at this
            exact absurd this hz
        by_cases hf0 : f' = 0
        · have g1 : (0 : Int) < (n' : Int) := by omega
          subst hf0
          clear hz
          go_wp2_with fail
          refine bodyPost_ret (v := .tuple #[.slice none 0 0, .bool false]) (by simp [results, Try.results60, go_sem]) rfl ?_
          exact ⟨XR.out.1.2.2.2.2.2.1, .inl ⟨HRB.out, rfl⟩⟩
        · have g1 : (0 : Int) < (f' : Int) := by omega
          clear hz
          go_wp2_with fail
          refine bodyPost_ret (v := .tuple #[.slice none 0 0, .bool false]) (by simp [results, Try.results60, go_sem]) rfl ?_
          exact ⟨XR.out.1.2.2.2.2.2.1, .inl ⟨HRB.out, rfl⟩⟩
    case pos =>
      have h1 : (i : Int) < (L : Int) := by omega
      have hil : i < l.length := by have := HS.out.2.1; omega
      obtain ⟨g, c', hsl, hcl⟩ := HS.out.1.cells (by omega)
      simp only [Value.slice.injEq] at hsl
      obtain ⟨rfl, -, rfl⟩ := hsl
      have hgl : g < w.heap.size := (HS.out.1.lt g rfl).2
      obtain ⟨x1, y1, z1⟩ := hcl i hil
      have x2 := (XR.out.1.2.2.2.2.2.1.cell (p := ⟨g, i * 3, none⟩) hgl).trans x1
      have y2 := (XR.out.1.2.2.2.2.2.1.cell (p := ⟨g, i * 3 + 1, none⟩) hgl).trans y1
      have z2 := (XR.out.1.2.2.2.2.2.1.cell (p := ⟨g, i * 3 + 2, none⟩) hgl).trans z1
      have hso := HS.out.2.2.2 _ (List.getElem_mem hil)
      obtain ⟨sa, hsa⟩ : ∃ sa, (l[i]).a = sa := ⟨_, rfl⟩
      obtain ⟨sl, hsl⟩ : ∃ sl, (l[i]).l = sl := ⟨_, rfl⟩
      obtain ⟨sw, hsw⟩ : ∃ sw, (l[i]).wr = sw := ⟨_, rfl⟩
      rw [hsa] at x2
      rw [hsl] at y2
      rw [hsw] at z2
      have HQ : Hid (∃ hil : i < l.length, (l[i]).a = sa ∧ (l[i]).l = sl ∧ (l[i]).wr = sw) := ⟨hil, hsa, hsl, hsw⟩
      have hin := in_len hso.i
      rw [hsa, hsl] at hin
      have HIN : Hid (sl ≤ 8192 ∧ 2147483648 ≤ sa ∧ sa + sl ≤ 2147491840) := hin
      have HLT : Hid (i < L ∧ L ≤ 1000) := ⟨hlt, by have := HS.out.2; omega⟩
      have hi6 : i ≤ 1000 := by have := HLT.out; omega
      clear x1 y1 z1 hcl hso hsa hsl hsw hgl hin hlt hi hil
      go_upto_region 5 with fail
      have X1 : Hid (PcS w b l f n (some ⟨g, 0, none⟩) L c ta tl (wr.alloc (.cells #[.int .u64 (sa : Int), .int .u64 (sl : Int), .bool sw] 64)) (.slice ao lo co) i f' n' out ∧ (wr.alloc (.cells #[.int .u64 (sa : Int), .int .u64 (sl : Int), .bool sw] 64)).heap[wr.heap.size]? = some (.cells #[.int .u64 (sa : Int), .int .u64 (sl : Int), .bool sw] 64 (0, 0))) := ⟨XR.out.1.below ((Below.refl _ _).alloc (Nat.le_refl _) _), heap_alloc_new _ _⟩
      have HLO : Hid (out.length = lo) := XR.out.2
      clear XR x2 y2 z2 p0 p1 p2
      generalize wr.alloc (.cells #[.int .u64 (sa : Int), .int .u64 (sl : Int), .bool sw] 64) = w1 at *
      generalize wr.heap.size = q at *
      obtain ⟨t0, t1, t2⟩ := box3_facts X1.out.2
      by_cases hwb : sw = b
      case neg =>
        have hne : (sw == b) = false := by simp [hwb]
        go_wp2_with fail
        go_roundw
        case rel => exact ⟨i + 1, f', n', out, HLT.out.1, by go_num, rfl, rfl, X1.out.1.skip HQ.out.1 (by rw [HQ.out.2.2.2]; exact hwb)⟩
        case measure => simp [intOf]; have := HLT.out.1; omega
      have hne : (sw == b) = true := by simp [hwb]
      have HWB : Hid (sw = b) := hwb
      clear hwb
      obtain ⟨sk, hsk⟩ : ∃ sk, sk = min f' sl := ⟨_, rfl⟩
      obtain ⟨df, hdf⟩ : ∃ df, df = sl - sk := ⟨_, rfl⟩
      obtain ⟨tk, htk⟩ : ∃ tk, tk = min n' df := ⟨_, rfl⟩
      have m1 : (if (sl : Int) < (f' : Int) then (sl : Int) else (f' : Int)) = (sk : Int) := by rw [hsk]; exact min_if f' sl
      have m2 : (if sl < f' then (sl : Int) else (f' : Int)) = (sk : Int) := by rw [hsk]; exact min_if2 f' sl
      have m3 : IntKind.u64.wrap ((sl : Int) - (sk : Int)) = (df : Int) := by have := HIN.out; rw [wrap_u64]; omega
      have m4 : (if (df : Int) < (n' : Int) then (df : Int) else (n' : Int)) = (tk : Int) := by rw [htk]; exact min_if n' df
      have m5 : (if df < n' then (df : Int) else (n' : Int)) = (tk : Int) := by rw [htk]; exact min_if2 n' df
      have HF2 : Hid (f' < 18446744073709551616 ∧ n' < 18446744073709551616) := ⟨Nat.lt_of_le_of_lt X1.out.1.2.2.2.1 HFN.out.1, Nat.lt_of_le_of_lt X1.out.1.2.2.2.2.1 HFN.out.2⟩
      have m6 : IntKind.u64.wrap ((f' : Int) - (sk : Int)) = ((f' - sk : Nat) : Int) := by have := HF2.out.1; rw [wrap_u64]; omega
      have m7 : IntKind.u64.wrap ((n' : Int) - (tk : Int)) = ((n' - tk : Nat) : Int) := by have := HF2.out.2; rw [wrap_u64]; omega
      have HK : Hid (sk = min f' sl ∧ tk = min n' (sl - sk)) := ⟨hsk, hdf ▸ htk⟩
      obtain ⟨f2, hf2⟩ : ∃ f2, f' - sk = f2 := ⟨_, rfl⟩
      obtain ⟨n2, hn2⟩ : ∃ n2, n' - tk = n2 := ⟨_, rfl⟩
      rw [hf2] at m6
      rw [hn2] at m7
      obtain ⟨x, hx⟩ : ∃ x, x = sa + sk := ⟨_, rfl⟩
      have m8 : IntKind.u64.wrap ((sa : Int) + (sk : Int)) = (x : Int) := by have := HIN.out; rw [wrap_u64]; omega
      have HX : Hid (x = sa + sk ∧ f' - sk = f2 ∧ n' - tk = n2 ∧ sk + tk ≤ sl) := ⟨hx, hf2, hn2, by omega⟩
      clear hsk hdf htk hf2 hn2 hx
      by_cases htz : tk = 0
      case pos =>
        have e0 : ((tk : Int) == 0) = true := by simp [htz]
        have HZ : Hid (tk = 0) := htz
        clear htz
        go_wp2_with fail
        go_roundw
        case rel => exact ⟨i + 1, f2, n2, out, HLT.out.1, by go_num, rfl, rfl, by
          have hh := HK.out.2
          rw [HZ.out] at hh
          have := X1.out.1.none (sk := sk) HQ.out.1 (by rw [HQ.out.2.2.2]; exact HWB.out) (by rw [HQ.out.2.2.1]; exact HK.out.1) (by rw [HQ.out.2.2.1]; exact hh)
          rw [← HX.out.2.1, ← HX.out.2.2.1, HZ.out]
          exact this⟩
        case measure => simp [intOf]; have := HLT.out.1; omega
      have e0 : ((tk : Int) == 0) = false := by simp; omega
      have HZ : Hid (¬ tk = 0) := htz
      clear htz
      go_upto_region 12 with fail
      have hb2 : Below w1.heap.size w1 (w1.alloc (.cells #[.int .u64 (x : Int), .int .u64 (tk : Int)] 48)) := (Below.refl _ _).alloc (Nat.le_refl _) _
      have X2 : Hid (PcS w b l f n (some ⟨g, 0, none⟩) L c ta tl (w1.alloc (.cells #[.int .u64 (x : Int), .int .u64 (tk : Int)] 48)) (.slice ao lo co) i f' n' out ∧ (w1.alloc (.cells #[.int .u64 (x : Int), .int .u64 (tk : Int)] 48)).heap[w1.heap.size]? = some (.cells #[.int .u64 (x : Int), .int .u64 (tk : Int)] 48 (0, 0))) := ⟨X1.out.1.below hb2, heap_alloc_new _ _⟩
      clear hb2 X1 t0 t1 t2
      generalize w1.alloc (.cells #[.int .u64 (x : Int), .int .u64 (tk : Int)] 48) = w2 at *
      generalize w1.heap.size = q2 at *
      obtain ⟨t0, t1, _, _⟩ := box_facts X2.out.2
      have K55 : Hid (∀ V, Below w.heap.size w V → Calls Try.prog 33 #[.pointer (some ⟨rb, 0, none⟩), .int .u64 (x : Int), .int .u64 (tk : Int)] V fun e w' => e = .returned (.bool true) ∧ w' = V) := by
        intro V hV
        have h1 := HIN.out
        have h2 := HX.out
        have := has_any (HR.out.below hV) (by omega) x tk (by omega) (by omega)
        have hin : inB (x : Int) (tk : Int) 2147483648 ((8192 : Nat) : Int) = true := by
          simp only [inB, Bool.and_eq_true, decide_eq_true_iff]
          omega
        rw [hin] at this
        exact this
      go_upto_region 14 with (go_at_call 33; refine (K55.out _ X2.out.1.2.2.2.2.2.1).mono ?_; rintro e w3 ⟨rfl, hw⟩; rw [hw]; clear hw w3)
      clear K55 m1 m2 m3 m4 m5 m6 m7 m8
      refine wp_region_list ?_
      (refine wpList_step (fun KK hKK => ?_); go_simp; refine hKK _ _ ?_; clear hKK KK)
      (refine wpList_step (fun KK hKK => ?_); go_simp; refine hKK _ _ ?_; clear hKK KK)
      (refine wpList_step (fun KK hKK => ?_); go_simp; refine hKK _ _ ?_; clear hKK KK)
      have hb3 : Below w2.heap.size w2 (w2.alloc (.cells #[.int .u64 (x : Int), .int .u64 (tk : Int)] 48)) := (Below.refl _ _).alloc (Nat.le_refl _) _
      have X3 : Hid (PcS w b l f n (some ⟨g, 0, none⟩) L c ta tl (w2.alloc (.cells #[.int .u64 (x : Int), .int .u64 (tk : Int)] 48)) (.slice ao lo co) i f' n' out) := X2.out.1.below hb3
      have HN3 : Hid (∀ j u, [Value.int .u64 (x : Int), .int .u64 (tk : Int)][j]? = some u → (w2.alloc (.cells #[.int .u64 (x : Int), .int .u64 (tk : Int)] 48)).cell? ((⟨w2.heap.size, 0, none⟩ : Addr).add j) = some u) := two_new w2 (.int .u64 (x : Int)) (.int .u64 (tk : Int)) 48
      clear hb3 X2 t0 t1
      generalize w2.alloc (.cells #[.int .u64 (x : Int), .int .u64 (tk : Int)] 48) = w3 at *
      generalize w2.heap.size = q3 at *
      refine wpList_append_own_at w3 rfl _ _ 60 rfl w.heap.size 48 i0 (.agg #[.int .u64 0, .int .u64 0]) 2 16 Try.underlying60 hi0 hz0 hz1 hz2 rfl (by decide) (.slice ao lo co) lo (spanRow out) rfl (by have := X3.out.1; unfold SpanIn at this; rw [HLO.out] at this; exact this) ⟨q3, 0, none⟩ 1 1 [.int .u64 (x : Int), .int .u64 (tk : Int)] rfl rfl HN3.out (by intro u hu; simp at hu; rcases hu with rfl | rfl <;> rfl) (by have := X3.out.2.1; have := HLO.out; unfold maxLen; omega) (by have := X3.out.2.1; have := HLO.out; omega) X3.out.2.2.2.2.2.1.size ?_
      intro v' w4 hown hgrow hnil hat
      have hbw : Below w.heap.size w w4 := Below.grown X3.out.2.2.2.2.2.1 hgrow X3.out.2.2.2.2.2.1.size (fun g hg => (X3.out.1.lt g hg).1)
      have hbx : w4.heap[w.heap.size]? = some (.cells #[.slice (some ⟨g, 0, none⟩) L c, .int .u64 (ta : Int), .int .u64 (tl : Int)] 50 (0, 0)) := (hgrow.block _ (Array.getElem?_eq_some_iff.1 X3.out.2.2.2.2.2.2).1 (fun e => by have := (X3.out.1.row e.symm X3.out.2.2.2.2.2.2); exact this)).trans X3.out.2.2.2.2.2.2
      have hsp : SpanIn w.heap.size w4 v' (out ++ [(x, tk)]) := by
        unfold SpanIn
        rw [spanRow_snoc, List.length_append, List.length_singleton, HLO.out]
        exact hown
      have X4 : Hid (PcS w b l f n (some ⟨g, 0, none⟩) L c ta tl w4 v' (i + 1) f2 n2 (out ++ [(x, tk)])) := by
        have := X3.out.some (vo2 := v') (V2 := w4) (sk := sk) (tk := tk) HQ.out.1 (by rw [HQ.out.2.2.2]; exact HWB.out) (by rw [HQ.out.2.2.1]; exact HK.out.1) (by rw [HQ.out.2.2.1]; exact HK.out.2) HZ.out (by rw [HQ.out.2.1, ← HX.out.1]; exact hsp) hbw hbx
        rw [HQ.out.2.1, ← HX.out.1, HX.out.2.1, HX.out.2.2.1] at this
        exact this
      clear hbw hbx hsp hown hgrow hnil hat X3
      go_wp2_with fail
      go_roundw
      case rel => exact ⟨i + 1, f2, n2, out ++ [(x, tk)], HLT.out.1, by go_num, rfl, rfl, X4.out⟩
      case measure => simp [intOf]; have := HLT.out.1; omega
end Go.Proofs.Ytmjdnocilbnoaaa

/- Gather. -/
namespace Go.Proofs.Ytmjdnocilbnoaaa
open Go.RowKit Go.Maps
set_option linter.unusedVariables false
set_option linter.unusedSimpArgs false
set_option maxRecDepth 100000
theorem spanA_take (ps : List (Nat × Nat)) (i : Nat) (hi : i < ps.length) : spanA (ps.take (i + 1)) = spanA (ps.take i) ++ (List.range (ps.getD i (0, 0)).2).map ((ps.getD i (0, 0)).1 + ·) := by
  rw [List.take_add_one, List.getElem?_eq_getElem hi, spanA_append]
  simp [spanA, List.getD, hi]
theorem spanA_len_le (ps : List (Nat × Nat)) (i : Nat) : (spanA (ps.take i)).length ≤ (spanA ps).length := by
  conv => rhs; rw [← List.take_append_drop i ps, spanA_append, List.length_append]
  omega
theorem room_len {b : Bool} {l : List Seg} {f n : Nat} (h : roomB b l f n = true) : (((addrs b l).drop f).take n).length = n := by
  simp only [roomB, decide_eq_true_iff] at h
  rw [List.length_take, List.length_drop, addrs_length]
  omega
end Go.Proofs.Ytmjdnocilbnoaaa

/- Scatter. -/
namespace Go.Proofs.Ytmjdnocilbnoaaa
open Go.RowKit Go.Maps
set_option linter.unusedVariables false
set_option linter.unusedSimpArgs false
set_option maxRecDepth 100000
/-- bytes laid at addresses, one behind the other -/
def layS (g : Nat → Nat) : List Nat → Nat → (Nat → Nat) → (Nat → Nat)
  | [], _, M => M
  | a :: xs, j, M => layS g xs (j + 1) (over M a 1 (fun _ => g j))
theorem layS_append (g : Nat → Nat) : ∀ (xs bs : List Nat) (j : Nat) (M : Nat → Nat), layS g (xs ++ bs) j M = layS g bs (j + xs.length) (layS g xs j M) := by
  intro xs
  induction xs with
  | nil => intro bs j M; rfl
  | cons a xs ih =>
    intro bs j M
    simp only [List.cons_append, layS, List.length_cons]
    rw [ih, show j + 1 + xs.length = j + (xs.length + 1) from by omega]
theorem over_one (M : Nat → Nat) (x L : Nat) (f : Nat → Nat) : over (over M x L f) (x + L) 1 (fun _ => f L) = over M x (L + 1) f := by
  funext a
  unfold over
  by_cases h1 : x + L ≤ a ∧ a < x + L + 1
  · have : a - x = L := by omega
    rw [if_pos h1, if_pos (by omega), this]
  · rw [if_neg h1]
    by_cases h2 : x ≤ a ∧ a < x + L
    · rw [if_pos h2, if_pos (by omega)]
    · rw [if_neg h2, if_neg (by omega)]
theorem layS_range (g : Nat → Nat) (j x : Nat) (M : Nat → Nat) : ∀ L, layS g ((List.range L).map (x + ·)) j M = over M x L (fun i => g (j + i)) := by
  intro L
  induction L with
  | zero => rw [over_zero]; rfl
  | succ L ih =>
    rw [List.range_succ, List.map_append, layS_append, ih, ← over_one]
    simp [layS]
def scaL (l : List Seg) (f n : Nat) : List Nat := ((addrs true l).drop f).take n
theorem span_step {B : Nat} {w w2 : World} {F F2 : Nat → Prop} {gs K co : Nat} {l : List (Nat × Nat)} (h : SpanIn B w (.slice (some ⟨gs, 0, none⟩) K co) l) (hn : ¬ F gs) (hs : Step F w F2 w2) : SpanIn B w2 (.slice (some ⟨gs, 0, none⟩) K co) l ∧ ¬ F2 gs := by
  have hlt := (h.lt gs rfl).2
  refine ⟨h.kept (fun q hq => ?_), fun hf => ?_⟩
  · have : q = gs := by simpa [Value.ownBlock] using hq.symm
    subst this
    exact hs.block _ hlt hn
  · rcases hs.old gs hf with h1 | h1
    · exact hn h1
    · omega
theorem reads_cells {F : Nat → Prop} {w : World} {bd od cd R : Nat} {f : Nat → Nat} (h : ReadsF F w (.slice (some ⟨bd, od, none⟩) R cd) R f) : ∀ i, i < R → w.cell? ⟨bd, od + i, none⟩ = some (.int .u8 (f i : Nat)) := by
  rcases h with ⟨h0, _⟩ | ⟨b', o', c', he, _, _, _, hcl⟩
  · intro i hi; omega
  · simp only [Value.slice.injEq, Option.some.injEq, Addr.mk.injEq, and_true, true_and] at he
    obtain ⟨⟨rfl, rfl⟩, rfl⟩ := he
    exact hcl
theorem reads_not {F F2 : Nat → Prop} {w w2 : World} {bd od cd R : Nat} {f : Nat → Nat} (h : ReadsF F w (.slice (some ⟨bd, od, none⟩) R cd) R f) (hs : Step F w F2 w2) (hn : ¬ F bd) (hR : 0 < R) : ¬ F2 bd := by
  have hlt := block_lt_of_cell (reads_cells h 0 hR)
  intro hf
  rcases hs.old bd hf with h1 | h1
  · exact hn h1
  · have h2 : bd < w.heap.size := hlt
    omega
theorem step_kept2 {F F2 : Nat → Prop} {V V2 : World} {q : Nat} {o : Obj} (h : V.heap[q]? = some o) (hs : Step F V F2 V2) (hq : ¬ F q) : V2.heap[q]? = some o ∧ ¬ F2 q := by
  have hlt := (Array.getElem?_eq_some_iff.1 h).1
  refine ⟨(hs.block q hlt hq).trans h, fun hf => ?_⟩
  rcases hs.old q hf with h1 | h1
  · exact hq h1
  · omega
set_option maxHeartbeats 4000000 in
theorem scatter_any {w : World} {F : Nat → Prop} {rb kk : Nat} {M : Nat → Nat} (hr : RamAt w F rb 8192 kk (.pointer none) M) (hkk : kk ≤ 900000) {a : Option Addr} {L c : Nat} {l : List Seg} (h : SegIn 0 w (.slice a L c) l) (hl : l.length ≤ 1000) (hok : ∀ s ∈ l, SegOk s) (ta tl : Nat) (f n : Nat) (hf : f < 18446744073709551616) (hn : n ≤ 4000) (g : Nat → Nat) (hg : ∀ i, g i ≤ 255) (va : Option Addr) (vc : Nat) (hd : ReadsF F w (.slice va n vc) n g) :
    Calls Try.prog 37 #[.agg #[.slice a L c, .int .u64 (ta : Int), .int .u64 (tl : Int)], .pointer (some ⟨rb, 0, none⟩), .int .u64 (f : Int), .slice va n vc] w fun e w' => e = .returned (.bool (roomB true l f n)) ∧ ∃ F', RamAt w' F' rb 8192 (kk + n) (.pointer none) (if roomB true l f n = true then layS g (scaL l f n) 0 M else M) ∧ Step F w F' w' := by
  have h2 := heap_alloc_new w (.cells #[.slice a L c, .int .u64 (ta : Int), .int .u64 (tl : Int)] 50)
  have hb : Below w.heap.size w (w.alloc (.cells #[.slice a L c, .int .u64 (ta : Int), .int .u64 (tl : Int)] 50)) := (Below.refl _ _).alloc (Nat.le_refl _) _
  have XB : Hid (Below w.heap.size w (w.alloc (.cells #[.slice a L c, .int .u64 (ta : Int), .int .u64 (tl : Int)] 50)) ∧ (w.alloc (.cells #[.slice a L c, .int .u64 (ta : Int), .int .u64 (tl : Int)] 50)).heap[w.heap.size]? = some (.cells #[.slice a L c, .int .u64 (ta : Int), .int .u64 (tl : Int)] 50 (0, 0))) := ⟨hb, h2⟩
  have K45 : Hid (∀ V, Below w.heap.size w V → Calls Try.prog 60 #[.agg #[.slice a L c, .int .u64 (ta : Int), .int .u64 (tl : Int)], .pointer (some ⟨rb, 0, none⟩), .bool true, .int .u64 (f : Int), .int .u64 (n : Int)] V fun e w' => Below V.heap.size V w' ∧ ((roomB true l f n = false ∧ e = .returned (.tuple #[.slice none 0 0, .bool false])) ∨ (roomB true l f n = true ∧ ∃ vo, e = .returned (.tuple #[vo, .bool true]) ∧ SpanIn V.heap.size w' vo (pcs true l f n).1))) := fun V hV => pieces_any (hr.below hV) (h.kept (fun g hg => hV.block g (h.lt g hg).2)) hl hok ta tl true f n hf (by omega)
  have HR : Hid (RamAt w F rb 8192 kk (.pointer none) M ∧ ReadsF F w (.slice va n vc) n g ∧ (∀ i, g i ≤ 255) ∧ kk ≤ 900000) := ⟨hr, hd, hg, hkk⟩
  have HP : Hid ((∀ p ∈ (pcs true l f n).1, inB p.1 p.2 2147483648 8192 = true ∧ 0 < p.2 ∧ p.1 < 18446744073709551616 ∧ p.2 ≤ 8192) ∧ (pcs true l f n).1.length ≤ 1000 ∧ spanA (pcs true l f n).1 = scaL l f n) := ⟨pcs_ok hok f n, Nat.le_trans (pcs_len true l f n) hl, pcs_span true l f n⟩
  have e1 : IntKind.u64.wrap (n : Int) = (n : Int) := by rw [wrap_u64]; omega
  obtain ⟨Mx, hMx⟩ : ∃ Mx, (if roomB true l f n = true then layS g (scaL l f n) 0 M else M) = Mx := ⟨_, rfl⟩
  rw [hMx]
  obtain ⟨rm, hrm⟩ : ∃ rm, roomB true l f n = rm := ⟨_, rfl⟩
  rw [hrm]
  have HMX : Hid ((rm = true → Mx = layS g (scaL l f n) 0 M) ∧ (rm = false → Mx = M) ∧ roomB true l f n = rm) := by
    rw [hrm] at hMx
    refine ⟨fun h => ?_, fun h => ?_, hrm⟩
    · rw [← hMx, h, if_pos rfl]
    · rw [← hMx, h, if_neg (by decide)]
  rw [hrm] at K45
  clear hMx hrm
  clear h2 hb hr h hl hok hf hd hg hkk
  go_enter Try.func37, Try.ntmps37
  go_upto_region 1 with fail
  obtain ⟨p0, p1, p2⟩ := box3_facts XB.out.2
  generalize w.alloc (.cells #[.slice a L c, .int .u64 (ta : Int), .int .u64 (tl : Int)] 50) = v0 at *
  go_upto_region 2 with (go_at_call 60; refine (K45.out _ XB.out.1).mono ?_; rintro e w1 ⟨hb1, hor⟩; rcases hor with ⟨hrb, rfl⟩ | ⟨hrb, vo, rfl, hsp⟩)
  · have X1 : Hid (Below w.heap.size w w1) := below_to XB.out.1 hb1
    subst hrb
    have HMM : Hid (Mx = M) := HMX.out.2.1 rfl
    clear hb1
    go_wp2_with fail
    go_ret
    refine ⟨rfl, F, ?_, Step.of_below X1.out⟩
    rw [HMM.out]
    exact (HR.out.1.below X1.out).mono (by omega)
  · subst hrb
    have hrb := HMX.out.2.2
    have HMM : Hid (Mx = layS g (scaL l f n) 0 M) := HMX.out.1 rfl
    obtain ⟨ao, co, hvo⟩ := hsp.form
    subst hvo
    obtain ⟨ps, hps⟩ : ∃ ps, (pcs true l f n).1 = ps := ⟨_, rfl⟩
    rw [hps] at hsp HP ⊢
    obtain ⟨K, hK⟩ : ∃ K, ps.length = K := ⟨_, rfl⟩
    have hlen : (spanA ps).length = n := by rw [HP.out.2.2]; exact room_len hrb
    have X1 : Hid (Below w.heap.size w w1 ∧ roomB true l f n = true ∧ SpanIn v0.heap.size w1 (.slice ao ps.length co) ps ∧ w.heap.size ≤ v0.heap.size) := ⟨below_to XB.out.1 hb1, hrb, hsp, XB.out.1.size⟩
    rw [hK] at X1 ⊢
    have HK : Hid (ps.length = K ∧ K ≤ 1000 ∧ (spanA ps).length = n) := ⟨hK, by have := HP.out.2.1; omega, hlen⟩
    clear hb1 hrb hsp hps hK XB p0 p1 p2 hlen K45
    go_wp2_with fail
    go_loopw [3, 27] (fun d xx wr => ∃ (i j : Nat) (G : Nat → Prop), i ≤ K ∧ xx = .int .i64 (i : Int) ∧ (spanA (ps.take i)).length = j ∧ j ≤ n ∧ ReadsF G wr d (n - j) (fun z => g (j + z)) ∧ RamAt wr G rb 8192 (kk + j) (.pointer none) (layS g (spanA (ps.take i)) 0 M) ∧ Step F w G wr ∧ SpanIn v0.heap.size wr (.slice ao K co) ps ∧ (∀ q, (Value.slice ao K co).ownBlock = some q → ¬ G q)) (fun _ xx _ => K - (intOf xx).toNat)
    case atStart =>
      refine ⟨0, 0, F, Nat.zero_le _, rfl, rfl, Nat.zero_le _, ?_, HR.out.1.below X1.out.1, Step.of_below X1.out.1, X1.out.2.2.1, fun q hq hf => ?_⟩
      · have := HR.out.2.1.step (Step.of_below X1.out.1)
        simpa using this
      · have h1 := (X1.out.2.2.1.lt q hq).1
        have h2 := HR.out.1.lt q hf
        have h3 := X1.out.2.2.2
        omega
    case round =>
      obtain ⟨i, j, G, hi, rfl, hj, hjn, hrd, hrm, hst, hsp, hgq⟩ := hrel
      by_cases hlt : i < K
      case neg =>
        have h1 : ¬ (i : Int) < (K : Int) := by omega
        have hiK : i = ps.length := by have := HK.out.1; omega
        rw [hiK, List.take_length] at hj hrm
        rw [HK.out.2.2] at hj
        subst hj
        have HM : Hid (RamAt wr G rb 8192 (kk + n) (.pointer none) (layS g (scaL l f n) 0 M) ∧ Step F w G wr) := ⟨by rw [← HP.out.2.2]; exact hrm, hst⟩
        rw [Nat.sub_self] at hrd
        clear hlt hi hiK hrm hst hsp hgq
        rcases hrd with ⟨_, a0, c0, _, rfl⟩ | ⟨b0, o0, c0, rfl, _⟩
        all_goals
          go_wp2_with fail
          go_ret
          refine ⟨rfl, G, ?_, HM.out.2⟩
          rw [HMM.out]
          exact HM.out.1
      case pos =>
        have h1 : (i : Int) < (K : Int) := by omega
        have hil : i < ps.length := by have := HK.out.1; omega
        obtain ⟨gs, cg, hsl, hcl⟩ := hsp.cells (by omega)
        have hsl2 := hsl
        rw [HK.out.1] at hsl2
        simp only [Value.slice.injEq, true_and] at hsl2
        obtain ⟨rfl, rfl⟩ := hsl2
        obtain ⟨x2, y2⟩ := hcl i hil
        have hpo := HP.out.1 (ps.getD i (0, 0)) (by simp [List.getD, hil])
        have ht := spanA_take ps i hil
        have hlen := spanA_len_le ps (i + 1)
        rw [HK.out.2.2] at hlen
        obtain ⟨x, hx⟩ : ∃ x, (ps.getD i (0, 0)).1 = x := ⟨_, rfl⟩
        obtain ⟨tk, htk⟩ : ∃ tk, (ps.getD i (0, 0)).2 = tk := ⟨_, rfl⟩
        rw [hx] at x2 ht hpo
        rw [htk] at y2 ht hpo
        have hlen2 : (spanA (ps.take (i + 1))).length = j + tk := by rw [ht, List.length_append, hj]; simp
        have hjt : j + tk ≤ n := by omega
        rcases hrd with ⟨h0, _⟩ | ⟨bd, od, cd, rfl, hG, hc1, hc2, hcell⟩
        · have := hpo.2.1; omega
        obtain ⟨R, hR⟩ : ∃ R, n - j = R := ⟨_, rfl⟩
        rw [hR] at hcell hc1 ⊢
        have htR : tk ≤ R := by omega
        have htc : (tk : Int) ≤ (cd : Int) := by omega
        have htc2 : (tk : Int) ≤ (R : Int) := by omega
        have hRc : (R : Int) ≤ (cd : Int) := by omega
        have HJ : Hid (spanA (ps.take (i + 1)) = spanA (ps.take i) ++ (List.range tk).map (x + ·) ∧ (spanA (ps.take (i + 1))).length = j + tk ∧ j + tk ≤ n ∧ n - j = R ∧ tk ≤ R ∧ (spanA (ps.take i)).length = j ∧ i < K ∧ inB x tk 2147483648 8192 = true ∧ x < 18446744073709551616) := ⟨ht, hlen2, hjt, hR, htR, hj, hlt, hpo.1, hpo.2.2.1⟩
        have HJ0 : Hid (0 < tk ∧ 0 < R) := ⟨hpo.2.1, by have := hpo.2.1; omega⟩
        have hi6 : i ≤ 1000 := by have := HK.out.2.1; omega
        have htk9 : tk ≤ 4000 := by omega
        have hb2 : Below wr.heap.size wr (wr.alloc (.cells #[.int .u64 (x : Int), .int .u64 (tk : Int)] 48)) := (Below.refl _ _).alloc (Nat.le_refl _) _
        have X2 : Hid (RamAt (wr.alloc (.cells #[.int .u64 (x : Int), .int .u64 (tk : Int)] 48)) G rb 8192 (kk + j) (.pointer none) (layS g (spanA (ps.take i)) 0 M) ∧ Step F w G (wr.alloc (.cells #[.int .u64 (x : Int), .int .u64 (tk : Int)] 48)) ∧ SpanIn v0.heap.size (wr.alloc (.cells #[.int .u64 (x : Int), .int .u64 (tk : Int)] 48)) (.slice (some ⟨gs, 0, none⟩) K co) ps ∧ ¬ G gs ∧ (wr.alloc (.cells #[.int .u64 (x : Int), .int .u64 (tk : Int)] 48)).heap[wr.heap.size]? = some (.cells #[.int .u64 (x : Int), .int .u64 (tk : Int)] 48 (0, 0)) ∧ ¬ G wr.heap.size ∧ ReadsF G (wr.alloc (.cells #[.int .u64 (x : Int), .int .u64 (tk : Int)] 48)) (.slice (some ⟨bd, od, none⟩) R cd) R (fun z => g (j + z))) := ⟨hrm.below hb2, hst.trans (Step.of_below hb2), hsp.kept (fun q hq => hb2.block q (hsp.lt q hq).2), hgq gs rfl, heap_alloc_new _ _, fun hf => by have := hrm.lt _ hf; omega, ReadsF.step (F := G) (F' := G) (.inr ⟨bd, od, cd, rfl, hG, hc1, hc2, hcell⟩) (Step.of_below hb2)⟩
        have HCB : Hid (¬ G bd ∧ R ≤ cd ∧ cd ≤ 9223372036854775807) := ⟨hG, hc1, hc2⟩
        clear hrm hst hsp hgq hcl hpo ht hlen hx htk hlen2 hjt hR htR hlt hil hsl hb2 hj hG hc1 hc2 hcell hjn hi
        go_upto_region 7 with fail
        clear x2 y2
        generalize wr.alloc (.cells #[.int .u64 (x : Int), .int .u64 (tk : Int)] 48) = w2 at *
        generalize wr.heap.size = q2 at *
        have Xd : Hid (RamAt w2.drew G rb 8192 (kk + j) (.pointer none) (layS g (spanA (ps.take i)) 0 M) ∧ Step F w G w2.drew ∧ SpanIn v0.heap.size w2.drew (.slice (some ⟨gs, 0, none⟩) K co) ps ∧ ¬ G gs ∧ w2.drew.heap[q2]? = some (.cells #[.int .u64 (x : Int), .int .u64 (tk : Int)] 48 (0, 0)) ∧ ¬ G q2 ∧ ReadsF G w2.drew (.slice (some ⟨bd, od, none⟩) R cd) R (fun z => g (j + z))) := ⟨X2.out.1.below (Below.refl _ _).drew, X2.out.2.1.trans (Step.of_below (Below.refl _ _).drew), X2.out.2.2.1, X2.out.2.2.2.1, X2.out.2.2.2.2.1, X2.out.2.2.2.2.2.1, ReadsF.step X2.out.2.2.2.2.2.2 (Step.of_below (Below.refl _ _).drew)⟩
        clear X2
        have K32 : Hid (Calls Try.prog 23 #[.pointer (some ⟨rb, 0, none⟩), .int .u64 (x : Int), .slice (some ⟨bd, od, none⟩) tk cd] w2.drew fun e w' => e = .returned (.bool true) ∧ ∃ F', RamAt w' F' rb 8192 (kk + j + tk) (.pointer none) (over (layS g (spanA (ps.take i)) 0 M) x tk (fun z => g (j + z))) ∧ Step G w2.drew F' w') := by
          have hrd2 : ReadsF G w2.drew (.slice (some ⟨bd, od, none⟩) tk cd) tk (fun z => g (j + z)) := by
            rcases Xd.out.2.2.2.2.2.2 with ⟨h0, _⟩ | ⟨b', o', c', he, hb', _, hc', hcl⟩
            · refine .inl ⟨by have := HJ.out.2.2.2.2.1; omega, ?_⟩
              have : tk = 0 := by have := HJ.out.2.2.2.2.1; omega
              subst this
              exact ⟨_, cd, HCB.out.2.2, rfl⟩
            · simp only [Value.slice.injEq, Option.some.injEq, Addr.mk.injEq, and_true, true_and] at he
              obtain ⟨⟨rfl, rfl⟩, rfl⟩ := he
              exact .inr ⟨_, _, _, rfl, hb', by have := HJ.out.2.2.2.2.1; have := HCB.out.2.1; omega, hc', fun z hz => hcl z (by have := HJ.out.2.2.2.2.1; omega)⟩
          have := write_any Xd.out.1 (by omega) x tk (fun z => g (j + z)) _ HJ.out.2.2.2.2.2.2.2.2 hrd2 (fun z _ => HR.out.2.2.1 _) (by have := HR.out.2.2.2; have := HJ.out.2.2.1; omega)
          have hin : inB (x : Int) (tk : Int) 2147483648 ((8192 : Nat) : Int) = true := HJ.out.2.2.2.2.2.2.2.1
          rw [hin, if_pos rfl] at this
          exact this
        obtain ⟨t0, t1, _, _⟩ := box_facts Xd.out.2.2.2.2.1
        go_region_held3 (fun Z => Z.cell? ⟨q2, 0, none⟩ = some (.int .u64 (x : Int)) ∧ Z.cell? ⟨q2, 1, none⟩ = some (.int .u64 (tk : Int))) (go_keep) (first | (go_at_call 23; refine (K32.out).mono ?_; rintro e w3 ⟨rfl, G3, hr3, hs3⟩; have X3 : Hid (RamAt w3 G3 rb 8192 (kk + j + tk) (.pointer none) (over (layS g (spanA (ps.take i)) 0 M) x tk (fun z => g (j + z))) ∧ Step F w G3 w3 ∧ (SpanIn v0.heap.size w3 (.slice (some ⟨gs, 0, none⟩) K co) ps ∧ ¬ G3 gs) ∧ w3.heap[q2]? = some (.cells #[.int .u64 (x : Int), .int .u64 (tk : Int)] 48 (0, 0)) ∧ ReadsF G3 w3 (.slice (some ⟨bd, od, none⟩) R cd) R (fun z => g (j + z)) ∧ ¬ G3 bd) := ⟨hr3, Xd.out.2.1.trans hs3, span_step Xd.out.2.2.1 Xd.out.2.2.2.1 hs3, (step_kept2 Xd.out.2.2.2.2.1 hs3 Xd.out.2.2.2.2.2.1).1, ReadsF.step Xd.out.2.2.2.2.2.2 hs3, reads_not Xd.out.2.2.2.2.2.2 hs3 HCB.out.1 HJ0.out.2⟩; clear hr3 hs3; obtain ⟨t2, t3, _, _⟩ := box_facts X3.out.2.2.2.1))
        clear Xd K32 t0 t1
        go_wp2_with fail
        go_roundw
        case rel =>
          refine ⟨i + 1, j + tk, G3, HJ.out.2.2.2.2.2.2.1, by go_num, HJ.out.2.1, HJ.out.2.2.1, ?_, ?_, X3.out.2.1, X3.out.2.2.1.1, fun q hq => ?_⟩
          · have hcut := ReadsF.cut (F := G3) (w := w3) (b := bd) (off := od) (cap := cd) (n := R) (m := tk) (f := fun z => g (j + z)) X3.out.2.2.2.2.2 HCB.out.2.1 HCB.out.2.2 HJ.out.2.2.2.2.1 (reads_cells X3.out.2.2.2.2.1)
            rw [show n - (j + tk) = R - tk from by have := HJ.out; omega]
            simpa [Nat.add_assoc] using hcut
          · rw [HJ.out.1, layS_append, HJ.out.2.2.2.2.2.1, Nat.zero_add, layS_range]
            rw [← Nat.add_assoc]
            exact X3.out.1
          · have : q = gs := by simpa [Value.ownBlock] using hq.symm
            subst this
            exact X3.out.2.2.1.2
        case measure => simp [intOf]; have := HJ.out.2.2.2.2.2.2.1; omega
end Go.Proofs.Ytmjdnocilbnoaaa
