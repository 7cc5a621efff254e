/- A memory that is watched, and the log that it tells its pieces to. -/
import Derived.Test.YtbodmgihoklhiaaSpans
namespace Go.Proofs.Ytbodmgihoklhiaa
open Go.RowKit Go.Maps
set_option linter.unusedVariables false
/-- A MEMORY WITH ITS LOG: block lb holds the two lists of pieces; G: blocks that are theirs. -/
def LogIn (B : Nat) (w : World) (G F : Nat → Prop) (rb n lb : Nat) (lw lr : Value) (M : Nat → Nat) (ws rs : List (Nat × Nat)) : Prop :=
  RamAt w F rb 4096 n (.pointer (some ⟨lb, 0, none⟩)) M ∧ w.heap[lb]? = some (.cells #[lw, lr] 49 (0, 0)) ∧ SpanIn B w lw ws ∧ SpanIn B w lr rs ∧
  (∀ g, lw.ownBlock = some g → ¬ F g ∧ g ≠ lb ∧ lr.ownBlock ≠ some g ∧ G g) ∧ (∀ g, lr.ownBlock = some g → ¬ F g ∧ g ≠ lb ∧ G g) ∧ (∀ k, F k → G k) ∧ G lb ∧ ¬ F lb ∧ (∀ k, G k → k < w.heap.size)
def LogAt (B : Nat) (w : World) (G : Nat → Prop) (rb n lb : Nat) (ws rs : List (Nat × Nat)) : Prop := ∃ F lw lr M, LogIn B w G F rb n lb lw lr M ws rs
theorem LogIn.kept {B : Nat} {w w1 : World} {G F : Nat → Prop} {rb n lb : Nat} {lw lr : Value} {M : Nat → Nat} {ws rs : List (Nat × Nat)} (h : LogIn B w G F rb n lb lw lr M ws rs) (hs : w.heap.size ≤ w1.heap.size) (hk : ∀ k, G k → w1.heap[k]? = w.heap[k]?) : LogIn B w1 G F rb n lb lw lr M ws rs := by
  obtain ⟨h1, h2, h3, h4, h5, h6, h7, h8, h9, h10⟩ := h
  exact ⟨h1.kept hs (fun k hf => hk k (h7 k hf)), (hk lb h8).trans h2, h3.kept (fun g hg => hk g (h5 g hg).2.2.2), h4.kept (fun g hg => hk g (h6 g hg).2.2), h5, h6, h7, h8, h9, fun k hg => Nat.lt_of_lt_of_le (h10 k hg) hs⟩
theorem LogAt.below {B : Nat} {w w1 : World} {G : Nat → Prop} {rb n lb : Nat} {ws rs : List (Nat × Nat)} (h : LogAt B w G rb n lb ws rs) (hb : Below w.heap.size w w1) : LogAt B w1 G rb n lb ws rs := by
  obtain ⟨F, lw, lr, M, h⟩ := h
  exact ⟨F, lw, lr, M, h.kept hb.size (fun k hk => hb.block k (h.2.2.2.2.2.2.2.2.2 k hk))⟩
theorem LogAt.lt {B : Nat} {w : World} {G : Nat → Prop} {rb n lb : Nat} {ws rs : List (Nat × Nat)} (h : LogAt B w G rb n lb ws rs) : ∀ k, G k → k < w.heap.size := by
  obtain ⟨F, lw, lr, M, h⟩ := h
  exact h.2.2.2.2.2.2.2.2.2
theorem LogIn.put {B : Nat} {w w1 : World} {G F F1 : Nat → Prop} {rb n n1 lb : Nat} {lw lr : Value} {M M1 : Nat → Nat} {ws rs : List (Nat × Nat)} (h : LogIn B w G F rb n lb lw lr M ws rs) (hr : RamAt w1 F1 rb 4096 n1 (.pointer (some ⟨lb, 0, none⟩)) M1) (hs : Step F w F1 w1) :
    LogIn B w1 (fun k => G k ∨ F1 k) F1 rb n1 lb lw lr M1 ws rs ∧ Step G w (fun k => G k ∨ F1 k) w1 := by
  obtain ⟨h1, h2, h3, h4, h5, h6, h7, h8, h9, h10⟩ := h
  have hlt : ∀ g, lw.ownBlock = some g → g < w.heap.size := fun g hg => (h3.lt g hg).2
  have hlt2 : ∀ g, lr.ownBlock = some g → g < w.heap.size := fun g hg => (h4.lt g hg).2
  have hn : ∀ g, g < w.heap.size → ¬ F g → ¬ F1 g := fun g hg hf h => by rcases hs.old g h with h' | h'; exact hf h'; omega
  refine ⟨⟨hr, (hs.block lb (h10 lb h8) h9).trans h2, h3.kept (fun g hg => hs.block g (hlt g hg) (h5 g hg).1), h4.kept (fun g hg => hs.block g (hlt2 g hg) (h6 g hg).1), fun g hg => ⟨hn g (hlt g hg) (h5 g hg).1, (h5 g hg).2.1, (h5 g hg).2.2.1, .inl (h5 g hg).2.2.2⟩, fun g hg => ⟨hn g (hlt2 g hg) (h6 g hg).1, (h6 g hg).2.1, .inl (h6 g hg).2.2⟩, fun k hk => .inr hk, .inl h8, hn lb (h10 lb h8) h9, fun k hk => ?_⟩, ⟨hs.os, hs.tape, hs.output, hs.size, fun k hk hg => hs.block k hk (fun hf => hg (h7 k hf)), fun k hk => ?_, fun k hk => .inl hk⟩⟩
  · rcases hk with hk | hk
    · exact Nat.lt_of_lt_of_le (h10 k hk) hs.size
    · exact hr.lt k hk
  · rcases hk with hk | hk
    · exact .inl hk
    · rcases hs.old k hk with h' | h'
      · exact .inl (h7 k h')
      · exact .inr h'
theorem step_add {B : Nat} {w w1 : World} {G : Nat → Prop} {v v' : Value} {l : List (Nat × Nat)} {x L lb o : Nat} (ha : Added B w w1 v v' l x L) (hv : ∀ g, v.ownBlock = some g → G g) (hlb : G lb) : Step G w (fun k => G k ∨ v'.ownBlock = some k) (w1.setCell ⟨lb, o, none⟩ v') := by
  obtain ⟨a1, a2, a3⟩ := ha
  refine ⟨a2.os, a2.tape, a2.output, by have := a2.size; simp [World.setCell]; omega, fun k hk hg => ?_, fun k hk => ?_, fun k hk => .inl hk⟩
  · rw [heap_setCell w1 lb o v' k (fun e => hg (e ▸ hlb))]
    exact a2.block k hk (fun e => hg (hv k e.symm))
  · rcases hk with hk | hk
    · exact .inl hk
    · rcases a3 with h | ⟨g, h, hg⟩
      · exact .inl (hv k (h ▸ hk))
      · rw [h] at hk; cases hk; exact .inr hg
theorem box_set0 {w : World} {b : Nat} {p q u : Value} {t : TypeId} (h : w.heap[b]? = some (.cells #[p, q] t (0, 0))) : (w.setCell ⟨b, 0, none⟩ u).heap[b]? = some (.cells #[u, q] t (0, 0)) := by
  rw [setCell_eq_setRow w b 0 _ t (0, 0) u h, setRow_heap w b _ _ t _ h]; rfl
theorem box_set1 {w : World} {b : Nat} {p q u : Value} {t : TypeId} (h : w.heap[b]? = some (.cells #[p, q] t (0, 0))) : (w.setCell ⟨b, 1, none⟩ u).heap[b]? = some (.cells #[p, u] t (0, 0)) := by
  rw [setCell_eq_setRow w b 1 _ t (0, 0) u h, setRow_heap w b _ _ t _ h]; rfl
theorem LogIn.toldW {B : Nat} {w w1 : World} {G F : Nat → Prop} {rb n lb : Nat} {lw lr v' : Value} {M : Nat → Nat} {ws rs : List (Nat × Nat)} {x L : Nat} (h : LogIn B w G F rb n lb lw lr M ws rs) (ha : Added B w w1 lw v' ws x L) :
    LogIn B (w1.setCell ⟨lb, 0, none⟩ v') (fun k => G k ∨ v'.ownBlock = some k) F rb n lb v' lr M (ws ++ [(x, L)]) rs ∧ Step G w (fun k => G k ∨ v'.ownBlock = some k) (w1.setCell ⟨lb, 0, none⟩ v') := by
  obtain ⟨h1, h2, h3, h4, h5, h6, h7, h8, h9, h10⟩ := h
  have hst : Step G w (fun k => G k ∨ v'.ownBlock = some k) (w1.setCell ⟨lb, 0, none⟩ v') := step_add ha (fun g hg => (h5 g hg).2.2.2) h8
  obtain ⟨a1, a2, a3⟩ := ha
  have hlb : w1.heap[lb]? = some (.cells #[lw, lr] 49 (0, 0)) := (a2.block lb (h10 lb h8) (fun e => (h5 lb e.symm).2.1 rfl)).trans h2
  have hF : ∀ k, F k → (w1.setCell ⟨lb, 0, none⟩ v').heap[k]? = w.heap[k]? := fun k hk => by
    rw [heap_setCell w1 lb 0 v' k (fun e => h9 (e ▸ hk))]
    exact a2.block k (h1.lt k hk) (fun e => (h5 k e.symm).1 hk)
  have hlr : ∀ g, lr.ownBlock = some g → (w1.setCell ⟨lb, 0, none⟩ v').heap[g]? = w.heap[g]? := fun g hg => by
    rw [heap_setCell w1 lb 0 v' g (h6 g hg).2.1]
    exact a2.block g (h4.lt g hg).2 (fun e => (h5 g e.symm).2.2.1 hg)
  have hnew : ∀ g, v'.ownBlock = some g → ¬ F g ∧ g ≠ lb ∧ lr.ownBlock ≠ some g := fun g hg => by
    rcases a3 with e | ⟨g', e, hge⟩
    · have := h5 g (e ▸ hg); exact ⟨this.1, this.2.1, this.2.2.1⟩
    · rw [e] at hg; cases hg
      refine ⟨fun hf => by have := h1.lt _ hf; omega, fun e2 => by have := h10 lb h8; omega, fun e2 => by have := (h4.lt _ e2).2; omega⟩
  refine ⟨⟨h1.kept hst.size hF, box_set0 hlb, ?_, h4.kept hlr, fun g hg => ⟨(hnew g hg).1, (hnew g hg).2.1, (hnew g hg).2.2, .inr hg⟩, fun g hg => ⟨(h6 g hg).1, (h6 g hg).2.1, .inl (h6 g hg).2.2⟩, fun k hk => .inl (h7 k hk), .inl h8, h9, fun k hk => ?_⟩, hst⟩
  · exact a1.kept (fun g hg => heap_setCell w1 lb 0 v' g (hnew g hg).2.1)
  · have hs1 : (w1.setCell ⟨lb, 0, none⟩ v').heap.size = w1.heap.size := by simp [World.setCell]
    rcases hk with hk | hk
    · have := h10 k hk; have := a2.size; omega
    · have := (a1.lt k hk).2; omega
theorem LogIn.toldR {B : Nat} {w w1 : World} {G F : Nat → Prop} {rb n lb : Nat} {lw lr v' : Value} {M : Nat → Nat} {ws rs : List (Nat × Nat)} {x L : Nat} (h : LogIn B w G F rb n lb lw lr M ws rs) (ha : Added B w w1 lr v' rs x L) :
    LogIn B (w1.setCell ⟨lb, 1, none⟩ v') (fun k => G k ∨ v'.ownBlock = some k) F rb n lb lw v' M ws (rs ++ [(x, L)]) ∧ Step G w (fun k => G k ∨ v'.ownBlock = some k) (w1.setCell ⟨lb, 1, none⟩ v') := by
  obtain ⟨h1, h2, h3, h4, h5, h6, h7, h8, h9, h10⟩ := h
  have hst : Step G w (fun k => G k ∨ v'.ownBlock = some k) (w1.setCell ⟨lb, 1, none⟩ v') := step_add ha (fun g hg => (h6 g hg).2.2) h8
  obtain ⟨a1, a2, a3⟩ := ha
  have hlb : w1.heap[lb]? = some (.cells #[lw, lr] 49 (0, 0)) := (a2.block lb (h10 lb h8) (fun e => (h6 lb e.symm).2.1 rfl)).trans h2
  have hF : ∀ k, F k → (w1.setCell ⟨lb, 1, none⟩ v').heap[k]? = w.heap[k]? := fun k hk => by
    rw [heap_setCell w1 lb 1 v' k (fun e => h9 (e ▸ hk))]
    exact a2.block k (h1.lt k hk) (fun e => (h6 k e.symm).1 hk)
  have hlw : ∀ g, lw.ownBlock = some g → (w1.setCell ⟨lb, 1, none⟩ v').heap[g]? = w.heap[g]? := fun g hg => by
    rw [heap_setCell w1 lb 1 v' g (h5 g hg).2.1]
    exact a2.block g (h3.lt g hg).2 (fun e => (h5 g hg).2.2.1 e.symm)
  have hnew : ∀ g, v'.ownBlock = some g → ¬ F g ∧ g ≠ lb ∧ lw.ownBlock ≠ some g := fun g hg => by
    rcases a3 with e | ⟨g', e, hge⟩
    · have := h6 g (e ▸ hg); exact ⟨this.1, this.2.1, fun e2 => (h5 g e2).2.2.1 (e ▸ hg)⟩
    · rw [e] at hg; cases hg
      refine ⟨fun hf => by have := h1.lt _ hf; omega, fun e2 => by have := h10 lb h8; omega, fun e2 => by have := (h3.lt _ e2).2; omega⟩
  refine ⟨⟨h1.kept hst.size hF, box_set1 hlb, h3.kept hlw, ?_, fun g hg => ⟨(h5 g hg).1, (h5 g hg).2.1, fun e2 => (hnew g e2).2.2 hg, .inl (h5 g hg).2.2.2⟩, fun g hg => ⟨(hnew g hg).1, (hnew g hg).2.1, .inr hg⟩, fun k hk => .inl (h7 k hk), .inl h8, h9, fun k hk => ?_⟩, hst⟩
  · exact a1.kept (fun g hg => heap_setCell w1 lb 1 v' g (hnew g hg).2.1)
  · have hs1 : (w1.setCell ⟨lb, 1, none⟩ v').heap.size = w1.heap.size := by simp [World.setCell]
    rcases hk with hk | hk
    · have := h10 k hk; have := a2.size; omega
    · have := (a1.lt k hk).2; omega
end Go.Proofs.Ytbodmgihoklhiaa
