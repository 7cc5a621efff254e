/- Helpers: boxes of two cells beside a memory. -/
import Derived.Test.YtcgjfklglckjcaaDo
namespace Go.Proofs.Ytcgjfklglckjcaa
open Go.RowKit Go.Maps
set_option linter.unusedVariables false
theorem step_box {F F' : Nat → Prop} {w w' : World} {b : Nat} {o : Obj} (hs : Step F w F' w') (h : w.heap[b]? = some o) (hF : ¬ F b) : w'.heap[b]? = some o := (hs.block b (Array.getElem?_eq_some_iff.1 h).1 hF).trans h
theorem box_set {w : World} {b : Nat} {p q u0 u1 : Value} {t : TypeId} (h : w.heap[b]? = some (.cells #[p, q] t (0, 0))) : ((w.setCell ⟨b, 0, none⟩ u0).setCell ⟨b, 1, none⟩ u1).heap[b]? = some (.cells #[u0, u1] t (0, 0)) := by
  rw [setCell_eq_setRow w b 0 _ t (0, 0) u0 h]
  have h2 := setRow_heap w b _ (#[p, q].setIfInBounds 0 u0) t _ h
  rw [setCell_eq_setRow _ b 1 _ t (0, 0) u1 h2, setRow_heap _ b _ _ t _ h2]
  rfl
theorem box_other {w : World} {b b' : Nat} {u0 u1 : Value} {o : Obj} (h : w.heap[b']? = some o) (hne : b' ≠ b) : ((w.setCell ⟨b, 0, none⟩ u0).setCell ⟨b, 1, none⟩ u1).heap[b']? = some o := by
  rw [heap_setCell _ _ _ _ _ hne, heap_setCell _ _ _ _ _ hne]; exact h
theorem Both.setBox {F : Nat → Prop} {w : World} {rb s n b : Nat} {v u0 u1 : Value} {M : Nat → Nat} {a0 : Option Addr} {n0 c0 : Nat} (h : Both F w rb s v n M) (hF : ¬ F b) (hb : w.cell? ⟨b, 1, none⟩ = some (.slice a0 n0 c0)) : Both F ((w.setCell ⟨b, 0, none⟩ u0).setCell ⟨b, 1, none⟩ u1) rb s v n M := by
  obtain ⟨h1, nb, bs, h2, h3, h4, h5⟩ := h
  have hq' : (w.setCell ⟨b, 0, none⟩ u0).cell? ⟨b, 1, none⟩ = some (.slice a0 n0 c0) := by
    rw [World.cell?_setCell_other _ _ _ _ (fun h => by simp at h)]; exact hb
  exact ⟨(h1.setCell hF 0 u0).setCell hF 1 u1, nb, bs, h2, h3, (h4.setBox hb 0 u0).setBox hq' 1 u1, h5⟩
theorem below_box {w w2 : World} {b : Nat} {o : Obj} (h : w.heap[b]? = some o) (hb : Below w.heap.size w w2) : w2.heap[b]? = some o := (hb.block b (Array.getElem?_eq_some_iff.1 h).1).trans h
end Go.Proofs.Ytcgjfklglckjcaa
