/- The document's answer Store of layer 2. -/
import Derived.Test.YtcgjfklglckjcaaRefS
namespace Go.Proofs.Ytcgjfklglckjcaa
open Go.RowKit Go.Maps
set_option linter.unusedVariables false
theorem two_boxes (w : World) (o1 o2 : Obj) : Below w.heap.size w ((w.alloc o1).alloc o2) := ((Below.refl _ _).alloc (Nat.le_refl _) _).alloc (by simp) _
theorem boxesD {w w1 : World} {o1 o2 : Obj} (hb : Below ((w.alloc o1).alloc o2).drew.heap.size ((w.alloc o1).alloc o2).drew w1) :
    w1.heap[w.heap.size]? = some o1 ∧ w1.heap[w.heap.size + 1]? = some o2 ∧ Below w.heap.size w w1 ∧ w.heap.size + 2 ≤ w1.heap.size := boxes ⟨hb.os, hb.tape, hb.output, hb.size, hb.block⟩
theorem RefIn.set {w : World} {v u : Value} {n B b o : Nat} {bs : Nat → Nat × Nat} (h : RefIn (fun k => k < B) w v n bs) (hb : b < B) : RefIn (fun k => k < B) (w.setCell ⟨b, o, none⟩ u) v n bs := by
  rcases h with h | ⟨g, c, hv, hg, hc⟩
  · exact .inl h
  · refine .inr ⟨g, c, hv, hg, fun i hi => ?_⟩
    rw [World.cell?_setCell_other _ _ _ _ (fun h => by simp only [Addr.mk.injEq] at h; omega), World.cell?_setCell_other _ _ _ _ (fun h => by simp only [Addr.mk.injEq] at h; omega)]
    exact hc i hi
theorem RefIn.mono {F F' : Nat → Prop} {w : World} {v : Value} {n : Nat} {bs : Nat → Nat × Nat} (h : RefIn F w v n bs) (hF : ∀ k, F' k → F k) : RefIn F' w v n bs := by
  rcases h with h | ⟨g, c, hv, hg, hc⟩
  · exact .inl h
  · exact .inr ⟨g, c, hv, fun hf => hg (hF g hf), hc⟩
end Go.Proofs.Ytcgjfklglckjcaa
