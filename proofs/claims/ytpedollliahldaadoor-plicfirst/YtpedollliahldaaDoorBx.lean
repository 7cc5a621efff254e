/- Boxes: structs that lie in blocks of their own; what calls leave alone. -/
import Derived.Test.YtpedollliahldaaDoorSetB
import Derived.Laws.NewBlocks
import Derived.Laws.StructEq
import Derived.Deep.DeepCutAuto
import Derived.Deep.CutBlock
import Derived.Deep.RegionWith
import Derived.Deep.RegionHeld3
namespace Go.Proofs.YtpedollliahldaaDoor
open Go.RowKit
set_option linter.unusedVariables false
set_option linter.unusedSimpArgs false
theorem cellOf {w : World} {b : Nat} {c : Array Value} {t : TypeId} (h : w.heap[b]? = some (.cells c t (0, 0))) (i : Nat) (v : Value) (hi : c[i]? = some v) : w.cell? ⟨b, i, none⟩ = some v := by
  simp only [World.cell?, h]; exact hi
theorem frozenOf {w : World} {b : Nat} {c : Array Value} {t : TypeId} (h : w.heap[b]? = some (.cells c t (0, 0))) (i : Nat) : w.frozen? ⟨b, i, none⟩ = false := by
  simp only [World.frozen?, h]; simp
def Box (t : TypeId) (w : World) (b : Nat) (c : Array Value) : Prop := w.heap[b]? = some (.cells c t (0, 0))
theorem below_box {w w2 : World} {b : Nat} {o : Obj} (h : w.heap[b]? = some o) (hb : Below w.heap.size w w2) : w2.heap[b]? = some o := (hb.block b (Array.getElem?_eq_some_iff.1 h).1).trans h
section
variable {t : TypeId} {w w' : World} {b : Nat} {c : Array Value}
theorem Box.step (h : Box t w b c) (hb : Below w.heap.size w w') : Box t w' b c := below_box h hb
theorem Box.lt (h : Box t w b c) : b < w.heap.size := (Array.getElem?_eq_some_iff.1 h).1
theorem Box.set (h : Box t w b c) (i : Nat) (v : Value) : Box t (w.setCell ⟨b, i, none⟩ v) b (c.setIfInBounds i v) := heap_setCell_same w b i c t v h
theorem Box.other {k : Nat} (h : Box t w b c) (i : Nat) (v : Value) (hk : b ≠ k) : Box t (w.setCell ⟨k, i, none⟩ v) b c := (heap_setCell_other w ⟨k, i, none⟩ b v hk).trans h
theorem Box.alloc (h : Box t w b c) (o : Obj) : Box t (w.alloc o) b c := h.step ((Below.refl _ _).alloc (Nat.le_refl _) o)
theorem Box.new (t : TypeId) (w : World) (c : Array Value) : Box t (w.alloc (.cells c t)) w.heap.size c := heap_alloc_new w (.cells c t)
theorem Box.cell (h : Box t w b c) (i : Nat) (v : Value) (hi : c[i]? = some v) : w.cell? ⟨b, i, none⟩ = some v := cellOf h i v hi
theorem Box.frozen (h : Box t w b c) (i : Nat) : w.frozen? ⟨b, i, none⟩ = false := frozenOf h i
theorem Box.drew (h : Box t w b c) : Box t w.drew b c := h.step (Below.drew (Below.refl _ _))
end
/-- but for one block all is as it was -/
def Upon (b : Nat) (w w' : World) : Prop := Below 0 w w' ∧ ∀ k, k < w.heap.size → k ≠ b → w'.heap[k]? = w.heap[k]?
theorem Upon.refl (b : Nat) (w : World) : Upon b w w := ⟨Below.refl _ _, fun _ _ _ => rfl⟩
theorem Upon.size {b : Nat} {w w' : World} (h : Upon b w w') : w.heap.size ≤ w'.heap.size := h.1.size
theorem Upon.trans {b : Nat} {w w' w2 : World} (h : Upon b w w') (k : Upon b w' w2) : Upon b w w2 := ⟨h.1.trans k.1, fun i hi hb => (k.2 i (Nat.lt_of_lt_of_le hi h.size) hb).trans (h.2 i hi hb)⟩
theorem Upon.of_below {b : Nat} {w w' : World} (h : Below w.heap.size w w') : Upon b w w' := ⟨h.mono (Nat.zero_le _), fun k hk _ => h.block k hk⟩
theorem Upon.set {b : Nat} {w w' : World} (h : Upon b w w') (i : Nat) (v : Value) : Upon b w (w'.setCell ⟨b, i, none⟩ v) := ⟨h.1.setCell (Nat.zero_le _) v, fun k hk hb => (Below.heap_setCell _ _ _ _ hb).trans (h.2 k hk hb)⟩
theorem Upon.below {b B : Nat} {w w' : World} (h : Upon b w w') (h1 : B ≤ b) (h2 : B ≤ w.heap.size) : Below B w w' := ⟨h.1.os, h.1.tape, h.1.output, h.1.size, fun k hk => h.2 k (by omega) (by omega)⟩
theorem Upon.box {t : TypeId} {b k : Nat} {w w' : World} {c : Array Value} (h : Upon b w w') (hx : Box t w k c) (hk : k ≠ b) : Box t w' k c := (h.2 k hx.lt hk).trans hx
theorem Upon.cell {b : Nat} {w w' : World} (h : Upon b w w') {p : Addr} {v : Value} (hp : w.cell? p = some v) (hk : p.block ≠ b) : w'.cell? p = some v := (World.cell?_of_block (w := w) (h.2 p.block (block_lt_of_cell hp) hk)).trans hp
end Go.Proofs.YtpedollliahldaaDoor
