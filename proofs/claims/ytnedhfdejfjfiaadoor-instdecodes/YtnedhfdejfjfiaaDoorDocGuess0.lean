/- The document's call Guess of layer 3: what instruction a word would be, of an operation. -/
import Derived.Test.YtnedhfdejfjfiaaDoorDocBackAll
import Derived.Test.YtnedhfdejfjfiaaDoorDec
namespace Go.Proofs.YtnedhfdejfjfiaaDoor
open Go.RowKit
set_option linter.unusedVariables false
set_option linter.unusedSimpArgs false
/-- a box of eight cells in a world -/
def Box8 (w : World) (b : Nat) (c : Array Value) : Prop := w.heap[b]? = some (.cells c 23 (0, 0))
theorem Box8.step {w w' : World} {b : Nat} {c : Array Value} (h : Box8 w b c) (hb : Below w.heap.size w w') : Box8 w' b c := below_box h hb
theorem Box8.lt {w : World} {b : Nat} {c : Array Value} (h : Box8 w b c) : b < w.heap.size := (Array.getElem?_eq_some_iff.1 h).1
theorem Box8.set {w : World} {b : Nat} {c : Array Value} (h : Box8 w b c) (i : Nat) (v : Value) : Box8 (w.setCell ⟨b, i, none⟩ v) b (c.setIfInBounds i v) := heap_setCell_same w b i c 23 v h
theorem Box8.other {w : World} {b k : Nat} {c : Array Value} (h : Box8 w b c) (i : Nat) (v : Value) (hk : b ≠ k) : Box8 (w.setCell ⟨k, i, none⟩ v) b c := (heap_setCell_other w ⟨k, i, none⟩ b v hk).trans h
def Box4 (w : World) (b : Nat) (c : Array Value) : Prop := w.heap[b]? = some (.cells c 64 (0, 0))
theorem Box4.step {w w' : World} {b : Nat} {c : Array Value} (h : Box4 w b c) (hb : Below w.heap.size w w') : Box4 w' b c := below_box h hb
theorem Box4.lt {w : World} {b : Nat} {c : Array Value} (h : Box4 w b c) : b < w.heap.size := (Array.getElem?_eq_some_iff.1 h).1
theorem Box4.other {w : World} {b k : Nat} {c : Array Value} (h : Box4 w b c) (i : Nat) (v : Value) (hk : b ≠ k) : Box4 (w.setCell ⟨k, i, none⟩ v) b c := (heap_setCell_other w ⟨k, i, none⟩ b v hk).trans h
theorem Box4.alloc {w : World} {b : Nat} {c : Array Value} (h : Box4 w b c) (o : Obj) : Box4 (w.alloc o) b c := h.step ((Below.refl _ _).alloc (Nat.le_refl _) o)
theorem Box8.alloc {w : World} {b : Nat} {c : Array Value} (h : Box8 w b c) (o : Obj) : Box8 (w.alloc o) b c := h.step ((Below.refl _ _).alloc (Nat.le_refl _) o)
theorem Box8.new (w : World) (c : Array Value) : Box8 (w.alloc (.cells c 23)) w.heap.size c := heap_alloc_new w (.cells c 23)
end Go.Proofs.YtnedhfdejfjfiaaDoor
