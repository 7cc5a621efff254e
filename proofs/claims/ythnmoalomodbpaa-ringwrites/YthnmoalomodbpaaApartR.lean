/- The document's call Differ of layer 2: its first statement, which lays the bytes of both memories in one list. -/
import Derived.Test.YthnmoalomodbpaaApart
import Derived.Deep.DeepCutAuto
namespace Go.Proofs.Ythnmoalomodbpaa
open Go.RowKit Go.Maps
set_option linter.unusedVariables false
set_option linter.unusedSimpArgs false
/-- the two boxes of the call's arguments lie where they lay -/
structure DIn (w W : World) (ca cb : Array Value) : Prop where
  below : Below w.heap.size w W
  boxa : W.heap[w.heap.size]? = some (.cells ca 29 (0, 0))
  boxb : W.heap[w.heap.size + 1]? = some (.cells cb 29 (0, 0))
theorem DIn.size {w W : World} {ca cb : Array Value} (h : DIn w W ca cb) : w.heap.size + 2 ≤ W.heap.size := (Array.getElem?_eq_some_iff.1 h.boxb).1
theorem DIn.later {w W W' : World} {ca cb : Array Value} (h : DIn w W ca cb) (hb : Below W.heap.size W W') : DIn w W' ca cb :=
  ⟨h.below.trans (hb.mono h.below.size), below_box h.boxa hb, below_box h.boxb hb⟩
theorem DIn.drew {w W : World} {ca cb : Array Value} (h : DIn w W ca cb) : DIn w W.drew ca cb := h.later (Below.refl _ _).drew
theorem DIn.alloc {w W : World} {ca cb : Array Value} (h : DIn w W ca cb) (o : Obj) : DIn w (W.alloc o) ca cb := h.later ((Below.refl _ _).alloc (Nat.le_refl _) _)
theorem DIn.grown {w W W' : World} {ca cb : Array Value} {g : Nat} (h : DIn w W ca cb) (hg : w.heap.size + 2 ≤ g) (hgr : W.grownBy W' (some g)) : DIn w W' ca cb :=
  ⟨Below.grown h.below hgr h.below.size (fun b hb => by cases hb; omega),
   (hgr.block _ (by have := h.size; omega) (by simp only [ne_eq, Option.some.injEq]; omega)).trans h.boxa,
   (hgr.block _ (by have := h.size; omega) (by simp only [ne_eq, Option.some.injEq]; omega)).trans h.boxb⟩
theorem DIn.set {w W : World} {ca cb : Array Value} (h : DIn w W ca cb) {b : Nat} (hb : w.heap.size + 2 ≤ b) (o : Nat) (u : Value) : DIn w (W.setCell ⟨b, o, none⟩ u) ca cb :=
  ⟨h.below.setCell (p := ⟨b, o, none⟩) (show w.heap.size ≤ b by omega) u, (heap_setCell W b o u _ (by omega)).trans h.boxa, (heap_setCell W b o u _ (by omega)).trans h.boxb⟩
theorem DIn.cells {w W : World} {a b c d : Value} (h : DIn w W #[a, b] #[c, d]) : W.cell? ⟨w.heap.size, 1, none⟩ = some b ∧ W.cell? ⟨w.heap.size + 1, 1, none⟩ = some d :=
  ⟨(box_facts h.boxa).2.1, (box_facts h.boxb).2.1⟩
theorem own_empty {w W : World} {ca cb : Array Value} (g : Nat) (h : DIn w W ca cb) (hg : g = W.heap.size) (bs : Nat → Nat × Nat) : (W.alloc (.cells #[] 110)).ownsRow (w.heap.size + 2) 110 2 (.slice (some ⟨g, 0, none⟩) 0 0) 0 (byteRow bs 0) := by
  subst hg
  exact ⟨rfl, .inr ⟨W.heap.size, 0, #[], rfl, h.size, heap_alloc_new W _, Nat.le_refl _, by unfold maxLen; omega, rfl, rfl⟩⟩
theorem at_alloc (W : World) (o : Obj) (k : Nat) (h : k = W.heap.size) : (W.alloc o).heap[k]? = some o := by subst h; exact heap_alloc_new W o
theorem at_past {W : World} {o' : Obj} {k : Nat} (h : W.heap[k]? = some o') (o : Obj) : (W.alloc o).heap[k]? = some o' := (heap_alloc_old W o (Array.getElem?_eq_some_iff.1 h).1).trans h
theorem at_drew {W : World} {o' : Obj} {k : Nat} (h : W.heap[k]? = some o') : W.drew.heap[k]? = some o' := h
theorem at_grown {W W' : World} {o' : Obj} {k g : Nat} (h : W.heap[k]? = some o') (hgr : W.grownBy W' (some g)) (hne : k ≠ g) : W'.heap[k]? = some o' := (hgr.block k (Array.getElem?_eq_some_iff.1 h).1 (by simp only [ne_eq, Option.some.injEq]; exact hne)).trans h
/-- what the list of both holds -/
theorem row_cells {B : Nat} {W : World} {g n c : Nat} {bs : Nat → Nat × Nat} (h : W.ownsRow B 110 2 (.slice (some ⟨g, 0, none⟩) n c) n (byteRow bs n)) : ∀ i, i < n → W.cell? ⟨g, i * 2, none⟩ = some (.int .u64 ((bs i).1 : Nat)) := by
  intro i hi
  have := World.ownsRow.cells h (g := g) rfl _ _ (byteRow_get bs n i hi).1
  rw [addr_add, Nat.zero_add] at this
  exact this
end Go.Proofs.Ythnmoalomodbpaa
