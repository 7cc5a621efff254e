/- A list of boxes that are made and written beside a memory. -/
import Derived.Test.YtalgidnmmghejaaLx
namespace Go.Proofs.Ytalgidnmmghejaa
open Go.RowKit Go.Maps
set_option linter.unusedVariables false
set_option linter.unusedSimpArgs false
set_option maxRecDepth 100000
def Bs (w V : World) (F : Nat → Prop) : List (Nat × TypeId × Array Value) → Prop
  | [] => True
  | x :: l => Bx x.2.1 w V F x.1 x.2.2 ∧ (∀ b, b ∈ l → b.1 ≠ x.1) ∧ Bs w V F l
/-- the way's box and the memory, and boxes of their own -/
def Sg (w V : World) (F : Nat → Prop) (rb : Nat) (M : Nat → Nat) (satp : Nat) (kind mode : Int) (sum mxr : Bool) (l : List (Nat × TypeId × Array Value)) : Prop := Ri w V F rb M satp kind mode sum mxr ∧ Bs w V F l
section
variable {w V V' : World} {F : Nat → Prop} {rb satp : Nat} {M : Nat → Nat} {kind mode : Int} {sum mxr : Bool} {l : List (Nat × TypeId × Array Value)}
theorem Bs.step (hb : Below V.heap.size V V') : ∀ {l : List (Nat × TypeId × Array Value)}, Bs w V F l → Bs w V' F l
  | [], _ => trivial
  | _ :: _, h => ⟨h.1.step hb, h.2.1, Bs.step hb h.2.2⟩
theorem Bs.get : ∀ {l : List (Nat × TypeId × Array Value)}, Bs w V F l → ∀ (i : Nat) {x : Nat × TypeId × Array Value}, l[i]? = some x → Bx x.2.1 w V F x.1 x.2.2
  | [], _, i, _, hi => by simp at hi
  | x :: l, h, 0, y, hi => by simp at hi; subst hi; exact h.1
  | x :: l, h, i + 1, y, hi => by simp at hi; exact Bs.get h.2.2 i hi
theorem Bs.fresh (n : Nat) : ∀ {l : List (Nat × TypeId × Array Value)}, Bs w V F l → ∀ b, b ∈ l → V.heap.size = n → b.1 ≠ n
  | [], _, b, hb, _ => by simp at hb
  | x :: l, h, b, hb, hn => by
    rcases List.mem_cons.1 hb with rfl | hb
    · have := h.1.1.lt; omega
    · exact Bs.fresh n h.2.2 b hb hn
theorem Bs.upon {p : Nat} (hu : E.Upon p V V') : ∀ {l : List (Nat × TypeId × Array Value)}, Bs w V F l → (∀ b, b ∈ l → b.1 ≠ p) → Bs w V' F l
  | [], _, _ => trivial
  | x :: l, h, hn => ⟨h.1.upon hu (hn x (by simp)), h.2.1, Bs.upon hu h.2.2 (fun b hb => hn b (by simp [hb]))⟩
theorem mem_set {l : List (Nat × TypeId × Array Value)} {i p : Nat} {t : TypeId} {c c' : Array Value} (hi : l[i]? = some (p, t, c)) {b : Nat × TypeId × Array Value} (hb : b ∈ l.set i (p, t, c')) : ∃ b', b' ∈ l ∧ b'.1 = b.1 := by
  rcases List.mem_or_eq_of_mem_set hb with h | h
  · exact ⟨b, h, rfl⟩
  · subst h
    exact ⟨(p, t, c), List.mem_of_getElem? hi, rfl⟩
theorem Bs.set {p : Nat} {t : TypeId} {c c' : Array Value} (hu : E.Upon p V V') (hb : E.Box t V' p c') : ∀ {l : List (Nat × TypeId × Array Value)} {i : Nat}, Bs w V F l → l[i]? = some (p, t, c) → Bs w V' F (l.set i (p, t, c'))
  | [], i, _, hi => by simp at hi
  | x :: l, 0, h, hi => by
    simp at hi; subst hi
    exact ⟨⟨hb, h.1.2⟩, h.2.1, Bs.upon hu h.2.2 h.2.1⟩
  | x :: l, i + 1, h, hi => by
    simp at hi
    refine ⟨h.1.upon hu (fun e => h.2.1 _ (List.mem_of_getElem? hi) e.symm), fun b hm => ?_, Bs.set hu hb h.2.2 hi⟩
    obtain ⟨b', h1, h2⟩ := mem_set hi hm
    rw [← h2]; exact h.2.1 b' h1
theorem Sg.step (h : Sg w V F rb M satp kind mode sum mxr l) (hb : Below V.heap.size V V') : Sg w V' F rb M satp kind mode sum mxr l := ⟨h.1.step hb, h.2.step hb⟩
theorem Sg.drew (h : Sg w V F rb M satp kind mode sum mxr l) : Sg w V.drew F rb M satp kind mode sum mxr l := h.step (Below.drew (Below.refl _ _))
theorem Sg.get (h : Sg w V F rb M satp kind mode sum mxr l) (i : Nat) {p : Nat} {t : TypeId} {c : Array Value} (hi : l[i]? = some (p, t, c)) : Bx t w V F p c := h.2.get i hi
theorem Sg.cell (h : Sg w V F rb M satp kind mode sum mxr l) (i : Nat) {p : Nat} {t : TypeId} {c : Array Value} (hi : l[i]? = some (p, t, c)) (j : Nat) (v : Value) (hj : c[j]? = some v) : V.cell? ⟨p, j, none⟩ = some v := (h.get i hi).1.cell j v hj
theorem Sg.frozen (h : Sg w V F rb M satp kind mode sum mxr l) (i : Nat) {p : Nat} {t : TypeId} {c : Array Value} (hi : l[i]? = some (p, t, c)) (j : Nat) : V.frozen? ⟨p, j, none⟩ = false := (h.get i hi).1.frozen j
theorem Sg.alloc (h : Sg w V F rb M satp kind mode sum mxr l) (t : TypeId) (c : Array Value) : Sg w (V.alloc (.cells c t)) F rb M satp kind mode sum mxr ((V.heap.size, t, c) :: l) :=
  ⟨h.1.step (below_new V _), Bx.new h.1 t c, fun b hb => h.2.fresh _ b hb rfl, h.2.step (below_new V _)⟩
theorem Sg.set (h : Sg w V F rb M satp kind mode sum mxr l) (i : Nat) {p : Nat} {t : TypeId} {c c' : Array Value} (hi : l[i]? = some (p, t, c)) (hb : E.Box t V' p c') (hu : E.Upon p V V') : Sg w V' F rb M satp kind mode sum mxr (l.set i (p, t, c')) :=
  ⟨h.1.upon hu (h.get i hi).2.1 (h.get i hi).2.2, Bs.set hu hb h.2 hi⟩
theorem Sg.set1 (h : Sg w V F rb M satp kind mode sum mxr l) (i : Nat) {p : Nat} {t : TypeId} {c : Array Value} (hi : l[i]? = some (p, t, c)) (j : Nat) (v : Value) : Sg w (V.setCell ⟨p, j, none⟩ v) F rb M satp kind mode sum mxr (l.set i (p, t, c.setIfInBounds j v)) :=
  h.set i hi ((h.get i hi).set j v).1.1 ((h.get i hi).set j v).2
theorem Sg.swap {x y : Nat × TypeId × Array Value} (h : Sg w V F rb M satp kind mode sum mxr (x :: y :: l)) : Sg w V F rb M satp kind mode sum mxr (y :: x :: l) := by
  obtain ⟨h0, h1, h2, h3, h4, h5⟩ := h
  refine ⟨h0, h3, fun b hb => ?_, h1, fun b hb => h2 b (by simp [hb]), h5⟩
  rcases List.mem_cons.1 hb with rfl | hb
  · exact fun e => h2 y (by simp) e.symm
  · exact h4 b hb
theorem Sg.tail {x : Nat × TypeId × Array Value} (h : Sg w V F rb M satp kind mode sum mxr (x :: l)) : Sg w V F rb M satp kind mode sum mxr l := ⟨h.1, h.2.2.2⟩
theorem Sg.ne (h : Sg w V F rb M satp kind mode sum mxr l) {x y : Nat × TypeId × Array Value} {r : List (Nat × TypeId × Array Value)} (hl : l = x :: y :: r) : x.1 ≠ y.1 ∧ y.1 ≠ x.1 := by
  subst hl
  have := h.2.2.1 y (by simp)
  exact ⟨fun e => this e.symm, this⟩
end
def zw : Array Value := #[.int .u64 0, .int .i64 0, .int .i64 0, .bool false, .bool false]
def zr : Array Value := #[.int .u64 0, .bool false, .bool false, .int .i64 0]
def wc5 (satp : Nat) (kind mode : Int) (sum mxr : Bool) : Array Value := #[.int .u64 (satp : Nat), .int .i64 kind, .int .i64 mode, .bool sum, .bool mxr]
end Go.Proofs.Ytalgidnmmghejaa
