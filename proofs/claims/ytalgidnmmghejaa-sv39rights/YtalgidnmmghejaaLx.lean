/- Boxes that are made and written beside a memory. -/
import Derived.Test.YtalgidnmmghejaaLb
import Derived.Test.YtalgidnmmghejaaFl
namespace Go.Proofs.Ytalgidnmmghejaa
open Go.RowKit Go.Maps
set_option linter.unusedVariables false
set_option linter.unusedSimpArgs false
set_option maxRecDepth 100000
def Ri (w V : World) (F : Nat → Prop) (rb : Nat) (M : Nat → Nat) (satp : Nat) (kind mode : Int) (sum mxr : Bool) : Prop := At 25 w V #[.int .u64 (satp : Nat), .int .i64 kind, .int .i64 mode, .bool sum, .bool mxr] ∧ RamAt V F rb 32768 480 (.pointer none) M
def Bx (t : TypeId) (w V : World) (F : Nat → Prop) (p : Nat) (c : Array Value) : Prop := E.Box t V p c ∧ w.heap.size < p ∧ ¬ F p
section
variable {w V V' : World} {F : Nat → Prop} {rb satp : Nat} {M : Nat → Nat} {kind mode : Int} {sum mxr : Bool} {t : TypeId} {p q : Nat} {c : Array Value}
theorem Ri.step (h : Ri w V F rb M satp kind mode sum mxr) (hb : Below V.heap.size V V') : Ri w V' F rb M satp kind mode sum mxr := ⟨h.1.step hb, h.2.below hb⟩
theorem Bx.step (h : Bx t w V F p c) (hb : Below V.heap.size V V') : Bx t w V' F p c := ⟨h.1.step hb, h.2⟩
theorem below_new (V : World) (o : Obj) : Below V.heap.size V (V.alloc o) := (Below.refl _ _).alloc (Nat.le_refl _) o
theorem Ri.upon (h : Ri w V F rb M satp kind mode sum mxr) (hu : E.Upon p V V') (hp : w.heap.size < p) (hF : ¬ F p) : Ri w V' F rb M satp kind mode sum mxr := by
  have hlt : w.heap.size < V.heap.size := (Array.getElem?_eq_some_iff.1 h.1.1).1
  exact ⟨⟨(hu.2 _ hlt (by omega)).trans h.1.1, h.1.2.trans (hu.below (by omega) h.1.2.size)⟩, h.2.kept hu.size (fun k hk => hu.2 k (h.2.lt k hk) (fun e => hF (e ▸ hk)))⟩
theorem Bx.upon (h : Bx t w V F q c) (hu : E.Upon p V V') (hne : q ≠ p) : Bx t w V' F q c := ⟨hu.box h.1 hne, h.2⟩
theorem Bx.new (h : Ri w V F rb M satp kind mode sum mxr) (t : TypeId) (c : Array Value) : Bx t w (V.alloc (.cells c t)) F V.heap.size c :=
  ⟨E.Box.new t V c, (Array.getElem?_eq_some_iff.1 h.1.1).1, fun hf => by have := h.2.lt _ hf; omega⟩
theorem Bx.ne_new (h : Bx t w V F p c) : p ≠ V.heap.size := by have := h.1.lt; omega
theorem Bx.set (h : Bx t w V F p c) (i : Nat) (v : Value) : Bx t w (V.setCell ⟨p, i, none⟩ v) F p (c.setIfInBounds i v) ∧ E.Upon p V (V.setCell ⟨p, i, none⟩ v) := ⟨⟨h.1.set i v, h.2⟩, (E.Upon.refl p V).set i v⟩
theorem Bx.set4 {o0 o1 o2 o3 : Value} (h : Bx t w V F p #[o0, o1, o2, o3]) (v0 v1 v2 v3 : Value) : Bx t w ((((V.setCell ⟨p, 0, none⟩ v0).setCell ⟨p, 1, none⟩ v1).setCell ⟨p, 2, none⟩ v2).setCell ⟨p, 3, none⟩ v3) F p #[v0, v1, v2, v3] ∧ E.Upon p V ((((V.setCell ⟨p, 0, none⟩ v0).setCell ⟨p, 1, none⟩ v1).setCell ⟨p, 2, none⟩ v2).setCell ⟨p, 3, none⟩ v3) :=
  ⟨((((h.set 0 v0).1.set 1 v1).1.set 2 v2).1.set 3 v3).1, ((((E.Upon.refl p V).set 0 v0).set 1 v1).set 2 v2).set 3 v3⟩
theorem Bx.set5 {o0 o1 o2 o3 o4 : Value} (h : Bx t w V F p #[o0, o1, o2, o3, o4]) (v0 v1 v2 v3 v4 : Value) : Bx t w (((((V.setCell ⟨p, 0, none⟩ v0).setCell ⟨p, 1, none⟩ v1).setCell ⟨p, 2, none⟩ v2).setCell ⟨p, 3, none⟩ v3).setCell ⟨p, 4, none⟩ v4) F p #[v0, v1, v2, v3, v4] ∧ E.Upon p V (((((V.setCell ⟨p, 0, none⟩ v0).setCell ⟨p, 1, none⟩ v1).setCell ⟨p, 2, none⟩ v2).setCell ⟨p, 3, none⟩ v3).setCell ⟨p, 4, none⟩ v4) :=
  ⟨(((((h.set 0 v0).1.set 1 v1).1.set 2 v2).1.set 3 v3).1.set 4 v4).1, (((((E.Upon.refl p V).set 0 v0).set 1 v1).set 2 v2).set 3 v3).set 4 v4⟩
end
/-- what one way allows another does -/
def More (k1 m1 : Int) (s1 x1 : Bool) (k2 m2 : Int) (s2 x2 : Bool) : Prop := ∀ e, oddB e = false → alwB k1 m1 s1 x1 e = true → alwB k2 m2 s2 x2 e = true
theorem more_arr {k1 m1 : Int} {s1 x1 : Bool} {k2 m2 : Int} {s2 x2 : Bool} (h : More k1 m1 s1 x1 k2 m2 s2 x2) (e va l : Nat) (ho : oddB e = false) (hf : (arrR k1 m1 s1 x1 e va l).2.1 = false) : arrR k2 m2 s2 x2 e va l = arrR k1 m1 s1 x1 e va l := by
  unfold arrR at hf ⊢
  by_cases hc : (alwB k1 m1 s1 x1 e && (E.getN (numN e) 0 (9 * l : Nat) == 0)) = true
  · rw [if_pos hc]
    rw [Bool.and_eq_true] at hc
    rw [if_pos (by rw [Bool.and_eq_true]; exact ⟨h e ho hc.1, hc.2⟩)]
  · rw [if_neg hc] at hf; cases hf
theorem more_down {k1 m1 : Int} {s1 x1 : Bool} {k2 m2 : Int} {s2 x2 : Bool} (h : More k1 m1 s1 x1 k2 m2 s2 x2) (M : Nat → Nat) (s va : Nat) : ∀ (l t : Nat), (downR M s k1 m1 s1 x1 va t l).2.1 = false → downR M s k2 m2 s2 x2 va t l = downR M s k1 m1 s1 x1 va t l := by
  intro l
  induction l with
  | zero =>
    intro t hf
    rw [downR] at hf ⊢
    rw [downR]
    split
    · rename_i hp
      rw [if_pos hp] at hf
      split
      · rfl
      · rename_i ho
        rw [if_neg ho] at hf
        split
        · rename_i hl
          rw [if_pos hl] at hf
          exact more_arr h _ va 0 (by simpa using ho) hf
        · rfl
    · rfl
  | succ l ih =>
    intro t hf
    rw [downR] at hf ⊢
    rw [downR]
    split
    · rename_i hp
      rw [if_pos hp] at hf
      split
      · rfl
      · rename_i ho
        rw [if_neg ho] at hf
        split
        · rename_i hl
          rw [if_pos hl] at hf
          exact more_arr h _ va (l + 1) (by simpa using ho) hf
        · rename_i hl
          rw [if_neg hl] at hf
          exact ih _ hf
    · rfl
theorem more_walk {k1 m1 : Int} {s1 x1 : Bool} {k2 m2 : Int} {s2 x2 : Bool} (h : More k1 m1 s1 x1 k2 m2 s2 x2) (M : Nat → Nat) (s satp va : Nat) (hm : bareB satp m2 = bareB satp m1) (hf : (walkR M s satp k1 m1 s1 x1 va).2.1 = false) : walkR M s satp k2 m2 s2 x2 va = walkR M s satp k1 m1 s1 x1 va := by
  unfold walkR at hf ⊢
  rw [hm]
  split
  · rfl
  · rename_i hb
    rw [if_neg hb] at hf
    split
    · rfl
    · rename_i hp
      rw [if_neg hp] at hf
      exact more_down h M s va 2 _ hf
theorem store_load (mode : Int) (sum mxr : Bool) : More 2 mode sum mxr 1 mode sum mxr := by
  intro e ho ha
  unfold oddB at ho
  unfold alwB at ha ⊢
  have hk : admB 1 mode sum (tb e 4) = admB 2 mode sum (tb e 4) := by unfold admB; simp
  rw [hk]
  simp at ha ho ⊢
  obtain ⟨⟨h1, h2⟩, h3, h4⟩ := ha
  exact ⟨⟨h1, h2⟩, .inl (ho.1.2 h3)⟩
theorem user_super (sum mxr : Bool) : More 1 0 sum mxr 1 1 true mxr := by
  intro e ho ha
  unfold alwB admB at ha ⊢
  simp at ha ⊢
  exact ⟨ha.1.2, ha.2⟩
theorem bare_low (satp : Nat) (m1 m2 : Int) (h1 : m1 ≠ 3) (h2 : m2 ≠ 3) : bareB satp m2 = bareB satp m1 := by
  unfold bareB
  have e1 : (m1 == 3) = false := by simp [h1]
  have e2 : (m2 == 3) = false := by simp [h2]
  rw [e1, e2]
end Go.Proofs.Ytalgidnmmghejaa
