/- The call stretch of layer 2: a list of pieces with a byte more. -/
import Derived.Test.YtalgidnmmghejaaUnlike
import Derived.Test.YtalgidnmmghejaaSpans
import Derived.Laws.OwnMore
namespace Go.Proofs.Ytalgidnmmghejaa.C
open Go.RowKit Go.Maps
set_option linter.unusedVariables false
/-- the pieces with a byte more, whose address lies above them -/
def stretchL (l : List (Nat × Nat)) (x : Nat) : List (Nat × Nat) :=
  match l.getLast? with
  | some p => if p.1 + p.2 = x then l.dropLast ++ [(p.1, p.2 + 1)] else l ++ [(x, 1)]
  | none => [(x, 1)]
theorem stretchL_nil (x : Nat) : stretchL [] x = [(x, 1)] := rfl
theorem stretchL_join (l : List (Nat × Nat)) (p L : Nat) : stretchL (l ++ [(p, L)]) (p + L) = l ++ [(p, L + 1)] := by simp [stretchL]
theorem stretchL_new (l : List (Nat × Nat)) (p L x : Nat) (h : p + L ≠ x) : stretchL (l ++ [(p, L)]) x = l ++ [(p, L)] ++ [(x, 1)] := by simp [stretchL, h]
/-- what stretch leaves -/
def Stretched (B : Nat) (w w' : World) (v v' : Value) (l : List (Nat × Nat)) (x : Nat) : Prop :=
  SpanIn B w' v' (stretchL l x) ∧ w.grownBy w' v.ownBlock ∧ (v'.ownBlock = v.ownBlock ∨ ∃ g, v'.ownBlock = some g ∧ w.heap.size ≤ g)
theorem stretched_of_added {B : Nat} {w w' : World} {v v' : Value} {l : List (Nat × Nat)} {x : Nat} (h : Added B w w' v v' l x 1) (e : stretchL l x = l ++ [(x, 1)]) : Stretched B w w' v v' l x := by
  unfold Stretched; rw [e]; exact h
theorem grown_drews (w : World) (n : Nat) (row : Option Nat) : w.grownBy (w.drewN n) row := ⟨rfl, rfl, rfl, Nat.le_refl _, fun _ _ _ => rfl⟩
theorem stretched_drew {B : Nat} {w w' : World} {q : Nat} {v v' : Value} {l : List (Nat × Nat)} {x : Nat} (h : Added B (w.drewN q) w' v v' l x 1) (e : stretchL l x = l ++ [(x, 1)]) : Stretched B w w' v v' l x :=
  stretched_of_added (w := w) ⟨h.1, (grown_drews w q _).trans h.2.1, by simpa using h.2.2⟩ e
theorem spanRow_length (l : List (Nat × Nat)) : (spanRow l).length = l.length * 2 := by
  induction l with
  | nil => rfl
  | cons p r ih => simp [spanRow] at ih ⊢; omega
theorem spanRow_set (l : List (Nat × Nat)) (p L L' : Nat) : (spanRow (l ++ [(p, L)])).set (l.length * 2 + 1) (.int .u64 (L' : Nat)) = spanRow (l ++ [(p, L')]) := by
  rw [spanRow_snoc, spanRow_snoc, List.set_append_right _ _ (by rw [spanRow_length]; omega), spanRow_length, show l.length * 2 + 1 - l.length * 2 = 1 from by omega]
  rfl
end Go.Proofs.Ytalgidnmmghejaa.C
