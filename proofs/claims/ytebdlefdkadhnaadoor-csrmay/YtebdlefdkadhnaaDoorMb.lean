/- The program's call May of layer 8. -/
import Derived.Test.YtebdlefdkadhnaaDoorHi
namespace Go.Proofs.YtebdlefdkadhnaaDoor
open Go.RowKit Go.Maps
set_option linter.unusedVariables false
set_option linter.unusedSimpArgs false
set_option maxRecDepth 100000
theorem any_four (x1 x2 x3 x4 : Bool) (V : World) (g : Nat) (h1 : V.cell? ⟨g, 0, none⟩ = some (.bool x1)) (h2 : V.cell? ⟨g, 1, none⟩ = some (.bool x2)) (h3 : V.cell? ⟨g, 2, none⟩ = some (.bool x3)) (h4 : V.cell? ⟨g, 3, none⟩ = some (.bool x4)) : Calls Tryd.prog 30 #[.slice (some ⟨g, 0, none⟩) 4 4] V fun e w' => e = .returned (.bool (x1 || x2 || x3 || x4)) ∧ Below V.heap.size V w' := by
  have h := any_any (fun i => if i = 0 then x1 else if i = 1 then x2 else if i = 2 then x3 else x4) 4 (.slice (some ⟨g, 0, none⟩) 4 4) (by omega) V (.inr ⟨g, 0, 4, rfl, fun i hi => by
    have : i = 0 ∨ i = 1 ∨ i = 2 ∨ i = 3 := by omega
    rcases this with rfl | rfl | rfl | rfl
    · exact h1
    · exact h2
    · exact h3
    · exact h4⟩)
  refine h.mono ?_
  rintro e w' ⟨rfl, hw⟩
  refine ⟨?_, by rw [hw]; exact Below.refl _ _⟩
  simp [anyF]
end Go.Proofs.YtebdlefdkadhnaaDoor
