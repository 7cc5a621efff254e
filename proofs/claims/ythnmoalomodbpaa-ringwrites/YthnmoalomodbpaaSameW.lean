/- The call Same of layer 2: have two memories the same bytes? -/
import Derived.Test.YthnmoalomodbpaaHuntA
namespace Go.Proofs.Ythnmoalomodbpaa
open Go.RowKit Go.Maps
set_option linter.unusedVariables false
theorem not_apart {Ma Mb : Nat → Nat} (h : ∀ k, ¬ Apart Ma Mb k) (a : Nat) : Ma a = Mb a := by
  refine Classical.byContradiction fun hc => h (a / 4096) ⟨a % 4096, Nat.mod_lt _ (by decide), ?_⟩
  rw [show a / 4096 * 4096 + a % 4096 = a from by omega]
  exact hc
/-- are two lists of no numbers? -/
theorem nums_empty {B : Nat} {w : World} {v : Value} {ks : List Nat} (h : Nums B w v ks) : ∃ a c, v = .slice a ks.length c := h.form
end Go.Proofs.Ythnmoalomodbpaa
