/- The document's call with of layer 4 of any operation. -/
import Derived.Test.YtooaafbdjnlmfaaGreatDoorQDWithG
import Derived.Test.YtooaafbdjnlmfaaGreatDoorQDParse
import Derived.Test.YtooaafbdjnlmfaaGreatDoorQLooked
namespace Go.Proofs.YtooaafbdjnlmfaaGreatDoor
open Go.RowKit
set_option linter.unusedVariables false
set_option linter.unusedSimpArgs false
theorem with_tells (k : Nat) (aq rl : Bool) (PL : List (List UInt8)) (h1 : 1 ≤ k) (h2 : k ≤ 98) (hl : PL.length ≤ 3) (hPl : ∀ p ∈ PL, p.length ≤ 1000000) : WithTells k aq rl (RofL PL) (NofL PL) PL := by
  obtain ⟨_, sf2, sf3⟩ := shape_form k (by omega) h1
  have hO : OfIs k (dName (k - 1)) (dForm k : Nat) (dCode k : Nat) (dF3 k : Nat) (dF7 k : Nat) := fun w => of_op k h1 (by omega) w
  have hR1 : 1 ≤ (RofL PL).length := by unfold RofL; simp
  have hR2 : (RofL PL).length ≤ 1000 := by have := regsL_len PL; unfold RofL; simp; omega
  have hN1 : 1 ≤ (NofL PL).length := by unfold NofL; simp
  have hN2 : (NofL PL).length ≤ 4 := by have := numsL_len PL; unfold NofL; simp; omega
  intro ra na pa rc nc pc w hRA hNA hPA
  exact with_G k (dForm k) aq rl _ _ _ _ _ _ _ (RofL PL) (NofL PL) PL _ _ _ _ _ _ _ hO (dimm_any (dForm k) (by omega)) rfl rfl rfl rfl rfl rfl (fun h => by rw [of_decide_eq_true h]; rfl) sf2 sf3 hR1 hR2 hN1 hN2 hPl (by omega) ra na pa rc nc pc w hRA hNA hPA
end Go.Proofs.YtooaafbdjnlmfaaGreatDoor

namespace Go.Proofs.YtooaafbdjnlmfaaGreatDoor
open Go.RowKit
theorem parses_core (s : ByteArray) (_hs : s.size ≤ maxLen) (w : World) (hL : Laid w) : Calls Tryz.prog 4 #[.string s] w fun e w' => e = .returned (.bool true) ∧ Below w.heap.size w w' :=
  parses_any s (fun l k aq rl h1 h2 hl h3 => with_tells k aq rl (PLof l) h1 h2 h3 (fun p hp => by have := pl_len l p hp; omega)) w hL
end Go.Proofs.YtooaafbdjnlmfaaGreatDoor
