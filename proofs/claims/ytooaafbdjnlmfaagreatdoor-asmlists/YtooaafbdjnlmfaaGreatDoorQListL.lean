/- The statement on lists of words returns true for every row of words. -/
import Derived.Test.YtooaafbdjnlmfaaGreatDoorQListW
import Derived.Test.YtooaafbdjnlmfaaGreatDoorQDocGuess
namespace Go.Proofs.YtooaafbdjnlmfaaGreatDoor
open Go.RowKit
theorem lists_core {W0 : World} (a : Option Addr) (len cap : Nat) (zs : List Int) (hz : IsRow .u32 W0 a len cap zs) (W : World) (hW : W = W0) (hT : TabsD W ∧ Laid W) : Calls Tryz.prog 6 #[.slice a len cap] W fun e w' => e = .returned (.bool true) ∧ Below W.heap.size W w' := by
  subst hW
  obtain ⟨f, hf, hrow⟩ := isRow_words hz
  obtain ⟨Y, hY⟩ := Classical.axiomOfChoice (fun i => decode_both (f i) (hf i))
  obtain ⟨E, hE⟩ := Classical.axiomOfChoice hY
  exact lists_walk a len cap f hf W hrow hT Y E (fun i => (hE i).1) (fun i V t => (hE i).2.1 V t) (fun i V => (hE i).2.2 V)
end Go.Proofs.YtooaafbdjnlmfaaGreatDoor
