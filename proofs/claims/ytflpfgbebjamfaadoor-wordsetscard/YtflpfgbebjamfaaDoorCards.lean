/-
  DERIVED. GIVEN WITH THE SEED: THE CARDS: each row of YtflpfgbebjamfaaDoorRows.lean that lists a variable, with what it lists TIED to the program's text (the seventh form; the later family's looks); each row that meets fmt, with fmt's text TOLD by the authors' own Lean function (tested against real Go, not proved from fmt's source: count such statements apart). THE CARD IS WHAT COUNTS. Prove the row's statement (the work); the ties are given (YtflpfgbebjamfaaDoorTie.lean); close each card by the builder's one call (the guide's Derived/Test/ToyasCard.lean, 'card_holds'). Laid BY PROGRAM, IN A SANDBOX (cutbox-door.mjs). By AI agents, Wed Nov 11 2026. No macro, syntax, notation, axiom, sorry.
-/
import Derived.Test.YtflpfgbebjamfaaDoorRows
import GoSem.ClaimSeven
namespace Go.Proofs.YtflpfgbebjamfaaDoor
namespace Rows

/-- THE TIED CARD OF 'vireolaw01.WordSets'. -/
def wordSetsCard : Claim7 := { stood := { row := wordSetsRow, standIns := [], harness := (true, "6e293cbe55c1c4374d8600a5c63179f9ffb4314d825b8215c3323662ef9c6f0c"), looks := false }, kinds := [], alts := [], laidByText := true, laidKinds := [.data], laidTests := true, laidLooks := .later }
def WordSetsCardSaid : Prop := Claim7.holds Tryd.pinned (.plain (OpenSpec.ofChange wordSetsSpec)) wordSetsCard

/-- THE SECOND FORM's CARD OF 'vireolaw01.WordSets'. -/
def wordSetsUptoCard : Claim7 := { stood := { row := wordSetsUptoRow, standIns := [], harness := (true, "6e293cbe55c1c4374d8600a5c63179f9ffb4314d825b8215c3323662ef9c6f0c"), looks := false }, kinds := [], alts := [], laidByText := true, laidKinds := [.data], laidTests := true, laidLooks := .later }
def WordSetsUptoCardSaid : Prop := Claim7.holds Tryd.pinned (.plain (OpenSpec.upto wordSetsSpec)) wordSetsUptoCard
end Rows
end Go.Proofs.YtflpfgbebjamfaaDoor
