/-
  DERIVED. GIVEN WITH THE SEED: THE CARDS: each row of YtdljceeoofhfnaaDoorRows.lean that lists a variable, with what it lists TIED to the program's text (the seventh form; the later family's looks); each row that meets fmt, with fmt's text TOLD by the authors' own Lean function (tested against real Go, not proved from fmt's source: count such statements apart). THE CARD IS WHAT COUNTS. Prove the row's statement (the work); the ties are given (YtdljceeoofhfnaaDoorTie.lean); close each card by the builder's one call (the guide's Derived/Test/ToyasCard.lean, 'card_holds'). Laid BY PROGRAM, IN A SANDBOX (cutbox-door.mjs). By AI agents, Wed Nov 11 2026. No macro, syntax, notation, axiom, sorry.
-/
import Derived.Test.YtdljceeoofhfnaaDoorRows
import GoSem.ClaimSeven
namespace Go.Proofs.YtdljceeoofhfnaaDoor
namespace Rows

/-- THE TIED CARD OF 'vireolaw09.TrapNext'. -/
def trapNextCard : Claim7 := { stood := { row := trapNextRow, standIns := [], harness := (true, "3101cf7143dc77624ab0681ad0e621ceadd452b6b6291579760c17e56e9abeeb"), looks := false }, kinds := [], alts := [], laidByText := true, laidKinds := [.data], laidTests := true, laidLooks := .later }
def TrapNextCardSaid : Prop := Claim7.holds Tryd.pinned (.plain (OpenSpec.ofChange trapNextSpec)) trapNextCard

/-- THE TIED CARD OF 'vireolaw09.TrapMasks'. -/
def trapMasksCard : Claim7 := { stood := { row := trapMasksRow, standIns := [], harness := (true, "3101cf7143dc77624ab0681ad0e621ceadd452b6b6291579760c17e56e9abeeb"), looks := false }, kinds := [], alts := [], laidByText := true, laidKinds := [.data], laidTests := true, laidLooks := .later }
def TrapMasksCardSaid : Prop := Claim7.holds Tryd.pinned (.plain (OpenSpec.ofChange trapMasksSpec)) trapMasksCard

/-- THE SECOND FORM's CARD OF 'vireolaw09.TrapNext'. -/
def trapNextUptoCard : Claim7 := { stood := { row := trapNextUptoRow, standIns := [], harness := (true, "3101cf7143dc77624ab0681ad0e621ceadd452b6b6291579760c17e56e9abeeb"), looks := false }, kinds := [], alts := [], laidByText := true, laidKinds := [.data], laidTests := true, laidLooks := .later }
def TrapNextUptoCardSaid : Prop := Claim7.holds Tryd.pinned (.plain (OpenSpec.upto trapNextSpec)) trapNextUptoCard

/-- THE SECOND FORM's CARD OF 'vireolaw09.TrapMasks'. -/
def trapMasksUptoCard : Claim7 := { stood := { row := trapMasksUptoRow, standIns := [], harness := (true, "3101cf7143dc77624ab0681ad0e621ceadd452b6b6291579760c17e56e9abeeb"), looks := false }, kinds := [], alts := [], laidByText := true, laidKinds := [.data], laidTests := true, laidLooks := .later }
def TrapMasksUptoCardSaid : Prop := Claim7.holds Tryd.pinned (.plain (OpenSpec.upto trapMasksSpec)) trapMasksUptoCard
end Rows
end Go.Proofs.YtdljceeoofhfnaaDoor
