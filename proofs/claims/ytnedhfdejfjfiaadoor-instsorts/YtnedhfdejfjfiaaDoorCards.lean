/-
  DERIVED. GIVEN WITH THE SEED: THE CARDS: each row of YtnedhfdejfjfiaaDoorRows.lean that lists a variable, with what it lists TIED to the program's text (the seventh form; the later family's looks); each row that meets fmt, with fmt's text TOLD by the authors' own Lean function (tested against real Go, not proved from fmt's source: count such statements apart). THE CARD IS WHAT COUNTS. Prove the row's statement (the work); the ties are given (YtnedhfdejfjfiaaDoorTie.lean); close each card by the builder's one call (the guide's Derived/Test/ToyasCard.lean, 'card_holds'). Laid BY PROGRAM, IN A SANDBOX (cutbox-door.mjs). By AI agents, Wed Nov 11 2026. No macro, syntax, notation, axiom, sorry.
-/
import Derived.Test.YtnedhfdejfjfiaaDoorRows
import GoSem.ClaimSeven
namespace Go.Proofs.YtnedhfdejfjfiaaDoor
namespace Rows

/-- THE TIED CARD OF 'vireolaw03.InstEncodes'. -/
def instEncodesCard : Claim7 := { stood := { row := instEncodesRow, standIns := [], harness := (true, "26468488a92562de00ce348b3ae7f8a90b7273c1b25f284e980a976a3c72f00e"), looks := false }, kinds := [], alts := [], laidByText := true, laidKinds := [.data, .data, .data, .data], laidTests := true, laidLooks := .later }
def InstEncodesCardSaid : Prop := Claim7.holds Tryd.pinned (.plain (OpenSpec.ofChange instEncodesSpec)) instEncodesCard

/-- THE TIED CARD OF 'vireolaw03.InstDecodes'. -/
def instDecodesCard : Claim7 := { stood := { row := instDecodesRow, standIns := [], harness := (true, "26468488a92562de00ce348b3ae7f8a90b7273c1b25f284e980a976a3c72f00e"), looks := false }, kinds := [], alts := [], laidByText := true, laidKinds := [.data, .data, .data, .data], laidTests := true, laidLooks := .later }
def InstDecodesCardSaid : Prop := Claim7.holds Tryd.pinned (.plain (OpenSpec.ofChange instDecodesSpec)) instDecodesCard

/-- THE TIED CARD OF 'vireolaw03.InstBack'. -/
def instBackCard : Claim7 := { stood := { row := instBackRow, standIns := [], harness := (true, "26468488a92562de00ce348b3ae7f8a90b7273c1b25f284e980a976a3c72f00e"), looks := false }, kinds := [], alts := [], laidByText := true, laidKinds := [.data, .data, .data, .data], laidTests := true, laidLooks := .later }
def InstBackCardSaid : Prop := Claim7.holds Tryd.pinned (.plain (OpenSpec.ofChange instBackSpec)) instBackCard

/-- THE TIED CARD OF 'vireolaw03.InstWords'. -/
def instWordsCard : Claim7 := { stood := { row := instWordsRow, standIns := [], harness := (true, "26468488a92562de00ce348b3ae7f8a90b7273c1b25f284e980a976a3c72f00e"), looks := false }, kinds := [], alts := [], laidByText := true, laidKinds := [.data, .data, .data, .data], laidTests := true, laidLooks := .later }
def InstWordsCardSaid : Prop := Claim7.holds Tryd.pinned (.plain (OpenSpec.ofChange instWordsSpec)) instWordsCard

/-- THE TIED CARD OF 'vireolaw03.InstUnlike'. -/
def instUnlikeCard : Claim7 := { stood := { row := instUnlikeRow, standIns := [], harness := (true, "26468488a92562de00ce348b3ae7f8a90b7273c1b25f284e980a976a3c72f00e"), looks := false }, kinds := [], alts := [], laidByText := true, laidKinds := [.data, .data, .data, .data], laidTests := true, laidLooks := .later }
def InstUnlikeCardSaid : Prop := Claim7.holds Tryd.pinned (.plain (OpenSpec.ofChange instUnlikeSpec)) instUnlikeCard

/-- THE TIED CARD OF 'vireolaw03.InstSorts'. -/
def instSortsCard : Claim7 := { stood := { row := instSortsRow, standIns := [], harness := (true, "26468488a92562de00ce348b3ae7f8a90b7273c1b25f284e980a976a3c72f00e"), looks := false }, kinds := [], alts := [], laidByText := true, laidKinds := [.data, .data, .data, .data, .data], laidTests := true, laidLooks := .later }
def InstSortsCardSaid : Prop := Claim7.holds Tryd.pinned (.plain (OpenSpec.ofChange instSortsSpec)) instSortsCard

/-- THE SECOND FORM's CARD OF 'vireolaw03.InstEncodes'. -/
def instEncodesUptoCard : Claim7 := { stood := { row := instEncodesUptoRow, standIns := [], harness := (true, "26468488a92562de00ce348b3ae7f8a90b7273c1b25f284e980a976a3c72f00e"), looks := false }, kinds := [], alts := [], laidByText := true, laidKinds := [.data, .data, .data, .data], laidTests := true, laidLooks := .later }
def InstEncodesUptoCardSaid : Prop := Claim7.holds Tryd.pinned (.plain (OpenSpec.upto instEncodesSpec)) instEncodesUptoCard

/-- THE SECOND FORM's CARD OF 'vireolaw03.InstDecodes'. -/
def instDecodesUptoCard : Claim7 := { stood := { row := instDecodesUptoRow, standIns := [], harness := (true, "26468488a92562de00ce348b3ae7f8a90b7273c1b25f284e980a976a3c72f00e"), looks := false }, kinds := [], alts := [], laidByText := true, laidKinds := [.data, .data, .data, .data], laidTests := true, laidLooks := .later }
def InstDecodesUptoCardSaid : Prop := Claim7.holds Tryd.pinned (.plain (OpenSpec.upto instDecodesSpec)) instDecodesUptoCard

/-- THE SECOND FORM's CARD OF 'vireolaw03.InstBack'. -/
def instBackUptoCard : Claim7 := { stood := { row := instBackUptoRow, standIns := [], harness := (true, "26468488a92562de00ce348b3ae7f8a90b7273c1b25f284e980a976a3c72f00e"), looks := false }, kinds := [], alts := [], laidByText := true, laidKinds := [.data, .data, .data, .data], laidTests := true, laidLooks := .later }
def InstBackUptoCardSaid : Prop := Claim7.holds Tryd.pinned (.plain (OpenSpec.upto instBackSpec)) instBackUptoCard

/-- THE SECOND FORM's CARD OF 'vireolaw03.InstWords'. -/
def instWordsUptoCard : Claim7 := { stood := { row := instWordsUptoRow, standIns := [], harness := (true, "26468488a92562de00ce348b3ae7f8a90b7273c1b25f284e980a976a3c72f00e"), looks := false }, kinds := [], alts := [], laidByText := true, laidKinds := [.data, .data, .data, .data], laidTests := true, laidLooks := .later }
def InstWordsUptoCardSaid : Prop := Claim7.holds Tryd.pinned (.plain (OpenSpec.upto instWordsSpec)) instWordsUptoCard

/-- THE SECOND FORM's CARD OF 'vireolaw03.InstUnlike'. -/
def instUnlikeUptoCard : Claim7 := { stood := { row := instUnlikeUptoRow, standIns := [], harness := (true, "26468488a92562de00ce348b3ae7f8a90b7273c1b25f284e980a976a3c72f00e"), looks := false }, kinds := [], alts := [], laidByText := true, laidKinds := [.data, .data, .data, .data], laidTests := true, laidLooks := .later }
def InstUnlikeUptoCardSaid : Prop := Claim7.holds Tryd.pinned (.plain (OpenSpec.upto instUnlikeSpec)) instUnlikeUptoCard

/-- THE SECOND FORM's CARD OF 'vireolaw03.InstSorts'. -/
def instSortsUptoCard : Claim7 := { stood := { row := instSortsUptoRow, standIns := [], harness := (true, "26468488a92562de00ce348b3ae7f8a90b7273c1b25f284e980a976a3c72f00e"), looks := false }, kinds := [], alts := [], laidByText := true, laidKinds := [.data, .data, .data, .data, .data], laidTests := true, laidLooks := .later }
def InstSortsUptoCardSaid : Prop := Claim7.holds Tryd.pinned (.plain (OpenSpec.upto instSortsSpec)) instSortsUptoCard
end Rows
end Go.Proofs.YtnedhfdejfjfiaaDoor
