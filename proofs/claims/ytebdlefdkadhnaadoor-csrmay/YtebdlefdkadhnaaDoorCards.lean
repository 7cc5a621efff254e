/-
  DERIVED. GIVEN WITH THE SEED: THE CARDS: each row of YtebdlefdkadhnaaDoorRows.lean that lists a variable, with what it lists TIED to the program's text (the seventh form; the later family's looks); each row that meets fmt, with fmt's text TOLD by the authors' own Lean function (tested against real Go, not proved from fmt's source: count such statements apart). THE CARD IS WHAT COUNTS. Prove the row's statement (the work); the ties are given (YtebdlefdkadhnaaDoorTie.lean); close each card by the builder's one call (the guide's Derived/Test/ToyasCard.lean, 'card_holds'). Laid BY PROGRAM, IN A SANDBOX (cutbox-door.mjs). By AI agents, Wed Nov 11 2026. No macro, syntax, notation, axiom, sorry.
-/
import Derived.Test.YtebdlefdkadhnaaDoorRows
import GoSem.ClaimSeven
namespace Go.Proofs.YtebdlefdkadhnaaDoor
namespace Rows

/-- THE TIED CARD OF 'vireolaw08.CsrPlays'. -/
def csrPlaysCard : Claim7 := { stood := { row := csrPlaysRow, standIns := [], harness := (true, "596a64ae47dc24f6ffae431e5b0048a945531b6841f8936390ed2121879f7551"), looks := false }, kinds := [], alts := [], laidByText := true, laidKinds := [.data], laidTests := true, laidLooks := .later }
def CsrPlaysCardSaid : Prop := Claim7.holds Tryd.pinned (.plain (OpenSpec.ofChange csrPlaysSpec)) csrPlaysCard

/-- THE TIED CARD OF 'vireolaw08.CsrReads'. -/
def csrReadsCard : Claim7 := { stood := { row := csrReadsRow, standIns := [], harness := (true, "596a64ae47dc24f6ffae431e5b0048a945531b6841f8936390ed2121879f7551"), looks := false }, kinds := [], alts := [], laidByText := true, laidKinds := [.data], laidTests := true, laidLooks := .later }
def CsrReadsCardSaid : Prop := Claim7.holds Tryd.pinned (.plain (OpenSpec.ofChange csrReadsSpec)) csrReadsCard

/-- THE TIED CARD OF 'vireolaw08.CsrMay'. -/
def csrMayCard : Claim7 := { stood := { row := csrMayRow, standIns := [], harness := (true, "596a64ae47dc24f6ffae431e5b0048a945531b6841f8936390ed2121879f7551"), looks := false }, kinds := [], alts := [], laidByText := true, laidKinds := [.data], laidTests := true, laidLooks := .later }
def CsrMayCardSaid : Prop := Claim7.holds Tryd.pinned (.plain (OpenSpec.ofChange csrMaySpec)) csrMayCard

/-- THE TIED CARD OF 'vireolaw08.CsrNames'. -/
def csrNamesCard : Claim7 := { stood := { row := csrNamesRow, standIns := [], harness := (true, "596a64ae47dc24f6ffae431e5b0048a945531b6841f8936390ed2121879f7551"), looks := false }, kinds := [], alts := [], laidByText := true, laidKinds := [.data], laidTests := true, laidLooks := .later }
def CsrNamesCardSaid : Prop := Claim7.holds Tryd.pinned (.plain (OpenSpec.ofChange csrNamesSpec)) csrNamesCard

/-- THE TIED CARD OF 'vireolaw08.CsrNumbers'. -/
def csrNumbersCard : Claim7 := { stood := { row := csrNumbersRow, standIns := [], harness := (true, "596a64ae47dc24f6ffae431e5b0048a945531b6841f8936390ed2121879f7551"), looks := false }, kinds := [], alts := [], laidByText := true, laidKinds := [.data], laidTests := true, laidLooks := .later }
def CsrNumbersCardSaid : Prop := Claim7.holds Tryd.pinned (.plain (OpenSpec.ofChange csrNumbersSpec)) csrNumbersCard

/-- THE TIED CARD OF 'vireolaw08.CsrTwice'. -/
def csrTwiceCard : Claim7 := { stood := { row := csrTwiceRow, standIns := [], harness := (true, "596a64ae47dc24f6ffae431e5b0048a945531b6841f8936390ed2121879f7551"), looks := false }, kinds := [], alts := [], laidByText := true, laidKinds := [.data], laidTests := true, laidLooks := .later }
def CsrTwiceCardSaid : Prop := Claim7.holds Tryd.pinned (.plain (OpenSpec.ofChange csrTwiceSpec)) csrTwiceCard

/-- THE SECOND FORM's CARD OF 'vireolaw08.CsrPlays'. -/
def csrPlaysUptoCard : Claim7 := { stood := { row := csrPlaysUptoRow, standIns := [], harness := (true, "596a64ae47dc24f6ffae431e5b0048a945531b6841f8936390ed2121879f7551"), looks := false }, kinds := [], alts := [], laidByText := true, laidKinds := [.data], laidTests := true, laidLooks := .later }
def CsrPlaysUptoCardSaid : Prop := Claim7.holds Tryd.pinned (.plain (OpenSpec.upto csrPlaysSpec)) csrPlaysUptoCard

/-- THE SECOND FORM's CARD OF 'vireolaw08.CsrReads'. -/
def csrReadsUptoCard : Claim7 := { stood := { row := csrReadsUptoRow, standIns := [], harness := (true, "596a64ae47dc24f6ffae431e5b0048a945531b6841f8936390ed2121879f7551"), looks := false }, kinds := [], alts := [], laidByText := true, laidKinds := [.data], laidTests := true, laidLooks := .later }
def CsrReadsUptoCardSaid : Prop := Claim7.holds Tryd.pinned (.plain (OpenSpec.upto csrReadsSpec)) csrReadsUptoCard

/-- THE SECOND FORM's CARD OF 'vireolaw08.CsrMay'. -/
def csrMayUptoCard : Claim7 := { stood := { row := csrMayUptoRow, standIns := [], harness := (true, "596a64ae47dc24f6ffae431e5b0048a945531b6841f8936390ed2121879f7551"), looks := false }, kinds := [], alts := [], laidByText := true, laidKinds := [.data], laidTests := true, laidLooks := .later }
def CsrMayUptoCardSaid : Prop := Claim7.holds Tryd.pinned (.plain (OpenSpec.upto csrMaySpec)) csrMayUptoCard

/-- THE SECOND FORM's CARD OF 'vireolaw08.CsrNames'. -/
def csrNamesUptoCard : Claim7 := { stood := { row := csrNamesUptoRow, standIns := [], harness := (true, "596a64ae47dc24f6ffae431e5b0048a945531b6841f8936390ed2121879f7551"), looks := false }, kinds := [], alts := [], laidByText := true, laidKinds := [.data], laidTests := true, laidLooks := .later }
def CsrNamesUptoCardSaid : Prop := Claim7.holds Tryd.pinned (.plain (OpenSpec.upto csrNamesSpec)) csrNamesUptoCard

/-- THE SECOND FORM's CARD OF 'vireolaw08.CsrNumbers'. -/
def csrNumbersUptoCard : Claim7 := { stood := { row := csrNumbersUptoRow, standIns := [], harness := (true, "596a64ae47dc24f6ffae431e5b0048a945531b6841f8936390ed2121879f7551"), looks := false }, kinds := [], alts := [], laidByText := true, laidKinds := [.data], laidTests := true, laidLooks := .later }
def CsrNumbersUptoCardSaid : Prop := Claim7.holds Tryd.pinned (.plain (OpenSpec.upto csrNumbersSpec)) csrNumbersUptoCard

/-- THE SECOND FORM's CARD OF 'vireolaw08.CsrTwice'. -/
def csrTwiceUptoCard : Claim7 := { stood := { row := csrTwiceUptoRow, standIns := [], harness := (true, "596a64ae47dc24f6ffae431e5b0048a945531b6841f8936390ed2121879f7551"), looks := false }, kinds := [], alts := [], laidByText := true, laidKinds := [.data], laidTests := true, laidLooks := .later }
def CsrTwiceUptoCardSaid : Prop := Claim7.holds Tryd.pinned (.plain (OpenSpec.upto csrTwiceSpec)) csrTwiceUptoCard
end Rows
end Go.Proofs.YtebdlefdkadhnaaDoor
