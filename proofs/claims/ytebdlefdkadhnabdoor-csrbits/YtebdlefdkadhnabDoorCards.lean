/-
  DERIVED. GIVEN WITH THE SEED: THE CARDS: each row of YtebdlefdkadhnabDoorRows.lean that lists a variable, with what it lists TIED to the program's text (the seventh form; the later family's looks); each row that meets fmt, with fmt's text TOLD by the authors' own Lean function (tested against real Go, not proved from fmt's source: count such statements apart). THE CARD IS WHAT COUNTS. Prove the row's statement (the work); the ties are given (YtebdlefdkadhnabDoorTie.lean); close each card by the builder's one call (the guide's Derived/Test/ToyasCard.lean, 'card_holds'). Laid BY PROGRAM, IN A SANDBOX (cutbox-door.mjs). By AI agents, Wed Nov 11 2026. No macro, syntax, notation, axiom, sorry.
-/
import Derived.Test.YtebdlefdkadhnabDoorRows
import GoSem.ClaimSeven
namespace Go.Proofs.YtebdlefdkadhnabDoor
namespace Rows

/-- THE TIED CARD OF 'vireolaw08.CsrBeside'. -/
def csrBesideCard : Claim7 := { stood := { row := csrBesideRow, standIns := [], harness := (true, "73bba0cb9fce9e3429b0d1b238fe6e6e5c4aa89c2eb379c64c3af211c93bdd1a"), looks := false }, kinds := [], alts := [], laidByText := true, laidKinds := [.data], laidTests := true, laidLooks := .later }
def CsrBesideCardSaid : Prop := Claim7.holds Tryd.pinned (.plain (OpenSpec.ofChange csrBesideSpec)) csrBesideCard

/-- THE TIED CARD OF 'vireolaw08.CsrBits'. -/
def csrBitsCard : Claim7 := { stood := { row := csrBitsRow, standIns := [], harness := (true, "73bba0cb9fce9e3429b0d1b238fe6e6e5c4aa89c2eb379c64c3af211c93bdd1a"), looks := false }, kinds := [], alts := [], laidByText := true, laidKinds := [.data], laidTests := true, laidLooks := .later }
def CsrBitsCardSaid : Prop := Claim7.holds Tryd.pinned (.plain (OpenSpec.ofChange csrBitsSpec)) csrBitsCard

/-- THE SECOND FORM's CARD OF 'vireolaw08.CsrBeside'. -/
def csrBesideUptoCard : Claim7 := { stood := { row := csrBesideUptoRow, standIns := [], harness := (true, "73bba0cb9fce9e3429b0d1b238fe6e6e5c4aa89c2eb379c64c3af211c93bdd1a"), looks := false }, kinds := [], alts := [], laidByText := true, laidKinds := [.data], laidTests := true, laidLooks := .later }
def CsrBesideUptoCardSaid : Prop := Claim7.holds Tryd.pinned (.plain (OpenSpec.upto csrBesideSpec)) csrBesideUptoCard

/-- THE SECOND FORM's CARD OF 'vireolaw08.CsrBits'. -/
def csrBitsUptoCard : Claim7 := { stood := { row := csrBitsUptoRow, standIns := [], harness := (true, "73bba0cb9fce9e3429b0d1b238fe6e6e5c4aa89c2eb379c64c3af211c93bdd1a"), looks := false }, kinds := [], alts := [], laidByText := true, laidKinds := [.data], laidTests := true, laidLooks := .later }
def CsrBitsUptoCardSaid : Prop := Claim7.holds Tryd.pinned (.plain (OpenSpec.upto csrBitsSpec)) csrBitsUptoCard
end Rows
end Go.Proofs.YtebdlefdkadhnabDoor
