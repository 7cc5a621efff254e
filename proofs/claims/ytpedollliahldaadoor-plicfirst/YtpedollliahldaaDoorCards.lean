/-
  DERIVED. GIVEN WITH THE SEED: THE CARDS: each row of YtpedollliahldaaDoorRows.lean that lists a variable, with what it lists TIED to the program's text (the seventh form; the later family's looks); each row that meets fmt, with fmt's text TOLD by the authors' own Lean function (tested against real Go, not proved from fmt's source: count such statements apart). THE CARD IS WHAT COUNTS. Prove the row's statement (the work); the ties are given (YtpedollliahldaaDoorTie.lean); close each card by the builder's one call (the guide's Derived/Test/ToyasCard.lean, 'card_holds'). Laid BY PROGRAM, IN A SANDBOX (cutbox-door.mjs). By AI agents, Wed Nov 11 2026. No macro, syntax, notation, axiom, sorry.
-/
import Derived.Test.YtpedollliahldaaDoorRows
import GoSem.ClaimSeven
namespace Go.Proofs.YtpedollliahldaaDoor
namespace Rows

/-- THE TIED CARD OF 'vireolaw12.PlicPlays'. -/
def plicPlaysCard : Claim7 := { stood := { row := plicPlaysRow, standIns := [], harness := (true, "65f39a1c93c235574a55c16193b271bfebdc57aa95d2ae3049de30caa07c1d60"), looks := false }, kinds := [], alts := [], laidByText := true, laidKinds := [.data], laidTests := true, laidLooks := .later }
def PlicPlaysCardSaid : Prop := Claim7.holds Tryd.pinned (.plain (OpenSpec.ofChange plicPlaysSpec)) plicPlaysCard

/-- THE TIED CARD OF 'vireolaw12.PlicOnce'. -/
def plicOnceCard : Claim7 := { stood := { row := plicOnceRow, standIns := [], harness := (true, "65f39a1c93c235574a55c16193b271bfebdc57aa95d2ae3049de30caa07c1d60"), looks := false }, kinds := [], alts := [], laidByText := true, laidKinds := [.data], laidTests := true, laidLooks := .later }
def PlicOnceCardSaid : Prop := Claim7.holds Tryd.pinned (.plain (OpenSpec.ofChange plicOnceSpec)) plicOnceCard

/-- THE TIED CARD OF 'vireolaw12.PlicFirst'. -/
def plicFirstCard : Claim7 := { stood := { row := plicFirstRow, standIns := [], harness := (true, "65f39a1c93c235574a55c16193b271bfebdc57aa95d2ae3049de30caa07c1d60"), looks := false }, kinds := [], alts := [], laidByText := true, laidKinds := [.data], laidTests := true, laidLooks := .later }
def PlicFirstCardSaid : Prop := Claim7.holds Tryd.pinned (.plain (OpenSpec.ofChange plicFirstSpec)) plicFirstCard

/-- THE TIED CARD OF 'vireolaw12.PlicAgain'. -/
def plicAgainCard : Claim7 := { stood := { row := plicAgainRow, standIns := [], harness := (true, "65f39a1c93c235574a55c16193b271bfebdc57aa95d2ae3049de30caa07c1d60"), looks := false }, kinds := [], alts := [], laidByText := true, laidKinds := [.data], laidTests := true, laidLooks := .later }
def PlicAgainCardSaid : Prop := Claim7.holds Tryd.pinned (.plain (OpenSpec.ofChange plicAgainSpec)) plicAgainCard

/-- THE SECOND FORM's CARD OF 'vireolaw12.PlicPlays'. -/
def plicPlaysUptoCard : Claim7 := { stood := { row := plicPlaysUptoRow, standIns := [], harness := (true, "65f39a1c93c235574a55c16193b271bfebdc57aa95d2ae3049de30caa07c1d60"), looks := false }, kinds := [], alts := [], laidByText := true, laidKinds := [.data], laidTests := true, laidLooks := .later }
def PlicPlaysUptoCardSaid : Prop := Claim7.holds Tryd.pinned (.plain (OpenSpec.upto plicPlaysSpec)) plicPlaysUptoCard

/-- THE SECOND FORM's CARD OF 'vireolaw12.PlicOnce'. -/
def plicOnceUptoCard : Claim7 := { stood := { row := plicOnceUptoRow, standIns := [], harness := (true, "65f39a1c93c235574a55c16193b271bfebdc57aa95d2ae3049de30caa07c1d60"), looks := false }, kinds := [], alts := [], laidByText := true, laidKinds := [.data], laidTests := true, laidLooks := .later }
def PlicOnceUptoCardSaid : Prop := Claim7.holds Tryd.pinned (.plain (OpenSpec.upto plicOnceSpec)) plicOnceUptoCard

/-- THE SECOND FORM's CARD OF 'vireolaw12.PlicFirst'. -/
def plicFirstUptoCard : Claim7 := { stood := { row := plicFirstUptoRow, standIns := [], harness := (true, "65f39a1c93c235574a55c16193b271bfebdc57aa95d2ae3049de30caa07c1d60"), looks := false }, kinds := [], alts := [], laidByText := true, laidKinds := [.data], laidTests := true, laidLooks := .later }
def PlicFirstUptoCardSaid : Prop := Claim7.holds Tryd.pinned (.plain (OpenSpec.upto plicFirstSpec)) plicFirstUptoCard

/-- THE SECOND FORM's CARD OF 'vireolaw12.PlicAgain'. -/
def plicAgainUptoCard : Claim7 := { stood := { row := plicAgainUptoRow, standIns := [], harness := (true, "65f39a1c93c235574a55c16193b271bfebdc57aa95d2ae3049de30caa07c1d60"), looks := false }, kinds := [], alts := [], laidByText := true, laidKinds := [.data], laidTests := true, laidLooks := .later }
def PlicAgainUptoCardSaid : Prop := Claim7.holds Tryd.pinned (.plain (OpenSpec.upto plicAgainSpec)) plicAgainUptoCard
end Rows
end Go.Proofs.YtpedollliahldaaDoor
