/-
  No cell of these rows narrows 'for every input' (looked for: loops, veiled, ifaces, maps, wideKeys, modest, calm, conditions, laid).
  DERIVED. THE GIVEN ROWS OF THIS SEAT. 6 by the template 'for every input the law returns true; each argument reads behind the call as it read before'; 0 by the template 'total and deterministic' (their statements: YtbodmgihoklhiaaTotals.lean).
  GIVEN WITH THE SEED: the statements are not yours to turn. If you find one false, say at which input.
  Laid BY PROGRAM, IN A SANDBOX (cutbox-rows.mjs): the forced cells as the released guide's own fill.sh prints them over the translation 945b9c9b54f07737… (all of the seat's roots in one cut). By AI agents, Wed Nov 11 2026. No macro, syntax, notation, axiom, sorry.
-/
import Derived.Test.YtbodmgihoklhiaaChecked
import GoSem.Claim
import GoSem.ClaimJoined
import GoSem.ClaimMapViews
import Derived.JoinedTies
import Derived.KernelRfl
namespace Go.Proofs.Ytbodmgihoklhiaa
/- THE CELL 'sum', in the pinned program and in every row, IS THE sha256 OF THE DUMP (.gsa) THAT YtbodmgihoklhiaaProg.lean LOADS. Nothing in Lean hashes anything: it is a label: what it is worth is what the hold of that sum in a sandbox is worth. -/
noncomputable def Try.pinned : Pinned := { name := "ytbodmgihoklhiaa", sum := "945b9c9b54f077372c598a6a05a79b0f832ff69418a62752ffacfd9f53c65aab", checked := Try.checked }
namespace Rows
def none {H : Type} : Left H := { results := [], args := [] }

/-- 'vireolaw02.RamPlays': WHATEVER THE INPUT: true; the input reads as it did. -/
def ramPlaysSpec : ChangeSpec := { name := "ramPlays", fn := fun _ => fun
  | [d] => { results := [.lit (.bool true)], args := [d] }
  | _ => none }
def ramPlaysRow : OpenClaim := { program := "ytbodmgihoklhiaa", sum := "945b9c9b54f077372c598a6a05a79b0f832ff69418a62752ffacfd9f53c65aab", func := "vireo/vireolaw02.RamPlays", spec := "ramPlays", apart := false }
def RamPlaysSaid : Prop := ramPlaysRow.holds Try.pinned (OpenSpec.ofChange ramPlaysSpec)

/-- ITS FALSE NEIGHBOUR: 'it returns false'. Refute it at one input. -/
def ramPlaysWrong : ChangeSpec := { name := "ramPlays", fn := fun _ => fun
  | [d] => { results := [.lit (.bool false)], args := [d] }
  | _ => none }
def RamPlaysWrongFalsely : Prop := ramPlaysRow.holds Try.pinned (OpenSpec.ofChange ramPlaysWrong)

/-- 'vireolaw02.RamSizes': WHATEVER THE INPUT: true; the input reads as it did. -/
def ramSizesSpec : ChangeSpec := { name := "ramSizes", fn := fun _ => fun
  | [d1, d2, d3] => { results := [.lit (.bool true)], args := [d1, d2, d3] }
  | _ => none }
def ramSizesRow : OpenClaim := { program := "ytbodmgihoklhiaa", sum := "945b9c9b54f077372c598a6a05a79b0f832ff69418a62752ffacfd9f53c65aab", func := "vireo/vireolaw02.RamSizes", spec := "ramSizes", apart := false }
def RamSizesSaid : Prop := ramSizesRow.holds Try.pinned (OpenSpec.ofChange ramSizesSpec)

/-- ITS FALSE NEIGHBOUR: 'it returns false'. Refute it at one input. -/
def ramSizesWrong : ChangeSpec := { name := "ramSizes", fn := fun _ => fun
  | [d1, d2, d3] => { results := [.lit (.bool false)], args := [d1, d2, d3] }
  | _ => none }
def RamSizesWrongFalsely : Prop := ramSizesRow.holds Try.pinned (OpenSpec.ofChange ramSizesWrong)

/-- 'vireolaw02.RamBeside': WHATEVER THE INPUT: true; the input reads as it did. -/
def ramBesideSpec : ChangeSpec := { name := "ramBeside", fn := fun _ => fun
  | [d1, d2, d3] => { results := [.lit (.bool true)], args := [d1, d2, d3] }
  | _ => none }
def ramBesideRow : OpenClaim := { program := "ytbodmgihoklhiaa", sum := "945b9c9b54f077372c598a6a05a79b0f832ff69418a62752ffacfd9f53c65aab", func := "vireo/vireolaw02.RamBeside", spec := "ramBeside", apart := false }
def RamBesideSaid : Prop := ramBesideRow.holds Try.pinned (OpenSpec.ofChange ramBesideSpec)

/-- ITS FALSE NEIGHBOUR: 'it returns false'. Refute it at one input. -/
def ramBesideWrong : ChangeSpec := { name := "ramBeside", fn := fun _ => fun
  | [d1, d2, d3] => { results := [.lit (.bool false)], args := [d1, d2, d3] }
  | _ => none }
def RamBesideWrongFalsely : Prop := ramBesideRow.holds Try.pinned (OpenSpec.ofChange ramBesideWrong)

/-- 'vireolaw02.RamLogs': WHATEVER THE INPUT: true; the input reads as it did. -/
def ramLogsSpec : ChangeSpec := { name := "ramLogs", fn := fun _ => fun
  | [d] => { results := [.lit (.bool true)], args := [d] }
  | _ => none }
def ramLogsRow : OpenClaim := { program := "ytbodmgihoklhiaa", sum := "945b9c9b54f077372c598a6a05a79b0f832ff69418a62752ffacfd9f53c65aab", func := "vireo/vireolaw02.RamLogs", spec := "ramLogs", apart := false }
def RamLogsSaid : Prop := ramLogsRow.holds Try.pinned (OpenSpec.ofChange ramLogsSpec)

/-- ITS FALSE NEIGHBOUR: 'it returns false'. Refute it at one input. -/
def ramLogsWrong : ChangeSpec := { name := "ramLogs", fn := fun _ => fun
  | [d] => { results := [.lit (.bool false)], args := [d] }
  | _ => none }
def RamLogsWrongFalsely : Prop := ramLogsRow.holds Try.pinned (OpenSpec.ofChange ramLogsWrong)

/-- 'vireolaw02.RamCopies': WHATEVER THE INPUT: true; the input reads as it did. -/
def ramCopiesSpec : ChangeSpec := { name := "ramCopies", fn := fun _ => fun
  | [d1, d2, d3] => { results := [.lit (.bool true)], args := [d1, d2, d3] }
  | _ => none }
def ramCopiesRow : OpenClaim := { program := "ytbodmgihoklhiaa", sum := "945b9c9b54f077372c598a6a05a79b0f832ff69418a62752ffacfd9f53c65aab", func := "vireo/vireolaw02.RamCopies", spec := "ramCopies", recurses := true, apart := false }
def RamCopiesSaid : Prop := ramCopiesRow.holds Try.pinned (OpenSpec.ofChange ramCopiesSpec)

/-- ITS FALSE NEIGHBOUR: 'it returns false'. Refute it at one input. -/
def ramCopiesWrong : ChangeSpec := { name := "ramCopies", fn := fun _ => fun
  | [d1, d2, d3] => { results := [.lit (.bool false)], args := [d1, d2, d3] }
  | _ => none }
def RamCopiesWrongFalsely : Prop := ramCopiesRow.holds Try.pinned (OpenSpec.ofChange ramCopiesWrong)

/-- 'vireolaw02.RamOwns': WHATEVER THE INPUT: true; the input reads as it did. -/
def ramOwnsSpec : ChangeSpec := { name := "ramOwns", fn := fun _ => fun
  | [d1, d2] => { results := [.lit (.bool true)], args := [d1, d2] }
  | _ => none }
def ramOwnsRow : OpenClaim := { program := "ytbodmgihoklhiaa", sum := "945b9c9b54f077372c598a6a05a79b0f832ff69418a62752ffacfd9f53c65aab", func := "vireo/vireolaw02.RamOwns", spec := "ramOwns", apart := false }
def RamOwnsSaid : Prop := ramOwnsRow.holds Try.pinned (OpenSpec.ofChange ramOwnsSpec)

/-- ITS FALSE NEIGHBOUR: 'it returns false'. Refute it at one input. -/
def ramOwnsWrong : ChangeSpec := { name := "ramOwns", fn := fun _ => fun
  | [d1, d2] => { results := [.lit (.bool false)], args := [d1, d2] }
  | _ => none }
def RamOwnsWrongFalsely : Prop := ramOwnsRow.holds Try.pinned (OpenSpec.ofChange ramOwnsWrong)

/- THE SECOND FORM. 'bulk': how many values and letters a reading holds, each counted each time it is reached (what is shared counts as often as it is met; a slice's spare places count too). A statement '..UptoSaid' is the law's where the arguments, and the package variables that the reading takes, are together of bulk at most 1048576: NARROWER than '..Said'. Prove '..Said' where nothing that the law and all that it calls make is longer than what came in: it says more and counts as full. Else prove '..UptoSaid'. A law counts once. -/
mutual
def uptoBulk {H : Type} : DataW H → Nat
  | .lit (.string bytes) => bytes.length + 1
  | .lit _ => 1
  | .nil => 1
  | .ptr d => uptoBulk d + 1
  | .slice elems spare => uptoBulkAll elems + uptoBulkAll spare + 1
  | .agg parts => uptoBulkAll parts + 1
  | .iface _ d => uptoBulk d + 1
  | .map entries => uptoBulkEntries entries + 1
  | .held _ => 1
def uptoBulkAll {H : Type} : List (DataW H) → Nat
  | [] => 0
  | d :: r => uptoBulk d + uptoBulkAll r
def uptoBulkEntries {H : Type} : List (Lit × DataW H) → Nat
  | [] => 0
  | x :: r => uptoBulkEntry x + uptoBulkEntries r
def uptoBulkEntry {H : Type} : Lit × DataW H → Nat
  | (.string bytes, d) => bytes.length + uptoBulk d + 1
  | (_, d) => uptoBulk d + 1
 end
def uptoSmall : (H : Type) → List (DataW H) → Bool := fun _ ds => decide (uptoBulkAll ds ≤ 1048576)
def OpenSpec.upto (s : _root_.Go.ChangeSpec) : _root_.Go.OpenSpec := { _root_.Go.OpenSpec.ofChange s with cond := some uptoSmall }

/-- 'vireolaw02.RamPlays', WHERE WHAT IT READS IS OF BULK AT MOST 1048576: true; the input reads as it did. -/
def ramPlaysUptoRow : OpenClaim := { program := "ytbodmgihoklhiaa", sum := "945b9c9b54f077372c598a6a05a79b0f832ff69418a62752ffacfd9f53c65aab", func := "vireo/vireolaw02.RamPlays", spec := "ramPlays", apart := false, narrowed := true }
def RamPlaysUptoSaid : Prop := ramPlaysUptoRow.holds Try.pinned (OpenSpec.upto ramPlaysSpec)

/-- 'vireolaw02.RamSizes', WHERE WHAT IT READS IS OF BULK AT MOST 1048576: true; the input reads as it did. -/
def ramSizesUptoRow : OpenClaim := { program := "ytbodmgihoklhiaa", sum := "945b9c9b54f077372c598a6a05a79b0f832ff69418a62752ffacfd9f53c65aab", func := "vireo/vireolaw02.RamSizes", spec := "ramSizes", apart := false, narrowed := true }
def RamSizesUptoSaid : Prop := ramSizesUptoRow.holds Try.pinned (OpenSpec.upto ramSizesSpec)

/-- 'vireolaw02.RamBeside', WHERE WHAT IT READS IS OF BULK AT MOST 1048576: true; the input reads as it did. -/
def ramBesideUptoRow : OpenClaim := { program := "ytbodmgihoklhiaa", sum := "945b9c9b54f077372c598a6a05a79b0f832ff69418a62752ffacfd9f53c65aab", func := "vireo/vireolaw02.RamBeside", spec := "ramBeside", apart := false, narrowed := true }
def RamBesideUptoSaid : Prop := ramBesideUptoRow.holds Try.pinned (OpenSpec.upto ramBesideSpec)

/-- 'vireolaw02.RamLogs', WHERE WHAT IT READS IS OF BULK AT MOST 1048576: true; the input reads as it did. -/
def ramLogsUptoRow : OpenClaim := { program := "ytbodmgihoklhiaa", sum := "945b9c9b54f077372c598a6a05a79b0f832ff69418a62752ffacfd9f53c65aab", func := "vireo/vireolaw02.RamLogs", spec := "ramLogs", apart := false, narrowed := true }
def RamLogsUptoSaid : Prop := ramLogsUptoRow.holds Try.pinned (OpenSpec.upto ramLogsSpec)

/-- 'vireolaw02.RamCopies', WHERE WHAT IT READS IS OF BULK AT MOST 1048576: true; the input reads as it did. -/
def ramCopiesUptoRow : OpenClaim := { program := "ytbodmgihoklhiaa", sum := "945b9c9b54f077372c598a6a05a79b0f832ff69418a62752ffacfd9f53c65aab", func := "vireo/vireolaw02.RamCopies", spec := "ramCopies", recurses := true, apart := false, narrowed := true }
def RamCopiesUptoSaid : Prop := ramCopiesUptoRow.holds Try.pinned (OpenSpec.upto ramCopiesSpec)

/-- 'vireolaw02.RamOwns', WHERE WHAT IT READS IS OF BULK AT MOST 1048576: true; the input reads as it did. -/
def ramOwnsUptoRow : OpenClaim := { program := "ytbodmgihoklhiaa", sum := "945b9c9b54f077372c598a6a05a79b0f832ff69418a62752ffacfd9f53c65aab", func := "vireo/vireolaw02.RamOwns", spec := "ramOwns", apart := false, narrowed := true }
def RamOwnsUptoSaid : Prop := ramOwnsUptoRow.holds Try.pinned (OpenSpec.upto ramOwnsSpec)

end Rows
end Go.Proofs.Ytbodmgihoklhiaa
