/-
  No cell of these rows narrows 'for every input' (looked for: loops, veiled, ifaces, maps, wideKeys, modest, calm, conditions, laid).
  DERIVED. THE GIVEN ROWS OF THIS SEAT. 6 by the template 'for every input the law returns true; each argument reads behind the call as it read before'; 0 by the template 'total and deterministic' (their statements: YthnmoalomodbpaaTotals.lean).
  GIVEN WITH THE SEED: the statements are not yours to turn. If you find one false, say at which input.
  Laid BY PROGRAM, IN A SANDBOX (cutbox-rows.mjs): the forced cells as the released guide's own fill.sh prints them over the translation 59f4049058189b75… (all of the seat's roots in one cut). By AI agents, Wed Nov 11 2026. No macro, syntax, notation, axiom, sorry.
-/
import Derived.Test.YthnmoalomodbpaaChecked
import GoSem.Claim
import GoSem.ClaimJoined
import GoSem.ClaimMapViews
import Derived.JoinedTies
import Derived.KernelRfl
namespace Go.Proofs.Ythnmoalomodbpaa
/- THE CELL 'sum', in the pinned program and in every row, IS THE sha256 OF THE DUMP (.gsa) THAT YthnmoalomodbpaaProg.lean LOADS. Nothing in Lean hashes anything: it is a label: what it is worth is what the hold of that sum in a sandbox is worth. -/
noncomputable def Try.pinned : Pinned := { name := "ythnmoalomodbpaa", sum := "59f4049058189b75092195ae62dffc5e6e8c2fb34a865285233fbe2ed41f4291", checked := Try.checked }
namespace Rows
def none {H : Type} : Left H := { results := [], args := [] }

/-- 'vireolaw15.RingChecks': WHATEVER THE INPUT: true; the input reads as it did. -/
def ringChecksSpec : ChangeSpec := { name := "ringChecks", fn := fun _ => fun
  | [d] => { results := [.lit (.bool true)], args := [d] }
  | _ => none }
def ringChecksRow : OpenClaim := { program := "ythnmoalomodbpaa", sum := "59f4049058189b75092195ae62dffc5e6e8c2fb34a865285233fbe2ed41f4291", func := "vireo/vireolaw15.RingChecks", spec := "ringChecks", apart := false }
def RingChecksSaid : Prop := ringChecksRow.holds Try.pinned (OpenSpec.ofChange ringChecksSpec)

/-- ITS FALSE NEIGHBOUR: 'it returns false'. Refute it at one input. -/
def ringChecksWrong : ChangeSpec := { name := "ringChecks", fn := fun _ => fun
  | [d] => { results := [.lit (.bool false)], args := [d] }
  | _ => none }
def RingChecksWrongFalsely : Prop := ringChecksRow.holds Try.pinned (OpenSpec.ofChange ringChecksWrong)

/-- 'vireolaw15.RingDescs': WHATEVER THE INPUT: true; the input reads as it did. -/
def ringDescsSpec : ChangeSpec := { name := "ringDescs", fn := fun _ => fun
  | [d1, d2, d3] => { results := [.lit (.bool true)], args := [d1, d2, d3] }
  | _ => none }
def ringDescsRow : OpenClaim := { program := "ythnmoalomodbpaa", sum := "59f4049058189b75092195ae62dffc5e6e8c2fb34a865285233fbe2ed41f4291", func := "vireo/vireolaw15.RingDescs", spec := "ringDescs", apart := false }
def RingDescsSaid : Prop := ringDescsRow.holds Try.pinned (OpenSpec.ofChange ringDescsSpec)

/-- ITS FALSE NEIGHBOUR: 'it returns false'. Refute it at one input. -/
def ringDescsWrong : ChangeSpec := { name := "ringDescs", fn := fun _ => fun
  | [d1, d2, d3] => { results := [.lit (.bool false)], args := [d1, d2, d3] }
  | _ => none }
def RingDescsWrongFalsely : Prop := ringDescsRow.holds Try.pinned (OpenSpec.ofChange ringDescsWrong)

/-- 'vireolaw15.RingBytes': WHATEVER THE INPUT: true; the input reads as it did. -/
def ringBytesSpec : ChangeSpec := { name := "ringBytes", fn := fun _ => fun
  | [d] => { results := [.lit (.bool true)], args := [d] }
  | _ => none }
def ringBytesRow : OpenClaim := { program := "ythnmoalomodbpaa", sum := "59f4049058189b75092195ae62dffc5e6e8c2fb34a865285233fbe2ed41f4291", func := "vireo/vireolaw15.RingBytes", spec := "ringBytes", apart := false }
def RingBytesSaid : Prop := ringBytesRow.holds Try.pinned (OpenSpec.ofChange ringBytesSpec)

/-- ITS FALSE NEIGHBOUR: 'it returns false'. Refute it at one input. -/
def ringBytesWrong : ChangeSpec := { name := "ringBytes", fn := fun _ => fun
  | [d] => { results := [.lit (.bool false)], args := [d] }
  | _ => none }
def RingBytesWrongFalsely : Prop := ringBytesRow.holds Try.pinned (OpenSpec.ofChange ringBytesWrong)

/-- 'vireolaw15.RingReads': WHATEVER THE INPUT: true; the input reads as it did. -/
def ringReadsSpec : ChangeSpec := { name := "ringReads", fn := fun _ => fun
  | [d1, d2, d3] => { results := [.lit (.bool true)], args := [d1, d2, d3] }
  | _ => none }
def ringReadsRow : OpenClaim := { program := "ythnmoalomodbpaa", sum := "59f4049058189b75092195ae62dffc5e6e8c2fb34a865285233fbe2ed41f4291", func := "vireo/vireolaw15.RingReads", spec := "ringReads", apart := false }
def RingReadsSaid : Prop := ringReadsRow.holds Try.pinned (OpenSpec.ofChange ringReadsSpec)

/-- ITS FALSE NEIGHBOUR: 'it returns false'. Refute it at one input. -/
def ringReadsWrong : ChangeSpec := { name := "ringReads", fn := fun _ => fun
  | [d1, d2, d3] => { results := [.lit (.bool false)], args := [d1, d2, d3] }
  | _ => none }
def RingReadsWrongFalsely : Prop := ringReadsRow.holds Try.pinned (OpenSpec.ofChange ringReadsWrong)

/-- 'vireolaw15.RingWrites': WHATEVER THE INPUT: true; the input reads as it did. -/
def ringWritesSpec : ChangeSpec := { name := "ringWrites", fn := fun _ => fun
  | [d1, d2, d3] => { results := [.lit (.bool true)], args := [d1, d2, d3] }
  | _ => none }
def ringWritesRow : OpenClaim := { program := "ythnmoalomodbpaa", sum := "59f4049058189b75092195ae62dffc5e6e8c2fb34a865285233fbe2ed41f4291", func := "vireo/vireolaw15.RingWrites", spec := "ringWrites", recurses := true, apart := false }
def RingWritesSaid : Prop := ringWritesRow.holds Try.pinned (OpenSpec.ofChange ringWritesSpec)

/-- ITS FALSE NEIGHBOUR: 'it returns false'. Refute it at one input. -/
def ringWritesWrong : ChangeSpec := { name := "ringWrites", fn := fun _ => fun
  | [d1, d2, d3] => { results := [.lit (.bool false)], args := [d1, d2, d3] }
  | _ => none }
def RingWritesWrongFalsely : Prop := ringWritesRow.holds Try.pinned (OpenSpec.ofChange ringWritesWrong)

/-- 'vireolaw15.RingPassed': WHATEVER THE INPUT: true; the input reads as it did. -/
def ringPassedSpec : ChangeSpec := { name := "ringPassed", fn := fun _ => fun
  | [d1, d2, d3] => { results := [.lit (.bool true)], args := [d1, d2, d3] }
  | _ => none }
def ringPassedRow : OpenClaim := { program := "ythnmoalomodbpaa", sum := "59f4049058189b75092195ae62dffc5e6e8c2fb34a865285233fbe2ed41f4291", func := "vireo/vireolaw15.RingPassed", spec := "ringPassed", apart := false }
def RingPassedSaid : Prop := ringPassedRow.holds Try.pinned (OpenSpec.ofChange ringPassedSpec)

/-- ITS FALSE NEIGHBOUR: 'it returns false'. Refute it at one input. -/
def ringPassedWrong : ChangeSpec := { name := "ringPassed", fn := fun _ => fun
  | [d1, d2, d3] => { results := [.lit (.bool false)], args := [d1, d2, d3] }
  | _ => none }
def RingPassedWrongFalsely : Prop := ringPassedRow.holds Try.pinned (OpenSpec.ofChange ringPassedWrong)

/- THE SECOND FORM. 'bulk': how many values and letters a reading holds, each counted each time it is reached (what is shared counts as often as it is met; a slice's spare places count too). A statement '..UptoSaid' is the law's where the arguments, and the package variables that the reading takes, are together of bulk at most 1048576: NARROWER than '..Said'. Prove '..Said' where nothing that the law and all that it calls make is longer than what came in: it says more and counts as full. Else prove '..UptoSaid'. A law counts once. -/
mutual
def uptoBulk {H : Type} : DataW H → Nat
  | .lit (.string bytes) => bytes.length + 1
  | .lit _ => 1
  | .nil => 1
  | .ptr d => uptoBulk d + 1
  | .slice elems spare => uptoBulkAll elems + uptoBulkAll spare + 1
  | .agg parts => uptoBulkAll parts + 1
  | .iface _ d => uptoBulk d + 1
  | .map entries => uptoBulkEntries entries + 1
  | .held _ => 1
def uptoBulkAll {H : Type} : List (DataW H) → Nat
  | [] => 0
  | d :: r => uptoBulk d + uptoBulkAll r
def uptoBulkEntries {H : Type} : List (Lit × DataW H) → Nat
  | [] => 0
  | x :: r => uptoBulkEntry x + uptoBulkEntries r
def uptoBulkEntry {H : Type} : Lit × DataW H → Nat
  | (.string bytes, d) => bytes.length + uptoBulk d + 1
  | (_, d) => uptoBulk d + 1
 end
def uptoSmall : (H : Type) → List (DataW H) → Bool := fun _ ds => decide (uptoBulkAll ds ≤ 1048576)
def OpenSpec.upto (s : _root_.Go.ChangeSpec) : _root_.Go.OpenSpec := { _root_.Go.OpenSpec.ofChange s with cond := some uptoSmall }

/-- 'vireolaw15.RingChecks', WHERE WHAT IT READS IS OF BULK AT MOST 1048576: true; the input reads as it did. -/
def ringChecksUptoRow : OpenClaim := { program := "ythnmoalomodbpaa", sum := "59f4049058189b75092195ae62dffc5e6e8c2fb34a865285233fbe2ed41f4291", func := "vireo/vireolaw15.RingChecks", spec := "ringChecks", apart := false, narrowed := true }
def RingChecksUptoSaid : Prop := ringChecksUptoRow.holds Try.pinned (OpenSpec.upto ringChecksSpec)

/-- 'vireolaw15.RingDescs', WHERE WHAT IT READS IS OF BULK AT MOST 1048576: true; the input reads as it did. -/
def ringDescsUptoRow : OpenClaim := { program := "ythnmoalomodbpaa", sum := "59f4049058189b75092195ae62dffc5e6e8c2fb34a865285233fbe2ed41f4291", func := "vireo/vireolaw15.RingDescs", spec := "ringDescs", apart := false, narrowed := true }
def RingDescsUptoSaid : Prop := ringDescsUptoRow.holds Try.pinned (OpenSpec.upto ringDescsSpec)

/-- 'vireolaw15.RingBytes', WHERE WHAT IT READS IS OF BULK AT MOST 1048576: true; the input reads as it did. -/
def ringBytesUptoRow : OpenClaim := { program := "ythnmoalomodbpaa", sum := "59f4049058189b75092195ae62dffc5e6e8c2fb34a865285233fbe2ed41f4291", func := "vireo/vireolaw15.RingBytes", spec := "ringBytes", apart := false, narrowed := true }
def RingBytesUptoSaid : Prop := ringBytesUptoRow.holds Try.pinned (OpenSpec.upto ringBytesSpec)

/-- 'vireolaw15.RingReads', WHERE WHAT IT READS IS OF BULK AT MOST 1048576: true; the input reads as it did. -/
def ringReadsUptoRow : OpenClaim := { program := "ythnmoalomodbpaa", sum := "59f4049058189b75092195ae62dffc5e6e8c2fb34a865285233fbe2ed41f4291", func := "vireo/vireolaw15.RingReads", spec := "ringReads", apart := false, narrowed := true }
def RingReadsUptoSaid : Prop := ringReadsUptoRow.holds Try.pinned (OpenSpec.upto ringReadsSpec)

/-- 'vireolaw15.RingWrites', WHERE WHAT IT READS IS OF BULK AT MOST 1048576: true; the input reads as it did. -/
def ringWritesUptoRow : OpenClaim := { program := "ythnmoalomodbpaa", sum := "59f4049058189b75092195ae62dffc5e6e8c2fb34a865285233fbe2ed41f4291", func := "vireo/vireolaw15.RingWrites", spec := "ringWrites", recurses := true, apart := false, narrowed := true }
def RingWritesUptoSaid : Prop := ringWritesUptoRow.holds Try.pinned (OpenSpec.upto ringWritesSpec)

/-- 'vireolaw15.RingPassed', WHERE WHAT IT READS IS OF BULK AT MOST 1048576: true; the input reads as it did. -/
def ringPassedUptoRow : OpenClaim := { program := "ythnmoalomodbpaa", sum := "59f4049058189b75092195ae62dffc5e6e8c2fb34a865285233fbe2ed41f4291", func := "vireo/vireolaw15.RingPassed", spec := "ringPassed", apart := false, narrowed := true }
def RingPassedUptoSaid : Prop := ringPassedUptoRow.holds Try.pinned (OpenSpec.upto ringPassedSpec)

end Rows
end Go.Proofs.Ythnmoalomodbpaa
