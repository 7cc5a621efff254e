/-
  No cell of these rows narrows 'for every input' (looked for: loops, veiled, ifaces, maps, wideKeys, modest, calm, conditions, laid).
  DERIVED. THE GIVEN ROWS OF THIS SEAT. 6 by the template 'for every input the law returns true; each argument reads behind the call as it read before'; 0 by the template 'total and deterministic' (their statements: YtcgjfklglckjcaaTotals.lean).
  GIVEN WITH THE SEED: the statements are not yours to turn. If you find one false, say at which input.
  Laid BY PROGRAM, IN A SANDBOX (cutbox-rows.mjs): the forced cells as the released guide's own fill.sh prints them over the translation 0885b4aad5a3cd29… (all of the seat's roots in one cut). By AI agents, Wed Nov 11 2026. No macro, syntax, notation, axiom, sorry.
-/
import Derived.Test.YtcgjfklglckjcaaChecked
import GoSem.Claim
import GoSem.ClaimJoined
import GoSem.ClaimMapViews
import Derived.JoinedTies
import Derived.KernelRfl
namespace Go.Proofs.Ytcgjfklglckjcaa
/- THE CELL 'sum', in the pinned program and in every row, IS THE sha256 OF THE DUMP (.gsa) THAT YtcgjfklglckjcaaProg.lean LOADS. Nothing in Lean hashes anything: it is a label: what it is worth is what the hold of that sum in a sandbox is worth. -/
noncomputable def Try.pinned : Pinned := { name := "ytcgjfklglckjcaa", sum := "0885b4aad5a3cd299cd60c1627bfa60e95306e7000585a3a9b78c55716dc2796", checked := Try.checked }
namespace Rows
def none {H : Type} : Left H := { results := [], args := [] }

/-- 'vireolaw16.ChainWalks': WHATEVER THE INPUT: true; the input reads as it did. -/
def chainWalksSpec : ChangeSpec := { name := "chainWalks", fn := fun _ => fun
  | [d1, d2] => { results := [.lit (.bool true)], args := [d1, d2] }
  | _ => none }
def chainWalksRow : OpenClaim := { program := "ytcgjfklglckjcaa", sum := "0885b4aad5a3cd299cd60c1627bfa60e95306e7000585a3a9b78c55716dc2796", func := "vireo/vireolaw16.ChainWalks", spec := "chainWalks", recurses := true, apart := false }
def ChainWalksSaid : Prop := chainWalksRow.holds Try.pinned (OpenSpec.ofChange chainWalksSpec)

/-- ITS FALSE NEIGHBOUR: 'it returns false'. Refute it at one input. -/
def chainWalksWrong : ChangeSpec := { name := "chainWalks", fn := fun _ => fun
  | [d1, d2] => { results := [.lit (.bool false)], args := [d1, d2] }
  | _ => none }
def ChainWalksWrongFalsely : Prop := chainWalksRow.holds Try.pinned (OpenSpec.ofChange chainWalksWrong)

/-- 'vireolaw16.ChainLies': WHATEVER THE INPUT: true; the input reads as it did. -/
def chainLiesSpec : ChangeSpec := { name := "chainLies", fn := fun _ => fun
  | [d1, d2] => { results := [.lit (.bool true)], args := [d1, d2] }
  | _ => none }
def chainLiesRow : OpenClaim := { program := "ytcgjfklglckjcaa", sum := "0885b4aad5a3cd299cd60c1627bfa60e95306e7000585a3a9b78c55716dc2796", func := "vireo/vireolaw16.ChainLies", spec := "chainLies", recurses := true, apart := false }
def ChainLiesSaid : Prop := chainLiesRow.holds Try.pinned (OpenSpec.ofChange chainLiesSpec)

/-- ITS FALSE NEIGHBOUR: 'it returns false'. Refute it at one input. -/
def chainLiesWrong : ChangeSpec := { name := "chainLies", fn := fun _ => fun
  | [d1, d2] => { results := [.lit (.bool false)], args := [d1, d2] }
  | _ => none }
def ChainLiesWrongFalsely : Prop := chainLiesRow.holds Try.pinned (OpenSpec.ofChange chainLiesWrong)

/-- 'vireolaw16.ChainReads': WHATEVER THE INPUT: true; the input reads as it did. -/
def chainReadsSpec : ChangeSpec := { name := "chainReads", fn := fun _ => fun
  | [d1, d2] => { results := [.lit (.bool true)], args := [d1, d2] }
  | _ => none }
def chainReadsRow : OpenClaim := { program := "ytcgjfklglckjcaa", sum := "0885b4aad5a3cd299cd60c1627bfa60e95306e7000585a3a9b78c55716dc2796", func := "vireo/vireolaw16.ChainReads", spec := "chainReads", apart := false }
def ChainReadsSaid : Prop := chainReadsRow.holds Try.pinned (OpenSpec.ofChange chainReadsSpec)

/-- ITS FALSE NEIGHBOUR: 'it returns false'. Refute it at one input. -/
def chainReadsWrong : ChangeSpec := { name := "chainReads", fn := fun _ => fun
  | [d1, d2] => { results := [.lit (.bool false)], args := [d1, d2] }
  | _ => none }
def ChainReadsWrongFalsely : Prop := chainReadsRow.holds Try.pinned (OpenSpec.ofChange chainReadsWrong)

/-- 'vireolaw16.ChainGathers': WHATEVER THE INPUT: true; the input reads as it did. -/
def chainGathersSpec : ChangeSpec := { name := "chainGathers", fn := fun _ => fun
  | [d1, d2, d3] => { results := [.lit (.bool true)], args := [d1, d2, d3] }
  | _ => none }
def chainGathersRow : OpenClaim := { program := "ytcgjfklglckjcaa", sum := "0885b4aad5a3cd299cd60c1627bfa60e95306e7000585a3a9b78c55716dc2796", func := "vireo/vireolaw16.ChainGathers", spec := "chainGathers", recurses := true, apart := false }
def ChainGathersSaid : Prop := chainGathersRow.holds Try.pinned (OpenSpec.ofChange chainGathersSpec)

/-- ITS FALSE NEIGHBOUR: 'it returns false'. Refute it at one input. -/
def chainGathersWrong : ChangeSpec := { name := "chainGathers", fn := fun _ => fun
  | [d1, d2, d3] => { results := [.lit (.bool false)], args := [d1, d2, d3] }
  | _ => none }
def ChainGathersWrongFalsely : Prop := chainGathersRow.holds Try.pinned (OpenSpec.ofChange chainGathersWrong)

/-- 'vireolaw16.ChainScatters': WHATEVER THE INPUT: true; the input reads as it did. -/
def chainScattersSpec : ChangeSpec := { name := "chainScatters", fn := fun _ => fun
  | [d1, d2, d3] => { results := [.lit (.bool true)], args := [d1, d2, d3] }
  | _ => none }
def chainScattersRow : OpenClaim := { program := "ytcgjfklglckjcaa", sum := "0885b4aad5a3cd299cd60c1627bfa60e95306e7000585a3a9b78c55716dc2796", func := "vireo/vireolaw16.ChainScatters", spec := "chainScatters", recurses := true, apart := false }
def ChainScattersSaid : Prop := chainScattersRow.holds Try.pinned (OpenSpec.ofChange chainScattersSpec)

/-- ITS FALSE NEIGHBOUR: 'it returns false'. Refute it at one input. -/
def chainScattersWrong : ChangeSpec := { name := "chainScatters", fn := fun _ => fun
  | [d1, d2, d3] => { results := [.lit (.bool false)], args := [d1, d2, d3] }
  | _ => none }
def ChainScattersWrongFalsely : Prop := chainScattersRow.holds Try.pinned (OpenSpec.ofChange chainScattersWrong)

/-- 'vireolaw16.ChainWithin': WHATEVER THE INPUT: true; the input reads as it did. -/
def chainWithinSpec : ChangeSpec := { name := "chainWithin", fn := fun _ => fun
  | [d1, d2, d3] => { results := [.lit (.bool true)], args := [d1, d2, d3] }
  | _ => none }
def chainWithinRow : OpenClaim := { program := "ytcgjfklglckjcaa", sum := "0885b4aad5a3cd299cd60c1627bfa60e95306e7000585a3a9b78c55716dc2796", func := "vireo/vireolaw16.ChainWithin", spec := "chainWithin", recurses := true, apart := false }
def ChainWithinSaid : Prop := chainWithinRow.holds Try.pinned (OpenSpec.ofChange chainWithinSpec)

/-- ITS FALSE NEIGHBOUR: 'it returns false'. Refute it at one input. -/
def chainWithinWrong : ChangeSpec := { name := "chainWithin", fn := fun _ => fun
  | [d1, d2, d3] => { results := [.lit (.bool false)], args := [d1, d2, d3] }
  | _ => none }
def ChainWithinWrongFalsely : Prop := chainWithinRow.holds Try.pinned (OpenSpec.ofChange chainWithinWrong)

/- THE SECOND FORM. 'bulk': how many values and letters a reading holds, each counted each time it is reached (what is shared counts as often as it is met; a slice's spare places count too). A statement '..UptoSaid' is the law's where the arguments, and the package variables that the reading takes, are together of bulk at most 1048576: NARROWER than '..Said'. Prove '..Said' where nothing that the law and all that it calls make is longer than what came in: it says more and counts as full. Else prove '..UptoSaid'. A law counts once. -/
mutual
def uptoBulk {H : Type} : DataW H → Nat
  | .lit (.string bytes) => bytes.length + 1
  | .lit _ => 1
  | .nil => 1
  | .ptr d => uptoBulk d + 1
  | .slice elems spare => uptoBulkAll elems + uptoBulkAll spare + 1
  | .agg parts => uptoBulkAll parts + 1
  | .iface _ d => uptoBulk d + 1
  | .map entries => uptoBulkEntries entries + 1
  | .held _ => 1
def uptoBulkAll {H : Type} : List (DataW H) → Nat
  | [] => 0
  | d :: r => uptoBulk d + uptoBulkAll r
def uptoBulkEntries {H : Type} : List (Lit × DataW H) → Nat
  | [] => 0
  | x :: r => uptoBulkEntry x + uptoBulkEntries r
def uptoBulkEntry {H : Type} : Lit × DataW H → Nat
  | (.string bytes, d) => bytes.length + uptoBulk d + 1
  | (_, d) => uptoBulk d + 1
 end
def uptoSmall : (H : Type) → List (DataW H) → Bool := fun _ ds => decide (uptoBulkAll ds ≤ 1048576)
def OpenSpec.upto (s : _root_.Go.ChangeSpec) : _root_.Go.OpenSpec := { _root_.Go.OpenSpec.ofChange s with cond := some uptoSmall }

/-- 'vireolaw16.ChainWalks', WHERE WHAT IT READS IS OF BULK AT MOST 1048576: true; the input reads as it did. -/
def chainWalksUptoRow : OpenClaim := { program := "ytcgjfklglckjcaa", sum := "0885b4aad5a3cd299cd60c1627bfa60e95306e7000585a3a9b78c55716dc2796", func := "vireo/vireolaw16.ChainWalks", spec := "chainWalks", recurses := true, apart := false, narrowed := true }
def ChainWalksUptoSaid : Prop := chainWalksUptoRow.holds Try.pinned (OpenSpec.upto chainWalksSpec)

/-- 'vireolaw16.ChainLies', WHERE WHAT IT READS IS OF BULK AT MOST 1048576: true; the input reads as it did. -/
def chainLiesUptoRow : OpenClaim := { program := "ytcgjfklglckjcaa", sum := "0885b4aad5a3cd299cd60c1627bfa60e95306e7000585a3a9b78c55716dc2796", func := "vireo/vireolaw16.ChainLies", spec := "chainLies", recurses := true, apart := false, narrowed := true }
def ChainLiesUptoSaid : Prop := chainLiesUptoRow.holds Try.pinned (OpenSpec.upto chainLiesSpec)

/-- 'vireolaw16.ChainReads', WHERE WHAT IT READS IS OF BULK AT MOST 1048576: true; the input reads as it did. -/
def chainReadsUptoRow : OpenClaim := { program := "ytcgjfklglckjcaa", sum := "0885b4aad5a3cd299cd60c1627bfa60e95306e7000585a3a9b78c55716dc2796", func := "vireo/vireolaw16.ChainReads", spec := "chainReads", apart := false, narrowed := true }
def ChainReadsUptoSaid : Prop := chainReadsUptoRow.holds Try.pinned (OpenSpec.upto chainReadsSpec)

/-- 'vireolaw16.ChainGathers', WHERE WHAT IT READS IS OF BULK AT MOST 1048576: true; the input reads as it did. -/
def chainGathersUptoRow : OpenClaim := { program := "ytcgjfklglckjcaa", sum := "0885b4aad5a3cd299cd60c1627bfa60e95306e7000585a3a9b78c55716dc2796", func := "vireo/vireolaw16.ChainGathers", spec := "chainGathers", recurses := true, apart := false, narrowed := true }
def ChainGathersUptoSaid : Prop := chainGathersUptoRow.holds Try.pinned (OpenSpec.upto chainGathersSpec)

/-- 'vireolaw16.ChainScatters', WHERE WHAT IT READS IS OF BULK AT MOST 1048576: true; the input reads as it did. -/
def chainScattersUptoRow : OpenClaim := { program := "ytcgjfklglckjcaa", sum := "0885b4aad5a3cd299cd60c1627bfa60e95306e7000585a3a9b78c55716dc2796", func := "vireo/vireolaw16.ChainScatters", spec := "chainScatters", recurses := true, apart := false, narrowed := true }
def ChainScattersUptoSaid : Prop := chainScattersUptoRow.holds Try.pinned (OpenSpec.upto chainScattersSpec)

/-- 'vireolaw16.ChainWithin', WHERE WHAT IT READS IS OF BULK AT MOST 1048576: true; the input reads as it did. -/
def chainWithinUptoRow : OpenClaim := { program := "ytcgjfklglckjcaa", sum := "0885b4aad5a3cd299cd60c1627bfa60e95306e7000585a3a9b78c55716dc2796", func := "vireo/vireolaw16.ChainWithin", spec := "chainWithin", recurses := true, apart := false, narrowed := true }
def ChainWithinUptoSaid : Prop := chainWithinUptoRow.holds Try.pinned (OpenSpec.upto chainWithinSpec)

end Rows
end Go.Proofs.Ytcgjfklglckjcaa
