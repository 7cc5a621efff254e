/-
  NARROWER THAN 'FOR EVERY INPUT', by the rows' own cells (each row's printed sentence says how): TrapNext: laid · TrapMasks: laid.
  DERIVED. THE GIVEN ROWS OF THIS SEAT. 2 by the template 'for every input the law returns true; each argument reads behind the call as it read before'; 0 by the template 'total and deterministic' (their statements: YtdljceeoofhfnaaDoorTotals.lean).
  GIVEN WITH THE SEED: the statements are not yours to turn. If you find one false, say at which input.
  Laid BY PROGRAM, IN A SANDBOX (cutbox-rows.mjs): the forced cells as the released guide's own fill.sh prints them over the translation e27ac91616268158… (all of the seat's roots in one cut). By AI agents, Wed Nov 11 2026. No macro, syntax, notation, axiom, sorry.
-/
import Derived.Test.YtdljceeoofhfnaaDoorChecked
import GoSem.Claim
import GoSem.ClaimJoined
import GoSem.ClaimMapViews
import Derived.JoinedTies
import Derived.KernelRfl
namespace Go.Proofs.YtdljceeoofhfnaaDoor
/- THE CELL 'sum', in the pinned program and in every row, IS THE sha256 OF THE DUMP (.gsa) THAT YtdljceeoofhfnaaDoorProg.lean LOADS. Nothing in Lean hashes anything: it is a label: what it is worth is what the hold of that sum in a sandbox is worth. -/
noncomputable def Tryd.pinned : Pinned := { name := "ytdljceeoofhfnaadoor", sum := "e27ac916162681586b899616f1ea9c90bd5a16fe3193ecb1e108170fce7fdd6c", checked := Tryd.checked }
namespace Rows
def none {H : Type} : Left H := { results := [], args := [] }

/- WHAT THE LISTED PACKAGE-LEVEL VARIABLES READ AS WHEN THE CALL BEGINS. Each datum BY PROGRAM (the guide's laid-datum.mjs) off the statement by which the dump's own 'gosem.cut.vars' lays the variable. In a bare row this is a premise. The card (YtdljceeoofhfnaaDoorCards.lean) ties it to the program's text. -/
def laid_vireo_trap_order {H : Type} : DataW H := .agg [.lit (.int .i64 11), .lit (.int .i64 3), .lit (.int .i64 7), .lit (.int .i64 9), .lit (.int .i64 1), .lit (.int .i64 5)]

/-- 'vireolaw09.TrapNext': WHATEVER THE INPUT: true; the input reads as it did. -/
def trapNextSpec : ChangeSpec := { name := "trapNext", fn := fun _ => fun
  | [d] => { results := [.lit (.bool true)], args := [d] }
  | _ => none }
def trapNextRow : OpenClaim := { program := "ytdljceeoofhfnaadoor", sum := "e27ac916162681586b899616f1ea9c90bd5a16fe3193ecb1e108170fce7fdd6c", func := "vireo/vireolaw09.TrapNext", spec := "trapNext", named := ["vireo/trap.order"], apart := false, laid := [("vireo/trap.order", laid_vireo_trap_order)] }
def TrapNextSaid : Prop := trapNextRow.holds Tryd.pinned (OpenSpec.ofChange trapNextSpec)

/-- ITS FALSE NEIGHBOUR: 'it returns false'. Refute it at one input. -/
def trapNextWrong : ChangeSpec := { name := "trapNext", fn := fun _ => fun
  | [d] => { results := [.lit (.bool false)], args := [d] }
  | _ => none }
def TrapNextWrongFalsely : Prop := trapNextRow.holds Tryd.pinned (OpenSpec.ofChange trapNextWrong)

/-- 'vireolaw09.TrapMasks': WHATEVER THE INPUT: true; the input reads as it did. -/
def trapMasksSpec : ChangeSpec := { name := "trapMasks", fn := fun _ => fun
  | [d] => { results := [.lit (.bool true)], args := [d] }
  | _ => none }
def trapMasksRow : OpenClaim := { program := "ytdljceeoofhfnaadoor", sum := "e27ac916162681586b899616f1ea9c90bd5a16fe3193ecb1e108170fce7fdd6c", func := "vireo/vireolaw09.TrapMasks", spec := "trapMasks", named := ["vireo/trap.order"], apart := false, laid := [("vireo/trap.order", laid_vireo_trap_order)] }
def TrapMasksSaid : Prop := trapMasksRow.holds Tryd.pinned (OpenSpec.ofChange trapMasksSpec)

/-- ITS FALSE NEIGHBOUR: 'it returns false'. Refute it at one input. -/
def trapMasksWrong : ChangeSpec := { name := "trapMasks", fn := fun _ => fun
  | [d] => { results := [.lit (.bool false)], args := [d] }
  | _ => none }
def TrapMasksWrongFalsely : Prop := trapMasksRow.holds Tryd.pinned (OpenSpec.ofChange trapMasksWrong)

/- THE SECOND FORM. 'bulk': how many values and letters a reading holds, each counted each time it is reached (what is shared counts as often as it is met; a slice's spare places count too). A statement '..UptoSaid' is the law's where the arguments, and the package variables that the reading takes, are together of bulk at most 1048576: NARROWER than '..Said'. Prove '..Said' where nothing that the law and all that it calls make is longer than what came in: it says more and counts as full. Else prove '..UptoSaid'. A law counts once. -/
mutual
def uptoBulk {H : Type} : DataW H → Nat
  | .lit (.string bytes) => bytes.length + 1
  | .lit _ => 1
  | .nil => 1
  | .ptr d => uptoBulk d + 1
  | .slice elems spare => uptoBulkAll elems + uptoBulkAll spare + 1
  | .agg parts => uptoBulkAll parts + 1
  | .iface _ d => uptoBulk d + 1
  | .map entries => uptoBulkEntries entries + 1
  | .held _ => 1
def uptoBulkAll {H : Type} : List (DataW H) → Nat
  | [] => 0
  | d :: r => uptoBulk d + uptoBulkAll r
def uptoBulkEntries {H : Type} : List (Lit × DataW H) → Nat
  | [] => 0
  | x :: r => uptoBulkEntry x + uptoBulkEntries r
def uptoBulkEntry {H : Type} : Lit × DataW H → Nat
  | (.string bytes, d) => bytes.length + uptoBulk d + 1
  | (_, d) => uptoBulk d + 1
 end
def uptoSmall : (H : Type) → List (DataW H) → Bool := fun _ ds => decide (uptoBulkAll ds ≤ 1048576)
def OpenSpec.upto (s : _root_.Go.ChangeSpec) : _root_.Go.OpenSpec := { _root_.Go.OpenSpec.ofChange s with cond := some uptoSmall }

/-- 'vireolaw09.TrapNext', WHERE WHAT IT READS IS OF BULK AT MOST 1048576: true; the input reads as it did. -/
def trapNextUptoRow : OpenClaim := { program := "ytdljceeoofhfnaadoor", sum := "e27ac916162681586b899616f1ea9c90bd5a16fe3193ecb1e108170fce7fdd6c", func := "vireo/vireolaw09.TrapNext", spec := "trapNext", named := ["vireo/trap.order"], apart := false, laid := [("vireo/trap.order", laid_vireo_trap_order)], narrowed := true }
def TrapNextUptoSaid : Prop := trapNextUptoRow.holds Tryd.pinned (OpenSpec.upto trapNextSpec)

/-- 'vireolaw09.TrapMasks', WHERE WHAT IT READS IS OF BULK AT MOST 1048576: true; the input reads as it did. -/
def trapMasksUptoRow : OpenClaim := { program := "ytdljceeoofhfnaadoor", sum := "e27ac916162681586b899616f1ea9c90bd5a16fe3193ecb1e108170fce7fdd6c", func := "vireo/vireolaw09.TrapMasks", spec := "trapMasks", named := ["vireo/trap.order"], apart := false, laid := [("vireo/trap.order", laid_vireo_trap_order)], narrowed := true }
def TrapMasksUptoSaid : Prop := trapMasksUptoRow.holds Tryd.pinned (OpenSpec.upto trapMasksSpec)

end Rows
end Go.Proofs.YtdljceeoofhfnaaDoor
