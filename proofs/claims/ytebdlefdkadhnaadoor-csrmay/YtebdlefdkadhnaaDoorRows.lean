/-
  NARROWER THAN 'FOR EVERY INPUT', by the rows' own cells (each row's printed sentence says how): CsrPlays: laid · CsrReads: laid · CsrMay: laid · CsrNames: laid · CsrNumbers: laid · CsrTwice: laid.
  DERIVED. THE GIVEN ROWS OF THIS SEAT. 6 by the template 'for every input the law returns true; each argument reads behind the call as it read before'; 0 by the template 'total and deterministic' (their statements: YtebdlefdkadhnaaDoorTotals.lean).
  GIVEN WITH THE SEED: the statements are not yours to turn. If you find one false, say at which input.
  Laid BY PROGRAM, IN A SANDBOX (cutbox-rows.mjs): the forced cells as the released guide's own fill.sh prints them over the translation 66db552598718733… (all of the seat's roots in one cut). By AI agents, Wed Nov 11 2026. No macro, syntax, notation, axiom, sorry.
-/
import Derived.Test.YtebdlefdkadhnaaDoorChecked
import GoSem.Claim
import GoSem.ClaimJoined
import GoSem.ClaimMapViews
import Derived.JoinedTies
import Derived.KernelRfl
namespace Go.Proofs.YtebdlefdkadhnaaDoor
/- THE CELL 'sum', in the pinned program and in every row, IS THE sha256 OF THE DUMP (.gsa) THAT YtebdlefdkadhnaaDoorProg.lean LOADS. Nothing in Lean hashes anything: it is a label: what it is worth is what the hold of that sum in a sandbox is worth. -/
noncomputable def Tryd.pinned : Pinned := { name := "ytebdlefdkadhnaadoor", sum := "66db5525987187337ce057dcee4a8807a418199fe4e1ce5d603e2607d13380f1", checked := Tryd.checked }
namespace Rows
def none {H : Type} : Left H := { results := [], args := [] }

/- WHAT THE LISTED PACKAGE-LEVEL VARIABLES READ AS WHEN THE CALL BEGINS. Each datum BY PROGRAM (the guide's laid-datum.mjs) off the statement by which the dump's own 'gosem.cut.vars' lays the variable. In a bare row this is a premise. The card (YtebdlefdkadhnaaDoorCards.lean) ties it to the program's text. -/
def laid_vireo_csr_registers {H : Type} : DataW H := .agg [.agg [.lit (.int .i64 256), .lit (.string [115, 115, 116, 97, 116, 117, 115])], .agg [.lit (.int .i64 260), .lit (.string [115, 105, 101])], .agg [.lit (.int .i64 261), .lit (.string [115, 116, 118, 101, 99])], .agg [.lit (.int .i64 262), .lit (.string [115, 99, 111, 117, 110, 116, 101, 114, 101, 110])], .agg [.lit (.int .i64 320), .lit (.string [115, 115, 99, 114, 97, 116, 99, 104])], .agg [.lit (.int .i64 321), .lit (.string [115, 101, 112, 99])], .agg [.lit (.int .i64 322), .lit (.string [115, 99, 97, 117, 115, 101])], .agg [.lit (.int .i64 323), .lit (.string [115, 116, 118, 97, 108])], .agg [.lit (.int .i64 324), .lit (.string [115, 105, 112])], .agg [.lit (.int .i64 384), .lit (.string [115, 97, 116, 112])], .agg [.lit (.int .i64 768), .lit (.string [109, 115, 116, 97, 116, 117, 115])], .agg [.lit (.int .i64 769), .lit (.string [109, 105, 115, 97])], .agg [.lit (.int .i64 770), .lit (.string [109, 101, 100, 101, 108, 101, 103])], .agg [.lit (.int .i64 771), .lit (.string [109, 105, 100, 101, 108, 101, 103])], .agg [.lit (.int .i64 772), .lit (.string [109, 105, 101])], .agg [.lit (.int .i64 773), .lit (.string [109, 116, 118, 101, 99])], .agg [.lit (.int .i64 774), .lit (.string [109, 99, 111, 117, 110, 116, 101, 114, 101, 110])], .agg [.lit (.int .i64 832), .lit (.string [109, 115, 99, 114, 97, 116, 99, 104])], .agg [.lit (.int .i64 833), .lit (.string [109, 101, 112, 99])], .agg [.lit (.int .i64 834), .lit (.string [109, 99, 97, 117, 115, 101])], .agg [.lit (.int .i64 835), .lit (.string [109, 116, 118, 97, 108])], .agg [.lit (.int .i64 836), .lit (.string [109, 105, 112])], .agg [.lit (.int .i64 2816), .lit (.string [109, 99, 121, 99, 108, 101])], .agg [.lit (.int .i64 2818), .lit (.string [109, 105, 110, 115, 116, 114, 101, 116])], .agg [.lit (.int .i64 3072), .lit (.string [99, 121, 99, 108, 101])], .agg [.lit (.int .i64 3073), .lit (.string [116, 105, 109, 101])], .agg [.lit (.int .i64 3074), .lit (.string [105, 110, 115, 116, 114, 101, 116])], .agg [.lit (.int .i64 3857), .lit (.string [109, 118, 101, 110, 100, 111, 114, 105, 100])], .agg [.lit (.int .i64 3858), .lit (.string [109, 97, 114, 99, 104, 105, 100])], .agg [.lit (.int .i64 3859), .lit (.string [109, 105, 109, 112, 105, 100])], .agg [.lit (.int .i64 3860), .lit (.string [109, 104, 97, 114, 116, 105, 100])]]

/-- 'vireolaw08.CsrPlays': WHATEVER THE INPUT: true; the input reads as it did. -/
def csrPlaysSpec : ChangeSpec := { name := "csrPlays", fn := fun _ => fun
  | [d] => { results := [.lit (.bool true)], args := [d] }
  | _ => none }
def csrPlaysRow : OpenClaim := { program := "ytebdlefdkadhnaadoor", sum := "66db5525987187337ce057dcee4a8807a418199fe4e1ce5d603e2607d13380f1", func := "vireo/vireolaw08.CsrPlays", spec := "csrPlays", named := ["vireo/csr.registers"], apart := false, laid := [("vireo/csr.registers", laid_vireo_csr_registers)] }
def CsrPlaysSaid : Prop := csrPlaysRow.holds Tryd.pinned (OpenSpec.ofChange csrPlaysSpec)

/-- ITS FALSE NEIGHBOUR: 'it returns false'. Refute it at one input. -/
def csrPlaysWrong : ChangeSpec := { name := "csrPlays", fn := fun _ => fun
  | [d] => { results := [.lit (.bool false)], args := [d] }
  | _ => none }
def CsrPlaysWrongFalsely : Prop := csrPlaysRow.holds Tryd.pinned (OpenSpec.ofChange csrPlaysWrong)

/-- 'vireolaw08.CsrReads': WHATEVER THE INPUT: true; the input reads as it did. -/
def csrReadsSpec : ChangeSpec := { name := "csrReads", fn := fun _ => fun
  | [d1, d2] => { results := [.lit (.bool true)], args := [d1, d2] }
  | _ => none }
def csrReadsRow : OpenClaim := { program := "ytebdlefdkadhnaadoor", sum := "66db5525987187337ce057dcee4a8807a418199fe4e1ce5d603e2607d13380f1", func := "vireo/vireolaw08.CsrReads", spec := "csrReads", named := ["vireo/csr.registers"], apart := false, laid := [("vireo/csr.registers", laid_vireo_csr_registers)] }
def CsrReadsSaid : Prop := csrReadsRow.holds Tryd.pinned (OpenSpec.ofChange csrReadsSpec)

/-- ITS FALSE NEIGHBOUR: 'it returns false'. Refute it at one input. -/
def csrReadsWrong : ChangeSpec := { name := "csrReads", fn := fun _ => fun
  | [d1, d2] => { results := [.lit (.bool false)], args := [d1, d2] }
  | _ => none }
def CsrReadsWrongFalsely : Prop := csrReadsRow.holds Tryd.pinned (OpenSpec.ofChange csrReadsWrong)

/-- 'vireolaw08.CsrMay': WHATEVER THE INPUT: true; the input reads as it did. -/
def csrMaySpec : ChangeSpec := { name := "csrMay", fn := fun _ => fun
  | [d1, d2, d3] => { results := [.lit (.bool true)], args := [d1, d2, d3] }
  | _ => none }
def csrMayRow : OpenClaim := { program := "ytebdlefdkadhnaadoor", sum := "66db5525987187337ce057dcee4a8807a418199fe4e1ce5d603e2607d13380f1", func := "vireo/vireolaw08.CsrMay", spec := "csrMay", named := ["vireo/csr.registers"], apart := false, laid := [("vireo/csr.registers", laid_vireo_csr_registers)] }
def CsrMaySaid : Prop := csrMayRow.holds Tryd.pinned (OpenSpec.ofChange csrMaySpec)

/-- ITS FALSE NEIGHBOUR: 'it returns false'. Refute it at one input. -/
def csrMayWrong : ChangeSpec := { name := "csrMay", fn := fun _ => fun
  | [d1, d2, d3] => { results := [.lit (.bool false)], args := [d1, d2, d3] }
  | _ => none }
def CsrMayWrongFalsely : Prop := csrMayRow.holds Tryd.pinned (OpenSpec.ofChange csrMayWrong)

/-- 'vireolaw08.CsrNames': WHATEVER THE INPUT: true; the input reads as it did. -/
def csrNamesSpec : ChangeSpec := { name := "csrNames", fn := fun _ => fun
  | [d] => { results := [.lit (.bool true)], args := [d] }
  | _ => none }
def csrNamesRow : OpenClaim := { program := "ytebdlefdkadhnaadoor", sum := "66db5525987187337ce057dcee4a8807a418199fe4e1ce5d603e2607d13380f1", func := "vireo/vireolaw08.CsrNames", spec := "csrNames", named := ["vireo/csr.registers"], apart := false, laid := [("vireo/csr.registers", laid_vireo_csr_registers)] }
def CsrNamesSaid : Prop := csrNamesRow.holds Tryd.pinned (OpenSpec.ofChange csrNamesSpec)

/-- ITS FALSE NEIGHBOUR: 'it returns false'. Refute it at one input. -/
def csrNamesWrong : ChangeSpec := { name := "csrNames", fn := fun _ => fun
  | [d] => { results := [.lit (.bool false)], args := [d] }
  | _ => none }
def CsrNamesWrongFalsely : Prop := csrNamesRow.holds Tryd.pinned (OpenSpec.ofChange csrNamesWrong)

/-- 'vireolaw08.CsrNumbers': WHATEVER THE INPUT: true; the input reads as it did. -/
def csrNumbersSpec : ChangeSpec := { name := "csrNumbers", fn := fun _ => fun
  | [d] => { results := [.lit (.bool true)], args := [d] }
  | _ => none }
def csrNumbersRow : OpenClaim := { program := "ytebdlefdkadhnaadoor", sum := "66db5525987187337ce057dcee4a8807a418199fe4e1ce5d603e2607d13380f1", func := "vireo/vireolaw08.CsrNumbers", spec := "csrNumbers", named := ["vireo/csr.registers"], apart := false, laid := [("vireo/csr.registers", laid_vireo_csr_registers)] }
def CsrNumbersSaid : Prop := csrNumbersRow.holds Tryd.pinned (OpenSpec.ofChange csrNumbersSpec)

/-- ITS FALSE NEIGHBOUR: 'it returns false'. Refute it at one input. -/
def csrNumbersWrong : ChangeSpec := { name := "csrNumbers", fn := fun _ => fun
  | [d] => { results := [.lit (.bool false)], args := [d] }
  | _ => none }
def CsrNumbersWrongFalsely : Prop := csrNumbersRow.holds Tryd.pinned (OpenSpec.ofChange csrNumbersWrong)

/-- 'vireolaw08.CsrTwice': WHATEVER THE INPUT: true; the input reads as it did. -/
def csrTwiceSpec : ChangeSpec := { name := "csrTwice", fn := fun _ => fun
  | [d1, d2, d3] => { results := [.lit (.bool true)], args := [d1, d2, d3] }
  | _ => none }
def csrTwiceRow : OpenClaim := { program := "ytebdlefdkadhnaadoor", sum := "66db5525987187337ce057dcee4a8807a418199fe4e1ce5d603e2607d13380f1", func := "vireo/vireolaw08.CsrTwice", spec := "csrTwice", named := ["vireo/csr.registers"], apart := false, laid := [("vireo/csr.registers", laid_vireo_csr_registers)] }
def CsrTwiceSaid : Prop := csrTwiceRow.holds Tryd.pinned (OpenSpec.ofChange csrTwiceSpec)

/-- ITS FALSE NEIGHBOUR: 'it returns false'. Refute it at one input. -/
def csrTwiceWrong : ChangeSpec := { name := "csrTwice", fn := fun _ => fun
  | [d1, d2, d3] => { results := [.lit (.bool false)], args := [d1, d2, d3] }
  | _ => none }
def CsrTwiceWrongFalsely : Prop := csrTwiceRow.holds Tryd.pinned (OpenSpec.ofChange csrTwiceWrong)

/- THE SECOND FORM. 'bulk': how many values and letters a reading holds, each counted each time it is reached (what is shared counts as often as it is met; a slice's spare places count too). A statement '..UptoSaid' is the law's where the arguments, and the package variables that the reading takes, are together of bulk at most 1048576: NARROWER than '..Said'. Prove '..Said' where nothing that the law and all that it calls make is longer than what came in: it says more and counts as full. Else prove '..UptoSaid'. A law counts once. -/
mutual
def uptoBulk {H : Type} : DataW H → Nat
  | .lit (.string bytes) => bytes.length + 1
  | .lit _ => 1
  | .nil => 1
  | .ptr d => uptoBulk d + 1
  | .slice elems spare => uptoBulkAll elems + uptoBulkAll spare + 1
  | .agg parts => uptoBulkAll parts + 1
  | .iface _ d => uptoBulk d + 1
  | .map entries => uptoBulkEntries entries + 1
  | .held _ => 1
def uptoBulkAll {H : Type} : List (DataW H) → Nat
  | [] => 0
  | d :: r => uptoBulk d + uptoBulkAll r
def uptoBulkEntries {H : Type} : List (Lit × DataW H) → Nat
  | [] => 0
  | x :: r => uptoBulkEntry x + uptoBulkEntries r
def uptoBulkEntry {H : Type} : Lit × DataW H → Nat
  | (.string bytes, d) => bytes.length + uptoBulk d + 1
  | (_, d) => uptoBulk d + 1
 end
def uptoSmall : (H : Type) → List (DataW H) → Bool := fun _ ds => decide (uptoBulkAll ds ≤ 1048576)
def OpenSpec.upto (s : _root_.Go.ChangeSpec) : _root_.Go.OpenSpec := { _root_.Go.OpenSpec.ofChange s with cond := some uptoSmall }

/-- 'vireolaw08.CsrPlays', WHERE WHAT IT READS IS OF BULK AT MOST 1048576: true; the input reads as it did. -/
def csrPlaysUptoRow : OpenClaim := { program := "ytebdlefdkadhnaadoor", sum := "66db5525987187337ce057dcee4a8807a418199fe4e1ce5d603e2607d13380f1", func := "vireo/vireolaw08.CsrPlays", spec := "csrPlays", named := ["vireo/csr.registers"], apart := false, laid := [("vireo/csr.registers", laid_vireo_csr_registers)], narrowed := true }
def CsrPlaysUptoSaid : Prop := csrPlaysUptoRow.holds Tryd.pinned (OpenSpec.upto csrPlaysSpec)

/-- 'vireolaw08.CsrReads', WHERE WHAT IT READS IS OF BULK AT MOST 1048576: true; the input reads as it did. -/
def csrReadsUptoRow : OpenClaim := { program := "ytebdlefdkadhnaadoor", sum := "66db5525987187337ce057dcee4a8807a418199fe4e1ce5d603e2607d13380f1", func := "vireo/vireolaw08.CsrReads", spec := "csrReads", named := ["vireo/csr.registers"], apart := false, laid := [("vireo/csr.registers", laid_vireo_csr_registers)], narrowed := true }
def CsrReadsUptoSaid : Prop := csrReadsUptoRow.holds Tryd.pinned (OpenSpec.upto csrReadsSpec)

/-- 'vireolaw08.CsrMay', WHERE WHAT IT READS IS OF BULK AT MOST 1048576: true; the input reads as it did. -/
def csrMayUptoRow : OpenClaim := { program := "ytebdlefdkadhnaadoor", sum := "66db5525987187337ce057dcee4a8807a418199fe4e1ce5d603e2607d13380f1", func := "vireo/vireolaw08.CsrMay", spec := "csrMay", named := ["vireo/csr.registers"], apart := false, laid := [("vireo/csr.registers", laid_vireo_csr_registers)], narrowed := true }
def CsrMayUptoSaid : Prop := csrMayUptoRow.holds Tryd.pinned (OpenSpec.upto csrMaySpec)

/-- 'vireolaw08.CsrNames', WHERE WHAT IT READS IS OF BULK AT MOST 1048576: true; the input reads as it did. -/
def csrNamesUptoRow : OpenClaim := { program := "ytebdlefdkadhnaadoor", sum := "66db5525987187337ce057dcee4a8807a418199fe4e1ce5d603e2607d13380f1", func := "vireo/vireolaw08.CsrNames", spec := "csrNames", named := ["vireo/csr.registers"], apart := false, laid := [("vireo/csr.registers", laid_vireo_csr_registers)], narrowed := true }
def CsrNamesUptoSaid : Prop := csrNamesUptoRow.holds Tryd.pinned (OpenSpec.upto csrNamesSpec)

/-- 'vireolaw08.CsrNumbers', WHERE WHAT IT READS IS OF BULK AT MOST 1048576: true; the input reads as it did. -/
def csrNumbersUptoRow : OpenClaim := { program := "ytebdlefdkadhnaadoor", sum := "66db5525987187337ce057dcee4a8807a418199fe4e1ce5d603e2607d13380f1", func := "vireo/vireolaw08.CsrNumbers", spec := "csrNumbers", named := ["vireo/csr.registers"], apart := false, laid := [("vireo/csr.registers", laid_vireo_csr_registers)], narrowed := true }
def CsrNumbersUptoSaid : Prop := csrNumbersUptoRow.holds Tryd.pinned (OpenSpec.upto csrNumbersSpec)

/-- 'vireolaw08.CsrTwice', WHERE WHAT IT READS IS OF BULK AT MOST 1048576: true; the input reads as it did. -/
def csrTwiceUptoRow : OpenClaim := { program := "ytebdlefdkadhnaadoor", sum := "66db5525987187337ce057dcee4a8807a418199fe4e1ce5d603e2607d13380f1", func := "vireo/vireolaw08.CsrTwice", spec := "csrTwice", named := ["vireo/csr.registers"], apart := false, laid := [("vireo/csr.registers", laid_vireo_csr_registers)], narrowed := true }
def CsrTwiceUptoSaid : Prop := csrTwiceUptoRow.holds Tryd.pinned (OpenSpec.upto csrTwiceSpec)

end Rows
end Go.Proofs.YtebdlefdkadhnaaDoor
