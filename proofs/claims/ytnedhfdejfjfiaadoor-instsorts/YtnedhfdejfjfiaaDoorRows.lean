/-
  NARROWER THAN 'FOR EVERY INPUT', by the rows' own cells (each row's printed sentence says how): InstEncodes: laid · InstDecodes: laid · InstBack: laid · InstWords: laid · InstUnlike: laid · InstSorts: laid.
  DERIVED. THE GIVEN ROWS OF THIS SEAT. 6 by the template 'for every input the law returns true; each argument reads behind the call as it read before'; 0 by the template 'total and deterministic' (their statements: YtnedhfdejfjfiaaDoorTotals.lean).
  GIVEN WITH THE SEED: the statements are not yours to turn. If you find one false, say at which input.
  Laid BY PROGRAM, IN A SANDBOX (cutbox-rows.mjs): the forced cells as the released guide's own fill.sh prints them over the translation 8c748b0cf0c668f5… (all of the seat's roots in one cut). By AI agents, Wed Nov 11 2026. No macro, syntax, notation, axiom, sorry.
-/
import Derived.Test.YtnedhfdejfjfiaaDoorChecked
import GoSem.Claim
import GoSem.ClaimJoined
import GoSem.ClaimMapViews
import Derived.JoinedTies
import Derived.KernelRfl
namespace Go.Proofs.YtnedhfdejfjfiaaDoor
/- THE CELL 'sum', in the pinned program and in every row, IS THE sha256 OF THE DUMP (.gsa) THAT YtnedhfdejfjfiaaDoorProg.lean LOADS. Nothing in Lean hashes anything: it is a label: what it is worth is what the hold of that sum in a sandbox is worth. -/
noncomputable def Tryd.pinned : Pinned := { name := "ytnedhfdejfjfiaadoor", sum := "8c748b0cf0c668f5af9e0ab7ebc6691247376bc3cd238c622dee0c4e18d2a4ed", checked := Tryd.checked }
namespace Rows
def none {H : Type} : Left H := { results := [], args := [] }

/- WHAT THE LISTED PACKAGE-LEVEL VARIABLES READ AS WHEN THE CALL BEGINS. Each datum BY PROGRAM (the guide's laid-datum.mjs) off the statement by which the dump's own 'gosem.cut.vars' lays the variable. In a bare row this is a premise. The card (YtnedhfdejfjfiaaDoorCards.lean) ties it to the program's text. -/
def laid_vireo_inst_parts {H : Type} : DataW H := .agg [.lit (.int .u8 0), .lit (.int .u8 1), .lit (.int .u8 1), .lit (.int .u8 3), .lit (.int .u8 3), .lit (.int .u8 6), .lit (.int .u8 6), .lit (.int .u8 3), .lit (.int .u8 3), .lit (.int .u8 7), .lit (.int .u8 3), .lit (.int .u8 0), .lit (.int .u8 11), .lit (.int .u8 9), .lit (.int .u8 19), .lit (.int .u8 23), .lit (.int .u8 6)]
def laid_vireo_inst_fixed {H : Type} : DataW H := .agg [.lit (.int .u32 0), .lit (.int .u32 127), .lit (.int .u32 127), .lit (.int .u32 28799), .lit (.int .u32 28799), .lit (.int .u32 28799), .lit (.int .u32 28799), .lit (.int .u32 4227887231), .lit (.int .u32 4261441663), .lit (.int .u32 4261441663), .lit (.int .u32 28799), .lit (.int .u32 4294967295), .lit (.int .u32 28799), .lit (.int .u32 28799), .lit (.int .u32 4193284223), .lit (.int .u32 4160778367), .lit (.int .u32 4261445631)]
def laid_vireo_inst_forms {H : Type} : DataW H := .agg [.lit (.int .u8 0), .lit (.int .u8 1), .lit (.int .u8 1), .lit (.int .u8 2), .lit (.int .u8 3), .lit (.int .u8 5), .lit (.int .u8 5), .lit (.int .u8 5), .lit (.int .u8 5), .lit (.int .u8 5), .lit (.int .u8 5), .lit (.int .u8 4), .lit (.int .u8 4), .lit (.int .u8 4), .lit (.int .u8 4), .lit (.int .u8 4), .lit (.int .u8 4), .lit (.int .u8 4), .lit (.int .u8 6), .lit (.int .u8 6), .lit (.int .u8 6), .lit (.int .u8 6), .lit (.int .u8 3), .lit (.int .u8 3), .lit (.int .u8 3), .lit (.int .u8 3), .lit (.int .u8 3), .lit (.int .u8 3), .lit (.int .u8 7), .lit (.int .u8 7), .lit (.int .u8 7), .lit (.int .u8 9), .lit (.int .u8 9), .lit (.int .u8 9), .lit (.int .u8 9), .lit (.int .u8 9), .lit (.int .u8 9), .lit (.int .u8 9), .lit (.int .u8 9), .lit (.int .u8 9), .lit (.int .u8 9), .lit (.int .u8 3), .lit (.int .u8 8), .lit (.int .u8 8), .lit (.int .u8 8), .lit (.int .u8 9), .lit (.int .u8 9), .lit (.int .u8 9), .lit (.int .u8 9), .lit (.int .u8 9), .lit (.int .u8 10), .lit (.int .u8 10), .lit (.int .u8 11), .lit (.int .u8 11), .lit (.int .u8 12), .lit (.int .u8 12), .lit (.int .u8 12), .lit (.int .u8 13), .lit (.int .u8 13), .lit (.int .u8 13), .lit (.int .u8 9), .lit (.int .u8 9), .lit (.int .u8 9), .lit (.int .u8 9), .lit (.int .u8 9), .lit (.int .u8 9), .lit (.int .u8 9), .lit (.int .u8 9), .lit (.int .u8 9), .lit (.int .u8 9), .lit (.int .u8 9), .lit (.int .u8 9), .lit (.int .u8 9), .lit (.int .u8 14), .lit (.int .u8 15), .lit (.int .u8 15), .lit (.int .u8 15), .lit (.int .u8 15), .lit (.int .u8 15), .lit (.int .u8 15), .lit (.int .u8 15), .lit (.int .u8 15), .lit (.int .u8 15), .lit (.int .u8 15), .lit (.int .u8 14), .lit (.int .u8 15), .lit (.int .u8 15), .lit (.int .u8 15), .lit (.int .u8 15), .lit (.int .u8 15), .lit (.int .u8 15), .lit (.int .u8 15), .lit (.int .u8 15), .lit (.int .u8 15), .lit (.int .u8 15), .lit (.int .u8 11), .lit (.int .u8 11), .lit (.int .u8 11), .lit (.int .u8 16)]
def laid_vireo_inst_words {H : Type} : DataW H := .agg [.lit (.int .u32 0), .lit (.int .u32 55), .lit (.int .u32 23), .lit (.int .u32 111), .lit (.int .u32 103), .lit (.int .u32 99), .lit (.int .u32 4195), .lit (.int .u32 16483), .lit (.int .u32 20579), .lit (.int .u32 24675), .lit (.int .u32 28771), .lit (.int .u32 3), .lit (.int .u32 4099), .lit (.int .u32 8195), .lit (.int .u32 12291), .lit (.int .u32 16387), .lit (.int .u32 20483), .lit (.int .u32 24579), .lit (.int .u32 35), .lit (.int .u32 4131), .lit (.int .u32 8227), .lit (.int .u32 12323), .lit (.int .u32 19), .lit (.int .u32 8211), .lit (.int .u32 12307), .lit (.int .u32 16403), .lit (.int .u32 24595), .lit (.int .u32 28691), .lit (.int .u32 4115), .lit (.int .u32 20499), .lit (.int .u32 1073762323), .lit (.int .u32 51), .lit (.int .u32 1073741875), .lit (.int .u32 4147), .lit (.int .u32 8243), .lit (.int .u32 12339), .lit (.int .u32 16435), .lit (.int .u32 20531), .lit (.int .u32 1073762355), .lit (.int .u32 24627), .lit (.int .u32 28723), .lit (.int .u32 27), .lit (.int .u32 4123), .lit (.int .u32 20507), .lit (.int .u32 1073762331), .lit (.int .u32 59), .lit (.int .u32 1073741883), .lit (.int .u32 4155), .lit (.int .u32 20539), .lit (.int .u32 1073762363), .lit (.int .u32 15), .lit (.int .u32 4111), .lit (.int .u32 115), .lit (.int .u32 1048691), .lit (.int .u32 4211), .lit (.int .u32 8307), .lit (.int .u32 12403), .lit (.int .u32 20595), .lit (.int .u32 24691), .lit (.int .u32 28787), .lit (.int .u32 33554483), .lit (.int .u32 33558579), .lit (.int .u32 33562675), .lit (.int .u32 33566771), .lit (.int .u32 33570867), .lit (.int .u32 33574963), .lit (.int .u32 33579059), .lit (.int .u32 33583155), .lit (.int .u32 33554491), .lit (.int .u32 33570875), .lit (.int .u32 33574971), .lit (.int .u32 33579067), .lit (.int .u32 33583163), .lit (.int .u32 268443695), .lit (.int .u32 402661423), .lit (.int .u32 134225967), .lit (.int .u32 8239), .lit (.int .u32 536879151), .lit (.int .u32 1610620975), .lit (.int .u32 1073750063), .lit (.int .u32 2147491887), .lit (.int .u32 2684362799), .lit (.int .u32 3221233711), .lit (.int .u32 3758104623), .lit (.int .u32 268447791), .lit (.int .u32 402665519), .lit (.int .u32 134230063), .lit (.int .u32 12335), .lit (.int .u32 536883247), .lit (.int .u32 1610625071), .lit (.int .u32 1073754159), .lit (.int .u32 2147495983), .lit (.int .u32 2684366895), .lit (.int .u32 3221237807), .lit (.int .u32 3758108719), .lit (.int .u32 807403635), .lit (.int .u32 270532723), .lit (.int .u32 273678451), .lit (.int .u32 301990003)]
def laid_vireo_inst_names {H : Type} : DataW H := .agg [.lit (.string []), .lit (.string [108, 117, 105]), .lit (.string [97, 117, 105, 112, 99]), .lit (.string [106, 97, 108]), .lit (.string [106, 97, 108, 114]), .lit (.string [98, 101, 113]), .lit (.string [98, 110, 101]), .lit (.string [98, 108, 116]), .lit (.string [98, 103, 101]), .lit (.string [98, 108, 116, 117]), .lit (.string [98, 103, 101, 117]), .lit (.string [108, 98]), .lit (.string [108, 104]), .lit (.string [108, 119]), .lit (.string [108, 100]), .lit (.string [108, 98, 117]), .lit (.string [108, 104, 117]), .lit (.string [108, 119, 117]), .lit (.string [115, 98]), .lit (.string [115, 104]), .lit (.string [115, 119]), .lit (.string [115, 100]), .lit (.string [97, 100, 100, 105]), .lit (.string [115, 108, 116, 105]), .lit (.string [115, 108, 116, 105, 117]), .lit (.string [120, 111, 114, 105]), .lit (.string [111, 114, 105]), .lit (.string [97, 110, 100, 105]), .lit (.string [115, 108, 108, 105]), .lit (.string [115, 114, 108, 105]), .lit (.string [115, 114, 97, 105]), .lit (.string [97, 100, 100]), .lit (.string [115, 117, 98]), .lit (.string [115, 108, 108]), .lit (.string [115, 108, 116]), .lit (.string [115, 108, 116, 117]), .lit (.string [120, 111, 114]), .lit (.string [115, 114, 108]), .lit (.string [115, 114, 97]), .lit (.string [111, 114]), .lit (.string [97, 110, 100]), .lit (.string [97, 100, 100, 105, 119]), .lit (.string [115, 108, 108, 105, 119]), .lit (.string [115, 114, 108, 105, 119]), .lit (.string [115, 114, 97, 105, 119]), .lit (.string [97, 100, 100, 119]), .lit (.string [115, 117, 98, 119]), .lit (.string [115, 108, 108, 119]), .lit (.string [115, 114, 108, 119]), .lit (.string [115, 114, 97, 119]), .lit (.string [102, 101, 110, 99, 101]), .lit (.string [102, 101, 110, 99, 101, 46, 105]), .lit (.string [101, 99, 97, 108, 108]), .lit (.string [101, 98, 114, 101, 97, 107]), .lit (.string [99, 115, 114, 114, 119]), .lit (.string [99, 115, 114, 114, 115]), .lit (.string [99, 115, 114, 114, 99]), .lit (.string [99, 115, 114, 114, 119, 105]), .lit (.string [99, 115, 114, 114, 115, 105]), .lit (.string [99, 115, 114, 114, 99, 105]), .lit (.string [109, 117, 108]), .lit (.string [109, 117, 108, 104]), .lit (.string [109, 117, 108, 104, 115, 117]), .lit (.string [109, 117, 108, 104, 117]), .lit (.string [100, 105, 118]), .lit (.string [100, 105, 118, 117]), .lit (.string [114, 101, 109]), .lit (.string [114, 101, 109, 117]), .lit (.string [109, 117, 108, 119]), .lit (.string [100, 105, 118, 119]), .lit (.string [100, 105, 118, 117, 119]), .lit (.string [114, 101, 109, 119]), .lit (.string [114, 101, 109, 117, 119]), .lit (.string [108, 114, 46, 119]), .lit (.string [115, 99, 46, 119]), .lit (.string [97, 109, 111, 115, 119, 97, 112, 46, 119]), .lit (.string [97, 109, 111, 97, 100, 100, 46, 119]), .lit (.string [97, 109, 111, 120, 111, 114, 46, 119]), .lit (.string [97, 109, 111, 97, 110, 100, 46, 119]), .lit (.string [97, 109, 111, 111, 114, 46, 119]), .lit (.string [97, 109, 111, 109, 105, 110, 46, 119]), .lit (.string [97, 109, 111, 109, 97, 120, 46, 119]), .lit (.string [97, 109, 111, 109, 105, 110, 117, 46, 119]), .lit (.string [97, 109, 111, 109, 97, 120, 117, 46, 119]), .lit (.string [108, 114, 46, 100]), .lit (.string [115, 99, 46, 100]), .lit (.string [97, 109, 111, 115, 119, 97, 112, 46, 100]), .lit (.string [97, 109, 111, 97, 100, 100, 46, 100]), .lit (.string [97, 109, 111, 120, 111, 114, 46, 100]), .lit (.string [97, 109, 111, 97, 110, 100, 46, 100]), .lit (.string [97, 109, 111, 111, 114, 46, 100]), .lit (.string [97, 109, 111, 109, 105, 110, 46, 100]), .lit (.string [97, 109, 111, 109, 97, 120, 46, 100]), .lit (.string [97, 109, 111, 109, 105, 110, 117, 46, 100]), .lit (.string [97, 109, 111, 109, 97, 120, 117, 46, 100]), .lit (.string [109, 114, 101, 116]), .lit (.string [115, 114, 101, 116]), .lit (.string [119, 102, 105]), .lit (.string [115, 102, 101, 110, 99, 101, 46, 118, 109, 97])]

/-- 'vireolaw03.InstEncodes': WHATEVER THE INPUT: true; the input reads as it did. -/
def instEncodesSpec : ChangeSpec := { name := "instEncodes", fn := fun _ => fun
  | [d] => { results := [.lit (.bool true)], args := [d] }
  | _ => none }
def instEncodesRow : OpenClaim := { program := "ytnedhfdejfjfiaadoor", sum := "8c748b0cf0c668f5af9e0ab7ebc6691247376bc3cd238c622dee0c4e18d2a4ed", func := "vireo/vireolaw03.InstEncodes", spec := "instEncodes", named := ["vireo/inst.words", "vireo/inst.forms", "vireo/inst.parts", "vireo/inst.fixed"], apart := false, laid := [("vireo/inst.parts", laid_vireo_inst_parts), ("vireo/inst.fixed", laid_vireo_inst_fixed), ("vireo/inst.forms", laid_vireo_inst_forms), ("vireo/inst.words", laid_vireo_inst_words)] }
def InstEncodesSaid : Prop := instEncodesRow.holds Tryd.pinned (OpenSpec.ofChange instEncodesSpec)

/-- ITS FALSE NEIGHBOUR: 'it returns false'. Refute it at one input. -/
def instEncodesWrong : ChangeSpec := { name := "instEncodes", fn := fun _ => fun
  | [d] => { results := [.lit (.bool false)], args := [d] }
  | _ => none }
def InstEncodesWrongFalsely : Prop := instEncodesRow.holds Tryd.pinned (OpenSpec.ofChange instEncodesWrong)

/-- 'vireolaw03.InstDecodes': WHATEVER THE INPUT: true; the input reads as it did. -/
def instDecodesSpec : ChangeSpec := { name := "instDecodes", fn := fun _ => fun
  | [d] => { results := [.lit (.bool true)], args := [d] }
  | _ => none }
def instDecodesRow : OpenClaim := { program := "ytnedhfdejfjfiaadoor", sum := "8c748b0cf0c668f5af9e0ab7ebc6691247376bc3cd238c622dee0c4e18d2a4ed", func := "vireo/vireolaw03.InstDecodes", spec := "instDecodes", named := ["vireo/inst.words", "vireo/inst.forms", "vireo/inst.parts", "vireo/inst.fixed"], apart := false, laid := [("vireo/inst.parts", laid_vireo_inst_parts), ("vireo/inst.fixed", laid_vireo_inst_fixed), ("vireo/inst.forms", laid_vireo_inst_forms), ("vireo/inst.words", laid_vireo_inst_words)] }
def InstDecodesSaid : Prop := instDecodesRow.holds Tryd.pinned (OpenSpec.ofChange instDecodesSpec)

/-- ITS FALSE NEIGHBOUR: 'it returns false'. Refute it at one input. -/
def instDecodesWrong : ChangeSpec := { name := "instDecodes", fn := fun _ => fun
  | [d] => { results := [.lit (.bool false)], args := [d] }
  | _ => none }
def InstDecodesWrongFalsely : Prop := instDecodesRow.holds Tryd.pinned (OpenSpec.ofChange instDecodesWrong)

/-- 'vireolaw03.InstBack': WHATEVER THE INPUT: true; the input reads as it did. -/
def instBackSpec : ChangeSpec := { name := "instBack", fn := fun _ => fun
  | [d] => { results := [.lit (.bool true)], args := [d] }
  | _ => none }
def instBackRow : OpenClaim := { program := "ytnedhfdejfjfiaadoor", sum := "8c748b0cf0c668f5af9e0ab7ebc6691247376bc3cd238c622dee0c4e18d2a4ed", func := "vireo/vireolaw03.InstBack", spec := "instBack", named := ["vireo/inst.words", "vireo/inst.forms", "vireo/inst.parts", "vireo/inst.fixed"], apart := false, laid := [("vireo/inst.parts", laid_vireo_inst_parts), ("vireo/inst.fixed", laid_vireo_inst_fixed), ("vireo/inst.forms", laid_vireo_inst_forms), ("vireo/inst.words", laid_vireo_inst_words)] }
def InstBackSaid : Prop := instBackRow.holds Tryd.pinned (OpenSpec.ofChange instBackSpec)

/-- ITS FALSE NEIGHBOUR: 'it returns false'. Refute it at one input. -/
def instBackWrong : ChangeSpec := { name := "instBack", fn := fun _ => fun
  | [d] => { results := [.lit (.bool false)], args := [d] }
  | _ => none }
def InstBackWrongFalsely : Prop := instBackRow.holds Tryd.pinned (OpenSpec.ofChange instBackWrong)

/-- 'vireolaw03.InstWords': WHATEVER THE INPUT: true; the input reads as it did. -/
def instWordsSpec : ChangeSpec := { name := "instWords", fn := fun _ => fun
  | [d] => { results := [.lit (.bool true)], args := [d] }
  | _ => none }
def instWordsRow : OpenClaim := { program := "ytnedhfdejfjfiaadoor", sum := "8c748b0cf0c668f5af9e0ab7ebc6691247376bc3cd238c622dee0c4e18d2a4ed", func := "vireo/vireolaw03.InstWords", spec := "instWords", named := ["vireo/inst.words", "vireo/inst.forms", "vireo/inst.parts", "vireo/inst.fixed"], apart := false, laid := [("vireo/inst.parts", laid_vireo_inst_parts), ("vireo/inst.fixed", laid_vireo_inst_fixed), ("vireo/inst.forms", laid_vireo_inst_forms), ("vireo/inst.words", laid_vireo_inst_words)] }
def InstWordsSaid : Prop := instWordsRow.holds Tryd.pinned (OpenSpec.ofChange instWordsSpec)

/-- ITS FALSE NEIGHBOUR: 'it returns false'. Refute it at one input. -/
def instWordsWrong : ChangeSpec := { name := "instWords", fn := fun _ => fun
  | [d] => { results := [.lit (.bool false)], args := [d] }
  | _ => none }
def InstWordsWrongFalsely : Prop := instWordsRow.holds Tryd.pinned (OpenSpec.ofChange instWordsWrong)

/-- 'vireolaw03.InstUnlike': WHATEVER THE INPUT: true; the input reads as it did. -/
def instUnlikeSpec : ChangeSpec := { name := "instUnlike", fn := fun _ => fun
  | [d1, d2] => { results := [.lit (.bool true)], args := [d1, d2] }
  | _ => none }
def instUnlikeRow : OpenClaim := { program := "ytnedhfdejfjfiaadoor", sum := "8c748b0cf0c668f5af9e0ab7ebc6691247376bc3cd238c622dee0c4e18d2a4ed", func := "vireo/vireolaw03.InstUnlike", spec := "instUnlike", named := ["vireo/inst.words", "vireo/inst.forms", "vireo/inst.parts", "vireo/inst.fixed"], apart := false, laid := [("vireo/inst.parts", laid_vireo_inst_parts), ("vireo/inst.fixed", laid_vireo_inst_fixed), ("vireo/inst.forms", laid_vireo_inst_forms), ("vireo/inst.words", laid_vireo_inst_words)] }
def InstUnlikeSaid : Prop := instUnlikeRow.holds Tryd.pinned (OpenSpec.ofChange instUnlikeSpec)

/-- ITS FALSE NEIGHBOUR: 'it returns false'. Refute it at one input. -/
def instUnlikeWrong : ChangeSpec := { name := "instUnlike", fn := fun _ => fun
  | [d1, d2] => { results := [.lit (.bool false)], args := [d1, d2] }
  | _ => none }
def InstUnlikeWrongFalsely : Prop := instUnlikeRow.holds Tryd.pinned (OpenSpec.ofChange instUnlikeWrong)

/-- 'vireolaw03.InstSorts': WHATEVER THE INPUT: true; the input reads as it did. -/
def instSortsSpec : ChangeSpec := { name := "instSorts", fn := fun _ => fun
  | [d1, d2] => { results := [.lit (.bool true)], args := [d1, d2] }
  | _ => none }
def instSortsRow : OpenClaim := { program := "ytnedhfdejfjfiaadoor", sum := "8c748b0cf0c668f5af9e0ab7ebc6691247376bc3cd238c622dee0c4e18d2a4ed", func := "vireo/vireolaw03.InstSorts", spec := "instSorts", named := ["vireo/inst.words", "vireo/inst.forms", "vireo/inst.parts", "vireo/inst.fixed", "vireo/inst.names"], apart := false, laid := [("vireo/inst.parts", laid_vireo_inst_parts), ("vireo/inst.fixed", laid_vireo_inst_fixed), ("vireo/inst.names", laid_vireo_inst_names), ("vireo/inst.forms", laid_vireo_inst_forms), ("vireo/inst.words", laid_vireo_inst_words)] }
def InstSortsSaid : Prop := instSortsRow.holds Tryd.pinned (OpenSpec.ofChange instSortsSpec)

/-- ITS FALSE NEIGHBOUR: 'it returns false'. Refute it at one input. -/
def instSortsWrong : ChangeSpec := { name := "instSorts", fn := fun _ => fun
  | [d1, d2] => { results := [.lit (.bool false)], args := [d1, d2] }
  | _ => none }
def InstSortsWrongFalsely : Prop := instSortsRow.holds Tryd.pinned (OpenSpec.ofChange instSortsWrong)

/- THE SECOND FORM. 'bulk': how many values and letters a reading holds, each counted each time it is reached (what is shared counts as often as it is met; a slice's spare places count too). A statement '..UptoSaid' is the law's where the arguments, and the package variables that the reading takes, are together of bulk at most 1048576: NARROWER than '..Said'. Prove '..Said' where nothing that the law and all that it calls make is longer than what came in: it says more and counts as full. Else prove '..UptoSaid'. A law counts once. -/
mutual
def uptoBulk {H : Type} : DataW H → Nat
  | .lit (.string bytes) => bytes.length + 1
  | .lit _ => 1
  | .nil => 1
  | .ptr d => uptoBulk d + 1
  | .slice elems spare => uptoBulkAll elems + uptoBulkAll spare + 1
  | .agg parts => uptoBulkAll parts + 1
  | .iface _ d => uptoBulk d + 1
  | .map entries => uptoBulkEntries entries + 1
  | .held _ => 1
def uptoBulkAll {H : Type} : List (DataW H) → Nat
  | [] => 0
  | d :: r => uptoBulk d + uptoBulkAll r
def uptoBulkEntries {H : Type} : List (Lit × DataW H) → Nat
  | [] => 0
  | x :: r => uptoBulkEntry x + uptoBulkEntries r
def uptoBulkEntry {H : Type} : Lit × DataW H → Nat
  | (.string bytes, d) => bytes.length + uptoBulk d + 1
  | (_, d) => uptoBulk d + 1
 end
def uptoSmall : (H : Type) → List (DataW H) → Bool := fun _ ds => decide (uptoBulkAll ds ≤ 1048576)
def OpenSpec.upto (s : _root_.Go.ChangeSpec) : _root_.Go.OpenSpec := { _root_.Go.OpenSpec.ofChange s with cond := some uptoSmall }

/-- 'vireolaw03.InstEncodes', WHERE WHAT IT READS IS OF BULK AT MOST 1048576: true; the input reads as it did. -/
def instEncodesUptoRow : OpenClaim := { program := "ytnedhfdejfjfiaadoor", sum := "8c748b0cf0c668f5af9e0ab7ebc6691247376bc3cd238c622dee0c4e18d2a4ed", func := "vireo/vireolaw03.InstEncodes", spec := "instEncodes", named := ["vireo/inst.words", "vireo/inst.forms", "vireo/inst.parts", "vireo/inst.fixed"], apart := false, laid := [("vireo/inst.parts", laid_vireo_inst_parts), ("vireo/inst.fixed", laid_vireo_inst_fixed), ("vireo/inst.forms", laid_vireo_inst_forms), ("vireo/inst.words", laid_vireo_inst_words)], narrowed := true }
def InstEncodesUptoSaid : Prop := instEncodesUptoRow.holds Tryd.pinned (OpenSpec.upto instEncodesSpec)

/-- 'vireolaw03.InstDecodes', WHERE WHAT IT READS IS OF BULK AT MOST 1048576: true; the input reads as it did. -/
def instDecodesUptoRow : OpenClaim := { program := "ytnedhfdejfjfiaadoor", sum := "8c748b0cf0c668f5af9e0ab7ebc6691247376bc3cd238c622dee0c4e18d2a4ed", func := "vireo/vireolaw03.InstDecodes", spec := "instDecodes", named := ["vireo/inst.words", "vireo/inst.forms", "vireo/inst.parts", "vireo/inst.fixed"], apart := false, laid := [("vireo/inst.parts", laid_vireo_inst_parts), ("vireo/inst.fixed", laid_vireo_inst_fixed), ("vireo/inst.forms", laid_vireo_inst_forms), ("vireo/inst.words", laid_vireo_inst_words)], narrowed := true }
def InstDecodesUptoSaid : Prop := instDecodesUptoRow.holds Tryd.pinned (OpenSpec.upto instDecodesSpec)

/-- 'vireolaw03.InstBack', WHERE WHAT IT READS IS OF BULK AT MOST 1048576: true; the input reads as it did. -/
def instBackUptoRow : OpenClaim := { program := "ytnedhfdejfjfiaadoor", sum := "8c748b0cf0c668f5af9e0ab7ebc6691247376bc3cd238c622dee0c4e18d2a4ed", func := "vireo/vireolaw03.InstBack", spec := "instBack", named := ["vireo/inst.words", "vireo/inst.forms", "vireo/inst.parts", "vireo/inst.fixed"], apart := false, laid := [("vireo/inst.parts", laid_vireo_inst_parts), ("vireo/inst.fixed", laid_vireo_inst_fixed), ("vireo/inst.forms", laid_vireo_inst_forms), ("vireo/inst.words", laid_vireo_inst_words)], narrowed := true }
def InstBackUptoSaid : Prop := instBackUptoRow.holds Tryd.pinned (OpenSpec.upto instBackSpec)

/-- 'vireolaw03.InstWords', WHERE WHAT IT READS IS OF BULK AT MOST 1048576: true; the input reads as it did. -/
def instWordsUptoRow : OpenClaim := { program := "ytnedhfdejfjfiaadoor", sum := "8c748b0cf0c668f5af9e0ab7ebc6691247376bc3cd238c622dee0c4e18d2a4ed", func := "vireo/vireolaw03.InstWords", spec := "instWords", named := ["vireo/inst.words", "vireo/inst.forms", "vireo/inst.parts", "vireo/inst.fixed"], apart := false, laid := [("vireo/inst.parts", laid_vireo_inst_parts), ("vireo/inst.fixed", laid_vireo_inst_fixed), ("vireo/inst.forms", laid_vireo_inst_forms), ("vireo/inst.words", laid_vireo_inst_words)], narrowed := true }
def InstWordsUptoSaid : Prop := instWordsUptoRow.holds Tryd.pinned (OpenSpec.upto instWordsSpec)

/-- 'vireolaw03.InstUnlike', WHERE WHAT IT READS IS OF BULK AT MOST 1048576: true; the input reads as it did. -/
def instUnlikeUptoRow : OpenClaim := { program := "ytnedhfdejfjfiaadoor", sum := "8c748b0cf0c668f5af9e0ab7ebc6691247376bc3cd238c622dee0c4e18d2a4ed", func := "vireo/vireolaw03.InstUnlike", spec := "instUnlike", named := ["vireo/inst.words", "vireo/inst.forms", "vireo/inst.parts", "vireo/inst.fixed"], apart := false, laid := [("vireo/inst.parts", laid_vireo_inst_parts), ("vireo/inst.fixed", laid_vireo_inst_fixed), ("vireo/inst.forms", laid_vireo_inst_forms), ("vireo/inst.words", laid_vireo_inst_words)], narrowed := true }
def InstUnlikeUptoSaid : Prop := instUnlikeUptoRow.holds Tryd.pinned (OpenSpec.upto instUnlikeSpec)

/-- 'vireolaw03.InstSorts', WHERE WHAT IT READS IS OF BULK AT MOST 1048576: true; the input reads as it did. -/
def instSortsUptoRow : OpenClaim := { program := "ytnedhfdejfjfiaadoor", sum := "8c748b0cf0c668f5af9e0ab7ebc6691247376bc3cd238c622dee0c4e18d2a4ed", func := "vireo/vireolaw03.InstSorts", spec := "instSorts", named := ["vireo/inst.words", "vireo/inst.forms", "vireo/inst.parts", "vireo/inst.fixed", "vireo/inst.names"], apart := false, laid := [("vireo/inst.parts", laid_vireo_inst_parts), ("vireo/inst.fixed", laid_vireo_inst_fixed), ("vireo/inst.names", laid_vireo_inst_names), ("vireo/inst.forms", laid_vireo_inst_forms), ("vireo/inst.words", laid_vireo_inst_words)], narrowed := true }
def InstSortsUptoSaid : Prop := instSortsUptoRow.holds Tryd.pinned (OpenSpec.upto instSortsSpec)

end Rows
end Go.Proofs.YtnedhfdejfjfiaaDoor
