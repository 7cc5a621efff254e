/-
  DERIVED. GIVEN WITH THE SEED: THE PROGRAM's TIES (one call each: nine closed facts by the kernel) AND EACH ROW's TIE, after the 31st guide's Derived/Test/Toyas{Tie, Card}.lean. No idea stands in it: it is a product of the set-up. Laid BY PROGRAM, IN A SANDBOX (cutbox-door.mjs). By AI agents, Wed Nov 11 2026. No macro, syntax, notation, axiom, sorry.
-/
import Derived.Test.YtnedhfdejfjfiaaDoorRows
import Derived.LaidByTextLater
import Derived.SevenTiedAt
import Derived.LaidSub
import Derived.LaidOnce
namespace Go.Proofs.YtnedhfdejfjfiaaDoor
open Go
set_option maxRecDepth 100000
theorem seatTie1 : Tryd.prog.laidByTextLater [("vireo/inst.parts", Rows.laid_vireo_inst_parts), ("vireo/inst.fixed", Rows.laid_vireo_inst_fixed), ("vireo/inst.forms", Rows.laid_vireo_inst_forms), ("vireo/inst.words", Rows.laid_vireo_inst_words)] [.data, .data, .data, .data] true :=
  Program.laidByTextLater_by_one 34 8 100 (by kernel_rfl) (by kernel_rfl) (by kernel_rfl) (by kernel_rfl) (by kernel_rfl) (by kernel_rfl) (fun _ _ => by kernel_rfl)
theorem seatTie2 : Tryd.prog.laidByTextLater [("vireo/inst.parts", Rows.laid_vireo_inst_parts), ("vireo/inst.fixed", Rows.laid_vireo_inst_fixed), ("vireo/inst.names", Rows.laid_vireo_inst_names), ("vireo/inst.forms", Rows.laid_vireo_inst_forms), ("vireo/inst.words", Rows.laid_vireo_inst_words)] [.data, .data, .data, .data, .data] true :=
  Program.laidByTextLater_by_one 34 8 100 (by kernel_rfl) (by kernel_rfl) (by kernel_rfl) (by kernel_rfl) (by kernel_rfl) (by kernel_rfl) (fun _ _ => by kernel_rfl)
theorem noOwnUnsafe : Tryd.pinned.checked.prog.headLifts.contains "ownunsafe" = false := by kernel_rfl
theorem tie : Tryd.prog.laidByTextLater [("vireo/inst.parts", Rows.laid_vireo_inst_parts), ("vireo/inst.fixed", Rows.laid_vireo_inst_fixed), ("vireo/inst.forms", Rows.laid_vireo_inst_forms), ("vireo/inst.words", Rows.laid_vireo_inst_words)] [.data, .data, .data, .data] true :=
  Program.laidByTextLater.sub seatTie1 ["vireo/inst.parts", "vireo/inst.fixed", "vireo/inst.forms", "vireo/inst.words"] (by kernel_rfl) (by kernel_rfl)
theorem instEncodes_row_tie : Rows.instEncodesRow.laidByTextAt .later Tryd.pinned [.data, .data, .data, .data] true :=
  OpenClaim.laidByTextAt_later rfl rfl tie noOwnUnsafe
theorem instDecodes_row_tie : Rows.instDecodesRow.laidByTextAt .later Tryd.pinned [.data, .data, .data, .data] true :=
  OpenClaim.laidByTextAt_later rfl rfl tie noOwnUnsafe
theorem instBack_row_tie : Rows.instBackRow.laidByTextAt .later Tryd.pinned [.data, .data, .data, .data] true :=
  OpenClaim.laidByTextAt_later rfl rfl tie noOwnUnsafe
theorem instWords_row_tie : Rows.instWordsRow.laidByTextAt .later Tryd.pinned [.data, .data, .data, .data] true :=
  OpenClaim.laidByTextAt_later rfl rfl tie noOwnUnsafe
theorem instUnlike_row_tie : Rows.instUnlikeRow.laidByTextAt .later Tryd.pinned [.data, .data, .data, .data] true :=
  OpenClaim.laidByTextAt_later rfl rfl tie noOwnUnsafe
theorem tie2 : Tryd.prog.laidByTextLater [("vireo/inst.parts", Rows.laid_vireo_inst_parts), ("vireo/inst.fixed", Rows.laid_vireo_inst_fixed), ("vireo/inst.names", Rows.laid_vireo_inst_names), ("vireo/inst.forms", Rows.laid_vireo_inst_forms), ("vireo/inst.words", Rows.laid_vireo_inst_words)] [.data, .data, .data, .data, .data] true :=
  Program.laidByTextLater.sub seatTie2 ["vireo/inst.parts", "vireo/inst.fixed", "vireo/inst.names", "vireo/inst.forms", "vireo/inst.words"] (by kernel_rfl) (by kernel_rfl)
theorem instSorts_row_tie : Rows.instSortsRow.laidByTextAt .later Tryd.pinned [.data, .data, .data, .data, .data] true :=
  OpenClaim.laidByTextAt_later rfl rfl tie2 noOwnUnsafe
theorem instEncodesUpto_row_tie : Rows.instEncodesUptoRow.laidByTextAt .later Tryd.pinned [.data, .data, .data, .data] true :=
  OpenClaim.laidByTextAt_later rfl rfl tie noOwnUnsafe
theorem instDecodesUpto_row_tie : Rows.instDecodesUptoRow.laidByTextAt .later Tryd.pinned [.data, .data, .data, .data] true :=
  OpenClaim.laidByTextAt_later rfl rfl tie noOwnUnsafe
theorem instBackUpto_row_tie : Rows.instBackUptoRow.laidByTextAt .later Tryd.pinned [.data, .data, .data, .data] true :=
  OpenClaim.laidByTextAt_later rfl rfl tie noOwnUnsafe
theorem instWordsUpto_row_tie : Rows.instWordsUptoRow.laidByTextAt .later Tryd.pinned [.data, .data, .data, .data] true :=
  OpenClaim.laidByTextAt_later rfl rfl tie noOwnUnsafe
theorem instUnlikeUpto_row_tie : Rows.instUnlikeUptoRow.laidByTextAt .later Tryd.pinned [.data, .data, .data, .data] true :=
  OpenClaim.laidByTextAt_later rfl rfl tie noOwnUnsafe
theorem instSortsUpto_row_tie : Rows.instSortsUptoRow.laidByTextAt .later Tryd.pinned [.data, .data, .data, .data, .data] true :=
  OpenClaim.laidByTextAt_later rfl rfl tie2 noOwnUnsafe
end Go.Proofs.YtnedhfdejfjfiaaDoor
