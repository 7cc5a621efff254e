/- The document's call Rows of layer 3. -/
import Derived.Test.YtooaafbdjnlmfaaDoorDocRows
namespace Go.Proofs.YtooaafbdjnlmfaaDoor
open Go.RowKit
set_option linter.unusedVariables false
set_option linter.unusedSimpArgs false
section
variable {w : World} {ops : Array Oper} {rest : List Oper} {o : Oper} {a : Act} {Q : Exit → Act → World → Prop}
theorem wpList_assign_at (hg : o.guard = none) (x : Operand) (v : Value) (hop : o.op = Op.assign x) (hx : a.eval x = v) (h : wpList Tryd.prog ops Q rest (a.put o.dst v) w) : wpList Tryd.prog ops Q (o :: rest) a w := by
  refine wpList_plain hg fun K hK => ?_
  unfold Oper.wp
  simp only [execOp, hop, hx, Sem.run_pure, Result.andThen_ok]
  exact hK _ _ h
end
set_option maxRecDepth 100000 in
theorem rows_any (w : World) : Calls Tryd.prog 34 #[] w fun e w' => e = .returned (.slice (some ⟨w.heap.size, 0, none⟩) 98 98) ∧ w' = w.alloc (.cells dCells.toArray 35) := by
  go_enter Tryd.func34, Tryd.ntmps34
  refine wp_seq_k fun K hK => ?_
  refine wp_region_list ?_
  refine wpList_assign_const rfl _ rfl ?_
  show K _ _
  refine hK _ _ ?_
  clear hK
  refine wp_seq_k fun K1 hK1 => ?_
  refine wp_region_lit ?_
  iterate 98 (refine wpList_build72 rfl _ _ _ _ _ rfl ?_)
  refine wpList_rows rfl _ rfl (by kernel_rfl) ?_
  refine wpList_assign_at rfl _ (.slice (some ⟨w.heap.size, 0, none⟩) 98 98) rfl rfl ?_
  show K1 _ _
  refine hK1 _ _ ?_
  clear hK1
  generalize w.alloc (.cells dCells.toArray 35) = w1
  refine wp_ret ?_
  refine bodyPost_ret (v := .slice (some ⟨w.heap.size, 0, none⟩) 98 98) ?_ rfl ⟨rfl, rfl⟩
  kernel_rfl
end Go.Proofs.YtooaafbdjnlmfaaDoor
