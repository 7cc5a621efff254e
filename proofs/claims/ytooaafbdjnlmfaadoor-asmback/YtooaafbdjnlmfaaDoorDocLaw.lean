/- A law for the document's rows: a row of constants is built. -/
import Derived.Test.YtooaafbdjnlmfaaDoorDocHas
namespace Go.Proofs.YtooaafbdjnlmfaaDoor
open Go.RowKit
set_option linter.unusedVariables false
set_option linter.unusedSimpArgs false
section
variable {w : World} {ops : Array Oper} {rest : List Oper} {o : Oper} {a : Act} {Q : Exit → Act → World → Prop}
theorem wpList_build72 (hg : o.guard = none) (s : ByteArray) (z1 z2 z3 z4 : Int) (hop : o.op = Op.build 35 #[(0, .const (.string s)), (1, .const (.int .i64 z1)), (2, .const (.int .i64 z2)), (3, .const (.int .i64 z3)), (4, .const (.int .i64 z4))]) (h : wpList Tryd.prog ops Q rest (a.put o.dst (.agg #[.string s, .int .i64 z1, .int .i64 z2, .int .i64 z3, .int .i64 z4])) w) : wpList Tryd.prog ops Q (o :: rest) a w := by
  refine wpList_plain hg fun K hK => ?_
  unfold Oper.wp
  simp [execOp, hop, go_sem, Act.eval]
  exact hK _ _ h
theorem wpList_assign_const (hg : o.guard = none) (v : Value) (hop : o.op = Op.assign (.const v)) (h : wpList Tryd.prog ops Q rest (a.put o.dst v) w) : wpList Tryd.prog ops Q (o :: rest) a w := by
  refine wpList_plain hg fun K hK => ?_
  unfold Oper.wp
  simp [execOp, hop, go_sem, Act.eval]
  exact hK _ _ h
end
end Go.Proofs.YtooaafbdjnlmfaaDoor
