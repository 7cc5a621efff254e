/- Two pages compared whole. -/
import Derived.Test.YthnmoalomodbpaaCopy
import Derived.ChangeKeysEq
import Derived.Laws.StructEq
namespace Go.Proofs.Ythnmoalomodbpaa
open Go.RowKit Go.Maps
set_option linter.unusedVariables false
def pageEq (f g : Nat → Nat) : Bool := (List.range 4096).all fun i => f i == g i
theorem pageEq_iff (f g : Nat → Nat) : pageEq f g = true ↔ ∀ i, i < 4096 → f i = g i := by simp [pageEq, List.all_eq_true]
theorem plain5 : Try.prog.plainKey 5 = true := by kernel_rfl
theorem under5 : Try.prog.underlying 5 = some (.int .u8) := by kernel_rfl
theorem cells5 : Try.prog.cellsOf 5 = 1 := by kernel_rfl
theorem guard81 : Try.prog.eqGuardType Try.prog.depth 98 = false := by kernel_rfl
theorem run_items (d : Nat) (f g : Nat → Nat) (w : World) : ∀ is : List Nat, (∀ i ∈ is, i < 4096) → (Op.eqItems (d + 1) 5 1 (pageRow f) (pageRow g) is).run Try.prog w = .ok (is.all fun i => f i == g i) w
  | [], _ => by simp [Op.eqItems]
  | i :: is, h => by
    have hi : i < 4096 := h i (by simp)
    have p1 := run_part_plain (P := Try.prog) w plain5 (pageRow_get f i hi)
    have p2 := run_part_plain (P := Try.prog) w plain5 (pageRow_get g i hi)
    have p3 := run_equalIn_int (P := Try.prog) w d 5 .u8 .u8 (f i : Nat) (g i : Nat) under5
    have ih := run_items d f g w is (fun j hj => h j (by simp [hj]))
    have e : ((f i : Int) == (g i : Int)) = (f i == g i) := by rw [Bool.eq_iff_iff]; simp; omega
    rw [e] at p3
    simp only [Op.eqItems, Sem.run_bind, Nat.mul_one, p1, p2, p3, Result.andThen_ok, List.all_cons]
    cases f i == g i
    · simp
    · simpa using ih
theorem run_neq81 (f g : Nat → Nat) (w : World) : (binOp .neq 98 (.agg (pageRow f)) (.agg (pageRow g))).run Try.prog w = .ok (.bool (!pageEq f g)) w := by
  rw [run_neq_struct]
  cases hq : Try.prog.info? 5 with
  | none => have : (Try.prog.info? 5).isSome = true := by kernel_rfl
            simp [hq] at this
  | some i =>
    rw [run_equalIn_array (P := Try.prog) w 9999 (pageRow f) (pageRow g) Try.underlying98 hq, cells5, run_items 9998 f g w _ (by simp)]
    rfl
section
variable {w : World} {ops : Array Oper} {rest : List Oper} {o : Oper} {a : Act} {Q : Exit → Act → World → Prop}
theorem wpList_neq81 (hg : o.guard = none) (x y : Operand) (r : TypeId) (hop : o.op = Op.binOp .neq 98 x y r) (f g : Nat → Nat) (hx : a.eval x = .agg (pageRow f)) (hy : a.eval y = .agg (pageRow g)) (h : wpList Try.prog ops Q rest (a.put o.dst (.bool (!pageEq f g))) w) : wpList Try.prog ops Q (o :: rest) a w := by
  refine wpList_plain hg fun K hK => ?_
  unfold Oper.wp
  simp [execOp, hop, hx, hy, run_neq81 f g, run_eqGuard_agg (P := Try.prog) w _ _ _ _ _ _ guard81, Result.andThen]
  exact hK _ _ h
end
end Go.Proofs.Ythnmoalomodbpaa
