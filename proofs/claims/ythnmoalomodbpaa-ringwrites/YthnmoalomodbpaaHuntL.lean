/- The call unlike of layer 2: laws for pages in an open order. -/
import Derived.Test.YthnmoalomodbpaaSort
import Derived.Deep.RegionHeld3
namespace Go.Proofs.Ythnmoalomodbpaa
open Go.RowKit Go.Maps
set_option linter.unusedVariables false
/-- the pages with that number differ -/
def Apart (Ma Mb : Nat → Nat) (k : Nat) : Prop := ∃ i, i < 4096 ∧ Ma (k * 4096 + i) ≠ Mb (k * 4096 + i)
theorem apart_iff (Ma Mb : Nat → Nat) (k : Nat) : pageEq (fun i => Ma (k * 4096 + i)) (fun i => Mb (k * 4096 + i)) = false ↔ Apart Ma Mb k := by
  rw [Bool.eq_false_iff, Ne, pageEq_iff]
  unfold Apart
  constructor
  · intro h
    refine Classical.byContradiction fun hn => h fun i hi => Classical.byContradiction fun hc => hn ⟨i, hi, hc⟩
  · rintro ⟨i, hi, hne⟩ h
    exact hne (h i hi)
theorem yield81 {w : World} {o : Oper} {a : Act} {c : Nat} {f : Nat → Nat} (hw : w.heap[c]? = some (.cells (pageRow f) 98 (0, 0))) (x : Operand) (hop : o.op = Op.load 98 x) (hx : a.eval x = .pointer (some ⟨c, 0, none⟩)) : (execOp a.eval o).run Try.prog w = .ok (.value (.agg (pageRow f))) w := by
  simp [execOp, hop, hx, run_load81 hw, Result.andThen]
section
variable {w : World} {o : Oper} {a : Act} {K : Act → World → Prop} {Q : Exit → Act → World → Prop}
theorem wp_load81 (x : Operand) (hop : o.op = Op.load 98 x) (b : Nat) (f : Nat → Nat) (hx : a.eval x = .pointer (some ⟨b, 0, none⟩)) (hb : w.heap[b]? = some (.cells (pageRow f) 98 (0, 0))) (h : K (a.put o.dst (.agg (pageRow f))) w) : Oper.wp Try.prog o a w K Q := by
  unfold Oper.wp
  simp [execOp, hop, hx, run_load81 hb, Result.andThen]
  exact h
theorem wp_neq81 (x y : Operand) (r : TypeId) (hop : o.op = Op.binOp .neq 98 x y r) (f g : Nat → Nat) (hx : a.eval x = .agg (pageRow f)) (hy : a.eval y = .agg (pageRow g)) (h : K (a.put o.dst (.bool (!pageEq f g))) w) : Oper.wp Try.prog o a w K Q := by
  unfold Oper.wp
  simp [execOp, hop, hx, hy, run_neq81 f g, run_eqGuard_agg (P := Try.prog) w _ _ _ _ _ _ guard81, Result.andThen]
  exact h
theorem wp_call41 (x y : Operand) (hop : o.op = Op.call { callee := .value (.func 61), args := #[x, y], argTypes := #[26, 22] }) (vx vy : Value) (hx : a.eval x = vx) (hy : a.eval y = vy) (R : Ending → World → Prop) (h : Calls Try.prog 61 #[vx, vy] w R) (hR : ∀ e w', R e w' → ∃ v, e = .returned v ∧ K (a.put o.dst v) w') : Oper.wp Try.prog o a w K Q := by
  unfold Oper.wp
  subst hx hy
  have hf : a.eval (.func 61) = Value.func (Fn.func 61) #[] #[] := rfl
  generalize a.eval = ρ at h hf ⊢
  simp [execOp, hop, resolve, Deferred.ofValue, hf, go_sem]
  refine Calls.mono h ?_
  intro e w' hr
  obtain ⟨v, rfl, hk⟩ := hR e w' hr
  exact hk
end
section
variable {w : World} {ops : Array Oper} {rest : List Oper} {o : Oper} {a : Act} {Q : Exit → Act → World → Prop}
theorem wpList_of_wp (hw : Region.wanted o (yielded ops a.tmps) = true) (h : ∀ K : Act → World → Prop, (∀ a w, wpList Try.prog ops Q rest a w → K a w) → o.wp Try.prog a w K Q) : wpList Try.prog ops Q (o :: rest) a w :=
  wpList_step fun K hK => by rw [if_pos hw]; exact h K hK
theorem wpList_gload81 (x : Operand) (hop : o.op = Op.load 98 x) (hw : Region.wanted o (yielded ops a.tmps) = true) (b : Nat) (f : Nat → Nat) (hx : a.eval x = .pointer (some ⟨b, 0, none⟩)) (hb : w.heap[b]? = some (.cells (pageRow f) 98 (0, 0))) (h : wpList Try.prog ops Q rest (a.put o.dst (.agg (pageRow f))) w) : wpList Try.prog ops Q (o :: rest) a w :=
  wpList_of_wp hw fun K hK => wp_load81 x hop b f hx hb (hK _ _ h)
theorem wpList_gneq81 (x y : Operand) (r : TypeId) (hop : o.op = Op.binOp .neq 98 x y r) (hw : Region.wanted o (yielded ops a.tmps) = true) (f g : Nat → Nat) (hx : a.eval x = .agg (pageRow f)) (hy : a.eval y = .agg (pageRow g)) (h : wpList Try.prog ops Q rest (a.put o.dst (.bool (!pageEq f g))) w) : wpList Try.prog ops Q (o :: rest) a w :=
  wpList_of_wp hw fun K hK => wp_neq81 x y r hop f g hx hy (hK _ _ h)
theorem run_build81 (w : World) : (Instr.build 98 #[]).run Try.prog w = .ok (.agg (pageRow (fun _ => 0))) w := by
  have h := zero81
  have h5 : (sizeOf 5).run Try.prog w = .ok 1 w := by kernel_rfl
  cases hq : Try.prog.info? 98 with
  | none => simp [hq] at h
  | some i =>
    have hz : i.zero = some (.agg zeroPage) := by simp [hq] at h; exact h.1
    have hzv : (zeroValue 98).run Try.prog w = .ok (.agg zeroPage) w := by simp [zeroValue, typeInfo, hq, hz]
    have hu : Try.prog.underlying 98 = some (.array 4096 5) := Try.underlying98
    simp only [Instr.build, Sem.run_bind, hzv, Result.andThen_ok, run_underlying hu, h5, Value.cells, Instr.fill, Sem.run_pure, zeroPage_row]
theorem wpList_gbuild81 (hop : o.op = Op.build 98 #[]) (hw : Region.wanted o (yielded ops a.tmps) = true) (h : wpList Try.prog ops Q rest (a.put o.dst (.agg (pageRow (fun _ => 0)))) w) : wpList Try.prog ops Q (o :: rest) a w :=
  wpList_of_wp hw fun K hK => by
    unfold Oper.wp
    simp [execOp, hop, run_build81, Result.andThen]
    exact hK _ _ h
end
end Go.Proofs.Ythnmoalomodbpaa
