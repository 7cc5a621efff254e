/- Pages as a whole: loaded, stored; the call look of layer 2. -/
import Derived.Test.YthnmoalomodbpaaMh
import Derived.Deep.MidRow
namespace Go.Proofs.Ythnmoalomodbpaa
open Go.RowKit Go.Maps
set_option linter.unusedVariables false
theorem size81 : (Try.prog.info? 98).map (·.size) = some 4096 := by kernel_rfl
theorem pageRow_list (f : Nat → Nat) : (pageRow f).toList = rowK .u8 f 4096 := by simp [pageRow]
theorem pageRow_all (f : Nat → Nat) : ∀ v ∈ (pageRow f).toList, v.oneCell' = true := by rw [pageRow_list]; exact rowK_one _ _ _
theorem run_load81 {w : World} {b : Nat} {f : Nat → Nat} (hb : w.heap[b]? = some (.cells (pageRow f) 98 (0, 0))) : (Instr.loadAt 98 (.pointer (some ⟨b, 0, none⟩))).run Try.prog w = .ok (.agg (pageRow f)) w := by
  have h := run_loadAt_mid (P := Try.prog) w b 0 98 (rowK .u8 f 4096) _ (fun j v hv => ?_) Try.underlying98 rfl (by rw [rowK_length]; exact size81)
  · rw [h, pageRow]
  · obtain ⟨hj, rfl⟩ := rowK_at _ _ _ _ _ hv
    simp only [World.cell?, hb]
    rw [Nat.zero_add]
    exact pageRow_get f j hj
theorem run_store81 {w : World} {g : Nat} {cur : Array Value} (f : Nat → Nat) (hg : w.heap[g]? = some (.cells cur 98 (0, 0))) (hs : cur.size = 4096) : (Instr.storeAt 98 (.pointer (some ⟨g, 0, none⟩)) (.agg (pageRow f))).run Try.prog w = .ok () (w.setRow g (pageRow f)) := by
  have hst := run_storeCells_at Try.prog g 0 98 (pageRow f).toList 0 cur w hg (by rw [pageRow_list, rowK_length]; omega) (pageRow_all f)
  have e : (cur.toList.take (0 + 0) ++ (pageRow f).toList ++ cur.toList.drop (0 + 0 + (pageRow f).toList.length)).toArray = pageRow f := by
    rw [pageRow_list, rowK_length, List.take_zero, List.nil_append, List.drop_eq_nil_of_le (by simp; omega), List.append_nil]
    rfl
  rw [e] at hst
  cases hq : Try.prog.info? 98 with
  | none => have := size81; simp [hq] at this
  | some i =>
    have hi : i.size = 4096 := by have := size81; simpa [hq] using this
    have hne : ¬ (pageRow f).size ≠ 4096 := by rw [pageRow_size]; simp
    simp only [Instr.storeAt, Instr.sureAddr, Sem.run_bind, Sem.run_pure, Result.andThen_ok, storeVar, sizeOf, typeInfo, Value.cells, run_program, hq, hi, hne, if_false, hst]
section
variable {w : World} {ops : Array Oper} {rest : List Oper} {o : Oper} {a : Act} {Q : Exit → Act → World → Prop}
theorem wpList_load81 (hg : o.guard = none) (x : Operand) (hop : o.op = Op.load 98 x) (b : Nat) (f : Nat → Nat) (hx : a.eval x = .pointer (some ⟨b, 0, none⟩)) (hb : w.heap[b]? = some (.cells (pageRow f) 98 (0, 0))) (h : wpList Try.prog ops Q rest (a.put o.dst (.agg (pageRow f))) w) : wpList Try.prog ops Q (o :: rest) a w := by
  refine wpList_plain hg fun K hK => ?_
  unfold Oper.wp
  simp [execOp, hop, hx, run_load81 hb, Result.andThen]
  exact hK _ _ h
theorem wpList_store81 (hg : o.guard = none) (p x : Operand) (hop : o.op = Op.store 98 p x) (g : Nat) (f : Nat → Nat) (cur : Array Value) (hp : a.eval p = .pointer (some ⟨g, 0, none⟩)) (hx : a.eval x = .agg (pageRow f)) (hgg : w.heap[g]? = some (.cells cur 98 (0, 0))) (hs : cur.size = 4096) (h : wpList Try.prog ops Q rest (a.put o.dst undef) (w.setRow g (pageRow f))) : wpList Try.prog ops Q (o :: rest) a w := by
  refine wpList_plain hg fun K hK => ?_
  unfold Oper.wp
  simp [execOp, hop, hp, hx, run_store81 f hgg hs, Result.andThen]
  exact hK _ _ h
end
theorem look_any {w : World} {F : Nat → Prop} {rb size n : Nat} {lg : Value} {M : Nat → Nat} (h : RamAt w F rb size n lg M) (k : Nat) (hk : k < 18446744073709551616) :
    Calls Try.prog 61 #[.pointer (some ⟨rb, 0, none⟩), .int .u64 (k : Nat)] w fun e w' => ∃ b, e = .returned (.pointer (some ⟨b, 0, none⟩)) ∧ w'.heap[b]? = some (.cells (pageRow (fun i => M (k * 4096 + i))) 98 (0, 0)) ∧ Below w.heap.size w w' := by
  obtain ⟨bm, pg, D, h⟩ := h
  have hlk := pages_look h.2.1 h.2.2.1 k hk
  have hc1 := h.cell1
  cases hp : pg k with
  | some b =>
    rw [hp, ptrOf_some] at hlk
    have X : Hid _ := h.2.2.2.1 k b hp
    clear h hp
    go_enter Try.func61, Try.ntmps61
    go_wp2_with (first | (at_lookup; refine wpList_lookup_run rfl _ _ 92 rfl rfl rfl hlk ?_))
    go_ret
    exact ⟨b, rfl, X.out, Below.refl _ _⟩
  | none =>
    rw [hp, ptrOf_none] at hlk
    have X : Hid _ := h.2.2.2.2.1 k hp
    clear h hp
    go_enter Try.func61, Try.ntmps61
    go_wp2_with (first | (at_lookup; refine wpList_lookup_run rfl _ _ 92 rfl rfl rfl hlk ?_) | (refine wpList_alloc81 rfl rfl ?_))
    go_ret
    refine ⟨w.heap.size, rfl, ?_, (Below.refl _ _).alloc (Nat.le_refl _) _⟩
    rw [heap_alloc_new, zeroPage_row, pageRow_congr _ _ (fun i hi => (X.out i hi).symm)]
end Go.Proofs.Ythnmoalomodbpaa
