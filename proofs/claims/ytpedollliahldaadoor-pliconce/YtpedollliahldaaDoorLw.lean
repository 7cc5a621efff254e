/- Laws at single operations: whole states and rows of marks are loaded, stored and made. -/
import Derived.Test.YtpedollliahldaaDoorPa
import Derived.Laws.Tables
import Derived.Laws.Rows
namespace Go.Proofs.YtpedollliahldaaDoor
open Go.RowKit
set_option linter.unusedVariables false
set_option linter.unusedSimpArgs false
set_option maxRecDepth 100000
/-- as it begins -/
def zeroS : St := ⟨fun _ => 0, 0, 0, 0, fun _ => 0, fun _ => 0⟩
theorem zeroS_ok : zeroS.Ok := by refine ⟨fun _ => ?_, ?_, ?_, ?_, fun _ => ?_, fun _ => ?_⟩ <;> simp [zeroS]
/-- a row of marks -/
def marksC (x : Nat) : Array Value := rowC (fun i => .bool (x.testBit i)) 32
theorem marksC_one (x : Nat) : (marksC x).all (·.oneCell') = true := rowC_one _ _ fun _ _ => rfl
theorem progC_size (S : St) : (progC S).size = 39 := rowC_size _ _
theorem docC_size (S : St) : (docC S).size = 194 := rowC_size _ _
theorem marksC_size (x : Nat) : (marksC x).size = 32 := rowC_size _ _
theorem infoz28 : (Tryd.prog.info? 28).map (fun i => (i.zero, i.size)) = some (some (.agg (progC zeroS)), 39) := by kernel_rfl
theorem infoz34 : (Tryd.prog.info? 34).map (fun i => (i.zero, i.size)) = some (some (.agg (docC zeroS)), 194) := by kernel_rfl
theorem infoz30 : (Tryd.prog.info? 30).map (fun i => (i.zero, i.size)) = some (some (.agg (marksC 0)), 32) := by kernel_rfl
theorem info28 (S : St) : (Tryd.prog.info? 28).map (·.size) = some (progC S).size := by rw [progC_size]; kernel_rfl
theorem info34 (S : St) : (Tryd.prog.info? 34).map (·.size) = some (docC S).size := by rw [docC_size]; kernel_rfl
theorem info30 (x : Nat) : (Tryd.prog.info? 30).map (·.size) = some (marksC x).size := by rw [marksC_size]; kernel_rfl
theorem upon_row {b : Nat} {w w' : World} (h : Upon b w w') (d : Array Value) : Upon b w (w'.setRow b d) := ⟨⟨h.1.os, h.1.tape, h.1.output, by rw [setRow_size]; exact h.1.size, fun k hk => absurd hk (Nat.not_lt_zero _)⟩, fun k hk hb => (setRow_other w' b k d hb).trans (h.2 k hk hb)⟩
theorem run_alloc_zero (t : TypeId) (c : Array Value) (n : Nat) (h : (Tryd.prog.info? t).map (fun i => (i.zero, i.size)) = some (some (.agg c), n)) (w : World) : (Instr.alloc t true (.tuple #[])).run Tryd.prog w = .ok (.pointer (some ⟨w.heap.size, 0, none⟩)) (w.alloc (.cells c t)) := by
  cases hq : Tryd.prog.info? t with
  | none => simp [hq] at h
  | some i =>
    have hz : i.zero = some (.agg c) := by simp [hq] at h; exact h.1
    simp [Instr.alloc, zeroValue, typeInfo, hq, hz, newVar, newRow, Value.cells]
section
variable {w : World} {ops : Array Oper} {rest : List Oper} {o : Oper} {a : Act} {Q : Exit → Act → World → Prop}
theorem wpList_want (hw : Region.wanted o (yielded ops a.tmps) = true) (h : ∀ KK : Act → World → Prop, (∀ a w, wpList Tryd.prog ops Q rest a w → KK a w) → o.wp Tryd.prog a w KK Q) : wpList Tryd.prog ops Q (o :: rest) a w :=
  wpList_step fun KK hKK => by rw [if_pos hw]; exact h KK hKK
theorem wpList_alloc_zero (t : TypeId) (c : Array Value) (n : Nat) (hi : (Tryd.prog.info? t).map (fun i => (i.zero, i.size)) = some (some (.agg c), n)) (hg : o.guard = none) (hop : o.op = Op.alloc t) (h : wpList Tryd.prog ops Q rest (a.put o.dst (.pointer (some ⟨w.heap.size, 0, none⟩))) (w.alloc (.cells c t))) : wpList Tryd.prog ops Q (o :: rest) a w := by
  refine wpList_plain hg fun K hK => ?_
  unfold Oper.wp
  simp [execOp, hop, run_alloc_zero t c n hi w, Result.andThen]
  exact hK _ _ h
theorem wpList_box_agg (t : TypeId) (c : Array Value) (x : Operand) (hg : o.guard = none) (hop : o.op = Op.box t x) (hx : a.eval x = .agg c) (h : wpList Tryd.prog ops Q rest (a.put o.dst (.pointer (some ⟨w.heap.size, 0, none⟩))) (w.alloc (.cells c t))) : wpList Tryd.prog ops Q (o :: rest) a w := by
  refine wpList_plain hg fun K hK => ?_
  unfold Oper.wp
  simp [execOp, hop, hx, Instr.box, newVar, newRow, Value.cells, Result.andThen]
  exact hK _ _ h
theorem wpList_extract_at (hg : o.guard = none) (x : Operand) (i : Nat) (vs : Array Value) (v : Value) (hop : o.op = Op.extract x i) (hx : a.eval x = .tuple vs) (hv : vs[i]? = some v) (h : wpList Tryd.prog ops Q rest (a.put o.dst v) w) : wpList Tryd.prog ops Q (o :: rest) a w := by
  refine wpList_plain hg fun KK hKK => ?_
  unfold Oper.wp
  simp only [execOp, hop, hx]
  simp [hv, Instr.extract, go_sem]
  exact hKK _ _ h
theorem wpList_load_prog (hg : o.guard = none) (x : Operand) (ho : o.op = .load 28 x) (b : Nat) (S : St) (hx : a.eval x = .pointer (some ⟨b, 0, none⟩)) (hb : Box 28 w b (progC S))
    (h : wpList Tryd.prog ops Q rest (a.put o.dst (.agg (progC S))) w) : wpList Tryd.prog ops Q (o :: rest) a w :=
  wpList_load_row hg 28 x ho b hx 28 _ (0, 0) _ hb Tryd.underlying28 rfl (info28 S) h
theorem wpList_load_progG (hw : Region.wanted o (yielded ops a.tmps) = true) (x : Operand) (ho : o.op = .load 28 x) (b : Nat) (S : St) (hx : a.eval x = .pointer (some ⟨b, 0, none⟩)) (hb : Box 28 w b (progC S))
    (h : wpList Tryd.prog ops Q rest (a.put o.dst (.agg (progC S))) w) : wpList Tryd.prog ops Q (o :: rest) a w :=
  wpList_want hw fun KK hKK => wp_load_row 28 x ho b hx 28 _ (0, 0) _ hb Tryd.underlying28 rfl (info28 S) (hKK _ _ h)
theorem wpList_store_prog (hg : o.guard = none) (x y : Operand) (ho : o.op = .store 28 x y) (b : Nat) (S : St) (old : Array Value) (hx : a.eval x = .pointer (some ⟨b, 0, none⟩)) (hy : a.eval y = .agg (progC S)) (hb : Box 28 w b old) (hs : old.size = (progC S).size)
    (h : ∀ W, Box 28 W b (progC S) → Upon b w W → wpList Tryd.prog ops Q rest (a.put o.dst undef) W) : wpList Tryd.prog ops Q (o :: rest) a w :=
  wpList_store_row hg 28 x y ho b (progC S) hx hy 28 old hb (info28 S) hs (progC_one S) (h _ (setRow_heap w b old _ 28 (0, 0) hb) (upon_row (Upon.refl _ _) _))
theorem wpList_load_doc (hg : o.guard = none) (x : Operand) (ho : o.op = .load 34 x) (b : Nat) (S : St) (hx : a.eval x = .pointer (some ⟨b, 0, none⟩)) (hb : Box 34 w b (docC S))
    (h : wpList Tryd.prog ops Q rest (a.put o.dst (.agg (docC S))) w) : wpList Tryd.prog ops Q (o :: rest) a w :=
  wpList_load_row hg 34 x ho b hx 34 _ (0, 0) _ hb Tryd.underlying34 rfl (info34 S) h
theorem wpList_load_docG (hw : Region.wanted o (yielded ops a.tmps) = true) (x : Operand) (ho : o.op = .load 34 x) (b : Nat) (S : St) (hx : a.eval x = .pointer (some ⟨b, 0, none⟩)) (hb : Box 34 w b (docC S))
    (h : wpList Tryd.prog ops Q rest (a.put o.dst (.agg (docC S))) w) : wpList Tryd.prog ops Q (o :: rest) a w :=
  wpList_want hw fun KK hKK => wp_load_row 34 x ho b hx 34 _ (0, 0) _ hb Tryd.underlying34 rfl (info34 S) (hKK _ _ h)
theorem wpList_store_doc (hg : o.guard = none) (x y : Operand) (ho : o.op = .store 34 x y) (b : Nat) (S : St) (old : Array Value) (hx : a.eval x = .pointer (some ⟨b, 0, none⟩)) (hy : a.eval y = .agg (docC S)) (hb : Box 34 w b old) (hs : old.size = (docC S).size)
    (h : ∀ W, Box 34 W b (docC S) → Upon b w W → wpList Tryd.prog ops Q rest (a.put o.dst undef) W) : wpList Tryd.prog ops Q (o :: rest) a w :=
  wpList_store_row hg 34 x y ho b (docC S) hx hy 34 old hb (info34 S) hs (docC_one S) (h _ (setRow_heap w b old _ 34 (0, 0) hb) (upon_row (Upon.refl _ _) _))
theorem wpList_load_marks (hg : o.guard = none) (x : Operand) (ho : o.op = .load 30 x) (b : Nat) (m : Nat) (hx : a.eval x = .pointer (some ⟨b, 0, none⟩)) (hb : Box 30 w b (marksC m))
    (h : wpList Tryd.prog ops Q rest (a.put o.dst (.agg (marksC m))) w) : wpList Tryd.prog ops Q (o :: rest) a w :=
  wpList_load_row hg 30 x ho b hx 30 _ (0, 0) _ hb Tryd.underlying30 rfl (info30 m) h
theorem wpList_load_marksG (hw : Region.wanted o (yielded ops a.tmps) = true) (x : Operand) (ho : o.op = .load 30 x) (b : Nat) (m : Nat) (hx : a.eval x = .pointer (some ⟨b, 0, none⟩)) (hb : Box 30 w b (marksC m))
    (h : wpList Tryd.prog ops Q rest (a.put o.dst (.agg (marksC m))) w) : wpList Tryd.prog ops Q (o :: rest) a w :=
  wpList_want hw fun KK hKK => wp_load_row 30 x ho b hx 30 _ (0, 0) _ hb Tryd.underlying30 rfl (info30 m) (hKK _ _ h)
theorem wpList_store_marks (hg : o.guard = none) (x y : Operand) (ho : o.op = .store 30 x y) (b : Nat) (m : Nat) (old : Array Value) (hx : a.eval x = .pointer (some ⟨b, 0, none⟩)) (hy : a.eval y = .agg (marksC m)) (hb : Box 30 w b old) (hs : old.size = (marksC m).size)
    (h : ∀ W, Box 30 W b (marksC m) → Upon b w W → wpList Tryd.prog ops Q rest (a.put o.dst undef) W) : wpList Tryd.prog ops Q (o :: rest) a w :=
  wpList_store_row hg 30 x y ho b (marksC m) hx hy 30 old hb (info30 m) hs (marksC_one m) (h _ (setRow_heap w b old _ 30 (0, 0) hb) (upon_row (Upon.refl _ _) _))
end
section
variable {w : World} {o : Oper} {a : Act} {KK : Act → World → Prop} {Q : Exit → Act → World → Prop}
theorem wp_load_prog (x : Operand) (ho : o.op = .load 28 x) (b : Nat) (S : St) (hx : a.eval x = .pointer (some ⟨b, 0, none⟩)) (hb : Box 28 w b (progC S)) (h : KK (a.put o.dst (.agg (progC S))) w) : o.wp Tryd.prog a w KK Q :=
  wp_load_row 28 x ho b hx 28 _ (0, 0) _ hb Tryd.underlying28 rfl (info28 S) h
theorem wp_store_prog (x y : Operand) (ho : o.op = .store 28 x y) (b : Nat) (S : St) (old : Array Value) (hx : a.eval x = .pointer (some ⟨b, 0, none⟩)) (hy : a.eval y = .agg (progC S)) (hb : Box 28 w b old) (hs : old.size = (progC S).size)
    (h : ∀ W, Box 28 W b (progC S) → Upon b w W → KK (a.put o.dst undef) W) : o.wp Tryd.prog a w KK Q :=
  wp_store_row 28 x y ho b (progC S) hx hy 28 old hb (info28 S) hs (progC_one S) (h _ (setRow_heap w b old _ 28 (0, 0) hb) (upon_row (Upon.refl _ _) _))
theorem wp_load_doc (x : Operand) (ho : o.op = .load 34 x) (b : Nat) (S : St) (hx : a.eval x = .pointer (some ⟨b, 0, none⟩)) (hb : Box 34 w b (docC S)) (h : KK (a.put o.dst (.agg (docC S))) w) : o.wp Tryd.prog a w KK Q :=
  wp_load_row 34 x ho b hx 34 _ (0, 0) _ hb Tryd.underlying34 rfl (info34 S) h
theorem wp_store_doc (x y : Operand) (ho : o.op = .store 34 x y) (b : Nat) (S : St) (old : Array Value) (hx : a.eval x = .pointer (some ⟨b, 0, none⟩)) (hy : a.eval y = .agg (docC S)) (hb : Box 34 w b old) (hs : old.size = (docC S).size)
    (h : ∀ W, Box 34 W b (docC S) → Upon b w W → KK (a.put o.dst undef) W) : o.wp Tryd.prog a w KK Q :=
  wp_store_row 34 x y ho b (docC S) hx hy 34 old hb (info34 S) hs (docC_one S) (h _ (setRow_heap w b old _ 34 (0, 0) hb) (upon_row (Upon.refl _ _) _))
end
theorem load_prog {w : World} {b : Nat} {S : St} (h : Box 28 w b (progC S)) : (loadVar 28 ⟨b, 0, none⟩).run Tryd.prog w = .ok (.agg (progC S)) w := run_loadVar_row w b 28 28 _ (0, 0) _ h Tryd.underlying28 rfl (info28 S)
theorem yield_prog {w : World} {o : Oper} {a : Act} {b : Nat} {S : St} (hw : Box 28 w b (progC S)) (x : Operand) (hop : o.op = Op.load 28 x) (hx : a.eval x = .pointer (some ⟨b, 0, none⟩)) : (execOp a.eval o).run Tryd.prog w = .ok (.value (.agg (progC S))) w := by
  simp only [execOp, hop, hx, Instr.loadAt, Instr.sureAddr, Sem.run_bind, Sem.run_pure, Result.andThen_ok, load_prog hw]
theorem load_doc {w : World} {b : Nat} {S : St} (h : Box 34 w b (docC S)) : (loadVar 34 ⟨b, 0, none⟩).run Tryd.prog w = .ok (.agg (docC S)) w := run_loadVar_row w b 34 34 _ (0, 0) _ h Tryd.underlying34 rfl (info34 S)
theorem yield_doc {w : World} {o : Oper} {a : Act} {b : Nat} {S : St} (hw : Box 34 w b (docC S)) (x : Operand) (hop : o.op = Op.load 34 x) (hx : a.eval x = .pointer (some ⟨b, 0, none⟩)) : (execOp a.eval o).run Tryd.prog w = .ok (.value (.agg (docC S))) w := by
  simp only [execOp, hop, hx, Instr.loadAt, Instr.sureAddr, Sem.run_bind, Sem.run_pure, Result.andThen_ok, load_doc hw]
/-- a row of marks within a block -/
theorem run_load_marks (w : World) (b off x : Nat) (hc : ∀ i, i < 32 → w.cell? ⟨b, off + i, none⟩ = some (.bool (x.testBit i))) : (loadVar 30 ⟨b, off, none⟩).run Tryd.prog w = .ok (.agg (marksC x)) w := by
  have hl : (loadCells ⟨b, off, none⟩ (marksC x).toList.length).run Tryd.prog w = .ok (marksC x).toList.toArray w :=
    run_loadCells_list (P := Tryd.prog) w ⟨b, off, none⟩ (marksC x).toList (fun j v hv => by
      have hadd : (⟨b, off, none⟩ : Addr).add j = ⟨b, off + j, none⟩ := by unfold Addr.add; split <;> simp_all
      have hj : j < 32 := by
        have := (List.getElem?_eq_some_iff.1 hv).1
        simp [marksC_size] at this
        exact this
      rw [hadd, hc j hj]
      have : (marksC x)[j]? = some (.bool (x.testBit j)) := rowC_get _ _ _ hj
      rw [← hv]
      simpa using this.symm)
  have hi := info30 x
  cases hq : Tryd.prog.info? 30 with
  | none => simp [hq] at hi
  | some i =>
    have hs : i.size = (marksC x).size := by simpa [hq] using hi
    have hagg : (isAgg 30).run Tryd.prog w = .ok true w := by
      unfold isAgg
      rw [Sem.run_bind, run_underlying Tryd.underlying30 w]
      rfl
    simp only [Array.length_toList, Array.toArray_toList] at hl
    simp [loadVar, Sem.run_bind, hagg, sizeOf, typeInfo, hq, hs, hl]
theorem yield_marks {w : World} {o : Oper} {a : Act} (b off m : Nat) (hc : ∀ i, i < 32 → w.cell? ⟨b, off + i, none⟩ = some (.bool (m.testBit i))) (x : Operand) (hop : o.op = Op.load 30 x) (hx : a.eval x = .pointer (some ⟨b, off, none⟩)) : (execOp a.eval o).run Tryd.prog w = .ok (.value (.agg (marksC m))) w := by
  simp only [execOp, hop, hx, Instr.loadAt, Instr.sureAddr, Sem.run_bind, Sem.run_pure, Result.andThen_ok, run_load_marks w b off m hc]
theorem wp_load_marksA {w : World} {o : Oper} {a : Act} {KK : Act → World → Prop} {Q : Exit → Act → World → Prop} (b off m : Nat) (hc : ∀ i, i < 32 → w.cell? ⟨b, off + i, none⟩ = some (.bool (m.testBit i))) (x : Operand) (hop : o.op = Op.load 30 x) (hx : a.eval x = .pointer (some ⟨b, off, none⟩)) (h : KK (a.put o.dst (.agg (marksC m))) w) : o.wp Tryd.prog a w KK Q := by
  unfold Oper.wp
  simp only [execOp, hop, hx, Instr.loadAt, Instr.sureAddr, Sem.run_bind, Sem.run_pure, Result.andThen_ok, run_load_marks w b off m hc]
  exact h
theorem wpList_load_marksA {w : World} {ops : Array Oper} {rest : List Oper} {o : Oper} {a : Act} {Q : Exit → Act → World → Prop} (hg : o.guard = none) (b off m : Nat) (hc : ∀ i, i < 32 → w.cell? ⟨b, off + i, none⟩ = some (.bool (m.testBit i))) (x : Operand) (hop : o.op = Op.load 30 x) (hx : a.eval x = .pointer (some ⟨b, off, none⟩)) (h : wpList Tryd.prog ops Q rest (a.put o.dst (.agg (marksC m))) w) : wpList Tryd.prog ops Q (o :: rest) a w :=
  wpList_plain hg fun _ hK => wp_load_marksA b off m hc x hop hx (hK _ _ h)
theorem Box.dhigh {w : World} {b : Nat} {S : St} (h : Box 34 w b (docC S)) (i : Nat) (hi : i < 32) : w.cell? ⟨b, 32 + i, none⟩ = some (.bool (S.high.testBit i)) := by
  rw [h.doc (32 + i) (by omega)]
  unfold docF
  rw [if_neg (by omega), if_pos (by omega), show 32 + i - 32 = i from by omega]
theorem Box.dwaits {w : World} {b : Nat} {S : St} (h : Box 34 w b (docC S)) (i : Nat) (hi : i < 32) : w.cell? ⟨b, 64 + i, none⟩ = some (.bool (S.waits.testBit i)) := by
  rw [h.doc (64 + i) (by omega)]
  unfold docF
  rw [if_neg (by omega), if_neg (by omega), if_pos (by omega), show 64 + i - 64 = i from by omega]
theorem Box.dserv {w : World} {b : Nat} {S : St} (h : Box 34 w b (docC S)) (i : Nat) (hi : i < 32) : w.cell? ⟨b, 96 + i, none⟩ = some (.bool (S.serv.testBit i)) := by
  rw [h.doc (96 + i) (by omega)]
  unfold docF
  rw [if_neg (by omega), if_neg (by omega), if_neg (by omega), if_pos (by omega), show 96 + i - 96 = i from by omega]
theorem Box.dlets {w : World} {b : Nat} {S : St} (h : Box 34 w b (docC S)) (c i : Nat) (hc : c < 2) (hi : i < 32) : w.cell? ⟨b, 128 + c * 32 + i, none⟩ = some (.bool ((S.lets c).testBit i)) := by
  rw [h.doc (128 + c * 32 + i) (by omega)]
  unfold docF
  rw [if_neg (by omega), if_neg (by omega), if_neg (by omega), if_neg (by omega), if_pos (by omega), show (128 + c * 32 + i - 128) / 32 = c from by omega, show (128 + c * 32 + i - 128) % 32 = i from by omega]
theorem Box.dleast {w : World} {b : Nat} {S : St} (h : Box 34 w b (docC S)) (c : Nat) (hc : c < 2) : w.cell? ⟨b, 192 + c, none⟩ = some (.int .i64 (S.least c : Nat)) := by
  rw [h.doc (192 + c) (by omega)]
  unfold docF
  rw [if_neg (by omega), if_neg (by omega), if_neg (by omega), if_neg (by omega), if_neg (by omega), show 192 + c - 192 = c from by omega]
theorem Box.dprio {w : World} {b : Nat} {S : St} (h : Box 34 w b (docC S)) (i : Nat) (hi : i < 32) : w.cell? ⟨b, i, none⟩ = some (.int .i64 (S.prio i : Nat)) := by
  rw [h.doc i (by omega)]
  unfold docF
  rw [if_pos hi]
/-- some cells are stored one after another -/
theorem run_storeCells_span (b off t : Nat) : ∀ (vs : List Value) (i : Nat) (cur : Array Value) (w : World), Box t w b cur → off + i + vs.length ≤ cur.size → (∀ v ∈ vs, v.oneCell' = true) →
    ∃ W, (storeCells ⟨b, off, none⟩ vs i).run Tryd.prog w = .ok () W ∧ Box t W b (rowC (fun j => if off + i ≤ j ∧ j < off + i + vs.length then vs.getD (j - (off + i)) undef else cur.getD j undef) cur.size) ∧ Upon b w W
  | [], i, cur, w, hg, hl, _ => by
    refine ⟨w, rfl, ?_, Upon.refl _ _⟩
    have : rowC (fun j => if off + i ≤ j ∧ j < off + i + ([] : List Value).length then ([] : List Value).getD (j - (off + i)) undef else cur.getD j undef) cur.size = cur := by
      apply Array.ext_getElem?
      intro j
      by_cases hj : j < cur.size
      · rw [rowC_get _ _ _ hj, if_neg (by simp)]
        simp [hj]
      · simp [rowC, hj]
    rw [this]; exact hg
  | v :: rest, i, cur, w, hg, hl, h1 => by
    have hi : off + i < cur.size := by simp at hl; omega
    have hadd : (⟨b, off, none⟩ : Addr).add i = ⟨b, off + i, none⟩ := by unfold Addr.add; split <;> simp_all
    have hcell : w.cell? ⟨b, off + i, none⟩ = some cur[off + i] := hg.cell _ _ (by simp [hi])
    have hfro := hg.frozen (off + i)
    have hst : (store ((⟨b, off, none⟩ : Addr).add i) v).run Tryd.prog w = .ok () (w.setCell ⟨b, off + i, none⟩ v) := by
      rw [hadd, run_store Tryd.prog w _ v _ (h1 v (by simp)), hcell]
      simp [hfro]
    obtain ⟨W, hr, hB, hU⟩ := run_storeCells_span b off t rest (i + 1) _ _ (hg.set (off + i) v) (by simp at hl ⊢; omega) (fun x hx => h1 x (by simp [hx]))
    refine ⟨W, ?_, ?_, ((Upon.refl _ _).set _ _).trans hU⟩
    · simp only [storeCells, Sem.run_bind, hst, Result.andThen_ok, hr]
    · rw [show rowC (fun j => if off + i ≤ j ∧ j < off + i + (v :: rest).length then (v :: rest).getD (j - (off + i)) undef else cur.getD j undef) cur.size = rowC (fun j => if off + (i + 1) ≤ j ∧ j < off + (i + 1) + rest.length then rest.getD (j - (off + (i + 1))) undef else (cur.setIfInBounds (off + i) v).getD j undef) (cur.setIfInBounds (off + i) v).size from ?_]
      · exact hB
      · rw [Array.size_setIfInBounds]
        apply rowC_congr
        intro j hj
        by_cases e1 : j = off + i
        · subst e1
          rw [if_pos (by simp), if_neg (by omega)]
          simp [hi]
        · by_cases e2 : off + (i + 1) ≤ j ∧ j < off + (i + 1) + rest.length
          · rw [if_pos (by simp; omega), if_pos e2, show j - (off + i) = (j - (off + (i + 1))) + 1 from by omega]
            simp
          · rw [if_neg (by simp; omega), if_neg e2]
            simp [hj, Ne.symm e1, e1]
theorem rowC_getD (f : Nat → Value) (n j : Nat) (hj : j < n) : (rowC f n).getD j undef = f j := by
  rw [Array.getD_eq_getD_getElem?, rowC_get f n j hj]; rfl
theorem run_store_marks (w : World) (b c m : Nat) (hc : c < 2) (S : St) (hx : Box 34 w b (docC S)) : ∃ W, (storeVar 30 ⟨b, 128 + c * 32, none⟩ (.agg (marksC m))).run Tryd.prog w = .ok () W ∧ Box 34 W b (docC { S with lets := updN S.lets c m }) ∧ Upon b w W := by
  obtain ⟨W, hr, hB, hU⟩ := run_storeCells_span b (128 + c * 32) 34 (marksC m).toList 0 (docC S) w hx (by simp [marksC_size, docC_size]; omega) (fun v hv => (Array.all_eq_true_iff_forall_mem.1 (marksC_one m)) v (by simpa using hv))
  refine ⟨W, ?_, ?_, hU⟩
  · have hi := info30 m
    cases hq : Tryd.prog.info? 30 with
    | none => simp [hq] at hi
    | some i =>
      have hs : (marksC m).size = i.size := by simp [hq] at hi; omega
      simp [storeVar, sizeOf, typeInfo, hq, Value.cells, hs, hr]
  · rw [← docC_lets S c m hc]
    rw [show rowC (fun j => if 128 + c * 32 ≤ j ∧ j < 128 + c * 32 + 32 then .bool (m.testBit (j - (128 + c * 32))) else docF S j) 194 = rowC (fun j => if 128 + c * 32 + 0 ≤ j ∧ j < 128 + c * 32 + 0 + (marksC m).toList.length then (marksC m).toList.getD (j - (128 + c * 32 + 0)) undef else (docC S).getD j undef) (docC S).size from ?_]
    · exact hB
    · rw [docC_size]
      apply rowC_congr
      intro j hj
      by_cases e : 128 + c * 32 ≤ j ∧ j < 128 + c * 32 + 32
      · rw [if_pos e, if_pos (by simp [marksC_size]; omega)]
        have : (marksC m).getD (j - (128 + c * 32)) undef = .bool (m.testBit (j - (128 + c * 32))) := rowC_getD _ _ _ (by omega)
        rw [← this]
        simp
      · rw [if_neg e, if_neg (by simp [marksC_size]; omega)]
        exact (rowC_getD _ _ _ hj).symm
theorem wpList_store_lets {w : World} {ops : Array Oper} {rest : List Oper} {o : Oper} {a : Act} {Q : Exit → Act → World → Prop} (hg : o.guard = none) (x y : Operand) (hop : o.op = Op.store 30 x y) (b c m : Nat) (hc : c < 2) (S : St) (hb : Box 34 w b (docC S)) (hx : a.eval x = .pointer (some ⟨b, 128 + c * 32, none⟩)) (hy : a.eval y = .agg (marksC m)) (h : ∀ W, Box 34 W b (docC { S with lets := updN S.lets c m }) → Upon b w W → wpList Tryd.prog ops Q rest (a.put o.dst undef) W) : wpList Tryd.prog ops Q (o :: rest) a w := by
  obtain ⟨W, hr, hB, hU⟩ := run_store_marks w b c m hc S hb
  refine wpList_plain hg fun K hK => ?_
  unfold Oper.wp execOp
  simp only [hop, hx, hy, Instr.storeAt, Instr.sureAddr, Sem.run_bind, Sem.run_pure, Result.andThen_ok, hr]
  exact hK _ _ (h W hB hU)
end Go.Proofs.YtpedollliahldaaDoor
