/- What the statements of layer 8 share: laws at whole files; both files behind Begun. -/
import Derived.Test.YtdljceeoofhfnaaDoorBg
import Derived.ChangeKeysEq
import Derived.Deep.MidRow
namespace Go.Proofs.YtdljceeoofhfnaaDoor
open Go.RowKit Go.Maps
set_option linter.unusedVariables false
set_option linter.unusedSimpArgs false
set_option maxRecDepth 100000
section
variable {w : World} {ops : Array Oper} {rest : List Oper} {o : Oper} {a : Act} {Q : Exit → Act → World → Prop}
theorem wpList_want (hw : Region.wanted o (yielded ops a.tmps) = true) (h : ∀ KK : Act → World → Prop, (∀ a w, wpList Tryd.prog ops Q rest a w → KK a w) → o.wp Tryd.prog a w KK Q) : wpList Tryd.prog ops Q (o :: rest) a w :=
  wpList_step fun KK hKK => by rw [if_pos hw]; exact h KK hKK
theorem wpList_load_fileG (hw : Region.wanted o (yielded ops a.tmps) = true) (x : Operand) (ho : o.op = .load 29 x) (b : Nat) (m : Int) (K : Nat → Nat) (hx : a.eval x = .pointer (some ⟨b, 0, none⟩)) (hb : Box 29 w b (fileC m K))
    (h : wpList Tryd.prog ops Q rest (a.put o.dst (.agg (fileC m K))) w) : wpList Tryd.prog ops Q (o :: rest) a w :=
  wpList_want hw fun KK hKK => wp_load_row 29 x ho b hx 29 _ (0, 0) _ hb Tryd.underlying29 rfl info29 (hKK _ _ h)
theorem wpList_load_docG (hw : Region.wanted o (yielded ops a.tmps) = true) (x : Operand) (ho : o.op = .load 32 x) (b : Nat) (m : Int) (K : Nat → Nat) (hx : a.eval x = .pointer (some ⟨b, 0, none⟩)) (hb : Box 32 w b (docC m K))
    (h : wpList Tryd.prog ops Q rest (a.put o.dst (.agg (docC m K))) w) : wpList Tryd.prog ops Q (o :: rest) a w :=
  wpList_want hw fun KK hKK => wp_load_row 32 x ho b hx 32 _ (0, 0) _ hb Tryd.underlying32 rfl info32 (hKK _ _ h)
theorem wpList_extract_at (hg : o.guard = none) (x : Operand) (i : Nat) (vs : Array Value) (v : Value) (hop : o.op = Op.extract x i) (hx : a.eval x = .tuple vs) (hv : vs[i]? = some v) (h : wpList Tryd.prog ops Q rest (a.put o.dst v) w) : wpList Tryd.prog ops Q (o :: rest) a w := by
  refine wpList_plain hg fun KK hKK => ?_
  unfold Oper.wp
  simp only [execOp, hop, hx]
  simp [hv, Instr.extract, go_sem]
  exact hKK _ _ h
end
theorem cast_beq (x : Nat) : (((x : Int) == (x : Int))) = true := by simp
set_option maxHeartbeats 2000000 in
theorem eq_file (m : Int) (K : Nat → Nat) (w : World) : (Op.equalIn 10000 29 (.agg (fileC m K)) (.agg (fileC m K))).run Tryd.prog w = .ok true w := by
  unfold fileC
  simp [go_sem]
/-- the document's words, as an array -/
def arrC (K : Nat → Nat) : Array Value := #[.int .u64 (K 0 : Nat), .int .u64 (K 1 : Nat), .int .u64 (K 2 : Nat), .int .u64 (K 3 : Nat), .int .u64 (K 4 : Nat), .int .u64 (K 5 : Nat), .int .u64 (K 6 : Nat), .int .u64 (K 7 : Nat), .int .u64 (K 8 : Nat), .int .u64 (K 9 : Nat), .int .u64 (K 10 : Nat), .int .u64 (K 11 : Nat), .int .u64 (K 12 : Nat), .int .u64 (K 13 : Nat), .int .u64 (K 14 : Nat), .int .u64 (K 15 : Nat), .int .u64 (K 16 : Nat), .int .u64 (K 17 : Nat), .int .u64 (K 18 : Nat), .int .u64 (K 19 : Nat), .int .u64 (K 20 : Nat), .int .u64 (K 21 : Nat)]
set_option maxHeartbeats 2000000 in
theorem eq_arr (K : Nat → Nat) (w : World) : (Op.equalIn 10000 30 (.agg (arrC K)) (.agg (arrC K))).run Tryd.prog w = .ok true w := by
  cases hq : Tryd.prog.info? 23 with
  | none => have : (Tryd.prog.info? 23).isSome = true := by kernel_rfl
            simp [hq] at this
  | some i =>
    rw [run_equalIn_array (P := Tryd.prog) w 9999 (arrC K) (arrC K) Tryd.underlying30 hq, show Tryd.prog.cellsOf 23 = 1 from by kernel_rfl]
    have items : ∀ is : List Nat, (∀ i ∈ is, i < 22) → (Op.eqItems 9999 23 1 (arrC K) (arrC K) is).run Tryd.prog w = .ok true w := by
      intro is
      induction is with
      | nil => intro _; simp [Op.eqItems]
      | cons i is ih =>
        intro h
        have hi : i < 22 := h i (by simp)
        have hg : (arrC K)[i]? = some (.int .u64 (K i : Nat)) := by
          have e : arrC K = ((List.range 22).map fun j => Value.int .u64 (K j : Nat)).toArray := rfl
          rw [e]; simp [hi]
        have p1 := run_part_plain (P := Tryd.prog) w (show Tryd.prog.plainKey 23 = true from by kernel_rfl) hg
        have p3 := run_equalIn_int (P := Tryd.prog) w 9998 23 .u64 .u64 (K i : Nat) (K i : Nat) Tryd.underlying23
        rw [cast_beq] at p3
        simp only [Op.eqItems, Sem.run_bind, Nat.mul_one, p1, p3, Result.andThen_ok]
        simpa using ih (fun j hj => h j (by simp [hj]))
    rw [items _ (by simp)]
theorem info30 : (Tryd.prog.info? 30).map (·.size) = some 22 := by kernel_rfl
theorem guard30 : Tryd.prog.eqGuardType Tryd.prog.depth 30 = false := by kernel_rfl
theorem guard29 : Tryd.prog.eqGuardType Tryd.prog.depth 29 = false := by kernel_rfl
theorem arrC_one (K : Nat → Nat) : (arrC K).all (·.oneCell') = true := by simp [arrC, Value.oneCell']
theorem range_doc {w : World} {b : Nat} {m : Int} {K : Nat → Nat} (h : Box 32 w b (docC m K)) : w.rangeAt b 1 (arrC K).toList := by
  intro j v hv
  refine h.cell (1 + j) v ?_
  have e : (arrC K).toList = (List.range 22).map fun j => Value.int .u64 (K j : Nat) := rfl
  rw [e] at hv
  by_cases hj : j < 22
  · rw [Nat.add_comm, docC_get m K j hj]; simpa [hj] using hv
  · simp [hj] at hv
section
variable {w : World} {ops : Array Oper} {rest : List Oper} {o : Oper} {a : Act} {Q : Exit → Act → World → Prop}
theorem wpList_load_arrG (hw : Region.wanted o (yielded ops a.tmps) = true) (x : Operand) (ho : o.op = .load 30 x) (b : Nat) (K : Nat → Nat) (hx : a.eval x = .pointer (some ⟨b, 0, none⟩)) (hb : Box 30 w b (arrC K))
    (h : wpList Tryd.prog ops Q rest (a.put o.dst (.agg (arrC K))) w) : wpList Tryd.prog ops Q (o :: rest) a w :=
  wpList_want hw fun KK hKK => wp_load_row 30 x ho b hx 30 _ (0, 0) _ hb Tryd.underlying30 rfl info30 (hKK _ _ h)
theorem wpList_load_inG (hw : Region.wanted o (yielded ops a.tmps) = true) (x : Operand) (ho : o.op = .load 30 x) (b : Nat) (m : Int) (K : Nat → Nat) (hx : a.eval x = .pointer (some ⟨b, 1, none⟩)) (hb : Box 32 w b (docC m K))
    (h : wpList Tryd.prog ops Q rest (a.put o.dst (.agg (arrC K))) w) : wpList Tryd.prog ops Q (o :: rest) a w :=
  wpList_want hw fun KK hKK => wp_load_mid 30 x ho b 1 hx (arrC K).toList _ (range_doc hb) Tryd.underlying30 rfl info30 (hKK _ _ h)
theorem wpList_eql_arrG (hw : Region.wanted o (yielded ops a.tmps) = true) (x y : Operand) (r : TypeId) (hop : o.op = Op.binOp .eql 30 x y r) (K : Nat → Nat) (hx : a.eval x = .agg (arrC K)) (hy : a.eval y = .agg (arrC K)) (h : wpList Tryd.prog ops Q rest (a.put o.dst (.bool true)) w) : wpList Tryd.prog ops Q (o :: rest) a w := by
  refine wpList_want hw fun KK hKK => ?_
  unfold Oper.wp
  simp [execOp, hop, hx, hy, run_eql_struct, eq_arr K, run_eqGuard_agg (P := Tryd.prog) w _ _ _ _ _ _ guard30, Result.andThen]
  exact hKK _ _ h
theorem wpList_neq_file (hg : o.guard = none) (x y : Operand) (r : TypeId) (hop : o.op = Op.binOp .neq 29 x y r) (m : Int) (K : Nat → Nat) (hx : a.eval x = .agg (fileC m K)) (hy : a.eval y = .agg (fileC m K)) (h : wpList Tryd.prog ops Q rest (a.put o.dst (.bool false)) w) : wpList Tryd.prog ops Q (o :: rest) a w := by
  refine wpList_plain hg fun KK hKK => ?_
  unfold Oper.wp
  simp [execOp, hop, hx, hy, run_neq_struct, eq_file m K, run_eqGuard_agg (P := Tryd.prog) w _ _ _ _ _ _ guard29, Result.andThen]
  exact hKK _ _ h
theorem wpList_store_arr (hg : o.guard = none) (x y : Operand) (ho : o.op = .store 30 x y) (b : Nat) (K : Nat → Nat) (old : Array Value) (hx : a.eval x = .pointer (some ⟨b, 0, none⟩)) (hy : a.eval y = .agg (arrC K)) (hb : Box 30 w b old) (hs : old.size = 22)
    (h : ∀ W, Box 30 W b (arrC K) → Upon b w W → wpList Tryd.prog ops Q rest (a.put o.dst undef) W) : wpList Tryd.prog ops Q (o :: rest) a w :=
  wpList_store_row hg 30 x y ho b (arrC K) hx hy 30 old hb info30 hs (arrC_one K) (h _ (setRow_heap w b old _ 30 (0, 0) hb) (upon_row (Upon.refl _ _) _))
def zeroA : Array Value := #[.int .u64 0, .int .u64 0, .int .u64 0, .int .u64 0, .int .u64 0, .int .u64 0, .int .u64 0, .int .u64 0, .int .u64 0, .int .u64 0, .int .u64 0, .int .u64 0, .int .u64 0, .int .u64 0, .int .u64 0, .int .u64 0, .int .u64 0, .int .u64 0, .int .u64 0, .int .u64 0, .int .u64 0, .int .u64 0]
theorem infoz30 : (Tryd.prog.info? 30).map (fun i => (i.zero, i.size)) = some (some (.agg zeroA), 22) := by kernel_rfl
theorem run_alloc30 (w : World) : (Instr.alloc 30 true (.tuple #[])).run Tryd.prog w = .ok (.pointer (some ⟨w.heap.size, 0, none⟩)) (w.alloc (.cells zeroA 30)) := by
  have h := infoz30
  cases hq : Tryd.prog.info? 30 with
  | none => simp [hq] at h
  | some i =>
    have hz : i.zero = some (.agg zeroA) := by simp [hq] at h; exact h.1
    simp [Instr.alloc, zeroValue, typeInfo, hq, hz, newVar, newRow, Value.cells]
theorem wpList_alloc_arr (hg : o.guard = none) (hop : o.op = Op.alloc 30) (h : ∀ W, W = w.alloc (.cells zeroA 30) → wpList Tryd.prog ops Q rest (a.put o.dst (.pointer (some ⟨w.heap.size, 0, none⟩))) W) : wpList Tryd.prog ops Q (o :: rest) a w := by
  refine wpList_plain hg fun K hK => ?_
  unfold Oper.wp
  simp [execOp, hop, run_alloc30 w, Result.andThen]
  exact hK _ _ (h _ rfl)
end
/-- both files of a statement -/
def Tw (w W : World) (fb db : Nat) (m m' : Int) (K K' : Nat → Nat) : Prop := Box 29 W fb (fileC m K) ∧ Box 32 W db (docC m' K') ∧ w.heap.size ≤ fb ∧ fb < db ∧ Below w.heap.size w W
section
variable {w W W' : World} {fb db : Nat} {m m' : Int} {K K' : Nat → Nat}
theorem Tw.step (h : Tw w W fb db m m' K K') (hb : Below W.heap.size W W') : Tw w W' fb db m m' K K' := ⟨h.1.step hb, h.2.1.step hb, h.2.2.1, h.2.2.2.1, h.2.2.2.2.trans (hb.mono h.2.2.2.2.size)⟩
theorem Tw.file (h : Tw w W fb db m m' K K') {m2 : Int} {K2 : Nat → Nat} (hb : Box 29 W' fb (fileC m2 K2)) (hu : Upon fb W W') : Tw w W' fb db m2 m' K2 K' := ⟨hb, hu.box h.2.1 (by have := h.2.2.2.1; omega), h.2.2.1, h.2.2.2.1, h.2.2.2.2.trans (hu.below h.2.2.1 h.2.2.2.2.size)⟩
end
end Go.Proofs.YtdljceeoofhfnaaDoor
