/- What the statements of layer 8 share: laws at whole files; both files behind Begun. -/
import Derived.Test.YtalgidnmmghejaaBg
import Derived.ChangeKeysEq
import Derived.Deep.MidRow
namespace Go.Proofs.Ytalgidnmmghejaa.E
open Go.RowKit Go.Maps
set_option linter.unusedVariables false
set_option linter.unusedSimpArgs false
set_option maxRecDepth 100000
section
variable {w : World} {ops : Array Oper} {rest : List Oper} {o : Oper} {a : Act} {Q : Exit → Act → World → Prop}
theorem wpList_want (hw : Region.wanted o (yielded ops a.tmps) = true) (h : ∀ KK : Act → World → Prop, (∀ a w, wpList Try.prog ops Q rest a w → KK a w) → o.wp Try.prog a w KK Q) : wpList Try.prog ops Q (o :: rest) a w :=
  wpList_step fun KK hKK => by rw [if_pos hw]; exact h KK hKK
theorem wpList_load_fileG (hw : Region.wanted o (yielded ops a.tmps) = true) (x : Operand) (ho : o.op = .load 49 x) (b : Nat) (m : Int) (K : Nat → Nat) (hx : a.eval x = .pointer (some ⟨b, 0, none⟩)) (hb : Box 49 w b (fileC m K))
    (h : wpList Try.prog ops Q rest (a.put o.dst (.agg (fileC m K))) w) : wpList Try.prog ops Q (o :: rest) a w :=
  wpList_want hw fun KK hKK => wp_load_row 49 x ho b hx 49 _ (0, 0) _ hb Try.underlying49 rfl info49 (hKK _ _ h)
theorem wpList_load_docG (hw : Region.wanted o (yielded ops a.tmps) = true) (x : Operand) (ho : o.op = .load 52 x) (b : Nat) (m : Int) (K : Nat → Nat) (hx : a.eval x = .pointer (some ⟨b, 0, none⟩)) (hb : Box 52 w b (docC m K))
    (h : wpList Try.prog ops Q rest (a.put o.dst (.agg (docC m K))) w) : wpList Try.prog ops Q (o :: rest) a w :=
  wpList_want hw fun KK hKK => wp_load_row 52 x ho b hx 52 _ (0, 0) _ hb Try.underlying52 rfl info52 (hKK _ _ h)
theorem wpList_extract_at (hg : o.guard = none) (x : Operand) (i : Nat) (vs : Array Value) (v : Value) (hop : o.op = Op.extract x i) (hx : a.eval x = .tuple vs) (hv : vs[i]? = some v) (h : wpList Try.prog ops Q rest (a.put o.dst v) w) : wpList Try.prog ops Q (o :: rest) a w := by
  refine wpList_plain hg fun KK hKK => ?_
  unfold Oper.wp
  simp only [execOp, hop, hx]
  simp [hv, Instr.extract, go_sem]
  exact hKK _ _ h
end
theorem cast_beq (x : Nat) : (((x : Int) == (x : Int))) = true := by simp
set_option maxHeartbeats 2000000 in
theorem eq_file (m : Int) (K : Nat → Nat) (w : World) : (Op.equalIn 10000 49 (.agg (fileC m K)) (.agg (fileC m K))).run Try.prog w = .ok true w := by
  unfold fileC
  simp [go_sem]
/-- the document's words, as an array -/
def arrC (K : Nat → Nat) : Array Value := #[.int .u64 (K 0 : Nat), .int .u64 (K 1 : Nat), .int .u64 (K 2 : Nat), .int .u64 (K 3 : Nat), .int .u64 (K 4 : Nat), .int .u64 (K 5 : Nat), .int .u64 (K 6 : Nat), .int .u64 (K 7 : Nat), .int .u64 (K 8 : Nat), .int .u64 (K 9 : Nat), .int .u64 (K 10 : Nat), .int .u64 (K 11 : Nat), .int .u64 (K 12 : Nat), .int .u64 (K 13 : Nat), .int .u64 (K 14 : Nat), .int .u64 (K 15 : Nat), .int .u64 (K 16 : Nat), .int .u64 (K 17 : Nat), .int .u64 (K 18 : Nat), .int .u64 (K 19 : Nat), .int .u64 (K 20 : Nat), .int .u64 (K 21 : Nat)]
set_option maxHeartbeats 2000000 in
theorem eq_arr (K : Nat → Nat) (w : World) : (Op.equalIn 10000 50 (.agg (arrC K)) (.agg (arrC K))).run Try.prog w = .ok true w := by
  cases hq : Try.prog.info? 23 with
  | none => have : (Try.prog.info? 23).isSome = true := by kernel_rfl
            simp [hq] at this
  | some i =>
    rw [run_equalIn_array (P := Try.prog) w 9999 (arrC K) (arrC K) Try.underlying50 hq, show Try.prog.cellsOf 23 = 1 from by kernel_rfl]
    have items : ∀ is : List Nat, (∀ i ∈ is, i < 22) → (Op.eqItems 9999 23 1 (arrC K) (arrC K) is).run Try.prog w = .ok true w := by
      intro is
      induction is with
      | nil => intro _; simp [Op.eqItems]
      | cons i is ih =>
        intro h
        have hi : i < 22 := h i (by simp)
        have hg : (arrC K)[i]? = some (.int .u64 (K i : Nat)) := by
          have e : arrC K = ((List.range 22).map fun j => Value.int .u64 (K j : Nat)).toArray := rfl
          rw [e]; simp [hi]
        have p1 := run_part_plain (P := Try.prog) w (show Try.prog.plainKey 23 = true from by kernel_rfl) hg
        have p3 := run_equalIn_int (P := Try.prog) w 9998 23 .u64 .u64 (K i : Nat) (K i : Nat) Try.underlying23
        rw [cast_beq] at p3
        simp only [Op.eqItems, Sem.run_bind, Nat.mul_one, p1, p3, Result.andThen_ok]
        simpa using ih (fun j hj => h j (by simp [hj]))
    rw [items _ (by simp)]
theorem info50 : (Try.prog.info? 50).map (·.size) = some 22 := by kernel_rfl
theorem guard50 : Try.prog.eqGuardType Try.prog.depth 50 = false := by kernel_rfl
theorem guard49 : Try.prog.eqGuardType Try.prog.depth 49 = false := by kernel_rfl
theorem arrC_one (K : Nat → Nat) : (arrC K).all (·.oneCell') = true := by simp [arrC, Value.oneCell']
theorem range_doc {w : World} {b : Nat} {m : Int} {K : Nat → Nat} (h : Box 52 w b (docC m K)) : w.rangeAt b 1 (arrC K).toList := by
  intro j v hv
  refine h.cell (1 + j) v ?_
  have e : (arrC K).toList = (List.range 22).map fun j => Value.int .u64 (K j : Nat) := rfl
  rw [e] at hv
  by_cases hj : j < 22
  · rw [Nat.add_comm, docC_get m K j hj]; simpa [hj] using hv
  · simp [hj] at hv
section
variable {w : World} {ops : Array Oper} {rest : List Oper} {o : Oper} {a : Act} {Q : Exit → Act → World → Prop}
theorem wpList_load_arrG (hw : Region.wanted o (yielded ops a.tmps) = true) (x : Operand) (ho : o.op = .load 50 x) (b : Nat) (K : Nat → Nat) (hx : a.eval x = .pointer (some ⟨b, 0, none⟩)) (hb : Box 50 w b (arrC K))
    (h : wpList Try.prog ops Q rest (a.put o.dst (.agg (arrC K))) w) : wpList Try.prog ops Q (o :: rest) a w :=
  wpList_want hw fun KK hKK => wp_load_row 50 x ho b hx 50 _ (0, 0) _ hb Try.underlying50 rfl info50 (hKK _ _ h)
theorem wpList_load_inG (hw : Region.wanted o (yielded ops a.tmps) = true) (x : Operand) (ho : o.op = .load 50 x) (b : Nat) (m : Int) (K : Nat → Nat) (hx : a.eval x = .pointer (some ⟨b, 1, none⟩)) (hb : Box 52 w b (docC m K))
    (h : wpList Try.prog ops Q rest (a.put o.dst (.agg (arrC K))) w) : wpList Try.prog ops Q (o :: rest) a w :=
  wpList_want hw fun KK hKK => wp_load_mid 50 x ho b 1 hx (arrC K).toList _ (range_doc hb) Try.underlying50 rfl info50 (hKK _ _ h)
theorem wpList_eql_arrG (hw : Region.wanted o (yielded ops a.tmps) = true) (x y : Operand) (r : TypeId) (hop : o.op = Op.binOp .eql 50 x y r) (K : Nat → Nat) (hx : a.eval x = .agg (arrC K)) (hy : a.eval y = .agg (arrC K)) (h : wpList Try.prog ops Q rest (a.put o.dst (.bool true)) w) : wpList Try.prog ops Q (o :: rest) a w := by
  refine wpList_want hw fun KK hKK => ?_
  unfold Oper.wp
  simp [execOp, hop, hx, hy, run_eql_struct, eq_arr K, run_eqGuard_agg (P := Try.prog) w _ _ _ _ _ _ guard50, Result.andThen]
  exact hKK _ _ h
theorem wpList_neq_file (hg : o.guard = none) (x y : Operand) (r : TypeId) (hop : o.op = Op.binOp .neq 49 x y r) (m : Int) (K : Nat → Nat) (hx : a.eval x = .agg (fileC m K)) (hy : a.eval y = .agg (fileC m K)) (h : wpList Try.prog ops Q rest (a.put o.dst (.bool false)) w) : wpList Try.prog ops Q (o :: rest) a w := by
  refine wpList_plain hg fun KK hKK => ?_
  unfold Oper.wp
  simp [execOp, hop, hx, hy, run_neq_struct, eq_file m K, run_eqGuard_agg (P := Try.prog) w _ _ _ _ _ _ guard49, Result.andThen]
  exact hKK _ _ h
theorem wpList_store_arr (hg : o.guard = none) (x y : Operand) (ho : o.op = .store 50 x y) (b : Nat) (K : Nat → Nat) (old : Array Value) (hx : a.eval x = .pointer (some ⟨b, 0, none⟩)) (hy : a.eval y = .agg (arrC K)) (hb : Box 50 w b old) (hs : old.size = 22)
    (h : ∀ W, Box 50 W b (arrC K) → Upon b w W → wpList Try.prog ops Q rest (a.put o.dst undef) W) : wpList Try.prog ops Q (o :: rest) a w :=
  wpList_store_row hg 50 x y ho b (arrC K) hx hy 50 old hb info50 hs (arrC_one K) (h _ (setRow_heap w b old _ 50 (0, 0) hb) (upon_row (Upon.refl _ _) _))
def zeroA : Array Value := #[.int .u64 0, .int .u64 0, .int .u64 0, .int .u64 0, .int .u64 0, .int .u64 0, .int .u64 0, .int .u64 0, .int .u64 0, .int .u64 0, .int .u64 0, .int .u64 0, .int .u64 0, .int .u64 0, .int .u64 0, .int .u64 0, .int .u64 0, .int .u64 0, .int .u64 0, .int .u64 0, .int .u64 0, .int .u64 0]
theorem infoz50 : (Try.prog.info? 50).map (fun i => (i.zero, i.size)) = some (some (.agg zeroA), 22) := by kernel_rfl
theorem run_alloc50 (w : World) : (Instr.alloc 50 true (.tuple #[])).run Try.prog w = .ok (.pointer (some ⟨w.heap.size, 0, none⟩)) (w.alloc (.cells zeroA 50)) := by
  have h := infoz50
  cases hq : Try.prog.info? 50 with
  | none => simp [hq] at h
  | some i =>
    have hz : i.zero = some (.agg zeroA) := by simp [hq] at h; exact h.1
    simp [Instr.alloc, zeroValue, typeInfo, hq, hz, newVar, newRow, Value.cells]
theorem wpList_alloc_arr (hg : o.guard = none) (hop : o.op = Op.alloc 50) (h : ∀ W, W = w.alloc (.cells zeroA 50) → wpList Try.prog ops Q rest (a.put o.dst (.pointer (some ⟨w.heap.size, 0, none⟩))) W) : wpList Try.prog ops Q (o :: rest) a w := by
  refine wpList_plain hg fun K hK => ?_
  unfold Oper.wp
  simp [execOp, hop, run_alloc50 w, Result.andThen]
  exact hK _ _ (h _ rfl)
end
/-- both files of a statement -/
def Tw (w W : World) (fb db : Nat) (m m' : Int) (K K' : Nat → Nat) : Prop := Box 49 W fb (fileC m K) ∧ Box 52 W db (docC m' K') ∧ w.heap.size ≤ fb ∧ fb < db ∧ Below w.heap.size w W
section
variable {w W W' : World} {fb db : Nat} {m m' : Int} {K K' : Nat → Nat}
theorem Tw.step (h : Tw w W fb db m m' K K') (hb : Below W.heap.size W W') : Tw w W' fb db m m' K K' := ⟨h.1.step hb, h.2.1.step hb, h.2.2.1, h.2.2.2.1, h.2.2.2.2.trans (hb.mono h.2.2.2.2.size)⟩
theorem Tw.file (h : Tw w W fb db m m' K K') {m2 : Int} {K2 : Nat → Nat} (hb : Box 49 W' fb (fileC m2 K2)) (hu : Upon fb W W') : Tw w W' fb db m2 m' K2 K' := ⟨hb, hu.box h.2.1 (by have := h.2.2.2.1; omega), h.2.2.1, h.2.2.2.1, h.2.2.2.2.trans (hu.below h.2.2.1 h.2.2.2.2.size)⟩
end
end Go.Proofs.Ytalgidnmmghejaa.E
