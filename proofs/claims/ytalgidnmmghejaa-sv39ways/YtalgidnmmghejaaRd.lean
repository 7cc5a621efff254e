/- The program's calls Pending, Read, Raw, Hold and Is of layer 8. -/
import Derived.Test.YtalgidnmmghejaaFl
namespace Go.Proofs.Ytalgidnmmghejaa.E
open Go.RowKit
set_option linter.unusedVariables false
set_option linter.unusedSimpArgs false
set_option maxRecDepth 100000
theorem below_drew1 (w : World) : Below w.heap.size w w.drew := Below.drew (Below.refl _ _)
section
variable {w : World} {ops : Array Oper} {rest : List Oper} {o : Oper} {a : Act} {Q : Exit → Act → World → Prop}
theorem wpList_move_at (hg : o.guard = none) (x : Operand) (v : Value) (hop : o.op = Op.move x) (hx : a.eval x = v) (h : wpList Try.prog ops Q rest (a.put o.dst v) w) : wpList Try.prog ops Q (o :: rest) a w := by
  refine wpList_plain hg fun K hK => ?_
  unfold Oper.wp
  simp only [execOp, hop, hx, Sem.run_pure, Result.andThen_ok]
  exact hK _ _ h
theorem wpList_nil_at (hg : o.guard = none) (x : Operand) (p : Addr) (hop : o.op = Op.nilCheck x) (hx : a.eval x = .pointer (some p)) (h : wpList Try.prog ops Q rest (a.put o.dst (.pointer (some p))) w) : wpList Try.prog ops Q (o :: rest) a w := by
  refine wpList_plain hg fun K hK => ?_
  unfold Oper.wp
  simp only [execOp, hop, hx, Sem.run_pure, Result.andThen_ok]
  exact hK _ _ h
theorem wpList_load_file (hg : o.guard = none) (x : Operand) (ho : o.op = .load 49 x) (b : Nat) (m : Int) (K : Nat → Nat) (hx : a.eval x = .pointer (some ⟨b, 0, none⟩)) (hb : Box 49 w b (fileC m K))
    (h : wpList Try.prog ops Q rest (a.put o.dst (.agg (fileC m K))) w) : wpList Try.prog ops Q (o :: rest) a w :=
  wpList_load_row hg 49 x ho b hx 49 _ (0, 0) _ hb Try.underlying49 rfl info49 h
def zeroC : Array Value := fileC 0 fun _ => 0
theorem infoz49 : (Try.prog.info? 49).map (fun i => (i.zero, i.size)) = some (some (.agg zeroC), 23) := by kernel_rfl
theorem run_alloc49 (w : World) : (Instr.alloc 49 true (.tuple #[])).run Try.prog w = .ok (.pointer (some ⟨w.heap.size, 0, none⟩)) (w.alloc (.cells zeroC 49)) := by
  have h := infoz49
  cases hq : Try.prog.info? 49 with
  | none => simp [hq] at h
  | some i =>
    have hz : i.zero = some (.agg zeroC) := by simp [hq] at h; exact h.1
    simp [Instr.alloc, zeroValue, typeInfo, hq, hz, newVar, newRow, Value.cells]
theorem wpList_alloc_file (hg : o.guard = none) (hop : o.op = Op.alloc 49) (h : ∀ W, W = w.alloc (.cells zeroC 49) → wpList Try.prog ops Q rest (a.put o.dst (.pointer (some ⟨w.heap.size, 0, none⟩))) W) : wpList Try.prog ops Q (o :: rest) a w := by
  refine wpList_plain hg fun K hK => ?_
  unfold Oper.wp
  simp [execOp, hop, run_alloc49 w, Result.andThen]
  exact hK _ _ (h _ rfl)
end
theorem zeroC_size : zeroC.size = 23 := rfl
theorem hold_any (m : Int) (K : Nat → Nat) (x b : Nat) (hx : x < 18446744073709551616) (w : World) (hB : Box 49 w b (fileC m K)) : Calls Try.prog 44 #[.pointer (some ⟨b, 0, none⟩), .int .u64 (x : Int)] w fun e w' => e = .returned (.tuple #[]) ∧ Box 49 w' b (fileC m (upd K 2 (x &&& 2696))) ∧ Upon b w w' := by
  have HB : Hid (Box 49 w b (fileC m K)) := hB
  have c2 : w.cell? ⟨b, 6, none⟩ = some (.int .u64 (K 2 : Nat)) := hB.cell 6 _ rfl
  have f2 := hB.frozen 6
  have hv : bits .and .u64 (x : Int) 2696 = ((x &&& 2696 : Nat) : Int) := bits_and_u64_nat x 2696 hx (by decide)
  generalize x &&& 2696 = y at *
  clear hB hx
  go_enter Try.func44, Try.ntmps44
  go_wp2
  go_end0
  exact ⟨rfl, (by rw [← (set_fileC m K _).2.2.1]; exact HB.out.set 6 _), (Upon.refl _ _).set 6 _⟩
theorem is_any (m : Int) (K : Nat → Nat) (j : Int) (b : Nat) (hK : Ok K) (w : World) (hB : Box 49 w b (fileC m K)) : Calls Try.prog 23 #[.pointer (some ⟨b, 0, none⟩), .int .i64 j] w fun e w' => e = .returned (.bool ((getN (K 0) j 1 : Int) == 1)) ∧ Below w.heap.size w w' := by
  have c0 : w.cell? ⟨b, 1, none⟩ = some (.int .u64 (K 0 : Nat)) := hB.cell 1 _ rfl
  have hg : ∀ V, Calls Try.prog 51 #[.int .u64 (K 0 : Nat), .int .i64 j] V fun e w' => e = .returned (.bool ((getN (K 0) j 1 : Int) == 1)) ∧ Below V.heap.size V w' := fun V => bit_all (K 0) j (hK _) V V (Below.refl _ _)
  generalize ((getN (K 0) j 1 : Int) == 1) = y at *
  clear hB hK
  go_enter Try.func23, Try.ntmps23
  go_wp2_with fail
  refine (hg _).mono ?_
  rintro e w1 ⟨rfl, hb1⟩
  go_wp2_with fail
  go_ret
  exact ⟨rfl, hb1⟩
end Go.Proofs.Ytalgidnmmghejaa.E
