/- The document's calls Rows and Of of layer 8: a new slice of 31 rows; a register's row. -/
import Derived.Test.YtalgidnmmghejaaFl
namespace Go.Proofs.Ytalgidnmmghejaa.E
open Go.RowKit
set_option linter.unusedVariables false
set_option linter.unusedSimpArgs false
def dNums : List Int := [768, 256, 769, 770, 771, 772, 260, 836, 324, 773, 261, 774, 262, 832, 320, 834, 322, 835, 323, 2816, 2818, 833, 321, 384, 3072, 3073, 3074, 3857, 3858, 3859, 3860]
def dNames : List (List UInt8) := [[109, 115, 116, 97, 116, 117, 115], [115, 115, 116, 97, 116, 117, 115], [109, 105, 115, 97], [109, 101, 100, 101, 108, 101, 103], [109, 105, 100, 101, 108, 101, 103], [109, 105, 101], [115, 105, 101], [109, 105, 112], [115, 105, 112], [109, 116, 118, 101, 99], [115, 116, 118, 101, 99], [109, 99, 111, 117, 110, 116, 101, 114, 101, 110], [115, 99, 111, 117, 110, 116, 101, 114, 101, 110], [109, 115, 99, 114, 97, 116, 99, 104], [115, 115, 99, 114, 97, 116, 99, 104], [109, 99, 97, 117, 115, 101], [115, 99, 97, 117, 115, 101], [109, 116, 118, 97, 108], [115, 116, 118, 97, 108], [109, 99, 121, 99, 108, 101], [109, 105, 110, 115, 116, 114, 101, 116], [109, 101, 112, 99], [115, 101, 112, 99], [115, 97, 116, 112], [99, 121, 99, 108, 101], [116, 105, 109, 101], [105, 110, 115, 116, 114, 101, 116], [109, 118, 101, 110, 100, 111, 114, 105, 100], [109, 97, 114, 99, 104, 105, 100], [109, 105, 109, 112, 105, 100], [109, 104, 97, 114, 116, 105, 100]]
def dAts : List Int := [-1, -1, -1, 3, 4, 5, -1, -1, -1, 6, 12, 7, 13, 8, 14, 10, 16, 11, 17, 19, 20, 9, 15, 18, 19, 21, 20, -1, -1, -1, -1]
def dMasks : List Nat := [8264106, 786722, 0, 46079, 546, 2730, 0, 0, 0, 18446744073709551615, 18446744073709551615, 7, 7, 18446744073709551615, 18446744073709551615, 18446744073709551615, 18446744073709551615, 18446744073709551615, 18446744073709551615, 18446744073709551615, 18446744073709551615, 18446744073709551612, 18446744073709551612, 18446744073709551615, 0, 0, 0, 0, 0, 0, 0]
def dN (i : Nat) : Int := dNums.getD i 0
def dName (i : Nat) : ByteArray := ⟨(dNames.getD i []).toArray⟩
def dAt (i : Nat) : Int := dAts.getD i 0
def dMask (i : Nat) : Nat := dMasks.getD i 0
/-- a row's cells -/
def rowC (i : Nat) : Array Value := #[.int .i64 (dN i), .string (dName i), .int .i64 (dAt i), .int .u64 (dMask i : Nat)]
def dRow (i : Nat) : List Value := [.int .i64 (dN i), .string (dName i), .int .i64 (dAt i), .int .u64 (dMask i : Nat)]
def dCells : List Value := (List.range 31).flatMap dRow
def dParts : List (Nat × Value) := (List.range 31).map fun i => (i, .agg (dRow i).toArray)
theorem chunk {α : Type} (f : Nat → List α) (hf : ∀ i, (f i).length = 4) (n : Nat) : ((List.range n).flatMap f).length = 4 * n ∧ ∀ i j, i < n → j < 4 → ((List.range n).flatMap f)[4 * i + j]? = (f i)[j]? := by
  induction n with
  | zero => exact ⟨rfl, fun i j h => absurd h (Nat.not_lt_zero _)⟩
  | succ n ih =>
    obtain ⟨hl, hg⟩ := ih
    rw [List.range_succ, List.flatMap_append]
    refine ⟨by simp [hl, hf]; omega, fun i j hi hj => ?_⟩
    by_cases h : i < n
    · rw [List.getElem?_append_left (by rw [hl]; omega)]; exact hg i j h hj
    · obtain rfl : i = n := by omega
      rw [List.getElem?_append_right (by rw [hl]; omega), hl, show 4 * i + j - 4 * i = j from by omega]
      simp
theorem dCells_get (i j : Nat) (hi : i < 31) (hj : j < 4) : dCells[4 * i + j]? = (dRow i)[j]? := (chunk dRow (fun _ => rfl) 31).2 i j hi hj
/-- the rows lie in a block -/
def RowsAt (w : World) (b : Nat) : Prop := ∀ i, i < 31 → w.cell? ⟨b, i * 4, none⟩ = some (.int .i64 (dN i)) ∧ w.cell? ⟨b, i * 4 + 1, none⟩ = some (.string (dName i)) ∧ w.cell? ⟨b, i * 4 + 2, none⟩ = some (.int .i64 (dAt i)) ∧ w.cell? ⟨b, i * 4 + 3, none⟩ = some (.int .u64 (dMask i : Nat))
theorem rows_new (w : World) : RowsAt (w.alloc (.cells dCells.toArray 125)) w.heap.size := by
  intro i hi
  have g := fun j (hj : j < 4) => dCells_get i j hi hj
  rw [Nat.mul_comm i 4]
  simp only [World.cell?, heap_alloc_new w (.cells dCells.toArray 125)]
  simp only [List.getElem?_toArray]
  exact ⟨g 0 (by decide), g 1 (by decide), g 2 (by decide), g 3 (by decide)⟩
theorem RowsAt.below {w w' : World} {b : Nat} (h : RowsAt w b) (hb : Below w.heap.size w w') : RowsAt w' b := by
  intro i hi
  obtain ⟨h0, h1, h2, h3⟩ := h i hi
  have hl := block_lt_of_cell h0
  have c := fun o => hb.cell (p := ⟨b, o, none⟩) hl
  rw [c, c, c, c]
  exact ⟨h0, h1, h2, h3⟩
def zero125 : Array Value := #[.int .i64 0, .string ⟨#[]⟩, .int .i64 0, .int .u64 0]
theorem info125 : (Try.prog.info? 125).map (fun i => (i.zero, i.size)) = some (some (.agg zero125), 4) := by kernel_rfl
theorem fill_rows : Instr.fill (fun i => some (i * 4, 4)) ((Array.range 124).map (zero125[· % zero125.size]!)) dParts = some dCells.toArray := by kernel_rfl
theorem run_rows (w : World) (ps : Array (Nat × Value)) (hp : ps.toList = dParts) : (Instr.buildSlice 144 31 ps).run Try.prog w = .ok (.slice (some ⟨w.heap.size, 0, none⟩) 31 31) (w.alloc (.cells dCells.toArray 125)) := by
  have h := info125
  cases hq : Try.prog.info? 125 with
  | none => simp [hq] at h
  | some i =>
    simp only [hq, Option.map_some, Option.some.injEq, Prod.mk.injEq] at h
    have hf := fill_rows
    simp [Instr.buildSlice, run_underlying Try.underlying144, sizeOf, typeInfo, hq, h.1, h.2, zeroValue, Value.cells, hp, hf, newRow]
section
variable {w : World} {ops : Array Oper} {rest : List Oper} {o : Oper} {a : Act} {Q : Exit → Act → World → Prop}
theorem wpList_rows (hg : o.guard = none) (ps : Array (Nat × Operand)) (hop : o.op = Op.buildSlice 144 31 ps) (hp : (ps.map fun (i, x) => (i, a.eval x)).toList = dParts) (h : wpList Try.prog ops Q rest (a.put o.dst (.slice (some ⟨w.heap.size, 0, none⟩) 31 31)) (w.alloc (.cells dCells.toArray 125))) : wpList Try.prog ops Q (o :: rest) a w := by
  refine wpList_plain hg fun K hK => ?_
  unfold Oper.wp
  have hr := run_rows w _ hp
  simp [execOp, hop, hr, Result.andThen]
  exact hK _ _ h
theorem wpList_build125 (hg : o.guard = none) (z0 : Int) (s : ByteArray) (z2 z3 : Int) (hop : o.op = Op.build 125 #[(0, .const (.int .i64 z0)), (1, .const (.string s)), (2, .const (.int .i64 z2)), (3, .const (.int .u64 z3))]) (h : wpList Try.prog ops Q rest (a.put o.dst (.agg #[.int .i64 z0, .string s, .int .i64 z2, .int .u64 z3])) w) : wpList Try.prog ops Q (o :: rest) a w := by
  refine wpList_plain hg fun K hK => ?_
  unfold Oper.wp
  simp [execOp, hop, go_sem, Act.eval]
  exact hK _ _ h
theorem wpList_assign_const (hg : o.guard = none) (v : Value) (hop : o.op = Op.assign (.const v)) (h : wpList Try.prog ops Q rest (a.put o.dst v) w) : wpList Try.prog ops Q (o :: rest) a w := by
  refine wpList_plain hg fun K hK => ?_
  unfold Oper.wp
  simp [execOp, hop, go_sem, Act.eval]
  exact hK _ _ h
theorem wpList_assign_at (hg : o.guard = none) (x : Operand) (v : Value) (hop : o.op = Op.assign x) (hx : a.eval x = v) (h : wpList Try.prog ops Q rest (a.put o.dst v) w) : wpList Try.prog ops Q (o :: rest) a w := by
  refine wpList_plain hg fun K hK => ?_
  unfold Oper.wp
  simp only [execOp, hop, hx, Sem.run_pure, Result.andThen_ok]
  exact hK _ _ h
end
set_option maxRecDepth 100000 in
theorem rows_any (w : World) : Calls Try.prog 96 #[] w fun e w' => e = .returned (.slice (some ⟨w.heap.size, 0, none⟩) 31 31) ∧ w' = w.alloc (.cells dCells.toArray 125) := by
  go_enter Try.func96, Try.ntmps96
  refine wp_seq_k fun K hK => ?_
  refine wp_region_list ?_
  refine wpList_assign_const rfl _ rfl ?_
  show K _ _
  refine hK _ _ ?_
  clear hK
  refine wp_seq_k fun K1 hK1 => ?_
  refine wp_region_lit ?_
  iterate 31 (refine wpList_build125 rfl _ _ _ _ rfl ?_)
  refine wpList_rows rfl _ rfl (by kernel_rfl) ?_
  refine wpList_assign_at rfl _ (.slice (some ⟨w.heap.size, 0, none⟩) 31 31) rfl rfl ?_
  show K1 _ _
  refine hK1 _ _ ?_
  clear hK1
  generalize w.alloc (.cells dCells.toArray 125) = w1
  refine wp_ret ?_
  refine bodyPost_ret (v := .slice (some ⟨w.heap.size, 0, none⟩) 31 31) ?_ rfl ⟨rfl, rfl⟩
  kernel_rfl
theorem rows_at (w : World) : Calls Try.prog 96 #[] w fun e w' => e = .returned (.slice (some ⟨w.heap.size, 0, none⟩) 31 31) ∧ Below w.heap.size w w' ∧ RowsAt w' w.heap.size := by
  refine (rows_any w).mono ?_
  rintro e w' ⟨rfl, rfl⟩
  exact ⟨rfl, (Below.refl _ _).alloc (Nat.le_refl _) _, rows_new w⟩
end Go.Proofs.Ytalgidnmmghejaa.E
