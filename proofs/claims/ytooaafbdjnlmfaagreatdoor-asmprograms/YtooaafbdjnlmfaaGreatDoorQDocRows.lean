/- The document's Rows of layer 3: a new slice of 98 rows. -/
import Derived.Test.YtooaafbdjnlmfaaGreatDoorQDoc
namespace Go.Proofs.YtooaafbdjnlmfaaGreatDoor
open Go.RowKit
set_option linter.unusedVariables false
set_option linter.unusedSimpArgs false
/-- the operations' names -/
def dNames : List (List UInt8) := [[108, 117, 105], [97, 117, 105, 112, 99], [106, 97, 108], [106, 97, 108, 114], [98, 101, 113], [98, 110, 101], [98, 108, 116], [98, 103, 101], [98, 108, 116, 117], [98, 103, 101, 117], [108, 98], [108, 104], [108, 119], [108, 100], [108, 98, 117], [108, 104, 117], [108, 119, 117], [115, 98], [115, 104], [115, 119], [115, 100], [97, 100, 100, 105], [115, 108, 116, 105], [115, 108, 116, 105, 117], [120, 111, 114, 105], [111, 114, 105], [97, 110, 100, 105], [115, 108, 108, 105], [115, 114, 108, 105], [115, 114, 97, 105], [97, 100, 100], [115, 117, 98], [115, 108, 108], [115, 108, 116], [115, 108, 116, 117], [120, 111, 114], [115, 114, 108], [115, 114, 97], [111, 114], [97, 110, 100], [97, 100, 100, 105, 119], [115, 108, 108, 105, 119], [115, 114, 108, 105, 119], [115, 114, 97, 105, 119], [97, 100, 100, 119], [115, 117, 98, 119], [115, 108, 108, 119], [115, 114, 108, 119], [115, 114, 97, 119], [102, 101, 110, 99, 101], [102, 101, 110, 99, 101, 46, 105], [101, 99, 97, 108, 108], [101, 98, 114, 101, 97, 107], [99, 115, 114, 114, 119], [99, 115, 114, 114, 115], [99, 115, 114, 114, 99], [99, 115, 114, 114, 119, 105], [99, 115, 114, 114, 115, 105], [99, 115, 114, 114, 99, 105], [109, 117, 108], [109, 117, 108, 104], [109, 117, 108, 104, 115, 117], [109, 117, 108, 104, 117], [100, 105, 118], [100, 105, 118, 117], [114, 101, 109], [114, 101, 109, 117], [109, 117, 108, 119], [100, 105, 118, 119], [100, 105, 118, 117, 119], [114, 101, 109, 119], [114, 101, 109, 117, 119], [108, 114, 46, 119], [115, 99, 46, 119], [97, 109, 111, 115, 119, 97, 112, 46, 119], [97, 109, 111, 97, 100, 100, 46, 119], [97, 109, 111, 120, 111, 114, 46, 119], [97, 109, 111, 97, 110, 100, 46, 119], [97, 109, 111, 111, 114, 46, 119], [97, 109, 111, 109, 105, 110, 46, 119], [97, 109, 111, 109, 97, 120, 46, 119], [97, 109, 111, 109, 105, 110, 117, 46, 119], [97, 109, 111, 109, 97, 120, 117, 46, 119], [108, 114, 46, 100], [115, 99, 46, 100], [97, 109, 111, 115, 119, 97, 112, 46, 100], [97, 109, 111, 97, 100, 100, 46, 100], [97, 109, 111, 120, 111, 114, 46, 100], [97, 109, 111, 97, 110, 100, 46, 100], [97, 109, 111, 111, 114, 46, 100], [97, 109, 111, 109, 105, 110, 46, 100], [97, 109, 111, 109, 97, 120, 46, 100], [97, 109, 111, 109, 105, 110, 117, 46, 100], [97, 109, 111, 109, 97, 120, 117, 46, 100], [109, 114, 101, 116], [115, 114, 101, 116], [119, 102, 105], [115, 102, 101, 110, 99, 101, 46, 118, 109, 97]]
def dName (i : Nat) : ByteArray := ⟨(dNames.getD i []).toArray⟩
def dRow (i : Nat) : List Value := [.string (dName i), .int .i64 ((dForm (i + 1) : Nat) : Int), .int .i64 ((dCode (i + 1) : Nat) : Int), .int .i64 ((dF3 (i + 1) : Nat) : Int), .int .i64 ((dF7 (i + 1) : Nat) : Int)]
def dCells : List Value := (List.range 98).flatMap dRow
def dParts : List (Nat × Value) := (List.range 98).map fun i => (i, .agg (dRow i).toArray)
theorem chunk {α : Type} (f : Nat → List α) (hf : ∀ i, (f i).length = 5) (n : Nat) : ((List.range n).flatMap f).length = 5 * n ∧ ∀ i j, i < n → j < 5 → ((List.range n).flatMap f)[5 * i + j]? = (f i)[j]? := by
  induction n with
  | zero => exact ⟨rfl, fun i j h => absurd h (Nat.not_lt_zero _)⟩
  | succ n ih =>
    obtain ⟨hl, hg⟩ := ih
    rw [List.range_succ, List.flatMap_append]
    refine ⟨by simp [hl, hf]; omega, fun i j hi hj => ?_⟩
    by_cases h : i < n
    · rw [List.getElem?_append_left (by rw [hl]; omega)]; exact hg i j h hj
    · obtain rfl : i = n := by omega
      rw [List.getElem?_append_right (by rw [hl]; omega), hl, show 5 * i + j - 5 * i = j from by omega]
      simp
theorem dCells_get (i j : Nat) (hi : i < 98) (hj : j < 5) : dCells[5 * i + j]? = (dRow i)[j]? := (chunk dRow (fun _ => rfl) 98).2 i j hi hj
/-- the rows lie in a block -/
def RowsAt (w : World) (b : Nat) : Prop := ∀ i, i < 98 → w.cell? ⟨b, 5 * i, none⟩ = some (.string (dName i)) ∧ w.cell? ⟨b, 5 * i + 1, none⟩ = some (.int .i64 ((dForm (i + 1) : Nat) : Int)) ∧ w.cell? ⟨b, 5 * i + 2, none⟩ = some (.int .i64 ((dCode (i + 1) : Nat) : Int)) ∧ w.cell? ⟨b, 5 * i + 3, none⟩ = some (.int .i64 ((dF3 (i + 1) : Nat) : Int)) ∧ w.cell? ⟨b, 5 * i + 4, none⟩ = some (.int .i64 ((dF7 (i + 1) : Nat) : Int))
theorem rows_new (w : World) : RowsAt (w.alloc (.cells dCells.toArray 72)) w.heap.size := by
  intro i hi
  have g := fun j (hj : j < 5) => dCells_get i j hi hj
  simp only [World.cell?, heap_alloc_new w (.cells dCells.toArray 72)]
  simp only [List.getElem?_toArray]
  exact ⟨g 0 (by decide), g 1 (by decide), g 2 (by decide), g 3 (by decide), g 4 (by decide)⟩
theorem RowsAt.below {w w' : World} {b : Nat} (h : RowsAt w b) (hb : Below w.heap.size w w') (hl : b < w.heap.size) : RowsAt w' b := by
  intro i hi
  have g := h i hi
  have c := fun o => hb.cell (p := ⟨b, o, none⟩) hl
  rw [c, c, c, c, c]
  exact g
def zero72 : Array Value := #[.string ⟨#[]⟩, .int .i64 0, .int .i64 0, .int .i64 0, .int .i64 0]
theorem info72 : (Tryz.prog.info? 72).map (fun i => (i.zero, i.size)) = some (some (.agg zero72), 5) := by kernel_rfl
theorem fill_rows : Instr.fill (fun i => some (i * 5, 5)) ((Array.range 490).map (zero72[· % zero72.size]!)) dParts = some dCells.toArray := by kernel_rfl
theorem run_rows (w : World) (ps : Array (Nat × Value)) (hp : ps.toList = dParts) : (Instr.buildSlice 69 98 ps).run Tryz.prog w = .ok (.slice (some ⟨w.heap.size, 0, none⟩) 98 98) (w.alloc (.cells dCells.toArray 72)) := by
  have h := info72
  cases hq : Tryz.prog.info? 72 with
  | none => simp [hq] at h
  | some i =>
    simp only [hq, Option.map_some, Option.some.injEq, Prod.mk.injEq] at h
    have hf := fill_rows
    simp [Instr.buildSlice, run_underlying Tryz.underlying69, sizeOf, typeInfo, hq, h.1, h.2, zeroValue, Value.cells, hp, hf, newRow]
section
variable {w : World} {ops : Array Oper} {rest : List Oper} {o : Oper} {a : Act} {Q : Exit → Act → World → Prop}
theorem wpList_rows (hg : o.guard = none) (ps : Array (Nat × Operand)) (hop : o.op = Op.buildSlice 69 98 ps) (hp : (ps.map fun (i, x) => (i, a.eval x)).toList = dParts) (h : wpList Tryz.prog ops Q rest (a.put o.dst (.slice (some ⟨w.heap.size, 0, none⟩) 98 98)) (w.alloc (.cells dCells.toArray 72))) : wpList Tryz.prog ops Q (o :: rest) a w := by
  refine wpList_plain hg fun K hK => ?_
  unfold Oper.wp
  have hr := run_rows w _ hp
  simp [execOp, hop, hr, Result.andThen]
  exact hK _ _ h
end
end Go.Proofs.YtooaafbdjnlmfaaGreatDoor
