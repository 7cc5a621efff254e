/- The document's call Rows of layer 3. -/
import Derived.Test.YtooaafbdjnlmfaaGreatDoorQDocRows
namespace Go.Proofs.YtooaafbdjnlmfaaGreatDoor
open Go.RowKit
set_option linter.unusedVariables false
set_option linter.unusedSimpArgs false
section
variable {w : World} {ops : Array Oper} {rest : List Oper} {o : Oper} {a : Act} {Q : Exit → Act → World → Prop}
theorem wpList_assign_at (hg : o.guard = none) (x : Operand) (v : Value) (hop : o.op = Op.assign x) (hx : a.eval x = v) (h : wpList Tryz.prog ops Q rest (a.put o.dst v) w) : wpList Tryz.prog ops Q (o :: rest) a w := by
  refine wpList_plain hg fun K hK => ?_
  unfold Oper.wp
  simp only [execOp, hop, hx, Sem.run_pure, Result.andThen_ok]
  exact hK _ _ h
end
set_option maxRecDepth 100000 in
theorem rows_any (w : World) : Calls Tryz.prog 42 #[] w fun e w' => e = .returned (.slice (some ⟨w.heap.size, 0, none⟩) 98 98) ∧ w' = w.alloc (.cells dCells.toArray 72) := by
  go_enter Tryz.func42, Tryz.ntmps42
  refine wp_seq_k fun K hK => ?_
  refine wp_region_list ?_
  refine wpList_assign_const rfl _ rfl ?_
  show K _ _
  refine hK _ _ ?_
  clear hK
  refine wp_seq_k fun K1 hK1 => ?_
  refine wp_region_lit ?_
  iterate 98 (refine wpList_build72 rfl _ _ _ _ _ rfl ?_)
  refine wpList_rows rfl _ rfl (by kernel_rfl) ?_
  refine wpList_assign_at rfl _ (.slice (some ⟨w.heap.size, 0, none⟩) 98 98) rfl rfl ?_
  show K1 _ _
  refine hK1 _ _ ?_
  clear hK1
  generalize w.alloc (.cells dCells.toArray 72) = w1
  refine wp_ret ?_
  refine bodyPost_ret (v := .slice (some ⟨w.heap.size, 0, none⟩) 98 98) ?_ rfl ⟨rfl, rfl⟩
  kernel_rfl
end Go.Proofs.YtooaafbdjnlmfaaGreatDoor

namespace Go.Proofs.YtooaafbdjnlmfaaGreatDoor
open Go.RowKit
set_option linter.unusedVariables false
set_option linter.unusedSimpArgs false
/-- a row's cells -/
abbrev rowC (s : ByteArray) (a b c d : Int) : Array Value := #[.string s, .int .i64 a, .int .i64 b, .int .i64 c, .int .i64 d]
theorem RowsAt.at5 {w : World} {b : Nat} (h : RowsAt w b) (i : Nat) (hi : i < 98) : w.cell? ⟨b, i * 5, none⟩ = some (.string (dName i)) ∧ w.cell? ⟨b, i * 5 + 1, none⟩ = some (.int .i64 ((dForm (i + 1) : Nat) : Int)) ∧ w.cell? ⟨b, i * 5 + 2, none⟩ = some (.int .i64 ((dCode (i + 1) : Nat) : Int)) ∧ w.cell? ⟨b, i * 5 + 3, none⟩ = some (.int .i64 ((dF3 (i + 1) : Nat) : Int)) ∧ w.cell? ⟨b, i * 5 + 4, none⟩ = some (.int .i64 ((dF7 (i + 1) : Nat) : Int)) := by
  rw [Nat.mul_comm i 5]; exact h i hi
theorem rows_at (w : World) : Calls Tryz.prog 42 #[] w fun e w' => e = .returned (.slice (some ⟨w.heap.size, 0, none⟩) 98 98) ∧ Below w.heap.size w w' ∧ w.heap.size < w'.heap.size ∧ RowsAt w' w.heap.size := by
  refine (rows_any w).mono ?_
  rintro e w' ⟨rfl, rfl⟩
  exact ⟨rfl, (Below.refl _ _).alloc (Nat.le_refl _) _, by simp, rows_new w⟩
theorem box5_facts {w : World} {b : Nat} {x0 x1 x2 x3 x4 : Value} {t : TypeId} (h : w.heap[b]? = some (.cells #[x0, x1, x2, x3, x4] t (0, 0))) :
    w.cell? ⟨b, 0, none⟩ = some x0 ∧ w.cell? ⟨b, 1, none⟩ = some x1 ∧ w.cell? ⟨b, 2, none⟩ = some x2 ∧ w.cell? ⟨b, 3, none⟩ = some x3 ∧ w.cell? ⟨b, 4, none⟩ = some x4 := by
  refine ⟨?_, ?_, ?_, ?_, ?_⟩ <;> (simp only [World.cell?, h]; rfl)
theorem box5_frozen {w : World} {b : Nat} {x0 x1 x2 x3 x4 : Value} {t : TypeId} (h : w.heap[b]? = some (.cells #[x0, x1, x2, x3, x4] t (0, 0))) (i : Nat) : w.frozen? ⟨b, i, none⟩ = false := by
  simp only [World.frozen?, h]
  simp
set_option maxRecDepth 100000 in
set_option maxHeartbeats 400000 in
theorem of_no (op : Int) (h : ¬ (1 ≤ op ∧ op ≤ 98)) (w : World) : Calls Tryz.prog 45 #[.int .i64 op] w fun e w' => e = .returned (.agg (rowC ⟨#[]⟩ 0 0 0 0)) ∧ Below w.heap.size w w' := by
  have K : Hid _ := known_no op h
  clear h
  go_enter Tryz.func45, Tryz.ntmps45
  go_wp2_with (first | (go_at_call 67; refine (K.out _).mono ?_; rintro e w' ⟨rfl, hw⟩; rw [hw]; clear hw))
  exact bodyPost_ret (v := .agg (rowC ⟨#[]⟩ 0 0 0 0)) (by simp [results, Tryz.results16, go_sem]) rfl ⟨rfl, (Below.refl _ _).alloc (Nat.le_refl _) _⟩
set_option maxRecDepth 100000 in
set_option maxHeartbeats 400000 in
theorem of_raw (i : Nat) (s : ByteArray) (f c f3 f7 : Int) (h : i < 98) (w : World) (hr : ∀ w b, RowsAt w b → w.cell? ⟨b, i * 5, none⟩ = some (.string s) ∧ w.cell? ⟨b, i * 5 + 1, none⟩ = some (.int .i64 f) ∧ w.cell? ⟨b, i * 5 + 2, none⟩ = some (.int .i64 c) ∧ w.cell? ⟨b, i * 5 + 3, none⟩ = some (.int .i64 f3) ∧ w.cell? ⟨b, i * 5 + 4, none⟩ = some (.int .i64 f7)) :
    Calls Tryz.prog 45 #[.int .i64 ((i : Int) + 1)] w fun e w' => e = .returned (.agg (rowC s f c f3 f7)) ∧ Below w.heap.size w w' := by
  have K : Hid _ := known_yes ((i : Int) + 1) (by omega) (by omega)
  have HR : Hid _ := hr
  clear hr
  have hi1 : (i : Int) < 98 := by omega
  go_enter Tryz.func45, Tryz.ntmps45
  go_wp2_with (first | (go_at_call 67; refine (K.out _).mono ?_; rintro e w' ⟨rfl, hw⟩; rw [hw]; clear hw))
  refine (rows_at _).mono ?_
  rintro e w1 ⟨rfl, hb1, hl1, hr1⟩
  replace hr1 : RowsAt w1 (w.heap.size + 1) := by simpa using hr1
  clear hl1
  have x1 := below_box (heap_alloc_new w (.cells zero72 72)) hb1
  obtain ⟨c0, c1, c2, c3, c4⟩ := HR.out _ _ hr1
  obtain ⟨q0, q1, q2, q3, q4⟩ := box5_facts x1
  have z := box5_frozen x1
  have z0 := z 0
  have z1 := z 1
  have z2 := z 2
  have z3 := z 3
  have z4 := z 4
  have B1 : Hid _ := hb1
  clear hb1 x1 z hr1
  go_wp2
  refine bodyPost_ret (v := .agg (rowC s f c f3 f7)) (by simp [results, Tryz.results16, go_sem, q0, q1, q2, q3, q4]) rfl ⟨rfl, ?_⟩
  iterate 5 (refine Below.setCell ?_ (by exact Nat.le_refl _) _)
  exact ((Below.refl _ _).alloc (Nat.le_refl _) _).trans (B1.out.mono (by simp))
theorem of_yes (i : Nat) (h : i < 98) (w : World) : Calls Tryz.prog 45 #[.int .i64 ((i : Int) + 1)] w fun e w' => e = .returned (.agg (rowC (dName i) (dForm (i + 1) : Nat) (dCode (i + 1) : Nat) (dF3 (i + 1) : Nat) (dF7 (i + 1) : Nat))) ∧ Below w.heap.size w w' :=
  of_raw i _ _ _ _ _ h w (fun w b hr => hr.at5 i h)
/-- of an operation by its own number -/
theorem of_op (o : Nat) (h1 : 1 ≤ o) (h2 : o < 99) (w : World) : Calls Tryz.prog 45 #[.int .i64 (o : Nat)] w fun e w' => e = .returned (.agg (rowC (dName (o - 1)) (dForm o : Nat) (dCode o : Nat) (dF3 o : Nat) (dF7 o : Nat))) ∧ Below w.heap.size w w' := by
  obtain ⟨i, rfl⟩ : ∃ i, o = i + 1 := ⟨o - 1, by omega⟩
  have := of_yes i (by omega) w
  rw [show ((i + 1 : Nat) : Int) = (i : Int) + 1 from by omega]
  exact this
end Go.Proofs.YtooaafbdjnlmfaaGreatDoor
