/- The statements' own call Same of layer 8. -/
import Derived.Test.YtdljceeoofhfnaaDoorLa
namespace Go.Proofs.YtdljceeoofhfnaaDoor
open Go.RowKit Go.Maps
set_option linter.unusedVariables false
set_option linter.unusedSimpArgs false
set_option maxRecDepth 100000
set_option maxHeartbeats 4000000 in
theorem same_any (m : Int) (K : Nat → Nat) (w : World) : Calls Tryd.prog 9 #[.agg (fileC m K), .agg (docC m K)] w fun e w' => e = .returned (.bool true) ∧ Below w.heap.size w w' := by
  have T0 : Hid (Box 29 ((w.alloc (.cells (fileC m K) 29)).alloc (.cells (docC m K) 32)) w.heap.size (fileC m K) ∧ Box 32 ((w.alloc (.cells (fileC m K) 29)).alloc (.cells (docC m K) 32)) (w.heap.size + 1) (docC m K) ∧ Below w.heap.size w ((w.alloc (.cells (fileC m K) 29)).alloc (.cells (docC m K) 32))) := by
    refine ⟨(Box.new 29 w _).alloc _, ?_, ((Below.refl _ _).alloc (Nat.le_refl _) _).alloc (by simp) _⟩
    have h := Box.new 32 (w.alloc (.cells (fileC m K) 29)) (docC m K)
    simpa using h
  go_enter Tryd.func9, Tryd.ntmps9
  go_upto_region 1 with fail
  generalize ((w.alloc (.cells (fileC m K) 29)).alloc (.cells (docC m K) 32)) = W at *
  have c0 : W.cell? ⟨w.heap.size, 1, none⟩ = some (.int .u64 (K 0 : Nat)) := T0.out.1.cell 1 _ rfl
  have c1 : W.cell? ⟨w.heap.size, 5, none⟩ = some (.int .u64 (K 1 : Nat)) := T0.out.1.cell 5 _ rfl
  have c2 : W.cell? ⟨w.heap.size, 6, none⟩ = some (.int .u64 (K 2 : Nat)) := T0.out.1.cell 6 _ rfl
  have c3 : W.cell? ⟨w.heap.size, 2, none⟩ = some (.int .u64 (K 3 : Nat)) := T0.out.1.cell 2 _ rfl
  have c4 : W.cell? ⟨w.heap.size, 3, none⟩ = some (.int .u64 (K 4 : Nat)) := T0.out.1.cell 3 _ rfl
  have c5 : W.cell? ⟨w.heap.size, 4, none⟩ = some (.int .u64 (K 5 : Nat)) := T0.out.1.cell 4 _ rfl
  have c6 : W.cell? ⟨w.heap.size, 7, none⟩ = some (.int .u64 (K 6 : Nat)) := T0.out.1.cell 7 _ rfl
  have c7 : W.cell? ⟨w.heap.size, 8, none⟩ = some (.int .u64 (K 7 : Nat)) := T0.out.1.cell 8 _ rfl
  have c8 : W.cell? ⟨w.heap.size, 9, none⟩ = some (.int .u64 (K 8 : Nat)) := T0.out.1.cell 9 _ rfl
  have c9 : W.cell? ⟨w.heap.size, 10, none⟩ = some (.int .u64 (K 9 : Nat)) := T0.out.1.cell 10 _ rfl
  have c10 : W.cell? ⟨w.heap.size, 11, none⟩ = some (.int .u64 (K 10 : Nat)) := T0.out.1.cell 11 _ rfl
  have c11 : W.cell? ⟨w.heap.size, 12, none⟩ = some (.int .u64 (K 11 : Nat)) := T0.out.1.cell 12 _ rfl
  have c12 : W.cell? ⟨w.heap.size, 13, none⟩ = some (.int .u64 (K 12 : Nat)) := T0.out.1.cell 13 _ rfl
  have c13 : W.cell? ⟨w.heap.size, 14, none⟩ = some (.int .u64 (K 13 : Nat)) := T0.out.1.cell 14 _ rfl
  have c14 : W.cell? ⟨w.heap.size, 15, none⟩ = some (.int .u64 (K 14 : Nat)) := T0.out.1.cell 15 _ rfl
  have c15 : W.cell? ⟨w.heap.size, 16, none⟩ = some (.int .u64 (K 15 : Nat)) := T0.out.1.cell 16 _ rfl
  have c16 : W.cell? ⟨w.heap.size, 17, none⟩ = some (.int .u64 (K 16 : Nat)) := T0.out.1.cell 17 _ rfl
  have c17 : W.cell? ⟨w.heap.size, 18, none⟩ = some (.int .u64 (K 17 : Nat)) := T0.out.1.cell 18 _ rfl
  have c18 : W.cell? ⟨w.heap.size, 19, none⟩ = some (.int .u64 (K 18 : Nat)) := T0.out.1.cell 19 _ rfl
  have c19 : W.cell? ⟨w.heap.size, 20, none⟩ = some (.int .u64 (K 19 : Nat)) := T0.out.1.cell 20 _ rfl
  have c20 : W.cell? ⟨w.heap.size, 21, none⟩ = some (.int .u64 (K 20 : Nat)) := T0.out.1.cell 21 _ rfl
  have c21 : W.cell? ⟨w.heap.size, 22, none⟩ = some (.int .u64 (K 21 : Nat)) := T0.out.1.cell 22 _ rfl
  refine wp_region_list ?_
  iterate 45 (refine wpList_step (fun KK hKK => ?_); go_simp; refine hKK _ _ ?_; clear hKK KK)
  clear c0 c1 c2 c3 c4 c5 c6 c7 c8 c9 c10 c11 c12 c13 c14 c15 c16 c17 c18 c19 c20 c21
  refine wpList_alloc_arr rfl rfl ?_
  intro W0 hW0
  have B0 : Box 30 W0 W.heap.size zeroA := by rw [hW0]; exact Box.new _ _ _
  have L0 : Below W.heap.size W W0 := by rw [hW0]; exact (Below.refl _ _).alloc (Nat.le_refl _) _
  clear hW0
  refine wpList_store_arr rfl _ _ rfl W.heap.size K zeroA rfl rfl B0 rfl ?_
  intro W1 B1 U1
  have X1 : Hid (Box 29 W1 w.heap.size (fileC m K) ∧ Box 32 W1 (w.heap.size + 1) (docC m K) ∧ Below w.heap.size w W1 ∧ Box 30 W1 W.heap.size (arrC K)) := by
    have l1 : Below W.heap.size W W1 := L0.trans (U1.below (Nat.le_refl _) L0.size)
    exact ⟨T0.out.1.step l1, T0.out.2.1.step l1, T0.out.2.2.trans (l1.mono T0.out.2.2.size), B1⟩
  clear B0 L0 B1 U1 T0
  generalize W.heap.size = ab at *
  have d0 : W1.cell? ⟨w.heap.size, 0, none⟩ = some (.int .i64 m) := X1.out.1.cell 0 _ rfl
  have d1 : W1.cell? ⟨w.heap.size + 1, 0, none⟩ = some (.int .i64 m) := X1.out.2.1.cell 0 _ rfl
  go_upto_region 2 with fail
  refine wp_region_list ?_
  iterate 6 (refine wpList_step (fun KK hKK => ?_); go_simp; refine hKK _ _ ?_; clear hKK KK)
  refine wpList_load_arrG (by first | rfl | kernel_rfl) _ rfl ab K rfl X1.out.2.2.2 ?_
  (refine wpList_step (fun KK hKK => ?_); go_simp; refine hKK _ _ ?_; clear hKK KK)
  refine wpList_load_inG (by first | rfl | kernel_rfl) _ rfl (w.heap.size + 1) m K rfl X1.out.2.1 ?_
  refine wpList_eql_arrG (by first | rfl | kernel_rfl) _ _ _ rfl K rfl rfl ?_
  go_wp2_with fail
  go_ret
  exact ⟨rfl, X1.out.2.2.1⟩
end Go.Proofs.YtdljceeoofhfnaaDoor
