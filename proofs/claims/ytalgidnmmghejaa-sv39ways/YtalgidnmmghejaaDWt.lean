/- The document's call Write of layer 8, of the registers that are kept whole. -/
import Derived.Test.YtalgidnmmghejaaDWr
namespace Go.Proofs.Ytalgidnmmghejaa.E
open Go.RowKit
set_option linter.unusedVariables false
set_option linter.unusedSimpArgs false
set_option maxRecDepth 100000
set_option maxHeartbeats 4000000 in
theorem dw_771 (m : Int) (K : Nat → Nat) (x : Nat) (hK : Ok K) (hx : x < 18446744073709551616) (w : World) : Calls Try.prog 43 #[.agg (docC m K), .int .i64 771, .int .u64 (x : Int)] w fun e w' => e = .returned (.agg (docC m (upd K 4 (x &&& 546)))) ∧ Below w.heap.size w w' := by
  have T0 : Hid (Two w ((w.alloc (.cells (docC m K) 52)).alloc (.cells #[.int .i64 0, .int .u64 0, .int .u64 0, .int .u64 0, .int .u64 0, .int .u64 0, .int .u64 0, .int .u64 0, .int .u64 0, .int .u64 0, .int .u64 0, .int .u64 0, .int .u64 0, .int .u64 0, .int .u64 0, .int .u64 0, .int .u64 0, .int .u64 0, .int .u64 0, .int .u64 0, .int .u64 0, .int .u64 0, .int .u64 0] 52)) (docC m K) zeroD) := Two.new w _ _
  have HK : Hid (Ok K) := hK
  have HX : Hid (x < 18446744073709551616) := hx
  clear hK hx
  have hg4 : ∀ V, Calls Try.prog 17 #[.int .u64 (x : Int), .int .i64 60, .int .i64 4] V fun e w' => e = .returned (.int .u64 (getN x 60 4 : Nat)) ∧ Below V.heap.size V w' := fun V => rget_all x 60 4 HX.out V V (Below.refl _ _)
  have ha : ∀ V, Calls Try.prog 45 #[.int .u64 (x : Int), .int .u64 546] V fun e w' => e = .returned (.int .u64 (x &&& 546 : Nat)) ∧ Below V.heap.size V w' := fun V => by
    have h := rand_any x 546 HX.out (by decide) V
    exact h
  generalize getN x 60 4 = g at *
  generalize x &&& 546 = y at *
  obtain ⟨s, hs⟩ : ∃ s, rowC (ix 771) = #[.int .i64 771, .string s, .int .i64 4, .int .u64 546] := ⟨dName 4, by kernel_rfl⟩
  have hof : ∀ V, Calls Try.prog 82 #[.int .i64 771] V fun e w' => e = .returned (.tuple #[.agg #[.int .i64 771, .string s, .int .i64 4, .int .u64 546], .bool true]) ∧ Below V.heap.size V w' := fun V => by
    have h := of_any 771 V
    rw [hs, show knownB 771 = true from by kernel_rfl] at h
    exact h
  clear hs
  go_enter Try.func43, Try.ntmps43
  go_upto_region 2 with fail
  generalize ((w.alloc (.cells (docC m K) 52)).alloc (.cells #[.int .i64 0, .int .u64 0, .int .u64 0, .int .u64 0, .int .u64 0, .int .u64 0, .int .u64 0, .int .u64 0, .int .u64 0, .int .u64 0, .int .u64 0, .int .u64 0, .int .u64 0, .int .u64 0, .int .u64 0, .int .u64 0, .int .u64 0, .int .u64 0, .int .u64 0, .int .u64 0, .int .u64 0, .int .u64 0, .int .u64 0] 52)) = W at *
  go_wp2_with fail
  refine (hof _).mono ?_
  rintro e w1 ⟨rfl, hb1⟩
  have T1 : Hid (Two w w1 (docC m K) zeroD) := T0.out.step hb1
  clear hb1 hof
  go_upto_region 21 with fail
  have T2 : Hid (Thr w (w1.alloc (.cells #[.int .i64 771, .string s, .int .i64 4, .int .u64 546] 125)) w1.heap.size (docC m K) zeroD #[.int .i64 771, .string s, .int .i64 4, .int .u64 546]) := ⟨T1.out.step ((Below.refl _ _).alloc (Nat.le_refl _) _), Box.new 125 w1 _, T1.out.lt⟩
  generalize (w1.alloc (.cells #[.int .i64 771, .string s, .int .i64 4, .int .u64 546] 125)) = W2 at *
  generalize w1.heap.size = rb at *
  have r2 : W2.cell? ⟨rb, 2, none⟩ = some (.int .i64 4) := T2.out.2.1.cell 2 _ rfl
  have r3 : W2.cell? ⟨rb, 3, none⟩ = some (.int .u64 546) := T2.out.2.1.cell 3 _ rfl
  clear T1 T0
  go_wp2_with fail
  refine (hg4 _).mono ?_
  rintro e w4 ⟨rfl, hb4⟩
  have T4 : Hid (Thr w w4 rb (docC m K) zeroD #[.int .i64 771, .string s, .int .i64 4, .int .u64 546]) := T2.out.step hb4
  have t2 : w4.cell? ⟨rb, 2, none⟩ = some (.int .i64 4) := T4.out.2.1.cell 2 _ rfl
  have t3 : w4.cell? ⟨rb, 3, none⟩ = some (.int .u64 546) := T4.out.2.1.cell 3 _ rfl
  clear hb4
  clear r2 r3
  go_upto_region 28 with fail
  go_cut [6] (fun r wx => r = .pointer (some ⟨w.heap.size + 1, 0, none⟩) ∧ Two w wx (docC m (upd K 4 y)) zeroD)
  case first =>
    go_region_with (first | (go_at_call 45; (with_reducible refine Calls.mono (ha _) ?_); rintro e w5 ⟨rfl, hb5⟩; have T5 : Hid (Thr w w5 rb (docC m K) zeroD #[.int .i64 771, .string s, .int .i64 4, .int .u64 546]) := (T4.out.step (Below.drew (Below.refl _ _))).step hb5; have s2 : w5.cell? ⟨rb, 2, none⟩ = some (.int .i64 4) := T5.out.2.1.cell 2 _ rfl; have s3 : w5.cell? ⟨w.heap.size, 5, none⟩ = some (.int .u64 (K 4 : Nat)) := T5.out.1.1.cell 5 _ rfl; have s4 := T5.out.1.1.frozen 5; clear hb5))
    all_goals go_wp2_with fail
    all_goals go_meet
    all_goals
      have h := T5.out.1.set 5 (.int .u64 (y : Nat))
      rw [(set_docC m K _).2.2.2.2.1] at h
      exact ⟨rfl, h⟩
  case rest =>
  obtain ⟨rfl, ht⟩ := hcut
  have T6 : Hid (Two w wc (docC m (upd K 4 y)) zeroD) := ht
  clear ht
  go_upto_region 29 with fail
  refine wp_region_list ?_
  refine wpList_load_doc rfl _ rfl w.heap.size m (upd K 4 y) rfl T6.out.1 ?_
  refine wpList_store_doc rfl _ _ rfl (w.heap.size + 1) m (upd K 4 y) zeroD rfl rfl T6.out.2.1 zeroD_size ?_
  intro W9 B9 U9
  have T9 : Hid (Box 52 W9 (w.heap.size + 1) (docC m (upd K 4 y)) ∧ Below w.heap.size w W9) := ⟨B9, T6.out.2.2.trans (U9.below (Nat.le_succ _) T6.out.2.2.size)⟩
  clear B9 U9
  go_wp2_with fail
  exact bodyPost_ret (v := .agg (docC m (upd K 4 y))) (results_cell_row rfl _ _ (w.heap.size + 1) 52 _ (0, 0) _ rfl T9.out.1 Try.underlying52 rfl info52) rfl ⟨rfl, T9.out.2⟩
set_option maxHeartbeats 4000000 in
theorem dw_774 (m : Int) (K : Nat → Nat) (x : Nat) (hK : Ok K) (hx : x < 18446744073709551616) (w : World) : Calls Try.prog 43 #[.agg (docC m K), .int .i64 774, .int .u64 (x : Int)] w fun e w' => e = .returned (.agg (docC m (upd K 7 (x &&& 7)))) ∧ Below w.heap.size w w' := by
  have T0 : Hid (Two w ((w.alloc (.cells (docC m K) 52)).alloc (.cells #[.int .i64 0, .int .u64 0, .int .u64 0, .int .u64 0, .int .u64 0, .int .u64 0, .int .u64 0, .int .u64 0, .int .u64 0, .int .u64 0, .int .u64 0, .int .u64 0, .int .u64 0, .int .u64 0, .int .u64 0, .int .u64 0, .int .u64 0, .int .u64 0, .int .u64 0, .int .u64 0, .int .u64 0, .int .u64 0, .int .u64 0] 52)) (docC m K) zeroD) := Two.new w _ _
  have HK : Hid (Ok K) := hK
  have HX : Hid (x < 18446744073709551616) := hx
  clear hK hx
  have hg4 : ∀ V, Calls Try.prog 17 #[.int .u64 (x : Int), .int .i64 60, .int .i64 4] V fun e w' => e = .returned (.int .u64 (getN x 60 4 : Nat)) ∧ Below V.heap.size V w' := fun V => rget_all x 60 4 HX.out V V (Below.refl _ _)
  have ha : ∀ V, Calls Try.prog 45 #[.int .u64 (x : Int), .int .u64 7] V fun e w' => e = .returned (.int .u64 (x &&& 7 : Nat)) ∧ Below V.heap.size V w' := fun V => by
    have h := rand_any x 7 HX.out (by decide) V
    exact h
  generalize getN x 60 4 = g at *
  generalize x &&& 7 = y at *
  obtain ⟨s, hs⟩ : ∃ s, rowC (ix 774) = #[.int .i64 774, .string s, .int .i64 7, .int .u64 7] := ⟨dName 11, by kernel_rfl⟩
  have hof : ∀ V, Calls Try.prog 82 #[.int .i64 774] V fun e w' => e = .returned (.tuple #[.agg #[.int .i64 774, .string s, .int .i64 7, .int .u64 7], .bool true]) ∧ Below V.heap.size V w' := fun V => by
    have h := of_any 774 V
    rw [hs, show knownB 774 = true from by kernel_rfl] at h
    exact h
  clear hs
  go_enter Try.func43, Try.ntmps43
  go_upto_region 2 with fail
  generalize ((w.alloc (.cells (docC m K) 52)).alloc (.cells #[.int .i64 0, .int .u64 0, .int .u64 0, .int .u64 0, .int .u64 0, .int .u64 0, .int .u64 0, .int .u64 0, .int .u64 0, .int .u64 0, .int .u64 0, .int .u64 0, .int .u64 0, .int .u64 0, .int .u64 0, .int .u64 0, .int .u64 0, .int .u64 0, .int .u64 0, .int .u64 0, .int .u64 0, .int .u64 0, .int .u64 0] 52)) = W at *
  go_wp2_with fail
  refine (hof _).mono ?_
  rintro e w1 ⟨rfl, hb1⟩
  have T1 : Hid (Two w w1 (docC m K) zeroD) := T0.out.step hb1
  clear hb1 hof
  go_upto_region 21 with fail
  have T2 : Hid (Thr w (w1.alloc (.cells #[.int .i64 774, .string s, .int .i64 7, .int .u64 7] 125)) w1.heap.size (docC m K) zeroD #[.int .i64 774, .string s, .int .i64 7, .int .u64 7]) := ⟨T1.out.step ((Below.refl _ _).alloc (Nat.le_refl _) _), Box.new 125 w1 _, T1.out.lt⟩
  generalize (w1.alloc (.cells #[.int .i64 774, .string s, .int .i64 7, .int .u64 7] 125)) = W2 at *
  generalize w1.heap.size = rb at *
  have r2 : W2.cell? ⟨rb, 2, none⟩ = some (.int .i64 7) := T2.out.2.1.cell 2 _ rfl
  have r3 : W2.cell? ⟨rb, 3, none⟩ = some (.int .u64 7) := T2.out.2.1.cell 3 _ rfl
  clear T1 T0
  go_wp2_with fail
  refine (hg4 _).mono ?_
  rintro e w4 ⟨rfl, hb4⟩
  have T4 : Hid (Thr w w4 rb (docC m K) zeroD #[.int .i64 774, .string s, .int .i64 7, .int .u64 7]) := T2.out.step hb4
  have t2 : w4.cell? ⟨rb, 2, none⟩ = some (.int .i64 7) := T4.out.2.1.cell 2 _ rfl
  have t3 : w4.cell? ⟨rb, 3, none⟩ = some (.int .u64 7) := T4.out.2.1.cell 3 _ rfl
  clear hb4
  clear r2 r3
  go_upto_region 28 with fail
  go_cut [6] (fun r wx => r = .pointer (some ⟨w.heap.size + 1, 0, none⟩) ∧ Two w wx (docC m (upd K 7 y)) zeroD)
  case first =>
    go_region_with (first | (go_at_call 45; (with_reducible refine Calls.mono (ha _) ?_); rintro e w5 ⟨rfl, hb5⟩; have T5 : Hid (Thr w w5 rb (docC m K) zeroD #[.int .i64 774, .string s, .int .i64 7, .int .u64 7]) := (T4.out.step (Below.drew (Below.refl _ _))).step hb5; have s2 : w5.cell? ⟨rb, 2, none⟩ = some (.int .i64 7) := T5.out.2.1.cell 2 _ rfl; have s3 : w5.cell? ⟨w.heap.size, 8, none⟩ = some (.int .u64 (K 7 : Nat)) := T5.out.1.1.cell 8 _ rfl; have s4 := T5.out.1.1.frozen 8; clear hb5))
    all_goals go_wp2_with fail
    all_goals go_meet
    all_goals
      have h := T5.out.1.set 8 (.int .u64 (y : Nat))
      rw [(set_docC m K _).2.2.2.2.2.2.2.1] at h
      exact ⟨rfl, h⟩
  case rest =>
  obtain ⟨rfl, ht⟩ := hcut
  have T6 : Hid (Two w wc (docC m (upd K 7 y)) zeroD) := ht
  clear ht
  go_upto_region 29 with fail
  refine wp_region_list ?_
  refine wpList_load_doc rfl _ rfl w.heap.size m (upd K 7 y) rfl T6.out.1 ?_
  refine wpList_store_doc rfl _ _ rfl (w.heap.size + 1) m (upd K 7 y) zeroD rfl rfl T6.out.2.1 zeroD_size ?_
  intro W9 B9 U9
  have T9 : Hid (Box 52 W9 (w.heap.size + 1) (docC m (upd K 7 y)) ∧ Below w.heap.size w W9) := ⟨B9, T6.out.2.2.trans (U9.below (Nat.le_succ _) T6.out.2.2.size)⟩
  clear B9 U9
  go_wp2_with fail
  exact bodyPost_ret (v := .agg (docC m (upd K 7 y))) (results_cell_row rfl _ _ (w.heap.size + 1) 52 _ (0, 0) _ rfl T9.out.1 Try.underlying52 rfl info52) rfl ⟨rfl, T9.out.2⟩
set_option maxHeartbeats 4000000 in
theorem dw_834 (m : Int) (K : Nat → Nat) (x : Nat) (hK : Ok K) (hx : x < 18446744073709551616) (w : World) : Calls Try.prog 43 #[.agg (docC m K), .int .i64 834, .int .u64 (x : Int)] w fun e w' => e = .returned (.agg (docC m (upd K 10 (x)))) ∧ Below w.heap.size w w' := by
  have T0 : Hid (Two w ((w.alloc (.cells (docC m K) 52)).alloc (.cells #[.int .i64 0, .int .u64 0, .int .u64 0, .int .u64 0, .int .u64 0, .int .u64 0, .int .u64 0, .int .u64 0, .int .u64 0, .int .u64 0, .int .u64 0, .int .u64 0, .int .u64 0, .int .u64 0, .int .u64 0, .int .u64 0, .int .u64 0, .int .u64 0, .int .u64 0, .int .u64 0, .int .u64 0, .int .u64 0, .int .u64 0] 52)) (docC m K) zeroD) := Two.new w _ _
  have HK : Hid (Ok K) := hK
  have HX : Hid (x < 18446744073709551616) := hx
  clear hK hx
  have hg4 : ∀ V, Calls Try.prog 17 #[.int .u64 (x : Int), .int .i64 60, .int .i64 4] V fun e w' => e = .returned (.int .u64 (getN x 60 4 : Nat)) ∧ Below V.heap.size V w' := fun V => rget_all x 60 4 HX.out V V (Below.refl _ _)
  have ha : ∀ V, Calls Try.prog 45 #[.int .u64 (x : Int), .int .u64 18446744073709551615] V fun e w' => e = .returned (.int .u64 (x : Nat)) ∧ Below V.heap.size V w' := fun V => by
    have h := rand_any x 18446744073709551615 HX.out (by decide) V
    rw [and_all x HX.out] at h
    exact h
  generalize getN x 60 4 = g at *
  obtain ⟨s, hs⟩ : ∃ s, rowC (ix 834) = #[.int .i64 834, .string s, .int .i64 10, .int .u64 18446744073709551615] := ⟨dName 15, by kernel_rfl⟩
  have hof : ∀ V, Calls Try.prog 82 #[.int .i64 834] V fun e w' => e = .returned (.tuple #[.agg #[.int .i64 834, .string s, .int .i64 10, .int .u64 18446744073709551615], .bool true]) ∧ Below V.heap.size V w' := fun V => by
    have h := of_any 834 V
    rw [hs, show knownB 834 = true from by kernel_rfl] at h
    exact h
  clear hs
  go_enter Try.func43, Try.ntmps43
  go_upto_region 2 with fail
  generalize ((w.alloc (.cells (docC m K) 52)).alloc (.cells #[.int .i64 0, .int .u64 0, .int .u64 0, .int .u64 0, .int .u64 0, .int .u64 0, .int .u64 0, .int .u64 0, .int .u64 0, .int .u64 0, .int .u64 0, .int .u64 0, .int .u64 0, .int .u64 0, .int .u64 0, .int .u64 0, .int .u64 0, .int .u64 0, .int .u64 0, .int .u64 0, .int .u64 0, .int .u64 0, .int .u64 0] 52)) = W at *
  go_wp2_with fail
  refine (hof _).mono ?_
  rintro e w1 ⟨rfl, hb1⟩
  have T1 : Hid (Two w w1 (docC m K) zeroD) := T0.out.step hb1
  clear hb1 hof
  go_upto_region 21 with fail
  have T2 : Hid (Thr w (w1.alloc (.cells #[.int .i64 834, .string s, .int .i64 10, .int .u64 18446744073709551615] 125)) w1.heap.size (docC m K) zeroD #[.int .i64 834, .string s, .int .i64 10, .int .u64 18446744073709551615]) := ⟨T1.out.step ((Below.refl _ _).alloc (Nat.le_refl _) _), Box.new 125 w1 _, T1.out.lt⟩
  generalize (w1.alloc (.cells #[.int .i64 834, .string s, .int .i64 10, .int .u64 18446744073709551615] 125)) = W2 at *
  generalize w1.heap.size = rb at *
  have r2 : W2.cell? ⟨rb, 2, none⟩ = some (.int .i64 10) := T2.out.2.1.cell 2 _ rfl
  have r3 : W2.cell? ⟨rb, 3, none⟩ = some (.int .u64 18446744073709551615) := T2.out.2.1.cell 3 _ rfl
  clear T1 T0
  go_wp2_with fail
  refine (hg4 _).mono ?_
  rintro e w4 ⟨rfl, hb4⟩
  have T4 : Hid (Thr w w4 rb (docC m K) zeroD #[.int .i64 834, .string s, .int .i64 10, .int .u64 18446744073709551615]) := T2.out.step hb4
  have t2 : w4.cell? ⟨rb, 2, none⟩ = some (.int .i64 10) := T4.out.2.1.cell 2 _ rfl
  have t3 : w4.cell? ⟨rb, 3, none⟩ = some (.int .u64 18446744073709551615) := T4.out.2.1.cell 3 _ rfl
  clear hb4
  clear r2 r3
  go_upto_region 28 with fail
  go_cut [6] (fun r wx => r = .pointer (some ⟨w.heap.size + 1, 0, none⟩) ∧ Two w wx (docC m (upd K 10 x)) zeroD)
  case first =>
    go_region_with (first | (go_at_call 45; (with_reducible refine Calls.mono (ha _) ?_); rintro e w5 ⟨rfl, hb5⟩; have T5 : Hid (Thr w w5 rb (docC m K) zeroD #[.int .i64 834, .string s, .int .i64 10, .int .u64 18446744073709551615]) := (T4.out.step (Below.drew (Below.refl _ _))).step hb5; have s2 : w5.cell? ⟨rb, 2, none⟩ = some (.int .i64 10) := T5.out.2.1.cell 2 _ rfl; have s3 : w5.cell? ⟨w.heap.size, 11, none⟩ = some (.int .u64 (K 10 : Nat)) := T5.out.1.1.cell 11 _ rfl; have s4 := T5.out.1.1.frozen 11; clear hb5))
    all_goals go_wp2_with fail
    all_goals go_meet
    all_goals
      have h := T5.out.1.set 11 (.int .u64 (x : Nat))
      rw [(set_docC m K _).2.2.2.2.2.2.2.2.2.2.1] at h
      exact ⟨rfl, h⟩
  case rest =>
  obtain ⟨rfl, ht⟩ := hcut
  have T6 : Hid (Two w wc (docC m (upd K 10 x)) zeroD) := ht
  clear ht
  go_upto_region 29 with fail
  refine wp_region_list ?_
  refine wpList_load_doc rfl _ rfl w.heap.size m (upd K 10 x) rfl T6.out.1 ?_
  refine wpList_store_doc rfl _ _ rfl (w.heap.size + 1) m (upd K 10 x) zeroD rfl rfl T6.out.2.1 zeroD_size ?_
  intro W9 B9 U9
  have T9 : Hid (Box 52 W9 (w.heap.size + 1) (docC m (upd K 10 x)) ∧ Below w.heap.size w W9) := ⟨B9, T6.out.2.2.trans (U9.below (Nat.le_succ _) T6.out.2.2.size)⟩
  clear B9 U9
  go_wp2_with fail
  exact bodyPost_ret (v := .agg (docC m (upd K 10 x))) (results_cell_row rfl _ _ (w.heap.size + 1) 52 _ (0, 0) _ rfl T9.out.1 Try.underlying52 rfl info52) rfl ⟨rfl, T9.out.2⟩
set_option maxHeartbeats 4000000 in
theorem dw_2816 (m : Int) (K : Nat → Nat) (x : Nat) (hK : Ok K) (hx : x < 18446744073709551616) (w : World) : Calls Try.prog 43 #[.agg (docC m K), .int .i64 2816, .int .u64 (x : Int)] w fun e w' => e = .returned (.agg (docC m (upd K 19 (x)))) ∧ Below w.heap.size w w' := by
  have T0 : Hid (Two w ((w.alloc (.cells (docC m K) 52)).alloc (.cells #[.int .i64 0, .int .u64 0, .int .u64 0, .int .u64 0, .int .u64 0, .int .u64 0, .int .u64 0, .int .u64 0, .int .u64 0, .int .u64 0, .int .u64 0, .int .u64 0, .int .u64 0, .int .u64 0, .int .u64 0, .int .u64 0, .int .u64 0, .int .u64 0, .int .u64 0, .int .u64 0, .int .u64 0, .int .u64 0, .int .u64 0] 52)) (docC m K) zeroD) := Two.new w _ _
  have HK : Hid (Ok K) := hK
  have HX : Hid (x < 18446744073709551616) := hx
  clear hK hx
  have hg4 : ∀ V, Calls Try.prog 17 #[.int .u64 (x : Int), .int .i64 60, .int .i64 4] V fun e w' => e = .returned (.int .u64 (getN x 60 4 : Nat)) ∧ Below V.heap.size V w' := fun V => rget_all x 60 4 HX.out V V (Below.refl _ _)
  have ha : ∀ V, Calls Try.prog 45 #[.int .u64 (x : Int), .int .u64 18446744073709551615] V fun e w' => e = .returned (.int .u64 (x : Nat)) ∧ Below V.heap.size V w' := fun V => by
    have h := rand_any x 18446744073709551615 HX.out (by decide) V
    rw [and_all x HX.out] at h
    exact h
  generalize getN x 60 4 = g at *
  obtain ⟨s, hs⟩ : ∃ s, rowC (ix 2816) = #[.int .i64 2816, .string s, .int .i64 19, .int .u64 18446744073709551615] := ⟨dName 19, by kernel_rfl⟩
  have hof : ∀ V, Calls Try.prog 82 #[.int .i64 2816] V fun e w' => e = .returned (.tuple #[.agg #[.int .i64 2816, .string s, .int .i64 19, .int .u64 18446744073709551615], .bool true]) ∧ Below V.heap.size V w' := fun V => by
    have h := of_any 2816 V
    rw [hs, show knownB 2816 = true from by kernel_rfl] at h
    exact h
  clear hs
  go_enter Try.func43, Try.ntmps43
  go_upto_region 2 with fail
  generalize ((w.alloc (.cells (docC m K) 52)).alloc (.cells #[.int .i64 0, .int .u64 0, .int .u64 0, .int .u64 0, .int .u64 0, .int .u64 0, .int .u64 0, .int .u64 0, .int .u64 0, .int .u64 0, .int .u64 0, .int .u64 0, .int .u64 0, .int .u64 0, .int .u64 0, .int .u64 0, .int .u64 0, .int .u64 0, .int .u64 0, .int .u64 0, .int .u64 0, .int .u64 0, .int .u64 0] 52)) = W at *
  go_wp2_with fail
  refine (hof _).mono ?_
  rintro e w1 ⟨rfl, hb1⟩
  have T1 : Hid (Two w w1 (docC m K) zeroD) := T0.out.step hb1
  clear hb1 hof
  go_upto_region 21 with fail
  have T2 : Hid (Thr w (w1.alloc (.cells #[.int .i64 2816, .string s, .int .i64 19, .int .u64 18446744073709551615] 125)) w1.heap.size (docC m K) zeroD #[.int .i64 2816, .string s, .int .i64 19, .int .u64 18446744073709551615]) := ⟨T1.out.step ((Below.refl _ _).alloc (Nat.le_refl _) _), Box.new 125 w1 _, T1.out.lt⟩
  generalize (w1.alloc (.cells #[.int .i64 2816, .string s, .int .i64 19, .int .u64 18446744073709551615] 125)) = W2 at *
  generalize w1.heap.size = rb at *
  have r2 : W2.cell? ⟨rb, 2, none⟩ = some (.int .i64 19) := T2.out.2.1.cell 2 _ rfl
  have r3 : W2.cell? ⟨rb, 3, none⟩ = some (.int .u64 18446744073709551615) := T2.out.2.1.cell 3 _ rfl
  clear T1 T0
  go_wp2_with fail
  refine (hg4 _).mono ?_
  rintro e w4 ⟨rfl, hb4⟩
  have T4 : Hid (Thr w w4 rb (docC m K) zeroD #[.int .i64 2816, .string s, .int .i64 19, .int .u64 18446744073709551615]) := T2.out.step hb4
  have t2 : w4.cell? ⟨rb, 2, none⟩ = some (.int .i64 19) := T4.out.2.1.cell 2 _ rfl
  have t3 : w4.cell? ⟨rb, 3, none⟩ = some (.int .u64 18446744073709551615) := T4.out.2.1.cell 3 _ rfl
  clear hb4
  clear r2 r3
  go_upto_region 28 with fail
  go_cut [6] (fun r wx => r = .pointer (some ⟨w.heap.size + 1, 0, none⟩) ∧ Two w wx (docC m (upd K 19 x)) zeroD)
  case first =>
    go_region_with (first | (go_at_call 45; (with_reducible refine Calls.mono (ha _) ?_); rintro e w5 ⟨rfl, hb5⟩; have T5 : Hid (Thr w w5 rb (docC m K) zeroD #[.int .i64 2816, .string s, .int .i64 19, .int .u64 18446744073709551615]) := (T4.out.step (Below.drew (Below.refl _ _))).step hb5; have s2 : w5.cell? ⟨rb, 2, none⟩ = some (.int .i64 19) := T5.out.2.1.cell 2 _ rfl; have s3 : w5.cell? ⟨w.heap.size, 20, none⟩ = some (.int .u64 (K 19 : Nat)) := T5.out.1.1.cell 20 _ rfl; have s4 := T5.out.1.1.frozen 20; clear hb5))
    all_goals go_wp2_with fail
    all_goals go_meet
    all_goals
      have h := T5.out.1.set 20 (.int .u64 (x : Nat))
      rw [(set_docC m K _).2.2.2.2.2.2.2.2.2.2.2.2.2.2.2.2.2.2.2.1] at h
      exact ⟨rfl, h⟩
  case rest =>
  obtain ⟨rfl, ht⟩ := hcut
  have T6 : Hid (Two w wc (docC m (upd K 19 x)) zeroD) := ht
  clear ht
  go_upto_region 29 with fail
  refine wp_region_list ?_
  refine wpList_load_doc rfl _ rfl w.heap.size m (upd K 19 x) rfl T6.out.1 ?_
  refine wpList_store_doc rfl _ _ rfl (w.heap.size + 1) m (upd K 19 x) zeroD rfl rfl T6.out.2.1 zeroD_size ?_
  intro W9 B9 U9
  have T9 : Hid (Box 52 W9 (w.heap.size + 1) (docC m (upd K 19 x)) ∧ Below w.heap.size w W9) := ⟨B9, T6.out.2.2.trans (U9.below (Nat.le_succ _) T6.out.2.2.size)⟩
  clear B9 U9
  go_wp2_with fail
  exact bodyPost_ret (v := .agg (docC m (upd K 19 x))) (results_cell_row rfl _ _ (w.heap.size + 1) 52 _ (0, 0) _ rfl T9.out.1 Try.underlying52 rfl info52) rfl ⟨rfl, T9.out.2⟩
set_option maxHeartbeats 4000000 in
theorem dw_384 (m : Int) (K : Nat → Nat) (x : Nat) (hK : Ok K) (hx : x < 18446744073709551616) (w : World) : Calls Try.prog 43 #[.agg (docC m K), .int .i64 384, .int .u64 (x : Int)] w fun e w' => e = .returned (.agg (docC m (upd K 18 (tabN (K 18) x)))) ∧ Below w.heap.size w w' := by
  have T0 : Hid (Two w ((w.alloc (.cells (docC m K) 52)).alloc (.cells #[.int .i64 0, .int .u64 0, .int .u64 0, .int .u64 0, .int .u64 0, .int .u64 0, .int .u64 0, .int .u64 0, .int .u64 0, .int .u64 0, .int .u64 0, .int .u64 0, .int .u64 0, .int .u64 0, .int .u64 0, .int .u64 0, .int .u64 0, .int .u64 0, .int .u64 0, .int .u64 0, .int .u64 0, .int .u64 0, .int .u64 0] 52)) (docC m K) zeroD) := Two.new w _ _
  have HK : Hid (Ok K) := hK
  have HX : Hid (x < 18446744073709551616) := hx
  clear hK hx
  have hg4 : ∀ V, Calls Try.prog 17 #[.int .u64 (x : Int), .int .i64 60, .int .i64 4] V fun e w' => e = .returned (.int .u64 (getN x 60 4 : Nat)) ∧ Below V.heap.size V w' := fun V => rget_all x 60 4 HX.out V V (Below.refl _ _)
  have ha : ∀ V, Calls Try.prog 45 #[.int .u64 (x : Int), .int .u64 18446744073709551615] V fun e w' => e = .returned (.int .u64 (x : Nat)) ∧ Below V.heap.size V w' := fun V => by
    have h := rand_any x 18446744073709551615 HX.out (by decide) V
    rw [and_all x HX.out] at h
    exact h
  unfold tabN
  generalize getN x 60 4 = g at *
  by_cases h0 : g = 0
  · subst h0
    rw [if_pos (.inl rfl)]
    obtain ⟨s, hs⟩ : ∃ s, rowC (ix 384) = #[.int .i64 384, .string s, .int .i64 18, .int .u64 18446744073709551615] := ⟨dName 23, by kernel_rfl⟩
    have hof : ∀ V, Calls Try.prog 82 #[.int .i64 384] V fun e w' => e = .returned (.tuple #[.agg #[.int .i64 384, .string s, .int .i64 18, .int .u64 18446744073709551615], .bool true]) ∧ Below V.heap.size V w' := fun V => by
      have h := of_any 384 V
      rw [hs, show knownB 384 = true from by kernel_rfl] at h
      exact h
    clear hs
    go_enter Try.func43, Try.ntmps43
    go_upto_region 2 with fail
    generalize ((w.alloc (.cells (docC m K) 52)).alloc (.cells #[.int .i64 0, .int .u64 0, .int .u64 0, .int .u64 0, .int .u64 0, .int .u64 0, .int .u64 0, .int .u64 0, .int .u64 0, .int .u64 0, .int .u64 0, .int .u64 0, .int .u64 0, .int .u64 0, .int .u64 0, .int .u64 0, .int .u64 0, .int .u64 0, .int .u64 0, .int .u64 0, .int .u64 0, .int .u64 0, .int .u64 0] 52)) = W at *
    go_wp2_with fail
    refine (hof _).mono ?_
    rintro e w1 ⟨rfl, hb1⟩
    have T1 : Hid (Two w w1 (docC m K) zeroD) := T0.out.step hb1
    clear hb1 hof
    go_upto_region 21 with fail
    have T2 : Hid (Thr w (w1.alloc (.cells #[.int .i64 384, .string s, .int .i64 18, .int .u64 18446744073709551615] 125)) w1.heap.size (docC m K) zeroD #[.int .i64 384, .string s, .int .i64 18, .int .u64 18446744073709551615]) := ⟨T1.out.step ((Below.refl _ _).alloc (Nat.le_refl _) _), Box.new 125 w1 _, T1.out.lt⟩
    generalize (w1.alloc (.cells #[.int .i64 384, .string s, .int .i64 18, .int .u64 18446744073709551615] 125)) = W2 at *
    generalize w1.heap.size = rb at *
    have r2 : W2.cell? ⟨rb, 2, none⟩ = some (.int .i64 18) := T2.out.2.1.cell 2 _ rfl
    have r3 : W2.cell? ⟨rb, 3, none⟩ = some (.int .u64 18446744073709551615) := T2.out.2.1.cell 3 _ rfl
    clear T1 T0
    go_wp2_with fail
    refine (hg4 _).mono ?_
    rintro e w4 ⟨rfl, hb4⟩
    have T4 : Hid (Thr w w4 rb (docC m K) zeroD #[.int .i64 384, .string s, .int .i64 18, .int .u64 18446744073709551615]) := T2.out.step hb4
    have t2 : w4.cell? ⟨rb, 2, none⟩ = some (.int .i64 18) := T4.out.2.1.cell 2 _ rfl
    have t3 : w4.cell? ⟨rb, 3, none⟩ = some (.int .u64 18446744073709551615) := T4.out.2.1.cell 3 _ rfl
    clear hb4
    clear r2 r3
    go_upto_region 28 with fail
    go_cut [6] (fun r wx => r = .pointer (some ⟨w.heap.size + 1, 0, none⟩) ∧ Two w wx (docC m (upd K 18 x)) zeroD)
    case first =>
      go_region_with (first | (go_at_call 45; (with_reducible refine Calls.mono (ha _) ?_); rintro e w5 ⟨rfl, hb5⟩; have T5 : Hid (Thr w w5 rb (docC m K) zeroD #[.int .i64 384, .string s, .int .i64 18, .int .u64 18446744073709551615]) := (T4.out.step (Below.drew (Below.refl _ _))).step hb5; have s2 : w5.cell? ⟨rb, 2, none⟩ = some (.int .i64 18) := T5.out.2.1.cell 2 _ rfl; have s3 : w5.cell? ⟨w.heap.size, 19, none⟩ = some (.int .u64 (K 18 : Nat)) := T5.out.1.1.cell 19 _ rfl; have s4 := T5.out.1.1.frozen 19; clear hb5))
      all_goals go_wp2_with fail
      all_goals go_meet
      all_goals
        have h := T5.out.1.set 19 (.int .u64 (x : Nat))
        rw [(set_docC m K _).2.2.2.2.2.2.2.2.2.2.2.2.2.2.2.2.2.2.1] at h
        exact ⟨rfl, h⟩
    case rest =>
    obtain ⟨rfl, ht⟩ := hcut
    have T6 : Hid (Two w wc (docC m (upd K 18 x)) zeroD) := ht
    clear ht
    go_upto_region 29 with fail
    refine wp_region_list ?_
    refine wpList_load_doc rfl _ rfl w.heap.size m (upd K 18 x) rfl T6.out.1 ?_
    refine wpList_store_doc rfl _ _ rfl (w.heap.size + 1) m (upd K 18 x) zeroD rfl rfl T6.out.2.1 zeroD_size ?_
    intro W9 B9 U9
    have T9 : Hid (Box 52 W9 (w.heap.size + 1) (docC m (upd K 18 x)) ∧ Below w.heap.size w W9) := ⟨B9, T6.out.2.2.trans (U9.below (Nat.le_succ _) T6.out.2.2.size)⟩
    clear B9 U9
    go_wp2_with fail
    exact bodyPost_ret (v := .agg (docC m (upd K 18 x))) (results_cell_row rfl _ _ (w.heap.size + 1) 52 _ (0, 0) _ rfl T9.out.1 Try.underlying52 rfl info52) rfl ⟨rfl, T9.out.2⟩
  · have n0 : ((g : Int) == 0) = false := by simp; omega
    have m0 : ¬ (g : Int) = 0 := by omega
    by_cases h8 : g = 8
    · subst h8
      rw [if_pos (.inr rfl)]
      clear h0 n0 m0
      obtain ⟨s, hs⟩ : ∃ s, rowC (ix 384) = #[.int .i64 384, .string s, .int .i64 18, .int .u64 18446744073709551615] := ⟨dName 23, by kernel_rfl⟩
      have hof : ∀ V, Calls Try.prog 82 #[.int .i64 384] V fun e w' => e = .returned (.tuple #[.agg #[.int .i64 384, .string s, .int .i64 18, .int .u64 18446744073709551615], .bool true]) ∧ Below V.heap.size V w' := fun V => by
        have h := of_any 384 V
        rw [hs, show knownB 384 = true from by kernel_rfl] at h
        exact h
      clear hs
      go_enter Try.func43, Try.ntmps43
      go_upto_region 2 with fail
      generalize ((w.alloc (.cells (docC m K) 52)).alloc (.cells #[.int .i64 0, .int .u64 0, .int .u64 0, .int .u64 0, .int .u64 0, .int .u64 0, .int .u64 0, .int .u64 0, .int .u64 0, .int .u64 0, .int .u64 0, .int .u64 0, .int .u64 0, .int .u64 0, .int .u64 0, .int .u64 0, .int .u64 0, .int .u64 0, .int .u64 0, .int .u64 0, .int .u64 0, .int .u64 0, .int .u64 0] 52)) = W at *
      go_wp2_with fail
      refine (hof _).mono ?_
      rintro e w1 ⟨rfl, hb1⟩
      have T1 : Hid (Two w w1 (docC m K) zeroD) := T0.out.step hb1
      clear hb1 hof
      go_upto_region 21 with fail
      have T2 : Hid (Thr w (w1.alloc (.cells #[.int .i64 384, .string s, .int .i64 18, .int .u64 18446744073709551615] 125)) w1.heap.size (docC m K) zeroD #[.int .i64 384, .string s, .int .i64 18, .int .u64 18446744073709551615]) := ⟨T1.out.step ((Below.refl _ _).alloc (Nat.le_refl _) _), Box.new 125 w1 _, T1.out.lt⟩
      generalize (w1.alloc (.cells #[.int .i64 384, .string s, .int .i64 18, .int .u64 18446744073709551615] 125)) = W2 at *
      generalize w1.heap.size = rb at *
      have r2 : W2.cell? ⟨rb, 2, none⟩ = some (.int .i64 18) := T2.out.2.1.cell 2 _ rfl
      have r3 : W2.cell? ⟨rb, 3, none⟩ = some (.int .u64 18446744073709551615) := T2.out.2.1.cell 3 _ rfl
      clear T1 T0
      go_wp2_with fail
      refine (hg4 _).mono ?_
      rintro e w4 ⟨rfl, hb4⟩
      have T4 : Hid (Thr w w4 rb (docC m K) zeroD #[.int .i64 384, .string s, .int .i64 18, .int .u64 18446744073709551615]) := T2.out.step hb4
      have t2 : w4.cell? ⟨rb, 2, none⟩ = some (.int .i64 18) := T4.out.2.1.cell 2 _ rfl
      have t3 : w4.cell? ⟨rb, 3, none⟩ = some (.int .u64 18446744073709551615) := T4.out.2.1.cell 3 _ rfl
      clear hb4
      clear r2 r3
      go_upto_region 28 with fail
      go_cut [6] (fun r wx => r = .pointer (some ⟨w.heap.size + 1, 0, none⟩) ∧ Two w wx (docC m (upd K 18 x)) zeroD)
      case first =>
        go_region_with (first | (go_at_call 45; (with_reducible refine Calls.mono (ha _) ?_); rintro e w5 ⟨rfl, hb5⟩; have T5 : Hid (Thr w w5 rb (docC m K) zeroD #[.int .i64 384, .string s, .int .i64 18, .int .u64 18446744073709551615]) := (T4.out.step (Below.drew (Below.refl _ _))).step hb5; have s2 : w5.cell? ⟨rb, 2, none⟩ = some (.int .i64 18) := T5.out.2.1.cell 2 _ rfl; have s3 : w5.cell? ⟨w.heap.size, 19, none⟩ = some (.int .u64 (K 18 : Nat)) := T5.out.1.1.cell 19 _ rfl; have s4 := T5.out.1.1.frozen 19; clear hb5))
        all_goals go_wp2_with fail
        all_goals go_meet
        all_goals
          have h := T5.out.1.set 19 (.int .u64 (x : Nat))
          rw [(set_docC m K _).2.2.2.2.2.2.2.2.2.2.2.2.2.2.2.2.2.2.1] at h
          exact ⟨rfl, h⟩
      case rest =>
      obtain ⟨rfl, ht⟩ := hcut
      have T6 : Hid (Two w wc (docC m (upd K 18 x)) zeroD) := ht
      clear ht
      go_upto_region 29 with fail
      refine wp_region_list ?_
      refine wpList_load_doc rfl _ rfl w.heap.size m (upd K 18 x) rfl T6.out.1 ?_
      refine wpList_store_doc rfl _ _ rfl (w.heap.size + 1) m (upd K 18 x) zeroD rfl rfl T6.out.2.1 zeroD_size ?_
      intro W9 B9 U9
      have T9 : Hid (Box 52 W9 (w.heap.size + 1) (docC m (upd K 18 x)) ∧ Below w.heap.size w W9) := ⟨B9, T6.out.2.2.trans (U9.below (Nat.le_succ _) T6.out.2.2.size)⟩
      clear B9 U9
      go_wp2_with fail
      exact bodyPost_ret (v := .agg (docC m (upd K 18 x))) (results_cell_row rfl _ _ (w.heap.size + 1) 52 _ (0, 0) _ rfl T9.out.1 Try.underlying52 rfl info52) rfl ⟨rfl, T9.out.2⟩
    · have n8 : ((g : Int) == 8) = false := by simp; omega
      have m8 : ¬ (g : Int) = 8 := by omega
      have p8 : ((g : Int) != 8) = true := by simp; omega
      have p0 : ((g : Int) != 0) = true := by simp; omega
      rw [if_neg (by omega), upd_self K 18 _ rfl]
      obtain ⟨s, hs⟩ : ∃ s, rowC (ix 384) = #[.int .i64 384, .string s, .int .i64 18, .int .u64 18446744073709551615] := ⟨dName 23, by kernel_rfl⟩
      have hof : ∀ V, Calls Try.prog 82 #[.int .i64 384] V fun e w' => e = .returned (.tuple #[.agg #[.int .i64 384, .string s, .int .i64 18, .int .u64 18446744073709551615], .bool true]) ∧ Below V.heap.size V w' := fun V => by
        have h := of_any 384 V
        rw [hs, show knownB 384 = true from by kernel_rfl] at h
        exact h
      clear hs
      go_enter Try.func43, Try.ntmps43
      go_upto_region 2 with fail
      generalize ((w.alloc (.cells (docC m K) 52)).alloc (.cells #[.int .i64 0, .int .u64 0, .int .u64 0, .int .u64 0, .int .u64 0, .int .u64 0, .int .u64 0, .int .u64 0, .int .u64 0, .int .u64 0, .int .u64 0, .int .u64 0, .int .u64 0, .int .u64 0, .int .u64 0, .int .u64 0, .int .u64 0, .int .u64 0, .int .u64 0, .int .u64 0, .int .u64 0, .int .u64 0, .int .u64 0] 52)) = W at *
      go_wp2_with fail
      refine (hof _).mono ?_
      rintro e w1 ⟨rfl, hb1⟩
      have T1 : Hid (Two w w1 (docC m K) zeroD) := T0.out.step hb1
      clear hb1 hof
      go_upto_region 21 with fail
      have T2 : Hid (Thr w (w1.alloc (.cells #[.int .i64 384, .string s, .int .i64 18, .int .u64 18446744073709551615] 125)) w1.heap.size (docC m K) zeroD #[.int .i64 384, .string s, .int .i64 18, .int .u64 18446744073709551615]) := ⟨T1.out.step ((Below.refl _ _).alloc (Nat.le_refl _) _), Box.new 125 w1 _, T1.out.lt⟩
      generalize (w1.alloc (.cells #[.int .i64 384, .string s, .int .i64 18, .int .u64 18446744073709551615] 125)) = W2 at *
      generalize w1.heap.size = rb at *
      have r2 : W2.cell? ⟨rb, 2, none⟩ = some (.int .i64 18) := T2.out.2.1.cell 2 _ rfl
      have r3 : W2.cell? ⟨rb, 3, none⟩ = some (.int .u64 18446744073709551615) := T2.out.2.1.cell 3 _ rfl
      clear T1 T0
      go_wp2_with fail
      refine (hg4 _).mono ?_
      rintro e w4 ⟨rfl, hb4⟩
      have T4 : Hid (Thr w w4 rb (docC m K) zeroD #[.int .i64 384, .string s, .int .i64 18, .int .u64 18446744073709551615]) := T2.out.step hb4
      have t2 : w4.cell? ⟨rb, 2, none⟩ = some (.int .i64 18) := T4.out.2.1.cell 2 _ rfl
      have t3 : w4.cell? ⟨rb, 3, none⟩ = some (.int .u64 18446744073709551615) := T4.out.2.1.cell 3 _ rfl
      clear hb4
      have T4t : Hid (Two w w4 (docC m K) zeroD) := T4.out.1
      go_upto_region 27 with fail
      refine wp_region_list ?_
      refine wpList_load_doc rfl _ rfl w.heap.size m (K) rfl T4t.out.1 ?_
      refine wpList_store_doc rfl _ _ rfl (w.heap.size + 1) m (K) zeroD rfl rfl T4t.out.2.1 zeroD_size ?_
      intro W9 B9 U9
      have T9 : Hid (Box 52 W9 (w.heap.size + 1) (docC m (K)) ∧ Below w.heap.size w W9) := ⟨B9, T4t.out.2.2.trans (U9.below (Nat.le_succ _) T4t.out.2.2.size)⟩
      clear B9 U9
      go_wp2_with fail
      exact bodyPost_ret (v := .agg (docC m (K))) (results_cell_row rfl _ _ (w.heap.size + 1) 52 _ (0, 0) _ rfl T9.out.1 Try.underlying52 rfl info52) rfl ⟨rfl, T9.out.2⟩
end Go.Proofs.Ytalgidnmmghejaa.E
