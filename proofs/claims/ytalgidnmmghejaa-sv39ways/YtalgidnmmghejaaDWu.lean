/- The document's call Write of layer 8, of the registers that are kept whole. -/
import Derived.Test.YtalgidnmmghejaaDWr
namespace Go.Proofs.Ytalgidnmmghejaa.E
open Go.RowKit
set_option linter.unusedVariables false
set_option linter.unusedSimpArgs false
set_option maxRecDepth 100000
set_option maxHeartbeats 4000000 in
theorem dw_772 (m : Int) (K : Nat → Nat) (x : Nat) (hK : Ok K) (hx : x < 18446744073709551616) (w : World) : Calls Try.prog 43 #[.agg (docC m K), .int .i64 772, .int .u64 (x : Int)] w fun e w' => e = .returned (.agg (docC m (upd K 5 (x &&& 2730)))) ∧ Below w.heap.size w w' := by
  have T0 : Hid (Two w ((w.alloc (.cells (docC m K) 52)).alloc (.cells #[.int .i64 0, .int .u64 0, .int .u64 0, .int .u64 0, .int .u64 0, .int .u64 0, .int .u64 0, .int .u64 0, .int .u64 0, .int .u64 0, .int .u64 0, .int .u64 0, .int .u64 0, .int .u64 0, .int .u64 0, .int .u64 0, .int .u64 0, .int .u64 0, .int .u64 0, .int .u64 0, .int .u64 0, .int .u64 0, .int .u64 0] 52)) (docC m K) zeroD) := Two.new w _ _
  have HK : Hid (Ok K) := hK
  have HX : Hid (x < 18446744073709551616) := hx
  clear hK hx
  have hg4 : ∀ V, Calls Try.prog 17 #[.int .u64 (x : Int), .int .i64 60, .int .i64 4] V fun e w' => e = .returned (.int .u64 (getN x 60 4 : Nat)) ∧ Below V.heap.size V w' := fun V => rget_all x 60 4 HX.out V V (Below.refl _ _)
  have ha : ∀ V, Calls Try.prog 45 #[.int .u64 (x : Int), .int .u64 2730] V fun e w' => e = .returned (.int .u64 (x &&& 2730 : Nat)) ∧ Below V.heap.size V w' := fun V => by
    have h := rand_any x 2730 HX.out (by decide) V
    exact h
  generalize getN x 60 4 = g at *
  generalize x &&& 2730 = y at *
  obtain ⟨s, hs⟩ : ∃ s, rowC (ix 772) = #[.int .i64 772, .string s, .int .i64 5, .int .u64 2730] := ⟨dName 5, by kernel_rfl⟩
  have hof : ∀ V, Calls Try.prog 82 #[.int .i64 772] V fun e w' => e = .returned (.tuple #[.agg #[.int .i64 772, .string s, .int .i64 5, .int .u64 2730], .bool true]) ∧ Below V.heap.size V w' := fun V => by
    have h := of_any 772 V
    rw [hs, show knownB 772 = true from by kernel_rfl] at h
    exact h
  clear hs
  go_enter Try.func43, Try.ntmps43
  go_upto_region 2 with fail
  generalize ((w.alloc (.cells (docC m K) 52)).alloc (.cells #[.int .i64 0, .int .u64 0, .int .u64 0, .int .u64 0, .int .u64 0, .int .u64 0, .int .u64 0, .int .u64 0, .int .u64 0, .int .u64 0, .int .u64 0, .int .u64 0, .int .u64 0, .int .u64 0, .int .u64 0, .int .u64 0, .int .u64 0, .int .u64 0, .int .u64 0, .int .u64 0, .int .u64 0, .int .u64 0, .int .u64 0] 52)) = W at *
  go_wp2_with fail
  refine (hof _).mono ?_
  rintro e w1 ⟨rfl, hb1⟩
  have T1 : Hid (Two w w1 (docC m K) zeroD) := T0.out.step hb1
  clear hb1 hof
  go_upto_region 21 with fail
  have T2 : Hid (Thr w (w1.alloc (.cells #[.int .i64 772, .string s, .int .i64 5, .int .u64 2730] 125)) w1.heap.size (docC m K) zeroD #[.int .i64 772, .string s, .int .i64 5, .int .u64 2730]) := ⟨T1.out.step ((Below.refl _ _).alloc (Nat.le_refl _) _), Box.new 125 w1 _, T1.out.lt⟩
  generalize (w1.alloc (.cells #[.int .i64 772, .string s, .int .i64 5, .int .u64 2730] 125)) = W2 at *
  generalize w1.heap.size = rb at *
  have r2 : W2.cell? ⟨rb, 2, none⟩ = some (.int .i64 5) := T2.out.2.1.cell 2 _ rfl
  have r3 : W2.cell? ⟨rb, 3, none⟩ = some (.int .u64 2730) := T2.out.2.1.cell 3 _ rfl
  clear T1 T0
  go_wp2_with fail
  refine (hg4 _).mono ?_
  rintro e w4 ⟨rfl, hb4⟩
  have T4 : Hid (Thr w w4 rb (docC m K) zeroD #[.int .i64 772, .string s, .int .i64 5, .int .u64 2730]) := T2.out.step hb4
  have t2 : w4.cell? ⟨rb, 2, none⟩ = some (.int .i64 5) := T4.out.2.1.cell 2 _ rfl
  have t3 : w4.cell? ⟨rb, 3, none⟩ = some (.int .u64 2730) := T4.out.2.1.cell 3 _ rfl
  clear hb4
  clear r2 r3
  go_upto_region 28 with fail
  go_cut [6] (fun r wx => r = .pointer (some ⟨w.heap.size + 1, 0, none⟩) ∧ Two w wx (docC m (upd K 5 y)) zeroD)
  case first =>
    go_region_with (first | (go_at_call 45; (with_reducible refine Calls.mono (ha _) ?_); rintro e w5 ⟨rfl, hb5⟩; have T5 : Hid (Thr w w5 rb (docC m K) zeroD #[.int .i64 772, .string s, .int .i64 5, .int .u64 2730]) := (T4.out.step (Below.drew (Below.refl _ _))).step hb5; have s2 : w5.cell? ⟨rb, 2, none⟩ = some (.int .i64 5) := T5.out.2.1.cell 2 _ rfl; have s3 : w5.cell? ⟨w.heap.size, 6, none⟩ = some (.int .u64 (K 5 : Nat)) := T5.out.1.1.cell 6 _ rfl; have s4 := T5.out.1.1.frozen 6; clear hb5))
    all_goals go_wp2_with fail
    all_goals go_meet
    all_goals
      have h := T5.out.1.set 6 (.int .u64 (y : Nat))
      rw [(set_docC m K _).2.2.2.2.2.1] at h
      exact ⟨rfl, h⟩
  case rest =>
  obtain ⟨rfl, ht⟩ := hcut
  have T6 : Hid (Two w wc (docC m (upd K 5 y)) zeroD) := ht
  clear ht
  go_upto_region 29 with fail
  refine wp_region_list ?_
  refine wpList_load_doc rfl _ rfl w.heap.size m (upd K 5 y) rfl T6.out.1 ?_
  refine wpList_store_doc rfl _ _ rfl (w.heap.size + 1) m (upd K 5 y) zeroD rfl rfl T6.out.2.1 zeroD_size ?_
  intro W9 B9 U9
  have T9 : Hid (Box 52 W9 (w.heap.size + 1) (docC m (upd K 5 y)) ∧ Below w.heap.size w W9) := ⟨B9, T6.out.2.2.trans (U9.below (Nat.le_succ _) T6.out.2.2.size)⟩
  clear B9 U9
  go_wp2_with fail
  exact bodyPost_ret (v := .agg (docC m (upd K 5 y))) (results_cell_row rfl _ _ (w.heap.size + 1) 52 _ (0, 0) _ rfl T9.out.1 Try.underlying52 rfl info52) rfl ⟨rfl, T9.out.2⟩
set_option maxHeartbeats 4000000 in
theorem dw_262 (m : Int) (K : Nat → Nat) (x : Nat) (hK : Ok K) (hx : x < 18446744073709551616) (w : World) : Calls Try.prog 43 #[.agg (docC m K), .int .i64 262, .int .u64 (x : Int)] w fun e w' => e = .returned (.agg (docC m (upd K 13 (x &&& 7)))) ∧ Below w.heap.size w w' := by
  have T0 : Hid (Two w ((w.alloc (.cells (docC m K) 52)).alloc (.cells #[.int .i64 0, .int .u64 0, .int .u64 0, .int .u64 0, .int .u64 0, .int .u64 0, .int .u64 0, .int .u64 0, .int .u64 0, .int .u64 0, .int .u64 0, .int .u64 0, .int .u64 0, .int .u64 0, .int .u64 0, .int .u64 0, .int .u64 0, .int .u64 0, .int .u64 0, .int .u64 0, .int .u64 0, .int .u64 0, .int .u64 0] 52)) (docC m K) zeroD) := Two.new w _ _
  have HK : Hid (Ok K) := hK
  have HX : Hid (x < 18446744073709551616) := hx
  clear hK hx
  have hg4 : ∀ V, Calls Try.prog 17 #[.int .u64 (x : Int), .int .i64 60, .int .i64 4] V fun e w' => e = .returned (.int .u64 (getN x 60 4 : Nat)) ∧ Below V.heap.size V w' := fun V => rget_all x 60 4 HX.out V V (Below.refl _ _)
  have ha : ∀ V, Calls Try.prog 45 #[.int .u64 (x : Int), .int .u64 7] V fun e w' => e = .returned (.int .u64 (x &&& 7 : Nat)) ∧ Below V.heap.size V w' := fun V => by
    have h := rand_any x 7 HX.out (by decide) V
    exact h
  generalize getN x 60 4 = g at *
  generalize x &&& 7 = y at *
  obtain ⟨s, hs⟩ : ∃ s, rowC (ix 262) = #[.int .i64 262, .string s, .int .i64 13, .int .u64 7] := ⟨dName 12, by kernel_rfl⟩
  have hof : ∀ V, Calls Try.prog 82 #[.int .i64 262] V fun e w' => e = .returned (.tuple #[.agg #[.int .i64 262, .string s, .int .i64 13, .int .u64 7], .bool true]) ∧ Below V.heap.size V w' := fun V => by
    have h := of_any 262 V
    rw [hs, show knownB 262 = true from by kernel_rfl] at h
    exact h
  clear hs
  go_enter Try.func43, Try.ntmps43
  go_upto_region 2 with fail
  generalize ((w.alloc (.cells (docC m K) 52)).alloc (.cells #[.int .i64 0, .int .u64 0, .int .u64 0, .int .u64 0, .int .u64 0, .int .u64 0, .int .u64 0, .int .u64 0, .int .u64 0, .int .u64 0, .int .u64 0, .int .u64 0, .int .u64 0, .int .u64 0, .int .u64 0, .int .u64 0, .int .u64 0, .int .u64 0, .int .u64 0, .int .u64 0, .int .u64 0, .int .u64 0, .int .u64 0] 52)) = W at *
  go_wp2_with fail
  refine (hof _).mono ?_
  rintro e w1 ⟨rfl, hb1⟩
  have T1 : Hid (Two w w1 (docC m K) zeroD) := T0.out.step hb1
  clear hb1 hof
  go_upto_region 21 with fail
  have T2 : Hid (Thr w (w1.alloc (.cells #[.int .i64 262, .string s, .int .i64 13, .int .u64 7] 125)) w1.heap.size (docC m K) zeroD #[.int .i64 262, .string s, .int .i64 13, .int .u64 7]) := ⟨T1.out.step ((Below.refl _ _).alloc (Nat.le_refl _) _), Box.new 125 w1 _, T1.out.lt⟩
  generalize (w1.alloc (.cells #[.int .i64 262, .string s, .int .i64 13, .int .u64 7] 125)) = W2 at *
  generalize w1.heap.size = rb at *
  have r2 : W2.cell? ⟨rb, 2, none⟩ = some (.int .i64 13) := T2.out.2.1.cell 2 _ rfl
  have r3 : W2.cell? ⟨rb, 3, none⟩ = some (.int .u64 7) := T2.out.2.1.cell 3 _ rfl
  clear T1 T0
  go_wp2_with fail
  refine (hg4 _).mono ?_
  rintro e w4 ⟨rfl, hb4⟩
  have T4 : Hid (Thr w w4 rb (docC m K) zeroD #[.int .i64 262, .string s, .int .i64 13, .int .u64 7]) := T2.out.step hb4
  have t2 : w4.cell? ⟨rb, 2, none⟩ = some (.int .i64 13) := T4.out.2.1.cell 2 _ rfl
  have t3 : w4.cell? ⟨rb, 3, none⟩ = some (.int .u64 7) := T4.out.2.1.cell 3 _ rfl
  clear hb4
  clear r2 r3
  go_upto_region 28 with fail
  go_cut [6] (fun r wx => r = .pointer (some ⟨w.heap.size + 1, 0, none⟩) ∧ Two w wx (docC m (upd K 13 y)) zeroD)
  case first =>
    go_region_with (first | (go_at_call 45; (with_reducible refine Calls.mono (ha _) ?_); rintro e w5 ⟨rfl, hb5⟩; have T5 : Hid (Thr w w5 rb (docC m K) zeroD #[.int .i64 262, .string s, .int .i64 13, .int .u64 7]) := (T4.out.step (Below.drew (Below.refl _ _))).step hb5; have s2 : w5.cell? ⟨rb, 2, none⟩ = some (.int .i64 13) := T5.out.2.1.cell 2 _ rfl; have s3 : w5.cell? ⟨w.heap.size, 14, none⟩ = some (.int .u64 (K 13 : Nat)) := T5.out.1.1.cell 14 _ rfl; have s4 := T5.out.1.1.frozen 14; clear hb5))
    all_goals go_wp2_with fail
    all_goals go_meet
    all_goals
      have h := T5.out.1.set 14 (.int .u64 (y : Nat))
      rw [(set_docC m K _).2.2.2.2.2.2.2.2.2.2.2.2.2.1] at h
      exact ⟨rfl, h⟩
  case rest =>
  obtain ⟨rfl, ht⟩ := hcut
  have T6 : Hid (Two w wc (docC m (upd K 13 y)) zeroD) := ht
  clear ht
  go_upto_region 29 with fail
  refine wp_region_list ?_
  refine wpList_load_doc rfl _ rfl w.heap.size m (upd K 13 y) rfl T6.out.1 ?_
  refine wpList_store_doc rfl _ _ rfl (w.heap.size + 1) m (upd K 13 y) zeroD rfl rfl T6.out.2.1 zeroD_size ?_
  intro W9 B9 U9
  have T9 : Hid (Box 52 W9 (w.heap.size + 1) (docC m (upd K 13 y)) ∧ Below w.heap.size w W9) := ⟨B9, T6.out.2.2.trans (U9.below (Nat.le_succ _) T6.out.2.2.size)⟩
  clear B9 U9
  go_wp2_with fail
  exact bodyPost_ret (v := .agg (docC m (upd K 13 y))) (results_cell_row rfl _ _ (w.heap.size + 1) 52 _ (0, 0) _ rfl T9.out.1 Try.underlying52 rfl info52) rfl ⟨rfl, T9.out.2⟩
set_option maxHeartbeats 4000000 in
theorem dw_322 (m : Int) (K : Nat → Nat) (x : Nat) (hK : Ok K) (hx : x < 18446744073709551616) (w : World) : Calls Try.prog 43 #[.agg (docC m K), .int .i64 322, .int .u64 (x : Int)] w fun e w' => e = .returned (.agg (docC m (upd K 16 (x)))) ∧ Below w.heap.size w w' := by
  have T0 : Hid (Two w ((w.alloc (.cells (docC m K) 52)).alloc (.cells #[.int .i64 0, .int .u64 0, .int .u64 0, .int .u64 0, .int .u64 0, .int .u64 0, .int .u64 0, .int .u64 0, .int .u64 0, .int .u64 0, .int .u64 0, .int .u64 0, .int .u64 0, .int .u64 0, .int .u64 0, .int .u64 0, .int .u64 0, .int .u64 0, .int .u64 0, .int .u64 0, .int .u64 0, .int .u64 0, .int .u64 0] 52)) (docC m K) zeroD) := Two.new w _ _
  have HK : Hid (Ok K) := hK
  have HX : Hid (x < 18446744073709551616) := hx
  clear hK hx
  have hg4 : ∀ V, Calls Try.prog 17 #[.int .u64 (x : Int), .int .i64 60, .int .i64 4] V fun e w' => e = .returned (.int .u64 (getN x 60 4 : Nat)) ∧ Below V.heap.size V w' := fun V => rget_all x 60 4 HX.out V V (Below.refl _ _)
  have ha : ∀ V, Calls Try.prog 45 #[.int .u64 (x : Int), .int .u64 18446744073709551615] V fun e w' => e = .returned (.int .u64 (x : Nat)) ∧ Below V.heap.size V w' := fun V => by
    have h := rand_any x 18446744073709551615 HX.out (by decide) V
    rw [and_all x HX.out] at h
    exact h
  generalize getN x 60 4 = g at *
  obtain ⟨s, hs⟩ : ∃ s, rowC (ix 322) = #[.int .i64 322, .string s, .int .i64 16, .int .u64 18446744073709551615] := ⟨dName 16, by kernel_rfl⟩
  have hof : ∀ V, Calls Try.prog 82 #[.int .i64 322] V fun e w' => e = .returned (.tuple #[.agg #[.int .i64 322, .string s, .int .i64 16, .int .u64 18446744073709551615], .bool true]) ∧ Below V.heap.size V w' := fun V => by
    have h := of_any 322 V
    rw [hs, show knownB 322 = true from by kernel_rfl] at h
    exact h
  clear hs
  go_enter Try.func43, Try.ntmps43
  go_upto_region 2 with fail
  generalize ((w.alloc (.cells (docC m K) 52)).alloc (.cells #[.int .i64 0, .int .u64 0, .int .u64 0, .int .u64 0, .int .u64 0, .int .u64 0, .int .u64 0, .int .u64 0, .int .u64 0, .int .u64 0, .int .u64 0, .int .u64 0, .int .u64 0, .int .u64 0, .int .u64 0, .int .u64 0, .int .u64 0, .int .u64 0, .int .u64 0, .int .u64 0, .int .u64 0, .int .u64 0, .int .u64 0] 52)) = W at *
  go_wp2_with fail
  refine (hof _).mono ?_
  rintro e w1 ⟨rfl, hb1⟩
  have T1 : Hid (Two w w1 (docC m K) zeroD) := T0.out.step hb1
  clear hb1 hof
  go_upto_region 21 with fail
  have T2 : Hid (Thr w (w1.alloc (.cells #[.int .i64 322, .string s, .int .i64 16, .int .u64 18446744073709551615] 125)) w1.heap.size (docC m K) zeroD #[.int .i64 322, .string s, .int .i64 16, .int .u64 18446744073709551615]) := ⟨T1.out.step ((Below.refl _ _).alloc (Nat.le_refl _) _), Box.new 125 w1 _, T1.out.lt⟩
  generalize (w1.alloc (.cells #[.int .i64 322, .string s, .int .i64 16, .int .u64 18446744073709551615] 125)) = W2 at *
  generalize w1.heap.size = rb at *
  have r2 : W2.cell? ⟨rb, 2, none⟩ = some (.int .i64 16) := T2.out.2.1.cell 2 _ rfl
  have r3 : W2.cell? ⟨rb, 3, none⟩ = some (.int .u64 18446744073709551615) := T2.out.2.1.cell 3 _ rfl
  clear T1 T0
  go_wp2_with fail
  refine (hg4 _).mono ?_
  rintro e w4 ⟨rfl, hb4⟩
  have T4 : Hid (Thr w w4 rb (docC m K) zeroD #[.int .i64 322, .string s, .int .i64 16, .int .u64 18446744073709551615]) := T2.out.step hb4
  have t2 : w4.cell? ⟨rb, 2, none⟩ = some (.int .i64 16) := T4.out.2.1.cell 2 _ rfl
  have t3 : w4.cell? ⟨rb, 3, none⟩ = some (.int .u64 18446744073709551615) := T4.out.2.1.cell 3 _ rfl
  clear hb4
  clear r2 r3
  go_upto_region 28 with fail
  go_cut [6] (fun r wx => r = .pointer (some ⟨w.heap.size + 1, 0, none⟩) ∧ Two w wx (docC m (upd K 16 x)) zeroD)
  case first =>
    go_region_with (first | (go_at_call 45; (with_reducible refine Calls.mono (ha _) ?_); rintro e w5 ⟨rfl, hb5⟩; have T5 : Hid (Thr w w5 rb (docC m K) zeroD #[.int .i64 322, .string s, .int .i64 16, .int .u64 18446744073709551615]) := (T4.out.step (Below.drew (Below.refl _ _))).step hb5; have s2 : w5.cell? ⟨rb, 2, none⟩ = some (.int .i64 16) := T5.out.2.1.cell 2 _ rfl; have s3 : w5.cell? ⟨w.heap.size, 17, none⟩ = some (.int .u64 (K 16 : Nat)) := T5.out.1.1.cell 17 _ rfl; have s4 := T5.out.1.1.frozen 17; clear hb5))
    all_goals go_wp2_with fail
    all_goals go_meet
    all_goals
      have h := T5.out.1.set 17 (.int .u64 (x : Nat))
      rw [(set_docC m K _).2.2.2.2.2.2.2.2.2.2.2.2.2.2.2.2.1] at h
      exact ⟨rfl, h⟩
  case rest =>
  obtain ⟨rfl, ht⟩ := hcut
  have T6 : Hid (Two w wc (docC m (upd K 16 x)) zeroD) := ht
  clear ht
  go_upto_region 29 with fail
  refine wp_region_list ?_
  refine wpList_load_doc rfl _ rfl w.heap.size m (upd K 16 x) rfl T6.out.1 ?_
  refine wpList_store_doc rfl _ _ rfl (w.heap.size + 1) m (upd K 16 x) zeroD rfl rfl T6.out.2.1 zeroD_size ?_
  intro W9 B9 U9
  have T9 : Hid (Box 52 W9 (w.heap.size + 1) (docC m (upd K 16 x)) ∧ Below w.heap.size w W9) := ⟨B9, T6.out.2.2.trans (U9.below (Nat.le_succ _) T6.out.2.2.size)⟩
  clear B9 U9
  go_wp2_with fail
  exact bodyPost_ret (v := .agg (docC m (upd K 16 x))) (results_cell_row rfl _ _ (w.heap.size + 1) 52 _ (0, 0) _ rfl T9.out.1 Try.underlying52 rfl info52) rfl ⟨rfl, T9.out.2⟩
set_option maxHeartbeats 4000000 in
theorem dw_2818 (m : Int) (K : Nat → Nat) (x : Nat) (hK : Ok K) (hx : x < 18446744073709551616) (w : World) : Calls Try.prog 43 #[.agg (docC m K), .int .i64 2818, .int .u64 (x : Int)] w fun e w' => e = .returned (.agg (docC m (upd K 20 (x)))) ∧ Below w.heap.size w w' := by
  have T0 : Hid (Two w ((w.alloc (.cells (docC m K) 52)).alloc (.cells #[.int .i64 0, .int .u64 0, .int .u64 0, .int .u64 0, .int .u64 0, .int .u64 0, .int .u64 0, .int .u64 0, .int .u64 0, .int .u64 0, .int .u64 0, .int .u64 0, .int .u64 0, .int .u64 0, .int .u64 0, .int .u64 0, .int .u64 0, .int .u64 0, .int .u64 0, .int .u64 0, .int .u64 0, .int .u64 0, .int .u64 0] 52)) (docC m K) zeroD) := Two.new w _ _
  have HK : Hid (Ok K) := hK
  have HX : Hid (x < 18446744073709551616) := hx
  clear hK hx
  have hg4 : ∀ V, Calls Try.prog 17 #[.int .u64 (x : Int), .int .i64 60, .int .i64 4] V fun e w' => e = .returned (.int .u64 (getN x 60 4 : Nat)) ∧ Below V.heap.size V w' := fun V => rget_all x 60 4 HX.out V V (Below.refl _ _)
  have ha : ∀ V, Calls Try.prog 45 #[.int .u64 (x : Int), .int .u64 18446744073709551615] V fun e w' => e = .returned (.int .u64 (x : Nat)) ∧ Below V.heap.size V w' := fun V => by
    have h := rand_any x 18446744073709551615 HX.out (by decide) V
    rw [and_all x HX.out] at h
    exact h
  generalize getN x 60 4 = g at *
  obtain ⟨s, hs⟩ : ∃ s, rowC (ix 2818) = #[.int .i64 2818, .string s, .int .i64 20, .int .u64 18446744073709551615] := ⟨dName 20, by kernel_rfl⟩
  have hof : ∀ V, Calls Try.prog 82 #[.int .i64 2818] V fun e w' => e = .returned (.tuple #[.agg #[.int .i64 2818, .string s, .int .i64 20, .int .u64 18446744073709551615], .bool true]) ∧ Below V.heap.size V w' := fun V => by
    have h := of_any 2818 V
    rw [hs, show knownB 2818 = true from by kernel_rfl] at h
    exact h
  clear hs
  go_enter Try.func43, Try.ntmps43
  go_upto_region 2 with fail
  generalize ((w.alloc (.cells (docC m K) 52)).alloc (.cells #[.int .i64 0, .int .u64 0, .int .u64 0, .int .u64 0, .int .u64 0, .int .u64 0, .int .u64 0, .int .u64 0, .int .u64 0, .int .u64 0, .int .u64 0, .int .u64 0, .int .u64 0, .int .u64 0, .int .u64 0, .int .u64 0, .int .u64 0, .int .u64 0, .int .u64 0, .int .u64 0, .int .u64 0, .int .u64 0, .int .u64 0] 52)) = W at *
  go_wp2_with fail
  refine (hof _).mono ?_
  rintro e w1 ⟨rfl, hb1⟩
  have T1 : Hid (Two w w1 (docC m K) zeroD) := T0.out.step hb1
  clear hb1 hof
  go_upto_region 21 with fail
  have T2 : Hid (Thr w (w1.alloc (.cells #[.int .i64 2818, .string s, .int .i64 20, .int .u64 18446744073709551615] 125)) w1.heap.size (docC m K) zeroD #[.int .i64 2818, .string s, .int .i64 20, .int .u64 18446744073709551615]) := ⟨T1.out.step ((Below.refl _ _).alloc (Nat.le_refl _) _), Box.new 125 w1 _, T1.out.lt⟩
  generalize (w1.alloc (.cells #[.int .i64 2818, .string s, .int .i64 20, .int .u64 18446744073709551615] 125)) = W2 at *
  generalize w1.heap.size = rb at *
  have r2 : W2.cell? ⟨rb, 2, none⟩ = some (.int .i64 20) := T2.out.2.1.cell 2 _ rfl
  have r3 : W2.cell? ⟨rb, 3, none⟩ = some (.int .u64 18446744073709551615) := T2.out.2.1.cell 3 _ rfl
  clear T1 T0
  go_wp2_with fail
  refine (hg4 _).mono ?_
  rintro e w4 ⟨rfl, hb4⟩
  have T4 : Hid (Thr w w4 rb (docC m K) zeroD #[.int .i64 2818, .string s, .int .i64 20, .int .u64 18446744073709551615]) := T2.out.step hb4
  have t2 : w4.cell? ⟨rb, 2, none⟩ = some (.int .i64 20) := T4.out.2.1.cell 2 _ rfl
  have t3 : w4.cell? ⟨rb, 3, none⟩ = some (.int .u64 18446744073709551615) := T4.out.2.1.cell 3 _ rfl
  clear hb4
  clear r2 r3
  go_upto_region 28 with fail
  go_cut [6] (fun r wx => r = .pointer (some ⟨w.heap.size + 1, 0, none⟩) ∧ Two w wx (docC m (upd K 20 x)) zeroD)
  case first =>
    go_region_with (first | (go_at_call 45; (with_reducible refine Calls.mono (ha _) ?_); rintro e w5 ⟨rfl, hb5⟩; have T5 : Hid (Thr w w5 rb (docC m K) zeroD #[.int .i64 2818, .string s, .int .i64 20, .int .u64 18446744073709551615]) := (T4.out.step (Below.drew (Below.refl _ _))).step hb5; have s2 : w5.cell? ⟨rb, 2, none⟩ = some (.int .i64 20) := T5.out.2.1.cell 2 _ rfl; have s3 : w5.cell? ⟨w.heap.size, 21, none⟩ = some (.int .u64 (K 20 : Nat)) := T5.out.1.1.cell 21 _ rfl; have s4 := T5.out.1.1.frozen 21; clear hb5))
    all_goals go_wp2_with fail
    all_goals go_meet
    all_goals
      have h := T5.out.1.set 21 (.int .u64 (x : Nat))
      rw [(set_docC m K _).2.2.2.2.2.2.2.2.2.2.2.2.2.2.2.2.2.2.2.2.1] at h
      exact ⟨rfl, h⟩
  case rest =>
  obtain ⟨rfl, ht⟩ := hcut
  have T6 : Hid (Two w wc (docC m (upd K 20 x)) zeroD) := ht
  clear ht
  go_upto_region 29 with fail
  refine wp_region_list ?_
  refine wpList_load_doc rfl _ rfl w.heap.size m (upd K 20 x) rfl T6.out.1 ?_
  refine wpList_store_doc rfl _ _ rfl (w.heap.size + 1) m (upd K 20 x) zeroD rfl rfl T6.out.2.1 zeroD_size ?_
  intro W9 B9 U9
  have T9 : Hid (Box 52 W9 (w.heap.size + 1) (docC m (upd K 20 x)) ∧ Below w.heap.size w W9) := ⟨B9, T6.out.2.2.trans (U9.below (Nat.le_succ _) T6.out.2.2.size)⟩
  clear B9 U9
  go_wp2_with fail
  exact bodyPost_ret (v := .agg (docC m (upd K 20 x))) (results_cell_row rfl _ _ (w.heap.size + 1) 52 _ (0, 0) _ rfl T9.out.1 Try.underlying52 rfl info52) rfl ⟨rfl, T9.out.2⟩
end Go.Proofs.Ytalgidnmmghejaa.E
