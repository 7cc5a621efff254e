/- The document's call Write of layer 8, of the registers that are kept whole. -/
import Derived.Test.YtalgidnmmghejaaDWr
namespace Go.Proofs.Ytalgidnmmghejaa.E
open Go.RowKit
set_option linter.unusedVariables false
set_option linter.unusedSimpArgs false
set_option maxRecDepth 100000
set_option maxHeartbeats 4000000 in
theorem dw_770 (m : Int) (K : Nat → Nat) (x : Nat) (hK : Ok K) (hx : x < 18446744073709551616) (w : World) : Calls Try.prog 43 #[.agg (docC m K), .int .i64 770, .int .u64 (x : Int)] w fun e w' => e = .returned (.agg (docC m (upd K 3 (x &&& 46079)))) ∧ Below w.heap.size w w' := by
  have T0 : Hid (Two w ((w.alloc (.cells (docC m K) 52)).alloc (.cells #[.int .i64 0, .int .u64 0, .int .u64 0, .int .u64 0, .int .u64 0, .int .u64 0, .int .u64 0, .int .u64 0, .int .u64 0, .int .u64 0, .int .u64 0, .int .u64 0, .int .u64 0, .int .u64 0, .int .u64 0, .int .u64 0, .int .u64 0, .int .u64 0, .int .u64 0, .int .u64 0, .int .u64 0, .int .u64 0, .int .u64 0] 52)) (docC m K) zeroD) := Two.new w _ _
  have HK : Hid (Ok K) := hK
  have HX : Hid (x < 18446744073709551616) := hx
  clear hK hx
  have hg4 : ∀ V, Calls Try.prog 17 #[.int .u64 (x : Int), .int .i64 60, .int .i64 4] V fun e w' => e = .returned (.int .u64 (getN x 60 4 : Nat)) ∧ Below V.heap.size V w' := fun V => rget_all x 60 4 HX.out V V (Below.refl _ _)
  have ha : ∀ V, Calls Try.prog 45 #[.int .u64 (x : Int), .int .u64 46079] V fun e w' => e = .returned (.int .u64 (x &&& 46079 : Nat)) ∧ Below V.heap.size V w' := fun V => by
    have h := rand_any x 46079 HX.out (by decide) V
    exact h
  generalize getN x 60 4 = g at *
  generalize x &&& 46079 = y at *
  obtain ⟨s, hs⟩ : ∃ s, rowC (ix 770) = #[.int .i64 770, .string s, .int .i64 3, .int .u64 46079] := ⟨dName 3, by kernel_rfl⟩
  have hof : ∀ V, Calls Try.prog 82 #[.int .i64 770] V fun e w' => e = .returned (.tuple #[.agg #[.int .i64 770, .string s, .int .i64 3, .int .u64 46079], .bool true]) ∧ Below V.heap.size V w' := fun V => by
    have h := of_any 770 V
    rw [hs, show knownB 770 = true from by kernel_rfl] at h
    exact h
  clear hs
  go_enter Try.func43, Try.ntmps43
  go_upto_region 2 with fail
  generalize ((w.alloc (.cells (docC m K) 52)).alloc (.cells #[.int .i64 0, .int .u64 0, .int .u64 0, .int .u64 0, .int .u64 0, .int .u64 0, .int .u64 0, .int .u64 0, .int .u64 0, .int .u64 0, .int .u64 0, .int .u64 0, .int .u64 0, .int .u64 0, .int .u64 0, .int .u64 0, .int .u64 0, .int .u64 0, .int .u64 0, .int .u64 0, .int .u64 0, .int .u64 0, .int .u64 0] 52)) = W at *
  go_wp2_with fail
  refine (hof _).mono ?_
  rintro e w1 ⟨rfl, hb1⟩
  have T1 : Hid (Two w w1 (docC m K) zeroD) := T0.out.step hb1
  clear hb1 hof
  go_upto_region 21 with fail
  have T2 : Hid (Thr w (w1.alloc (.cells #[.int .i64 770, .string s, .int .i64 3, .int .u64 46079] 125)) w1.heap.size (docC m K) zeroD #[.int .i64 770, .string s, .int .i64 3, .int .u64 46079]) := ⟨T1.out.step ((Below.refl _ _).alloc (Nat.le_refl _) _), Box.new 125 w1 _, T1.out.lt⟩
  generalize (w1.alloc (.cells #[.int .i64 770, .string s, .int .i64 3, .int .u64 46079] 125)) = W2 at *
  generalize w1.heap.size = rb at *
  have r2 : W2.cell? ⟨rb, 2, none⟩ = some (.int .i64 3) := T2.out.2.1.cell 2 _ rfl
  have r3 : W2.cell? ⟨rb, 3, none⟩ = some (.int .u64 46079) := T2.out.2.1.cell 3 _ rfl
  clear T1 T0
  go_wp2_with fail
  refine (hg4 _).mono ?_
  rintro e w4 ⟨rfl, hb4⟩
  have T4 : Hid (Thr w w4 rb (docC m K) zeroD #[.int .i64 770, .string s, .int .i64 3, .int .u64 46079]) := T2.out.step hb4
  have t2 : w4.cell? ⟨rb, 2, none⟩ = some (.int .i64 3) := T4.out.2.1.cell 2 _ rfl
  have t3 : w4.cell? ⟨rb, 3, none⟩ = some (.int .u64 46079) := T4.out.2.1.cell 3 _ rfl
  clear hb4
  clear r2 r3
  go_upto_region 28 with fail
  go_cut [6] (fun r wx => r = .pointer (some ⟨w.heap.size + 1, 0, none⟩) ∧ Two w wx (docC m (upd K 3 y)) zeroD)
  case first =>
    go_region_with (first | (go_at_call 45; (with_reducible refine Calls.mono (ha _) ?_); rintro e w5 ⟨rfl, hb5⟩; have T5 : Hid (Thr w w5 rb (docC m K) zeroD #[.int .i64 770, .string s, .int .i64 3, .int .u64 46079]) := (T4.out.step (Below.drew (Below.refl _ _))).step hb5; have s2 : w5.cell? ⟨rb, 2, none⟩ = some (.int .i64 3) := T5.out.2.1.cell 2 _ rfl; have s3 : w5.cell? ⟨w.heap.size, 4, none⟩ = some (.int .u64 (K 3 : Nat)) := T5.out.1.1.cell 4 _ rfl; have s4 := T5.out.1.1.frozen 4; clear hb5))
    all_goals go_wp2_with fail
    all_goals go_meet
    all_goals
      have h := T5.out.1.set 4 (.int .u64 (y : Nat))
      rw [(set_docC m K _).2.2.2.1] at h
      exact ⟨rfl, h⟩
  case rest =>
  obtain ⟨rfl, ht⟩ := hcut
  have T6 : Hid (Two w wc (docC m (upd K 3 y)) zeroD) := ht
  clear ht
  go_upto_region 29 with fail
  refine wp_region_list ?_
  refine wpList_load_doc rfl _ rfl w.heap.size m (upd K 3 y) rfl T6.out.1 ?_
  refine wpList_store_doc rfl _ _ rfl (w.heap.size + 1) m (upd K 3 y) zeroD rfl rfl T6.out.2.1 zeroD_size ?_
  intro W9 B9 U9
  have T9 : Hid (Box 52 W9 (w.heap.size + 1) (docC m (upd K 3 y)) ∧ Below w.heap.size w W9) := ⟨B9, T6.out.2.2.trans (U9.below (Nat.le_succ _) T6.out.2.2.size)⟩
  clear B9 U9
  go_wp2_with fail
  exact bodyPost_ret (v := .agg (docC m (upd K 3 y))) (results_cell_row rfl _ _ (w.heap.size + 1) 52 _ (0, 0) _ rfl T9.out.1 Try.underlying52 rfl info52) rfl ⟨rfl, T9.out.2⟩
set_option maxHeartbeats 4000000 in
theorem dw_261 (m : Int) (K : Nat → Nat) (x : Nat) (hK : Ok K) (hx : x < 18446744073709551616) (w : World) : Calls Try.prog 43 #[.agg (docC m K), .int .i64 261, .int .u64 (x : Int)] w fun e w' => e = .returned (.agg (docC m (upd K 12 (vecN (K 12) x)))) ∧ Below w.heap.size w w' := by
  have T0 : Hid (Two w ((w.alloc (.cells (docC m K) 52)).alloc (.cells #[.int .i64 0, .int .u64 0, .int .u64 0, .int .u64 0, .int .u64 0, .int .u64 0, .int .u64 0, .int .u64 0, .int .u64 0, .int .u64 0, .int .u64 0, .int .u64 0, .int .u64 0, .int .u64 0, .int .u64 0, .int .u64 0, .int .u64 0, .int .u64 0, .int .u64 0, .int .u64 0, .int .u64 0, .int .u64 0, .int .u64 0] 52)) (docC m K) zeroD) := Two.new w _ _
  have HK : Hid (Ok K) := hK
  have HX : Hid (x < 18446744073709551616) := hx
  clear hK hx
  have hg4 : ∀ V, Calls Try.prog 17 #[.int .u64 (x : Int), .int .i64 60, .int .i64 4] V fun e w' => e = .returned (.int .u64 (getN x 60 4 : Nat)) ∧ Below V.heap.size V w' := fun V => rget_all x 60 4 HX.out V V (Below.refl _ _)
  have ha : ∀ V, Calls Try.prog 45 #[.int .u64 (x : Int), .int .u64 18446744073709551615] V fun e w' => e = .returned (.int .u64 (x : Nat)) ∧ Below V.heap.size V w' := fun V => by
    have h := rand_any x 18446744073709551615 HX.out (by decide) V
    rw [and_all x HX.out] at h
    exact h
  have hg1 : ∀ V, Calls Try.prog 17 #[.int .u64 (x : Int), .int .i64 1, .int .i64 1] V fun e w' => e = .returned (.int .u64 (getN x 1 1 : Nat)) ∧ Below V.heap.size V w' := fun V => rget_all x 1 1 HX.out V V (Below.refl _ _)
  unfold vecN
  generalize getN x 60 4 = g at *
  generalize getN x 1 1 = g1 at *
  by_cases h : g1 = 1
  · subst h
    rw [if_pos rfl, upd_self K 12 _ rfl]
    obtain ⟨s, hs⟩ : ∃ s, rowC (ix 261) = #[.int .i64 261, .string s, .int .i64 12, .int .u64 18446744073709551615] := ⟨dName 10, by kernel_rfl⟩
    have hof : ∀ V, Calls Try.prog 82 #[.int .i64 261] V fun e w' => e = .returned (.tuple #[.agg #[.int .i64 261, .string s, .int .i64 12, .int .u64 18446744073709551615], .bool true]) ∧ Below V.heap.size V w' := fun V => by
      have h := of_any 261 V
      rw [hs, show knownB 261 = true from by kernel_rfl] at h
      exact h
    clear hs
    go_enter Try.func43, Try.ntmps43
    go_upto_region 2 with fail
    generalize ((w.alloc (.cells (docC m K) 52)).alloc (.cells #[.int .i64 0, .int .u64 0, .int .u64 0, .int .u64 0, .int .u64 0, .int .u64 0, .int .u64 0, .int .u64 0, .int .u64 0, .int .u64 0, .int .u64 0, .int .u64 0, .int .u64 0, .int .u64 0, .int .u64 0, .int .u64 0, .int .u64 0, .int .u64 0, .int .u64 0, .int .u64 0, .int .u64 0, .int .u64 0, .int .u64 0] 52)) = W at *
    go_wp2_with fail
    refine (hof _).mono ?_
    rintro e w1 ⟨rfl, hb1⟩
    have T1 : Hid (Two w w1 (docC m K) zeroD) := T0.out.step hb1
    clear hb1 hof
    go_upto_region 21 with fail
    have T2 : Hid (Thr w (w1.alloc (.cells #[.int .i64 261, .string s, .int .i64 12, .int .u64 18446744073709551615] 125)) w1.heap.size (docC m K) zeroD #[.int .i64 261, .string s, .int .i64 12, .int .u64 18446744073709551615]) := ⟨T1.out.step ((Below.refl _ _).alloc (Nat.le_refl _) _), Box.new 125 w1 _, T1.out.lt⟩
    generalize (w1.alloc (.cells #[.int .i64 261, .string s, .int .i64 12, .int .u64 18446744073709551615] 125)) = W2 at *
    generalize w1.heap.size = rb at *
    have r2 : W2.cell? ⟨rb, 2, none⟩ = some (.int .i64 12) := T2.out.2.1.cell 2 _ rfl
    have r3 : W2.cell? ⟨rb, 3, none⟩ = some (.int .u64 18446744073709551615) := T2.out.2.1.cell 3 _ rfl
    clear T1 T0
    go_wp2_with fail
    refine (hg1 _).mono ?_
    rintro e w3 ⟨rfl, hb3⟩
    have T3 : Hid (Thr w w3 rb (docC m K) zeroD #[.int .i64 261, .string s, .int .i64 12, .int .u64 18446744073709551615]) := T2.out.step hb3
    have u2 : w3.cell? ⟨rb, 2, none⟩ = some (.int .i64 12) := T3.out.2.1.cell 2 _ rfl
    have u3 : w3.cell? ⟨rb, 3, none⟩ = some (.int .u64 18446744073709551615) := T3.out.2.1.cell 3 _ rfl
    clear hb3 r2 r3
    have T3t : Hid (Two w w3 (docC m K) zeroD) := T3.out.1
    go_upto_region 24 with fail
    refine wp_region_list ?_
    refine wpList_load_doc rfl _ rfl w.heap.size m (K) rfl T3t.out.1 ?_
    refine wpList_store_doc rfl _ _ rfl (w.heap.size + 1) m (K) zeroD rfl rfl T3t.out.2.1 zeroD_size ?_
    intro W9 B9 U9
    have T9 : Hid (Box 52 W9 (w.heap.size + 1) (docC m (K)) ∧ Below w.heap.size w W9) := ⟨B9, T3t.out.2.2.trans (U9.below (Nat.le_succ _) T3t.out.2.2.size)⟩
    clear B9 U9
    go_wp2_with fail
    exact bodyPost_ret (v := .agg (docC m (K))) (results_cell_row rfl _ _ (w.heap.size + 1) 52 _ (0, 0) _ rfl T9.out.1 Try.underlying52 rfl info52) rfl ⟨rfl, T9.out.2⟩
  · rw [if_neg h]
    have h2 : ((g1 : Int) == 1) = false := by simp; omega
    have h3 : ¬ (g1 : Int) = 1 := by omega
    obtain ⟨s, hs⟩ : ∃ s, rowC (ix 261) = #[.int .i64 261, .string s, .int .i64 12, .int .u64 18446744073709551615] := ⟨dName 10, by kernel_rfl⟩
    have hof : ∀ V, Calls Try.prog 82 #[.int .i64 261] V fun e w' => e = .returned (.tuple #[.agg #[.int .i64 261, .string s, .int .i64 12, .int .u64 18446744073709551615], .bool true]) ∧ Below V.heap.size V w' := fun V => by
      have h := of_any 261 V
      rw [hs, show knownB 261 = true from by kernel_rfl] at h
      exact h
    clear hs
    go_enter Try.func43, Try.ntmps43
    go_upto_region 2 with fail
    generalize ((w.alloc (.cells (docC m K) 52)).alloc (.cells #[.int .i64 0, .int .u64 0, .int .u64 0, .int .u64 0, .int .u64 0, .int .u64 0, .int .u64 0, .int .u64 0, .int .u64 0, .int .u64 0, .int .u64 0, .int .u64 0, .int .u64 0, .int .u64 0, .int .u64 0, .int .u64 0, .int .u64 0, .int .u64 0, .int .u64 0, .int .u64 0, .int .u64 0, .int .u64 0, .int .u64 0] 52)) = W at *
    go_wp2_with fail
    refine (hof _).mono ?_
    rintro e w1 ⟨rfl, hb1⟩
    have T1 : Hid (Two w w1 (docC m K) zeroD) := T0.out.step hb1
    clear hb1 hof
    go_upto_region 21 with fail
    have T2 : Hid (Thr w (w1.alloc (.cells #[.int .i64 261, .string s, .int .i64 12, .int .u64 18446744073709551615] 125)) w1.heap.size (docC m K) zeroD #[.int .i64 261, .string s, .int .i64 12, .int .u64 18446744073709551615]) := ⟨T1.out.step ((Below.refl _ _).alloc (Nat.le_refl _) _), Box.new 125 w1 _, T1.out.lt⟩
    generalize (w1.alloc (.cells #[.int .i64 261, .string s, .int .i64 12, .int .u64 18446744073709551615] 125)) = W2 at *
    generalize w1.heap.size = rb at *
    have r2 : W2.cell? ⟨rb, 2, none⟩ = some (.int .i64 12) := T2.out.2.1.cell 2 _ rfl
    have r3 : W2.cell? ⟨rb, 3, none⟩ = some (.int .u64 18446744073709551615) := T2.out.2.1.cell 3 _ rfl
    clear T1 T0
    go_wp2_with fail
    refine (hg1 _).mono ?_
    rintro e w3 ⟨rfl, hb3⟩
    have T3 : Hid (Thr w w3 rb (docC m K) zeroD #[.int .i64 261, .string s, .int .i64 12, .int .u64 18446744073709551615]) := T2.out.step hb3
    have u2 : w3.cell? ⟨rb, 2, none⟩ = some (.int .i64 12) := T3.out.2.1.cell 2 _ rfl
    have u3 : w3.cell? ⟨rb, 3, none⟩ = some (.int .u64 18446744073709551615) := T3.out.2.1.cell 3 _ rfl
    clear hb3 r2 r3
    go_wp2_with fail
    refine (hg4 _).mono ?_
    rintro e w4 ⟨rfl, hb4⟩
    have T4 : Hid (Thr w w4 rb (docC m K) zeroD #[.int .i64 261, .string s, .int .i64 12, .int .u64 18446744073709551615]) := T3.out.step hb4
    have t2 : w4.cell? ⟨rb, 2, none⟩ = some (.int .i64 12) := T4.out.2.1.cell 2 _ rfl
    have t3 : w4.cell? ⟨rb, 3, none⟩ = some (.int .u64 18446744073709551615) := T4.out.2.1.cell 3 _ rfl
    clear hb4
    clear u2 u3
    go_upto_region 28 with fail
    go_cut [6] (fun r wx => r = .pointer (some ⟨w.heap.size + 1, 0, none⟩) ∧ Two w wx (docC m (upd K 12 x)) zeroD)
    case first =>
      go_region_with (first | (go_at_call 45; (with_reducible refine Calls.mono (ha _) ?_); rintro e w5 ⟨rfl, hb5⟩; have T5 : Hid (Thr w w5 rb (docC m K) zeroD #[.int .i64 261, .string s, .int .i64 12, .int .u64 18446744073709551615]) := (T4.out.step (Below.drew (Below.refl _ _))).step hb5; have s2 : w5.cell? ⟨rb, 2, none⟩ = some (.int .i64 12) := T5.out.2.1.cell 2 _ rfl; have s3 : w5.cell? ⟨w.heap.size, 13, none⟩ = some (.int .u64 (K 12 : Nat)) := T5.out.1.1.cell 13 _ rfl; have s4 := T5.out.1.1.frozen 13; clear hb5))
      all_goals go_wp2_with fail
      all_goals go_meet
      all_goals
        have h := T5.out.1.set 13 (.int .u64 (x : Nat))
        rw [(set_docC m K _).2.2.2.2.2.2.2.2.2.2.2.2.1] at h
        exact ⟨rfl, h⟩
    case rest =>
    obtain ⟨rfl, ht⟩ := hcut
    have T6 : Hid (Two w wc (docC m (upd K 12 x)) zeroD) := ht
    clear ht
    go_upto_region 29 with fail
    refine wp_region_list ?_
    refine wpList_load_doc rfl _ rfl w.heap.size m (upd K 12 x) rfl T6.out.1 ?_
    refine wpList_store_doc rfl _ _ rfl (w.heap.size + 1) m (upd K 12 x) zeroD rfl rfl T6.out.2.1 zeroD_size ?_
    intro W9 B9 U9
    have T9 : Hid (Box 52 W9 (w.heap.size + 1) (docC m (upd K 12 x)) ∧ Below w.heap.size w W9) := ⟨B9, T6.out.2.2.trans (U9.below (Nat.le_succ _) T6.out.2.2.size)⟩
    clear B9 U9
    go_wp2_with fail
    exact bodyPost_ret (v := .agg (docC m (upd K 12 x))) (results_cell_row rfl _ _ (w.heap.size + 1) 52 _ (0, 0) _ rfl T9.out.1 Try.underlying52 rfl info52) rfl ⟨rfl, T9.out.2⟩
set_option maxHeartbeats 4000000 in
theorem dw_320 (m : Int) (K : Nat → Nat) (x : Nat) (hK : Ok K) (hx : x < 18446744073709551616) (w : World) : Calls Try.prog 43 #[.agg (docC m K), .int .i64 320, .int .u64 (x : Int)] w fun e w' => e = .returned (.agg (docC m (upd K 14 (x)))) ∧ Below w.heap.size w w' := by
  have T0 : Hid (Two w ((w.alloc (.cells (docC m K) 52)).alloc (.cells #[.int .i64 0, .int .u64 0, .int .u64 0, .int .u64 0, .int .u64 0, .int .u64 0, .int .u64 0, .int .u64 0, .int .u64 0, .int .u64 0, .int .u64 0, .int .u64 0, .int .u64 0, .int .u64 0, .int .u64 0, .int .u64 0, .int .u64 0, .int .u64 0, .int .u64 0, .int .u64 0, .int .u64 0, .int .u64 0, .int .u64 0] 52)) (docC m K) zeroD) := Two.new w _ _
  have HK : Hid (Ok K) := hK
  have HX : Hid (x < 18446744073709551616) := hx
  clear hK hx
  have hg4 : ∀ V, Calls Try.prog 17 #[.int .u64 (x : Int), .int .i64 60, .int .i64 4] V fun e w' => e = .returned (.int .u64 (getN x 60 4 : Nat)) ∧ Below V.heap.size V w' := fun V => rget_all x 60 4 HX.out V V (Below.refl _ _)
  have ha : ∀ V, Calls Try.prog 45 #[.int .u64 (x : Int), .int .u64 18446744073709551615] V fun e w' => e = .returned (.int .u64 (x : Nat)) ∧ Below V.heap.size V w' := fun V => by
    have h := rand_any x 18446744073709551615 HX.out (by decide) V
    rw [and_all x HX.out] at h
    exact h
  generalize getN x 60 4 = g at *
  obtain ⟨s, hs⟩ : ∃ s, rowC (ix 320) = #[.int .i64 320, .string s, .int .i64 14, .int .u64 18446744073709551615] := ⟨dName 14, by kernel_rfl⟩
  have hof : ∀ V, Calls Try.prog 82 #[.int .i64 320] V fun e w' => e = .returned (.tuple #[.agg #[.int .i64 320, .string s, .int .i64 14, .int .u64 18446744073709551615], .bool true]) ∧ Below V.heap.size V w' := fun V => by
    have h := of_any 320 V
    rw [hs, show knownB 320 = true from by kernel_rfl] at h
    exact h
  clear hs
  go_enter Try.func43, Try.ntmps43
  go_upto_region 2 with fail
  generalize ((w.alloc (.cells (docC m K) 52)).alloc (.cells #[.int .i64 0, .int .u64 0, .int .u64 0, .int .u64 0, .int .u64 0, .int .u64 0, .int .u64 0, .int .u64 0, .int .u64 0, .int .u64 0, .int .u64 0, .int .u64 0, .int .u64 0, .int .u64 0, .int .u64 0, .int .u64 0, .int .u64 0, .int .u64 0, .int .u64 0, .int .u64 0, .int .u64 0, .int .u64 0, .int .u64 0] 52)) = W at *
  go_wp2_with fail
  refine (hof _).mono ?_
  rintro e w1 ⟨rfl, hb1⟩
  have T1 : Hid (Two w w1 (docC m K) zeroD) := T0.out.step hb1
  clear hb1 hof
  go_upto_region 21 with fail
  have T2 : Hid (Thr w (w1.alloc (.cells #[.int .i64 320, .string s, .int .i64 14, .int .u64 18446744073709551615] 125)) w1.heap.size (docC m K) zeroD #[.int .i64 320, .string s, .int .i64 14, .int .u64 18446744073709551615]) := ⟨T1.out.step ((Below.refl _ _).alloc (Nat.le_refl _) _), Box.new 125 w1 _, T1.out.lt⟩
  generalize (w1.alloc (.cells #[.int .i64 320, .string s, .int .i64 14, .int .u64 18446744073709551615] 125)) = W2 at *
  generalize w1.heap.size = rb at *
  have r2 : W2.cell? ⟨rb, 2, none⟩ = some (.int .i64 14) := T2.out.2.1.cell 2 _ rfl
  have r3 : W2.cell? ⟨rb, 3, none⟩ = some (.int .u64 18446744073709551615) := T2.out.2.1.cell 3 _ rfl
  clear T1 T0
  go_wp2_with fail
  refine (hg4 _).mono ?_
  rintro e w4 ⟨rfl, hb4⟩
  have T4 : Hid (Thr w w4 rb (docC m K) zeroD #[.int .i64 320, .string s, .int .i64 14, .int .u64 18446744073709551615]) := T2.out.step hb4
  have t2 : w4.cell? ⟨rb, 2, none⟩ = some (.int .i64 14) := T4.out.2.1.cell 2 _ rfl
  have t3 : w4.cell? ⟨rb, 3, none⟩ = some (.int .u64 18446744073709551615) := T4.out.2.1.cell 3 _ rfl
  clear hb4
  clear r2 r3
  go_upto_region 28 with fail
  go_cut [6] (fun r wx => r = .pointer (some ⟨w.heap.size + 1, 0, none⟩) ∧ Two w wx (docC m (upd K 14 x)) zeroD)
  case first =>
    go_region_with (first | (go_at_call 45; (with_reducible refine Calls.mono (ha _) ?_); rintro e w5 ⟨rfl, hb5⟩; have T5 : Hid (Thr w w5 rb (docC m K) zeroD #[.int .i64 320, .string s, .int .i64 14, .int .u64 18446744073709551615]) := (T4.out.step (Below.drew (Below.refl _ _))).step hb5; have s2 : w5.cell? ⟨rb, 2, none⟩ = some (.int .i64 14) := T5.out.2.1.cell 2 _ rfl; have s3 : w5.cell? ⟨w.heap.size, 15, none⟩ = some (.int .u64 (K 14 : Nat)) := T5.out.1.1.cell 15 _ rfl; have s4 := T5.out.1.1.frozen 15; clear hb5))
    all_goals go_wp2_with fail
    all_goals go_meet
    all_goals
      have h := T5.out.1.set 15 (.int .u64 (x : Nat))
      rw [(set_docC m K _).2.2.2.2.2.2.2.2.2.2.2.2.2.2.1] at h
      exact ⟨rfl, h⟩
  case rest =>
  obtain ⟨rfl, ht⟩ := hcut
  have T6 : Hid (Two w wc (docC m (upd K 14 x)) zeroD) := ht
  clear ht
  go_upto_region 29 with fail
  refine wp_region_list ?_
  refine wpList_load_doc rfl _ rfl w.heap.size m (upd K 14 x) rfl T6.out.1 ?_
  refine wpList_store_doc rfl _ _ rfl (w.heap.size + 1) m (upd K 14 x) zeroD rfl rfl T6.out.2.1 zeroD_size ?_
  intro W9 B9 U9
  have T9 : Hid (Box 52 W9 (w.heap.size + 1) (docC m (upd K 14 x)) ∧ Below w.heap.size w W9) := ⟨B9, T6.out.2.2.trans (U9.below (Nat.le_succ _) T6.out.2.2.size)⟩
  clear B9 U9
  go_wp2_with fail
  exact bodyPost_ret (v := .agg (docC m (upd K 14 x))) (results_cell_row rfl _ _ (w.heap.size + 1) 52 _ (0, 0) _ rfl T9.out.1 Try.underlying52 rfl info52) rfl ⟨rfl, T9.out.2⟩
set_option maxHeartbeats 4000000 in
theorem dw_323 (m : Int) (K : Nat → Nat) (x : Nat) (hK : Ok K) (hx : x < 18446744073709551616) (w : World) : Calls Try.prog 43 #[.agg (docC m K), .int .i64 323, .int .u64 (x : Int)] w fun e w' => e = .returned (.agg (docC m (upd K 17 (x)))) ∧ Below w.heap.size w w' := by
  have T0 : Hid (Two w ((w.alloc (.cells (docC m K) 52)).alloc (.cells #[.int .i64 0, .int .u64 0, .int .u64 0, .int .u64 0, .int .u64 0, .int .u64 0, .int .u64 0, .int .u64 0, .int .u64 0, .int .u64 0, .int .u64 0, .int .u64 0, .int .u64 0, .int .u64 0, .int .u64 0, .int .u64 0, .int .u64 0, .int .u64 0, .int .u64 0, .int .u64 0, .int .u64 0, .int .u64 0, .int .u64 0] 52)) (docC m K) zeroD) := Two.new w _ _
  have HK : Hid (Ok K) := hK
  have HX : Hid (x < 18446744073709551616) := hx
  clear hK hx
  have hg4 : ∀ V, Calls Try.prog 17 #[.int .u64 (x : Int), .int .i64 60, .int .i64 4] V fun e w' => e = .returned (.int .u64 (getN x 60 4 : Nat)) ∧ Below V.heap.size V w' := fun V => rget_all x 60 4 HX.out V V (Below.refl _ _)
  have ha : ∀ V, Calls Try.prog 45 #[.int .u64 (x : Int), .int .u64 18446744073709551615] V fun e w' => e = .returned (.int .u64 (x : Nat)) ∧ Below V.heap.size V w' := fun V => by
    have h := rand_any x 18446744073709551615 HX.out (by decide) V
    rw [and_all x HX.out] at h
    exact h
  generalize getN x 60 4 = g at *
  obtain ⟨s, hs⟩ : ∃ s, rowC (ix 323) = #[.int .i64 323, .string s, .int .i64 17, .int .u64 18446744073709551615] := ⟨dName 18, by kernel_rfl⟩
  have hof : ∀ V, Calls Try.prog 82 #[.int .i64 323] V fun e w' => e = .returned (.tuple #[.agg #[.int .i64 323, .string s, .int .i64 17, .int .u64 18446744073709551615], .bool true]) ∧ Below V.heap.size V w' := fun V => by
    have h := of_any 323 V
    rw [hs, show knownB 323 = true from by kernel_rfl] at h
    exact h
  clear hs
  go_enter Try.func43, Try.ntmps43
  go_upto_region 2 with fail
  generalize ((w.alloc (.cells (docC m K) 52)).alloc (.cells #[.int .i64 0, .int .u64 0, .int .u64 0, .int .u64 0, .int .u64 0, .int .u64 0, .int .u64 0, .int .u64 0, .int .u64 0, .int .u64 0, .int .u64 0, .int .u64 0, .int .u64 0, .int .u64 0, .int .u64 0, .int .u64 0, .int .u64 0, .int .u64 0, .int .u64 0, .int .u64 0, .int .u64 0, .int .u64 0, .int .u64 0] 52)) = W at *
  go_wp2_with fail
  refine (hof _).mono ?_
  rintro e w1 ⟨rfl, hb1⟩
  have T1 : Hid (Two w w1 (docC m K) zeroD) := T0.out.step hb1
  clear hb1 hof
  go_upto_region 21 with fail
  have T2 : Hid (Thr w (w1.alloc (.cells #[.int .i64 323, .string s, .int .i64 17, .int .u64 18446744073709551615] 125)) w1.heap.size (docC m K) zeroD #[.int .i64 323, .string s, .int .i64 17, .int .u64 18446744073709551615]) := ⟨T1.out.step ((Below.refl _ _).alloc (Nat.le_refl _) _), Box.new 125 w1 _, T1.out.lt⟩
  generalize (w1.alloc (.cells #[.int .i64 323, .string s, .int .i64 17, .int .u64 18446744073709551615] 125)) = W2 at *
  generalize w1.heap.size = rb at *
  have r2 : W2.cell? ⟨rb, 2, none⟩ = some (.int .i64 17) := T2.out.2.1.cell 2 _ rfl
  have r3 : W2.cell? ⟨rb, 3, none⟩ = some (.int .u64 18446744073709551615) := T2.out.2.1.cell 3 _ rfl
  clear T1 T0
  go_wp2_with fail
  refine (hg4 _).mono ?_
  rintro e w4 ⟨rfl, hb4⟩
  have T4 : Hid (Thr w w4 rb (docC m K) zeroD #[.int .i64 323, .string s, .int .i64 17, .int .u64 18446744073709551615]) := T2.out.step hb4
  have t2 : w4.cell? ⟨rb, 2, none⟩ = some (.int .i64 17) := T4.out.2.1.cell 2 _ rfl
  have t3 : w4.cell? ⟨rb, 3, none⟩ = some (.int .u64 18446744073709551615) := T4.out.2.1.cell 3 _ rfl
  clear hb4
  clear r2 r3
  go_upto_region 28 with fail
  go_cut [6] (fun r wx => r = .pointer (some ⟨w.heap.size + 1, 0, none⟩) ∧ Two w wx (docC m (upd K 17 x)) zeroD)
  case first =>
    go_region_with (first | (go_at_call 45; (with_reducible refine Calls.mono (ha _) ?_); rintro e w5 ⟨rfl, hb5⟩; have T5 : Hid (Thr w w5 rb (docC m K) zeroD #[.int .i64 323, .string s, .int .i64 17, .int .u64 18446744073709551615]) := (T4.out.step (Below.drew (Below.refl _ _))).step hb5; have s2 : w5.cell? ⟨rb, 2, none⟩ = some (.int .i64 17) := T5.out.2.1.cell 2 _ rfl; have s3 : w5.cell? ⟨w.heap.size, 18, none⟩ = some (.int .u64 (K 17 : Nat)) := T5.out.1.1.cell 18 _ rfl; have s4 := T5.out.1.1.frozen 18; clear hb5))
    all_goals go_wp2_with fail
    all_goals go_meet
    all_goals
      have h := T5.out.1.set 18 (.int .u64 (x : Nat))
      rw [(set_docC m K _).2.2.2.2.2.2.2.2.2.2.2.2.2.2.2.2.2.1] at h
      exact ⟨rfl, h⟩
  case rest =>
  obtain ⟨rfl, ht⟩ := hcut
  have T6 : Hid (Two w wc (docC m (upd K 17 x)) zeroD) := ht
  clear ht
  go_upto_region 29 with fail
  refine wp_region_list ?_
  refine wpList_load_doc rfl _ rfl w.heap.size m (upd K 17 x) rfl T6.out.1 ?_
  refine wpList_store_doc rfl _ _ rfl (w.heap.size + 1) m (upd K 17 x) zeroD rfl rfl T6.out.2.1 zeroD_size ?_
  intro W9 B9 U9
  have T9 : Hid (Box 52 W9 (w.heap.size + 1) (docC m (upd K 17 x)) ∧ Below w.heap.size w W9) := ⟨B9, T6.out.2.2.trans (U9.below (Nat.le_succ _) T6.out.2.2.size)⟩
  clear B9 U9
  go_wp2_with fail
  exact bodyPost_ret (v := .agg (docC m (upd K 17 x))) (results_cell_row rfl _ _ (w.heap.size + 1) 52 _ (0, 0) _ rfl T9.out.1 Try.underlying52 rfl info52) rfl ⟨rfl, T9.out.2⟩
set_option maxHeartbeats 4000000 in
theorem dw_321 (m : Int) (K : Nat → Nat) (x : Nat) (hK : Ok K) (hx : x < 18446744073709551616) (w : World) : Calls Try.prog 43 #[.agg (docC m K), .int .i64 321, .int .u64 (x : Int)] w fun e w' => e = .returned (.agg (docC m (upd K 15 (x &&& 18446744073709551612)))) ∧ Below w.heap.size w w' := by
  have T0 : Hid (Two w ((w.alloc (.cells (docC m K) 52)).alloc (.cells #[.int .i64 0, .int .u64 0, .int .u64 0, .int .u64 0, .int .u64 0, .int .u64 0, .int .u64 0, .int .u64 0, .int .u64 0, .int .u64 0, .int .u64 0, .int .u64 0, .int .u64 0, .int .u64 0, .int .u64 0, .int .u64 0, .int .u64 0, .int .u64 0, .int .u64 0, .int .u64 0, .int .u64 0, .int .u64 0, .int .u64 0] 52)) (docC m K) zeroD) := Two.new w _ _
  have HK : Hid (Ok K) := hK
  have HX : Hid (x < 18446744073709551616) := hx
  clear hK hx
  have hg4 : ∀ V, Calls Try.prog 17 #[.int .u64 (x : Int), .int .i64 60, .int .i64 4] V fun e w' => e = .returned (.int .u64 (getN x 60 4 : Nat)) ∧ Below V.heap.size V w' := fun V => rget_all x 60 4 HX.out V V (Below.refl _ _)
  have ha : ∀ V, Calls Try.prog 45 #[.int .u64 (x : Int), .int .u64 18446744073709551612] V fun e w' => e = .returned (.int .u64 (x &&& 18446744073709551612 : Nat)) ∧ Below V.heap.size V w' := fun V => by
    have h := rand_any x 18446744073709551612 HX.out (by decide) V
    exact h
  generalize getN x 60 4 = g at *
  generalize x &&& 18446744073709551612 = y at *
  obtain ⟨s, hs⟩ : ∃ s, rowC (ix 321) = #[.int .i64 321, .string s, .int .i64 15, .int .u64 18446744073709551612] := ⟨dName 22, by kernel_rfl⟩
  have hof : ∀ V, Calls Try.prog 82 #[.int .i64 321] V fun e w' => e = .returned (.tuple #[.agg #[.int .i64 321, .string s, .int .i64 15, .int .u64 18446744073709551612], .bool true]) ∧ Below V.heap.size V w' := fun V => by
    have h := of_any 321 V
    rw [hs, show knownB 321 = true from by kernel_rfl] at h
    exact h
  clear hs
  go_enter Try.func43, Try.ntmps43
  go_upto_region 2 with fail
  generalize ((w.alloc (.cells (docC m K) 52)).alloc (.cells #[.int .i64 0, .int .u64 0, .int .u64 0, .int .u64 0, .int .u64 0, .int .u64 0, .int .u64 0, .int .u64 0, .int .u64 0, .int .u64 0, .int .u64 0, .int .u64 0, .int .u64 0, .int .u64 0, .int .u64 0, .int .u64 0, .int .u64 0, .int .u64 0, .int .u64 0, .int .u64 0, .int .u64 0, .int .u64 0, .int .u64 0] 52)) = W at *
  go_wp2_with fail
  refine (hof _).mono ?_
  rintro e w1 ⟨rfl, hb1⟩
  have T1 : Hid (Two w w1 (docC m K) zeroD) := T0.out.step hb1
  clear hb1 hof
  go_upto_region 21 with fail
  have T2 : Hid (Thr w (w1.alloc (.cells #[.int .i64 321, .string s, .int .i64 15, .int .u64 18446744073709551612] 125)) w1.heap.size (docC m K) zeroD #[.int .i64 321, .string s, .int .i64 15, .int .u64 18446744073709551612]) := ⟨T1.out.step ((Below.refl _ _).alloc (Nat.le_refl _) _), Box.new 125 w1 _, T1.out.lt⟩
  generalize (w1.alloc (.cells #[.int .i64 321, .string s, .int .i64 15, .int .u64 18446744073709551612] 125)) = W2 at *
  generalize w1.heap.size = rb at *
  have r2 : W2.cell? ⟨rb, 2, none⟩ = some (.int .i64 15) := T2.out.2.1.cell 2 _ rfl
  have r3 : W2.cell? ⟨rb, 3, none⟩ = some (.int .u64 18446744073709551612) := T2.out.2.1.cell 3 _ rfl
  clear T1 T0
  go_wp2_with fail
  refine (hg4 _).mono ?_
  rintro e w4 ⟨rfl, hb4⟩
  have T4 : Hid (Thr w w4 rb (docC m K) zeroD #[.int .i64 321, .string s, .int .i64 15, .int .u64 18446744073709551612]) := T2.out.step hb4
  have t2 : w4.cell? ⟨rb, 2, none⟩ = some (.int .i64 15) := T4.out.2.1.cell 2 _ rfl
  have t3 : w4.cell? ⟨rb, 3, none⟩ = some (.int .u64 18446744073709551612) := T4.out.2.1.cell 3 _ rfl
  clear hb4
  clear r2 r3
  go_upto_region 28 with fail
  go_cut [6] (fun r wx => r = .pointer (some ⟨w.heap.size + 1, 0, none⟩) ∧ Two w wx (docC m (upd K 15 y)) zeroD)
  case first =>
    go_region_with (first | (go_at_call 45; (with_reducible refine Calls.mono (ha _) ?_); rintro e w5 ⟨rfl, hb5⟩; have T5 : Hid (Thr w w5 rb (docC m K) zeroD #[.int .i64 321, .string s, .int .i64 15, .int .u64 18446744073709551612]) := (T4.out.step (Below.drew (Below.refl _ _))).step hb5; have s2 : w5.cell? ⟨rb, 2, none⟩ = some (.int .i64 15) := T5.out.2.1.cell 2 _ rfl; have s3 : w5.cell? ⟨w.heap.size, 16, none⟩ = some (.int .u64 (K 15 : Nat)) := T5.out.1.1.cell 16 _ rfl; have s4 := T5.out.1.1.frozen 16; clear hb5))
    all_goals go_wp2_with fail
    all_goals go_meet
    all_goals
      have h := T5.out.1.set 16 (.int .u64 (y : Nat))
      rw [(set_docC m K _).2.2.2.2.2.2.2.2.2.2.2.2.2.2.2.1] at h
      exact ⟨rfl, h⟩
  case rest =>
  obtain ⟨rfl, ht⟩ := hcut
  have T6 : Hid (Two w wc (docC m (upd K 15 y)) zeroD) := ht
  clear ht
  go_upto_region 29 with fail
  refine wp_region_list ?_
  refine wpList_load_doc rfl _ rfl w.heap.size m (upd K 15 y) rfl T6.out.1 ?_
  refine wpList_store_doc rfl _ _ rfl (w.heap.size + 1) m (upd K 15 y) zeroD rfl rfl T6.out.2.1 zeroD_size ?_
  intro W9 B9 U9
  have T9 : Hid (Box 52 W9 (w.heap.size + 1) (docC m (upd K 15 y)) ∧ Below w.heap.size w W9) := ⟨B9, T6.out.2.2.trans (U9.below (Nat.le_succ _) T6.out.2.2.size)⟩
  clear B9 U9
  go_wp2_with fail
  exact bodyPost_ret (v := .agg (docC m (upd K 15 y))) (results_cell_row rfl _ _ (w.heap.size + 1) 52 _ (0, 0) _ rfl T9.out.1 Try.underlying52 rfl info52) rfl ⟨rfl, T9.out.2⟩
end Go.Proofs.Ytalgidnmmghejaa.E
