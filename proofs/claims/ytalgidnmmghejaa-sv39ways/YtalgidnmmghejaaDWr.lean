/- The document's call Write of layer 8, of the registers that are made of others. -/
import Derived.Test.YtalgidnmmghejaaDSm
namespace Go.Proofs.Ytalgidnmmghejaa.E
open Go.RowKit
set_option linter.unusedVariables false
set_option linter.unusedSimpArgs false
set_option maxRecDepth 100000
def zeroD : Array Value := #[.int .i64 0, .int .u64 0, .int .u64 0, .int .u64 0, .int .u64 0, .int .u64 0, .int .u64 0, .int .u64 0, .int .u64 0, .int .u64 0, .int .u64 0, .int .u64 0, .int .u64 0, .int .u64 0, .int .u64 0, .int .u64 0, .int .u64 0, .int .u64 0, .int .u64 0, .int .u64 0, .int .u64 0, .int .u64 0, .int .u64 0]
/-- the file's box, the result's box -/
def Two (w W : World) (c d : Array Value) : Prop := Box 52 W w.heap.size c ∧ Box 52 W (w.heap.size + 1) d ∧ Below w.heap.size w W
theorem Two.step {w W W' : World} {c d : Array Value} (h : Two w W c d) (hb : Below W.heap.size W W') : Two w W' c d := ⟨h.1.step hb, h.2.1.step hb, h.2.2.trans (hb.mono h.2.2.size)⟩
theorem Two.new (w : World) (c d : Array Value) : Two w ((w.alloc (.cells c 52)).alloc (.cells d 52)) c d := by
  refine ⟨(Box.new 52 w c).alloc _, ?_, ((Below.refl _ _).alloc (Nat.le_refl _) _).alloc (by simp) _⟩
  have h := Box.new 52 (w.alloc (.cells c 52)) d
  simpa using h
theorem Two.set {w W : World} {c d : Array Value} (h : Two w W c d) (i : Nat) (v : Value) : Two w (W.setCell ⟨w.heap.size, i, none⟩ v) (c.setIfInBounds i v) d := ⟨h.1.set i v, h.2.1.other i v (by omega), h.2.2.setCell (Nat.le_refl _) v⟩
section
variable {w : World} {ops : Array Oper} {rest : List Oper} {o : Oper} {a : Act} {Q : Exit → Act → World → Prop}
theorem wpList_load_doc (hg : o.guard = none) (x : Operand) (ho : o.op = .load 52 x) (b : Nat) (m : Int) (K : Nat → Nat) (hx : a.eval x = .pointer (some ⟨b, 0, none⟩)) (hb : Box 52 w b (docC m K))
    (h : wpList Try.prog ops Q rest (a.put o.dst (.agg (docC m K))) w) : wpList Try.prog ops Q (o :: rest) a w :=
  wpList_load_row hg 52 x ho b hx 52 _ (0, 0) _ hb Try.underlying52 rfl info52 h
end
theorem zeroD_size : zeroD.size = 23 := rfl
theorem upd_self (K : Nat → Nat) (i x : Nat) (h : x = K i) : upd K i x = K := by
  funext j; unfold upd; split
  · rename_i e; rw [e, h]
  · rfl
theorem and_all (x : Nat) (hx : x < 18446744073709551616) : x &&& 18446744073709551615 = x := by
  rw [show (18446744073709551615 : Nat) = 2 ^ 64 - 1 from rfl, Nat.and_two_pow_sub_one_eq_mod]; exact Nat.mod_eq_of_lt hx
set_option maxHeartbeats 4000000 in
theorem dw_768 (m : Int) (K : Nat → Nat) (x : Nat) (hK : Ok K) (hx : x < 18446744073709551616) (w : World) : Calls Try.prog 43 #[.agg (docC m K), .int .i64 768, .int .u64 (x : Int)] w fun e w' => e = .returned (.agg (docC m (upd K 0 (mixN (K 0) x (smask x))))) ∧ Below w.heap.size w w' := by
  have T0 : Hid (Two w ((w.alloc (.cells (docC m K) 52)).alloc (.cells #[.int .i64 0, .int .u64 0, .int .u64 0, .int .u64 0, .int .u64 0, .int .u64 0, .int .u64 0, .int .u64 0, .int .u64 0, .int .u64 0, .int .u64 0, .int .u64 0, .int .u64 0, .int .u64 0, .int .u64 0, .int .u64 0, .int .u64 0, .int .u64 0, .int .u64 0, .int .u64 0, .int .u64 0, .int .u64 0, .int .u64 0] 52)) (docC m K) zeroD) := Two.new w _ _
  have HK : Hid (Ok K) := hK
  have HX : Hid (x < 18446744073709551616) := hx
  clear hK hx
  have hg : ∀ V, Calls Try.prog 17 #[.int .u64 (x : Int), .int .i64 11, .int .i64 2] V fun e w' => e = .returned (.int .u64 (getN x 11 2 : Nat)) ∧ Below V.heap.size V w' := fun V => rget_all x 11 2 HX.out V V (Below.refl _ _)
  have hm : ∀ V, Calls Try.prog 81 #[.int .u64 (K 0 : Nat), .int .u64 (x : Int), .int .u64 (smask x : Nat)] V fun e w' => e = .returned (.int .u64 (mixN (K 0) x (smask x) : Nat)) ∧ Below V.heap.size V w' := fun V => mix_any _ _ _ (HK.out _) HX.out (smask_lt x) V
  generalize mixN (K 0) x (smask x) = y at *
  unfold smask at hm
  generalize getN x 11 2 = g at *
  by_cases h : g = 2
  all_goals
    first | (subst h; rw [if_pos rfl] at hm) | (rw [if_neg h] at hm; have h2 : ((g : Int) == 2) = false := by (simp; omega)
                                                have h3 : ¬ (g : Int) = 2 := by omega)
    go_enter Try.func43, Try.ntmps43
    go_upto_region 2 with fail
    generalize ((w.alloc (.cells (docC m K) 52)).alloc (.cells #[.int .i64 0, .int .u64 0, .int .u64 0, .int .u64 0, .int .u64 0, .int .u64 0, .int .u64 0, .int .u64 0, .int .u64 0, .int .u64 0, .int .u64 0, .int .u64 0, .int .u64 0, .int .u64 0, .int .u64 0, .int .u64 0, .int .u64 0, .int .u64 0, .int .u64 0, .int .u64 0, .int .u64 0, .int .u64 0, .int .u64 0] 52)) = W at *
    go_wp2_with fail
    refine (hg _).mono ?_
    rintro e w1 ⟨rfl, hb1⟩
    have T1 : Hid (Two w w1 (docC m K) zeroD) := T0.out.step hb1
    have c0 : w1.cell? ⟨w.heap.size, 1, none⟩ = some (.int .u64 (K 0 : Nat)) := T1.out.1.cell 1 _ rfl
    clear hb1
    go_wp2_with fail
    refine (hm _).mono ?_
    rintro e w2 ⟨rfl, hb2⟩
    have T2 : Hid (Two w w2 (docC m K) zeroD) := T1.out.step hb2
    have d0 : w2.cell? ⟨w.heap.size, 1, none⟩ = some (.int .u64 (K 0 : Nat)) := T2.out.1.cell 1 _ rfl
    have f0 := T2.out.1.frozen 1
    clear hb2 c0
    go_upto_region 7 with fail
    have T3 : Hid (Two w (w2.setCell ⟨w.heap.size, 1, none⟩ (.int .u64 (y : Nat))) (docC m (upd K 0 y)) zeroD) := by
      have h := T2.out.set 1 (.int .u64 (y : Nat))
      rw [(set_docC m K _).1] at h
      exact h
    generalize w2.setCell ⟨w.heap.size, 1, none⟩ (.int .u64 (y : Nat)) = W5 at *
    refine wp_region_list ?_
    refine wpList_load_doc rfl _ rfl w.heap.size m (upd K 0 y) rfl T3.out.1 ?_
    refine wpList_store_doc rfl _ _ rfl (w.heap.size + 1) m (upd K 0 y) zeroD rfl rfl T3.out.2.1 zeroD_size ?_
    intro W9 B9 U9
    have T9 : Hid (Box 52 W9 (w.heap.size + 1) (docC m (upd K 0 y)) ∧ Below w.heap.size w W9) := ⟨B9, T3.out.2.2.trans (U9.below (Nat.le_succ _) T3.out.2.2.size)⟩
    clear B9 U9
    go_wp2_with fail
    exact bodyPost_ret (v := .agg (docC m (upd K 0 y))) (results_cell_row rfl _ _ (w.heap.size + 1) 52 _ (0, 0) _ rfl T9.out.1 Try.underlying52 rfl info52) rfl ⟨rfl, T9.out.2⟩
set_option maxHeartbeats 4000000 in
theorem dw_256 (m : Int) (K : Nat → Nat) (x : Nat) (hK : Ok K) (hx : x < 18446744073709551616) (w : World) : Calls Try.prog 43 #[.agg (docC m K), .int .i64 256, .int .u64 (x : Int)] w fun e w' => e = .returned (.agg (docC m (upd K 0 (mixN (K 0) x 786722)))) ∧ Below w.heap.size w w' := by
  have T0 : Hid (Two w ((w.alloc (.cells (docC m K) 52)).alloc (.cells #[.int .i64 0, .int .u64 0, .int .u64 0, .int .u64 0, .int .u64 0, .int .u64 0, .int .u64 0, .int .u64 0, .int .u64 0, .int .u64 0, .int .u64 0, .int .u64 0, .int .u64 0, .int .u64 0, .int .u64 0, .int .u64 0, .int .u64 0, .int .u64 0, .int .u64 0, .int .u64 0, .int .u64 0, .int .u64 0, .int .u64 0] 52)) (docC m K) zeroD) := Two.new w _ _
  have HK : Hid (Ok K) := hK
  have HX : Hid (x < 18446744073709551616) := hx
  clear hK hx
  have hm : ∀ V, Calls Try.prog 81 #[.int .u64 (K 0 : Nat), .int .u64 (x : Int), .int .u64 786722] V fun e w' => e = .returned (.int .u64 (mixN (K 0) x 786722 : Nat)) ∧ Below V.heap.size V w' := fun V => mix_any _ _ 786722 (HK.out _) HX.out (by decide) V
  generalize mixN (K 0) x 786722 = y at *
  go_enter Try.func43, Try.ntmps43
  go_upto_region 2 with fail
  generalize ((w.alloc (.cells (docC m K) 52)).alloc (.cells #[.int .i64 0, .int .u64 0, .int .u64 0, .int .u64 0, .int .u64 0, .int .u64 0, .int .u64 0, .int .u64 0, .int .u64 0, .int .u64 0, .int .u64 0, .int .u64 0, .int .u64 0, .int .u64 0, .int .u64 0, .int .u64 0, .int .u64 0, .int .u64 0, .int .u64 0, .int .u64 0, .int .u64 0, .int .u64 0, .int .u64 0] 52)) = W at *
  have c0 : W.cell? ⟨w.heap.size, 1, none⟩ = some (.int .u64 (K 0 : Nat)) := T0.out.1.cell 1 _ rfl
  go_wp2_with fail
  refine (hm _).mono ?_
  rintro e w2 ⟨rfl, hb2⟩
  have T2 : Hid (Two w w2 (docC m K) zeroD) := T0.out.step hb2
  have d0 : w2.cell? ⟨w.heap.size, 1, none⟩ = some (.int .u64 (K 0 : Nat)) := T2.out.1.cell 1 _ rfl
  have f0 := T2.out.1.frozen 1
  clear hb2 c0
  go_upto_region 10 with fail
  have T3 : Hid (Two w (w2.setCell ⟨w.heap.size, 1, none⟩ (.int .u64 (y : Nat))) (docC m (upd K 0 y)) zeroD) := by
    have h := T2.out.set 1 (.int .u64 (y : Nat))
    rw [(set_docC m K _).1] at h
    exact h
  generalize w2.setCell ⟨w.heap.size, 1, none⟩ (.int .u64 (y : Nat)) = W5 at *
  refine wp_region_list ?_
  refine wpList_load_doc rfl _ rfl w.heap.size m (upd K 0 y) rfl T3.out.1 ?_
  refine wpList_store_doc rfl _ _ rfl (w.heap.size + 1) m (upd K 0 y) zeroD rfl rfl T3.out.2.1 zeroD_size ?_
  intro W9 B9 U9
  have T9 : Hid (Box 52 W9 (w.heap.size + 1) (docC m (upd K 0 y)) ∧ Below w.heap.size w W9) := ⟨B9, T3.out.2.2.trans (U9.below (Nat.le_succ _) T3.out.2.2.size)⟩
  clear B9 U9
  go_wp2_with fail
  exact bodyPost_ret (v := .agg (docC m (upd K 0 y))) (results_cell_row rfl _ _ (w.heap.size + 1) 52 _ (0, 0) _ rfl T9.out.1 Try.underlying52 rfl info52) rfl ⟨rfl, T9.out.2⟩
set_option maxHeartbeats 4000000 in
theorem dw_836 (m : Int) (K : Nat → Nat) (x : Nat) (hK : Ok K) (hx : x < 18446744073709551616) (w : World) : Calls Try.prog 43 #[.agg (docC m K), .int .i64 836, .int .u64 (x : Int)] w fun e w' => e = .returned (.agg (docC m (upd K 1 (x &&& 546)))) ∧ Below w.heap.size w w' := by
  have T0 : Hid (Two w ((w.alloc (.cells (docC m K) 52)).alloc (.cells #[.int .i64 0, .int .u64 0, .int .u64 0, .int .u64 0, .int .u64 0, .int .u64 0, .int .u64 0, .int .u64 0, .int .u64 0, .int .u64 0, .int .u64 0, .int .u64 0, .int .u64 0, .int .u64 0, .int .u64 0, .int .u64 0, .int .u64 0, .int .u64 0, .int .u64 0, .int .u64 0, .int .u64 0, .int .u64 0, .int .u64 0] 52)) (docC m K) zeroD) := Two.new w _ _
  have HK : Hid (Ok K) := hK
  have HX : Hid (x < 18446744073709551616) := hx
  clear hK hx
  have hm : ∀ V, Calls Try.prog 45 #[.int .u64 (x : Int), .int .u64 546] V fun e w' => e = .returned (.int .u64 (x &&& 546 : Nat)) ∧ Below V.heap.size V w' := fun V => rand_any _ 546 HX.out (by decide) V
  generalize x &&& 546 = y at *
  go_enter Try.func43, Try.ntmps43
  go_upto_region 2 with fail
  generalize ((w.alloc (.cells (docC m K) 52)).alloc (.cells #[.int .i64 0, .int .u64 0, .int .u64 0, .int .u64 0, .int .u64 0, .int .u64 0, .int .u64 0, .int .u64 0, .int .u64 0, .int .u64 0, .int .u64 0, .int .u64 0, .int .u64 0, .int .u64 0, .int .u64 0, .int .u64 0, .int .u64 0, .int .u64 0, .int .u64 0, .int .u64 0, .int .u64 0, .int .u64 0, .int .u64 0] 52)) = W at *
  go_wp2_with fail
  refine (hm _).mono ?_
  rintro e w2 ⟨rfl, hb2⟩
  have T2 : Hid (Two w w2 (docC m K) zeroD) := T0.out.step hb2
  have d0 : w2.cell? ⟨w.heap.size, 2, none⟩ = some (.int .u64 (K 1 : Nat)) := T2.out.1.cell 2 _ rfl
  have f0 := T2.out.1.frozen 2
  clear hb2
  go_upto_region 13 with fail
  have T3 : Hid (Two w (w2.setCell ⟨w.heap.size, 2, none⟩ (.int .u64 (y : Nat))) (docC m (upd K 1 y)) zeroD) := by
    have h := T2.out.set 2 (.int .u64 (y : Nat))
    rw [(set_docC m K _).2.1] at h
    exact h
  generalize w2.setCell ⟨w.heap.size, 2, none⟩ (.int .u64 (y : Nat)) = W5 at *
  refine wp_region_list ?_
  refine wpList_load_doc rfl _ rfl w.heap.size m (upd K 1 y) rfl T3.out.1 ?_
  refine wpList_store_doc rfl _ _ rfl (w.heap.size + 1) m (upd K 1 y) zeroD rfl rfl T3.out.2.1 zeroD_size ?_
  intro W9 B9 U9
  have T9 : Hid (Box 52 W9 (w.heap.size + 1) (docC m (upd K 1 y)) ∧ Below w.heap.size w W9) := ⟨B9, T3.out.2.2.trans (U9.below (Nat.le_succ _) T3.out.2.2.size)⟩
  clear B9 U9
  go_wp2_with fail
  exact bodyPost_ret (v := .agg (docC m (upd K 1 y))) (results_cell_row rfl _ _ (w.heap.size + 1) 52 _ (0, 0) _ rfl T9.out.1 Try.underlying52 rfl info52) rfl ⟨rfl, T9.out.2⟩
set_option maxHeartbeats 4000000 in
theorem dw_260 (m : Int) (K : Nat → Nat) (x : Nat) (hK : Ok K) (hx : x < 18446744073709551616) (w : World) : Calls Try.prog 43 #[.agg (docC m K), .int .i64 260, .int .u64 (x : Int)] w fun e w' => e = .returned (.agg (docC m (upd K 5 (mixN (K 5) x (K 4))))) ∧ Below w.heap.size w w' := by
  have T0 : Hid (Two w ((w.alloc (.cells (docC m K) 52)).alloc (.cells #[.int .i64 0, .int .u64 0, .int .u64 0, .int .u64 0, .int .u64 0, .int .u64 0, .int .u64 0, .int .u64 0, .int .u64 0, .int .u64 0, .int .u64 0, .int .u64 0, .int .u64 0, .int .u64 0, .int .u64 0, .int .u64 0, .int .u64 0, .int .u64 0, .int .u64 0, .int .u64 0, .int .u64 0, .int .u64 0, .int .u64 0] 52)) (docC m K) zeroD) := Two.new w _ _
  have HK : Hid (Ok K) := hK
  have HX : Hid (x < 18446744073709551616) := hx
  clear hK hx
  have hm : ∀ V, Calls Try.prog 81 #[.int .u64 (K 5 : Nat), .int .u64 (x : Int), .int .u64 (K 4 : Nat)] V fun e w' => e = .returned (.int .u64 (mixN (K 5) x (K 4) : Nat)) ∧ Below V.heap.size V w' := fun V => mix_any _ _ _ (HK.out _) HX.out (HK.out _) V
  generalize mixN (K 5) x (K 4) = y at *
  go_enter Try.func43, Try.ntmps43
  go_upto_region 2 with fail
  generalize ((w.alloc (.cells (docC m K) 52)).alloc (.cells #[.int .i64 0, .int .u64 0, .int .u64 0, .int .u64 0, .int .u64 0, .int .u64 0, .int .u64 0, .int .u64 0, .int .u64 0, .int .u64 0, .int .u64 0, .int .u64 0, .int .u64 0, .int .u64 0, .int .u64 0, .int .u64 0, .int .u64 0, .int .u64 0, .int .u64 0, .int .u64 0, .int .u64 0, .int .u64 0, .int .u64 0] 52)) = W at *
  have c5 : W.cell? ⟨w.heap.size, 6, none⟩ = some (.int .u64 (K 5 : Nat)) := T0.out.1.cell 6 _ rfl
  have c4 : W.cell? ⟨w.heap.size, 5, none⟩ = some (.int .u64 (K 4 : Nat)) := T0.out.1.cell 5 _ rfl
  go_wp2_with fail
  refine (hm _).mono ?_
  rintro e w2 ⟨rfl, hb2⟩
  have T2 : Hid (Two w w2 (docC m K) zeroD) := T0.out.step hb2
  have d0 : w2.cell? ⟨w.heap.size, 6, none⟩ = some (.int .u64 (K 5 : Nat)) := T2.out.1.cell 6 _ rfl
  have f0 := T2.out.1.frozen 6
  clear hb2 c5 c4
  go_upto_region 19 with fail
  have T3 : Hid (Two w (w2.setCell ⟨w.heap.size, 6, none⟩ (.int .u64 (y : Nat))) (docC m (upd K 5 y)) zeroD) := by
    have h := T2.out.set 6 (.int .u64 (y : Nat))
    rw [(set_docC m K _).2.2.2.2.2.1] at h
    exact h
  generalize w2.setCell ⟨w.heap.size, 6, none⟩ (.int .u64 (y : Nat)) = W5 at *
  refine wp_region_list ?_
  refine wpList_load_doc rfl _ rfl w.heap.size m (upd K 5 y) rfl T3.out.1 ?_
  refine wpList_store_doc rfl _ _ rfl (w.heap.size + 1) m (upd K 5 y) zeroD rfl rfl T3.out.2.1 zeroD_size ?_
  intro W9 B9 U9
  have T9 : Hid (Box 52 W9 (w.heap.size + 1) (docC m (upd K 5 y)) ∧ Below w.heap.size w W9) := ⟨B9, T3.out.2.2.trans (U9.below (Nat.le_succ _) T3.out.2.2.size)⟩
  clear B9 U9
  go_wp2_with fail
  exact bodyPost_ret (v := .agg (docC m (upd K 5 y))) (results_cell_row rfl _ _ (w.heap.size + 1) 52 _ (0, 0) _ rfl T9.out.1 Try.underlying52 rfl info52) rfl ⟨rfl, T9.out.2⟩
set_option maxHeartbeats 4000000 in
theorem dw_324 (m : Int) (K : Nat → Nat) (x : Nat) (hK : Ok K) (hx : x < 18446744073709551616) (w : World) : Calls Try.prog 43 #[.agg (docC m K), .int .i64 324, .int .u64 (x : Int)] w fun e w' => e = .returned (.agg (docC m (upd K 1 (mixN (K 1) x (K 4 &&& 2))))) ∧ Below w.heap.size w w' := by
  have T0 : Hid (Two w ((w.alloc (.cells (docC m K) 52)).alloc (.cells #[.int .i64 0, .int .u64 0, .int .u64 0, .int .u64 0, .int .u64 0, .int .u64 0, .int .u64 0, .int .u64 0, .int .u64 0, .int .u64 0, .int .u64 0, .int .u64 0, .int .u64 0, .int .u64 0, .int .u64 0, .int .u64 0, .int .u64 0, .int .u64 0, .int .u64 0, .int .u64 0, .int .u64 0, .int .u64 0, .int .u64 0] 52)) (docC m K) zeroD) := Two.new w _ _
  have HK : Hid (Ok K) := hK
  have HX : Hid (x < 18446744073709551616) := hx
  clear hK hx
  have ha : ∀ V, Calls Try.prog 45 #[.int .u64 (K 4 : Nat), .int .u64 2] V fun e w' => e = .returned (.int .u64 (K 4 &&& 2 : Nat)) ∧ Below V.heap.size V w' := fun V => rand_any _ 2 (HK.out _) (by decide) V
  have hm : ∀ V, Calls Try.prog 81 #[.int .u64 (K 1 : Nat), .int .u64 (x : Int), .int .u64 (K 4 &&& 2 : Nat)] V fun e w' => e = .returned (.int .u64 (mixN (K 1) x (K 4 &&& 2) : Nat)) ∧ Below V.heap.size V w' := fun V => mix_any _ _ _ (HK.out _) HX.out (and_lt _ _ (HK.out _)) V
  generalize mixN (K 1) x (K 4 &&& 2) = y at *
  generalize K 4 &&& 2 = z at *
  go_enter Try.func43, Try.ntmps43
  go_upto_region 2 with fail
  generalize ((w.alloc (.cells (docC m K) 52)).alloc (.cells #[.int .i64 0, .int .u64 0, .int .u64 0, .int .u64 0, .int .u64 0, .int .u64 0, .int .u64 0, .int .u64 0, .int .u64 0, .int .u64 0, .int .u64 0, .int .u64 0, .int .u64 0, .int .u64 0, .int .u64 0, .int .u64 0, .int .u64 0, .int .u64 0, .int .u64 0, .int .u64 0, .int .u64 0, .int .u64 0, .int .u64 0] 52)) = W at *
  have c1 : W.cell? ⟨w.heap.size, 2, none⟩ = some (.int .u64 (K 1 : Nat)) := T0.out.1.cell 2 _ rfl
  have c4 : W.cell? ⟨w.heap.size, 5, none⟩ = some (.int .u64 (K 4 : Nat)) := T0.out.1.cell 5 _ rfl
  go_upto_region 15 with fail
  go_cut [6] (fun r wx => r = .pointer (some ⟨w.heap.size + 1, 0, none⟩) ∧ Two w wx (docC m (upd K 1 y)) zeroD)
  case first =>
    go_region_with (first | (go_at_call 45; (with_reducible refine Calls.mono (ha _) ?_); rintro e w1 ⟨rfl, hb1⟩; have T1 : Hid (Two w w1 (docC m K) zeroD) := (T0.out.step (Below.drew (Below.refl _ _))).step hb1; have d1 : w1.cell? ⟨w.heap.size, 2, none⟩ = some (.int .u64 (K 1 : Nat)) := T1.out.1.cell 2 _ rfl; clear hb1) | (go_at_call 81; (with_reducible refine Calls.mono (hm _) ?_); rintro e w2 ⟨rfl, hb2⟩; have T2 : Hid (Two w w2 (docC m K) zeroD) := T1.out.step hb2; have e1 : w2.cell? ⟨w.heap.size, 2, none⟩ = some (.int .u64 (K 1 : Nat)) := T2.out.1.cell 2 _ rfl; have f1 := T2.out.1.frozen 2; clear hb2))
    all_goals go_wp2_with fail
    all_goals go_meet
    all_goals
      have h := T2.out.set 2 (.int .u64 (y : Nat))
      rw [(set_docC m K _).2.1] at h
      exact ⟨rfl, h⟩
  case rest =>
  obtain ⟨rfl, ht⟩ := hcut
  have T3 : Hid (Two w wc (docC m (upd K 1 y)) zeroD) := ht
  clear ht
  go_upto_region 16 with fail
  refine wp_region_list ?_
  refine wpList_load_doc rfl _ rfl w.heap.size m (upd K 1 y) rfl T3.out.1 ?_
  refine wpList_store_doc rfl _ _ rfl (w.heap.size + 1) m (upd K 1 y) zeroD rfl rfl T3.out.2.1 zeroD_size ?_
  intro W9 B9 U9
  have T9 : Hid (Box 52 W9 (w.heap.size + 1) (docC m (upd K 1 y)) ∧ Below w.heap.size w W9) := ⟨B9, T3.out.2.2.trans (U9.below (Nat.le_succ _) T3.out.2.2.size)⟩
  clear B9 U9
  go_wp2_with fail
  exact bodyPost_ret (v := .agg (docC m (upd K 1 y))) (results_cell_row rfl _ _ (w.heap.size + 1) 52 _ (0, 0) _ rfl T9.out.1 Try.underlying52 rfl info52) rfl ⟨rfl, T9.out.2⟩
/-- the file's box, the result's box, the row's box -/
def Thr (w W : World) (rb : Nat) (c d r : Array Value) : Prop := Two w W c d ∧ Box 125 W rb r ∧ w.heap.size + 1 < rb
theorem Thr.step {w W W' : World} {rb : Nat} {c d r : Array Value} (h : Thr w W rb c d r) (hb : Below W.heap.size W W') : Thr w W' rb c d r := ⟨h.1.step hb, h.2.1.step hb, h.2.2⟩
theorem Two.lt {w W : World} {c d : Array Value} (h : Two w W c d) : w.heap.size + 1 < W.heap.size := h.2.1.lt
end Go.Proofs.Ytalgidnmmghejaa.E
