/- The document's call Write of layer 8, of any register. -/
import Derived.Test.YtalgidnmmghejaaDWt
import Derived.Test.YtalgidnmmghejaaDWs
import Derived.Test.YtalgidnmmghejaaDWu
import Derived.Test.YtalgidnmmghejaaDWv
import Derived.Test.YtalgidnmmghejaaWr
import Derived.Test.YtalgidnmmghejaaIx
namespace Go.Proofs.Ytalgidnmmghejaa.E
open Go.RowKit
set_option linter.unusedVariables false
set_option linter.unusedSimpArgs false
set_option maxRecDepth 100000
set_option maxHeartbeats 4000000 in
theorem dw_not (n : Int) (m : Int) (K : Nat → Nat) (x : Nat) (w : World) (h768 : (n == 768) = false) (h256 : (n == 256) = false) (h836 : (n == 836) = false) (h324 : (n == 324) = false) (h260 : (n == 260) = false) (h : knownB n = false ∨ dAt (ix n) < 0 ∨ dMask (ix n) = 0) : Calls Try.prog 43 #[.agg (docC m K), .int .i64 n, .int .u64 (x : Int)] w fun e w' => e = .returned (.agg (docC m K)) ∧ Below w.heap.size w w' := by
  have T0 : Hid (Two w ((w.alloc (.cells (docC m K) 52)).alloc (.cells #[.int .i64 0, .int .u64 0, .int .u64 0, .int .u64 0, .int .u64 0, .int .u64 0, .int .u64 0, .int .u64 0, .int .u64 0, .int .u64 0, .int .u64 0, .int .u64 0, .int .u64 0, .int .u64 0, .int .u64 0, .int .u64 0, .int .u64 0, .int .u64 0, .int .u64 0, .int .u64 0, .int .u64 0, .int .u64 0, .int .u64 0] 52)) (docC m K) zeroD) := Two.new w _ _
  have hof := fun V => of_any n V
  unfold rowC at hof
  generalize dN (ix n) = z0 at *
  generalize dName (ix n) = s at *
  generalize dAt (ix n) = z2 at *
  generalize dMask (ix n) = z3 at *
  generalize knownB n = kb at *
  have h' : kb = false ∨ (kb = true ∧ z2 < 0) ∨ (kb = true ∧ ¬ z2 < 0 ∧ z3 = 0) := by
    cases kb
    · exact .inl rfl
    · by_cases hz : z2 < 0
      · exact .inr (.inl ⟨rfl, hz⟩)
      · rcases h with h | h | h
        · cases h
        · exact absurd h hz
        · exact .inr (.inr ⟨rfl, hz, h⟩)
  clear h
  rcases h' with rfl | ⟨rfl, hz⟩ | ⟨rfl, hz, rfl⟩
  · skip
    go_enter Try.func43, Try.ntmps43
    go_upto_region 2 with fail
    generalize ((w.alloc (.cells (docC m K) 52)).alloc (.cells #[.int .i64 0, .int .u64 0, .int .u64 0, .int .u64 0, .int .u64 0, .int .u64 0, .int .u64 0, .int .u64 0, .int .u64 0, .int .u64 0, .int .u64 0, .int .u64 0, .int .u64 0, .int .u64 0, .int .u64 0, .int .u64 0, .int .u64 0, .int .u64 0, .int .u64 0, .int .u64 0, .int .u64 0, .int .u64 0, .int .u64 0] 52)) = W at *
    go_wp2_with fail
    refine (hof _).mono ?_
    rintro e w1 ⟨rfl, hb1⟩
    have T1 : Hid (Two w w1 (docC m K) zeroD) := T0.out.step hb1
    clear hb1 hof
    go_upto_region 21 with fail
    have T2 : Hid (Thr w (w1.alloc (.cells #[.int .i64 z0, .string s, .int .i64 z2, .int .u64 (z3 : Nat)] 125)) w1.heap.size (docC m K) zeroD #[.int .i64 z0, .string s, .int .i64 z2, .int .u64 (z3 : Nat)]) := ⟨T1.out.step ((Below.refl _ _).alloc (Nat.le_refl _) _), Box.new 125 w1 _, T1.out.lt⟩
    generalize (w1.alloc (.cells #[.int .i64 z0, .string s, .int .i64 z2, .int .u64 (z3 : Nat)] 125)) = W2 at *
    generalize w1.heap.size = rb at *
    have r2 : W2.cell? ⟨rb, 2, none⟩ = some (.int .i64 z2) := T2.out.2.1.cell 2 _ rfl
    have r3 : W2.cell? ⟨rb, 3, none⟩ = some (.int .u64 (z3 : Nat)) := T2.out.2.1.cell 3 _ rfl
    have T2t : Hid (Two w W2 (docC m K) zeroD) := T2.out.1
    clear T1 T0
    go_upto_region 22 with fail
    refine wp_region_list ?_
    refine wpList_load_doc rfl _ rfl w.heap.size m (K) rfl T2t.out.1 ?_
    refine wpList_store_doc rfl _ _ rfl (w.heap.size + 1) m (K) zeroD rfl rfl T2t.out.2.1 zeroD_size ?_
    intro W9 B9 U9
    have T9 : Hid (Box 52 W9 (w.heap.size + 1) (docC m (K)) ∧ Below w.heap.size w W9) := ⟨B9, T2t.out.2.2.trans (U9.below (Nat.le_succ _) T2t.out.2.2.size)⟩
    clear B9 U9
    go_wp2_with fail
    exact bodyPost_ret (v := .agg (docC m (K))) (results_cell_row rfl _ _ (w.heap.size + 1) 52 _ (0, 0) _ rfl T9.out.1 Try.underlying52 rfl info52) rfl ⟨rfl, T9.out.2⟩
  · skip
    go_enter Try.func43, Try.ntmps43
    go_upto_region 2 with fail
    generalize ((w.alloc (.cells (docC m K) 52)).alloc (.cells #[.int .i64 0, .int .u64 0, .int .u64 0, .int .u64 0, .int .u64 0, .int .u64 0, .int .u64 0, .int .u64 0, .int .u64 0, .int .u64 0, .int .u64 0, .int .u64 0, .int .u64 0, .int .u64 0, .int .u64 0, .int .u64 0, .int .u64 0, .int .u64 0, .int .u64 0, .int .u64 0, .int .u64 0, .int .u64 0, .int .u64 0] 52)) = W at *
    go_wp2_with fail
    refine (hof _).mono ?_
    rintro e w1 ⟨rfl, hb1⟩
    have T1 : Hid (Two w w1 (docC m K) zeroD) := T0.out.step hb1
    clear hb1 hof
    go_upto_region 21 with fail
    have T2 : Hid (Thr w (w1.alloc (.cells #[.int .i64 z0, .string s, .int .i64 z2, .int .u64 (z3 : Nat)] 125)) w1.heap.size (docC m K) zeroD #[.int .i64 z0, .string s, .int .i64 z2, .int .u64 (z3 : Nat)]) := ⟨T1.out.step ((Below.refl _ _).alloc (Nat.le_refl _) _), Box.new 125 w1 _, T1.out.lt⟩
    generalize (w1.alloc (.cells #[.int .i64 z0, .string s, .int .i64 z2, .int .u64 (z3 : Nat)] 125)) = W2 at *
    generalize w1.heap.size = rb at *
    have r2 : W2.cell? ⟨rb, 2, none⟩ = some (.int .i64 z2) := T2.out.2.1.cell 2 _ rfl
    have r3 : W2.cell? ⟨rb, 3, none⟩ = some (.int .u64 (z3 : Nat)) := T2.out.2.1.cell 3 _ rfl
    have T2t : Hid (Two w W2 (docC m K) zeroD) := T2.out.1
    clear T1 T0
    go_upto_region 22 with fail
    refine wp_region_list ?_
    refine wpList_load_doc rfl _ rfl w.heap.size m (K) rfl T2t.out.1 ?_
    refine wpList_store_doc rfl _ _ rfl (w.heap.size + 1) m (K) zeroD rfl rfl T2t.out.2.1 zeroD_size ?_
    intro W9 B9 U9
    have T9 : Hid (Box 52 W9 (w.heap.size + 1) (docC m (K)) ∧ Below w.heap.size w W9) := ⟨B9, T2t.out.2.2.trans (U9.below (Nat.le_succ _) T2t.out.2.2.size)⟩
    clear B9 U9
    go_wp2_with fail
    exact bodyPost_ret (v := .agg (docC m (K))) (results_cell_row rfl _ _ (w.heap.size + 1) 52 _ (0, 0) _ rfl T9.out.1 Try.underlying52 rfl info52) rfl ⟨rfl, T9.out.2⟩
  · skip
    go_enter Try.func43, Try.ntmps43
    go_upto_region 2 with fail
    generalize ((w.alloc (.cells (docC m K) 52)).alloc (.cells #[.int .i64 0, .int .u64 0, .int .u64 0, .int .u64 0, .int .u64 0, .int .u64 0, .int .u64 0, .int .u64 0, .int .u64 0, .int .u64 0, .int .u64 0, .int .u64 0, .int .u64 0, .int .u64 0, .int .u64 0, .int .u64 0, .int .u64 0, .int .u64 0, .int .u64 0, .int .u64 0, .int .u64 0, .int .u64 0, .int .u64 0] 52)) = W at *
    go_wp2_with fail
    refine (hof _).mono ?_
    rintro e w1 ⟨rfl, hb1⟩
    have T1 : Hid (Two w w1 (docC m K) zeroD) := T0.out.step hb1
    clear hb1 hof
    go_upto_region 21 with fail
    have T2 : Hid (Thr w (w1.alloc (.cells #[.int .i64 z0, .string s, .int .i64 z2, .int .u64 ((0 : Nat) : Int)] 125)) w1.heap.size (docC m K) zeroD #[.int .i64 z0, .string s, .int .i64 z2, .int .u64 ((0 : Nat) : Int)]) := ⟨T1.out.step ((Below.refl _ _).alloc (Nat.le_refl _) _), Box.new 125 w1 _, T1.out.lt⟩
    generalize (w1.alloc (.cells #[.int .i64 z0, .string s, .int .i64 z2, .int .u64 ((0 : Nat) : Int)] 125)) = W2 at *
    generalize w1.heap.size = rb at *
    have r2 : W2.cell? ⟨rb, 2, none⟩ = some (.int .i64 z2) := T2.out.2.1.cell 2 _ rfl
    have r3 : W2.cell? ⟨rb, 3, none⟩ = some (.int .u64 ((0 : Nat) : Int)) := T2.out.2.1.cell 3 _ rfl
    have T2t : Hid (Two w W2 (docC m K) zeroD) := T2.out.1
    clear T1 T0
    go_upto_region 22 with fail
    refine wp_region_list ?_
    refine wpList_load_doc rfl _ rfl w.heap.size m (K) rfl T2t.out.1 ?_
    refine wpList_store_doc rfl _ _ rfl (w.heap.size + 1) m (K) zeroD rfl rfl T2t.out.2.1 zeroD_size ?_
    intro W9 B9 U9
    have T9 : Hid (Box 52 W9 (w.heap.size + 1) (docC m (K)) ∧ Below w.heap.size w W9) := ⟨B9, T2t.out.2.2.trans (U9.below (Nat.le_succ _) T2t.out.2.2.size)⟩
    clear B9 U9
    go_wp2_with fail
    exact bodyPost_ret (v := .agg (docC m (K))) (results_cell_row rfl _ _ (w.heap.size + 1) 52 _ (0, 0) _ rfl T9.out.1 Try.underlying52 rfl info52) rfl ⟨rfl, T9.out.2⟩
theorem only_written : ∀ i, i < 31 → dN i ∈ ([768, 256, 770, 771, 772, 260, 836, 324, 773, 261, 774, 262, 832, 320, 834, 322, 835, 323, 833, 321, 384, 2816, 2818] : List Int) ∨ dAt i < 0 ∨ dMask i = 0 := by decide +kernel
theorem dwrite_any (m : Int) (K : Nat → Nat) (n : Int) (x : Nat) (hK : Ok K) (hx : x < 18446744073709551616) (w : World) : Calls Try.prog 43 #[.agg (docC m K), .int .i64 n, .int .u64 (x : Int)] w fun e w' => e = .returned (.agg (docC m (writeK K n x))) ∧ Below w.heap.size w w' := by
  unfold writeK
  by_cases h768 : n = 768
  · subst h768; rw [if_pos rfl]; exact dw_768 m K x hK hx w
  rw [if_neg h768]
  by_cases h256 : n = 256
  · subst h256; rw [if_pos rfl]; exact dw_256 m K x hK hx w
  rw [if_neg h256]
  by_cases h770 : n = 770
  · subst h770; rw [if_pos rfl]; exact dw_770 m K x hK hx w
  rw [if_neg h770]
  by_cases h771 : n = 771
  · subst h771; rw [if_pos rfl]; exact dw_771 m K x hK hx w
  rw [if_neg h771]
  by_cases h772 : n = 772
  · subst h772; rw [if_pos rfl]; exact dw_772 m K x hK hx w
  rw [if_neg h772]
  by_cases h260 : n = 260
  · subst h260; rw [if_pos rfl]; exact dw_260 m K x hK hx w
  rw [if_neg h260]
  by_cases h836 : n = 836
  · subst h836; rw [if_pos rfl]; exact dw_836 m K x hK hx w
  rw [if_neg h836]
  by_cases h324 : n = 324
  · subst h324; rw [if_pos rfl]; exact dw_324 m K x hK hx w
  rw [if_neg h324]
  by_cases h773 : n = 773
  · subst h773; rw [if_pos rfl]; exact dw_773 m K x hK hx w
  rw [if_neg h773]
  by_cases h261 : n = 261
  · subst h261; rw [if_pos rfl]; exact dw_261 m K x hK hx w
  rw [if_neg h261]
  by_cases h774 : n = 774
  · subst h774; rw [if_pos rfl]; exact dw_774 m K x hK hx w
  rw [if_neg h774]
  by_cases h262 : n = 262
  · subst h262; rw [if_pos rfl]; exact dw_262 m K x hK hx w
  rw [if_neg h262]
  by_cases h832 : n = 832
  · subst h832; rw [if_pos rfl]; exact dw_832 m K x hK hx w
  rw [if_neg h832]
  by_cases h320 : n = 320
  · subst h320; rw [if_pos rfl]; exact dw_320 m K x hK hx w
  rw [if_neg h320]
  by_cases h834 : n = 834
  · subst h834; rw [if_pos rfl]; exact dw_834 m K x hK hx w
  rw [if_neg h834]
  by_cases h322 : n = 322
  · subst h322; rw [if_pos rfl]; exact dw_322 m K x hK hx w
  rw [if_neg h322]
  by_cases h835 : n = 835
  · subst h835; rw [if_pos rfl]; exact dw_835 m K x hK hx w
  rw [if_neg h835]
  by_cases h323 : n = 323
  · subst h323; rw [if_pos rfl]; exact dw_323 m K x hK hx w
  rw [if_neg h323]
  by_cases h833 : n = 833
  · subst h833; rw [if_pos rfl]; exact dw_833 m K x hK hx w
  rw [if_neg h833]
  by_cases h321 : n = 321
  · subst h321; rw [if_pos rfl]; exact dw_321 m K x hK hx w
  rw [if_neg h321]
  by_cases h384 : n = 384
  · subst h384; rw [if_pos rfl]; exact dw_384 m K x hK hx w
  rw [if_neg h384]
  by_cases h2816 : n = 2816
  · subst h2816; rw [if_pos rfl]; exact dw_2816 m K x hK hx w
  rw [if_neg h2816]
  by_cases h2818 : n = 2818
  · subst h2818; rw [if_pos rfl]; exact dw_2818 m K x hK hx w
  rw [if_neg h2818]
  refine dw_not n m K x w (beq_eq_false_iff_ne.2 h768) (beq_eq_false_iff_ne.2 h256) (beq_eq_false_iff_ne.2 h836) (beq_eq_false_iff_ne.2 h324) (beq_eq_false_iff_ne.2 h260) ?_
  by_cases hi : ix n < 31
  · right
    rcases only_written (ix n) hi with h | h
    · rw [ix_dN n hi] at h
      simp at h
      omega
    · exact h
  · left
    unfold knownB
    simp [hi]
end Go.Proofs.Ytalgidnmmghejaa.E
