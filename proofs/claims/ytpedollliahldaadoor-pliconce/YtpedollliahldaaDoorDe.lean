/- The document's calls Done and Lines. -/
import Derived.Test.YtpedollliahldaaDoorDd
import Derived.Test.YtpedollliahldaaDoorPd
namespace Go.Proofs.YtpedollliahldaaDoor
open Go.RowKit
set_option linter.unusedVariables false
set_option linter.unusedSimpArgs false
set_option maxRecDepth 100000
theorem ddone_no (S : St) (c n : Int) (h : (decide (0 ≤ c) && decide (c < 2)) = false ∨ (decide (1 ≤ n) && decide (n < 32)) = false) (w : World) : Calls Tryd.prog 27 #[.agg (docC S), .int .i64 c, .int .i64 n] w fun e w' => e = .returned (.agg (docC S)) ∧ Below w.heap.size w w' := by
  have h2 : c < 0 ∨ (¬ c < 0 ∧ 1 < c) ∨ (¬ c < 0 ∧ ¬ 1 < c ∧ n < 1) ∨ (¬ c < 0 ∧ ¬ 1 < c ∧ ¬ n < 1 ∧ 31 < n) := by
    rcases h with h | h <;> simp at h <;> omega
  clear h
  rcases h2 with h2 | ⟨h2, h3⟩ | ⟨h2, h3, h4⟩ | ⟨h2, h3, h4, h5⟩
  · have _hm : True := trivial
    go_enter Tryd.func27, Tryd.ntmps27
    go_upto_region 0 with fail
    refine wp_region_list ?_
    refine wpList_enter2 _ _ rfl rfl rfl rfl rfl ?_
    intro W hT0
    have T0 : Hid (Two w W (docC (S)) (docC zeroS)) := hT0
    clear hT0
    go_upto_region 2 with fail
    refine wp_region_list ?_
    refine wpList_load_doc rfl _ rfl w.heap.size (S) rfl T0.out.1 ?_
    refine wpList_store_doc rfl _ _ rfl (w.heap.size + 1) (S) (docC zeroS) rfl rfl T0.out.2.1 (by rw [docC_size, docC_size]) ?_
    intro W9 B9 U9
    have T9 : Hid (Box 34 W9 (w.heap.size + 1) (docC (S)) ∧ Below w.heap.size w W9) := ⟨B9, T0.out.2.2.trans (U9.below (Nat.le_succ _) T0.out.2.2.size)⟩
    clear B9 U9
    go_wp2_with fail
    exact bodyPost_ret (v := .agg (docC (S))) (results_cell_row rfl _ _ (w.heap.size + 1) 34 _ (0, 0) _ rfl T9.out.1 Tryd.underlying34 rfl (info34 _)) rfl ⟨rfl, T9.out.2⟩
  · have _hm : True := trivial
    go_enter Tryd.func27, Tryd.ntmps27
    go_upto_region 0 with fail
    refine wp_region_list ?_
    refine wpList_enter2 _ _ rfl rfl rfl rfl rfl ?_
    intro W hT0
    have T0 : Hid (Two w W (docC (S)) (docC zeroS)) := hT0
    clear hT0
    go_upto_region 2 with fail
    refine wp_region_list ?_
    refine wpList_load_doc rfl _ rfl w.heap.size (S) rfl T0.out.1 ?_
    refine wpList_store_doc rfl _ _ rfl (w.heap.size + 1) (S) (docC zeroS) rfl rfl T0.out.2.1 (by rw [docC_size, docC_size]) ?_
    intro W9 B9 U9
    have T9 : Hid (Box 34 W9 (w.heap.size + 1) (docC (S)) ∧ Below w.heap.size w W9) := ⟨B9, T0.out.2.2.trans (U9.below (Nat.le_succ _) T0.out.2.2.size)⟩
    clear B9 U9
    go_wp2_with fail
    exact bodyPost_ret (v := .agg (docC (S))) (results_cell_row rfl _ _ (w.heap.size + 1) 34 _ (0, 0) _ rfl T9.out.1 Tryd.underlying34 rfl (info34 _)) rfl ⟨rfl, T9.out.2⟩
  · have _hm : True := trivial
    go_enter Tryd.func27, Tryd.ntmps27
    go_upto_region 0 with fail
    refine wp_region_list ?_
    refine wpList_enter2 _ _ rfl rfl rfl rfl rfl ?_
    intro W hT0
    have T0 : Hid (Two w W (docC (S)) (docC zeroS)) := hT0
    clear hT0
    go_upto_region 2 with fail
    refine wp_region_list ?_
    refine wpList_load_doc rfl _ rfl w.heap.size (S) rfl T0.out.1 ?_
    refine wpList_store_doc rfl _ _ rfl (w.heap.size + 1) (S) (docC zeroS) rfl rfl T0.out.2.1 (by rw [docC_size, docC_size]) ?_
    intro W9 B9 U9
    have T9 : Hid (Box 34 W9 (w.heap.size + 1) (docC (S)) ∧ Below w.heap.size w W9) := ⟨B9, T0.out.2.2.trans (U9.below (Nat.le_succ _) T0.out.2.2.size)⟩
    clear B9 U9
    go_wp2_with fail
    exact bodyPost_ret (v := .agg (docC (S))) (results_cell_row rfl _ _ (w.heap.size + 1) 34 _ (0, 0) _ rfl T9.out.1 Tryd.underlying34 rfl (info34 _)) rfl ⟨rfl, T9.out.2⟩
  · have _hm : True := trivial
    go_enter Tryd.func27, Tryd.ntmps27
    go_upto_region 0 with fail
    refine wp_region_list ?_
    refine wpList_enter2 _ _ rfl rfl rfl rfl rfl ?_
    intro W hT0
    have T0 : Hid (Two w W (docC (S)) (docC zeroS)) := hT0
    clear hT0
    go_upto_region 2 with fail
    refine wp_region_list ?_
    refine wpList_load_doc rfl _ rfl w.heap.size (S) rfl T0.out.1 ?_
    refine wpList_store_doc rfl _ _ rfl (w.heap.size + 1) (S) (docC zeroS) rfl rfl T0.out.2.1 (by rw [docC_size, docC_size]) ?_
    intro W9 B9 U9
    have T9 : Hid (Box 34 W9 (w.heap.size + 1) (docC (S)) ∧ Below w.heap.size w W9) := ⟨B9, T0.out.2.2.trans (U9.below (Nat.le_succ _) T0.out.2.2.size)⟩
    clear B9 U9
    go_wp2_with fail
    exact bodyPost_ret (v := .agg (docC (S))) (results_cell_row rfl _ _ (w.heap.size + 1) 34 _ (0, 0) _ rfl T9.out.1 Tryd.underlying34 rfl (info34 _)) rfl ⟨rfl, T9.out.2⟩
set_option maxHeartbeats 2000000 in
theorem ddone_any (S : St) (hS : S.Ok) (c n : Nat) (hc : c < 2) (h1 : 1 ≤ n) (h2 : n < 32) (w : World) : Calls Tryd.prog 27 #[.agg (docC S), .int .i64 (c : Int), .int .i64 (n : Int)] w fun e w' => e = .returned (.agg (docC (doneS S c n))) ∧ Below w.heap.size w w' := by
  have HG : Hid (∀ V, Calls Tryd.prog 37 #[.agg (docC { S with serv := setB S.serv n false })] V fun e w' => e = .returned (.agg (docC (gateS { S with serv := setB S.serv n false }))) ∧ Below V.heap.size V w') := fun V => gate_any _ (serv_ok hS n false h2) V
  have h3 : ¬ (n : Int) < 1 := by omega
  have h4 : ¬ 31 < (n : Int) := by omega
  have h5 : (n : Int) < 32 := by omega
  have h6 : ¬ (c : Int) < 0 := by omega
  have h7 : ¬ 1 < (c : Int) := by omega
  have h8 : (c : Int) < 2 := by omega
  have HN : Hid (n < 32) := h2
  have HC : Hid (c < 2) := hc
  clear h1 h2 hS hc
  cases hl : (S.lets c).testBit n
  · have HR : doneS S c n = S := by unfold doneS; rw [hl]; rfl
    rw [HR]
    clear HR HG
    go_enter Tryd.func27, Tryd.ntmps27
    go_upto_region 0 with fail
    refine wp_region_list ?_
    refine wpList_enter2 _ _ rfl rfl rfl rfl rfl ?_
    intro W hT0
    have T0 : Hid (Two w W (docC (S)) (docC zeroS)) := hT0
    clear hT0
    have f1 := T0.out.1.dlets c n HC.out HN.out
    rw [hl] at f1
    clear hl
    go_upto_region 2 with fail
    refine wp_region_list ?_
    refine wpList_load_doc rfl _ rfl w.heap.size (S) rfl T0.out.1 ?_
    refine wpList_store_doc rfl _ _ rfl (w.heap.size + 1) (S) (docC zeroS) rfl rfl T0.out.2.1 (by rw [docC_size, docC_size]) ?_
    intro W9 B9 U9
    have T9 : Hid (Box 34 W9 (w.heap.size + 1) (docC (S)) ∧ Below w.heap.size w W9) := ⟨B9, T0.out.2.2.trans (U9.below (Nat.le_succ _) T0.out.2.2.size)⟩
    clear B9 U9
    go_wp2_with fail
    exact bodyPost_ret (v := .agg (docC (S))) (results_cell_row rfl _ _ (w.heap.size + 1) 34 _ (0, 0) _ rfl T9.out.1 Tryd.underlying34 rfl (info34 _)) rfl ⟨rfl, T9.out.2⟩
  · have HR : doneS S c n = gateS { S with serv := setB S.serv n false } := by unfold doneS; rw [hl]; rfl
    rw [HR]
    clear HR
    go_enter Tryd.func27, Tryd.ntmps27
    go_upto_region 0 with fail
    refine wp_region_list ?_
    refine wpList_enter2 _ _ rfl rfl rfl rfl rfl ?_
    intro W hT0
    have T0 : Hid (Two w W (docC (S)) (docC zeroS)) := hT0
    clear hT0
    have f1 := T0.out.1.dlets c n HC.out HN.out
    rw [hl] at f1
    clear hl
    have f3 := T0.out.1.dserv n HN.out
    have z3 := T0.out.1.frozen (96 + n)
    have T1 : Hid (Two w (W.setCell ⟨w.heap.size, 96 + n, none⟩ (.bool false)) (docC { S with serv := setB S.serv n false }) (docC zeroS)) := T0.out.serv n false HN.out
    go_upto_region 4 with fail
    clear T0 f1 f3 z3
    generalize W.setCell ⟨w.heap.size, 96 + n, none⟩ (.bool false) = W1 at *
    refine wp_region_list ?_
    refine wpList_load_doc rfl _ rfl w.heap.size ({ S with serv := setB S.serv n false }) rfl T1.out.1 ?_
    refine wpList_step (fun KK hKK => ?_)
    go_simp
    refine (HG.out _).mono ?_
    rintro e w2 ⟨rfl, hb2⟩
    have T2 : Hid (Two w w2 (docC { S with serv := setB S.serv n false }) (docC zeroS)) := T1.out.step hb2
    clear hb2
    refine hKK _ _ ?_
    clear hKK KK
    refine wpList_store_doc rfl _ _ rfl (w.heap.size + 1) (gateS { S with serv := setB S.serv n false }) (docC zeroS) rfl rfl T2.out.2.1 (by rw [docC_size, docC_size]) ?_
    intro W9 B9 U9
    have T9 : Hid (Box 34 W9 (w.heap.size + 1) (docC (gateS { S with serv := setB S.serv n false })) ∧ Below w.heap.size w W9) := ⟨B9, T2.out.2.2.trans (U9.below (Nat.le_succ _) T2.out.2.2.size)⟩
    clear B9 U9
    go_wp2_with fail
    exact bodyPost_ret (v := .agg (docC (gateS { S with serv := setB S.serv n false }))) (results_cell_row rfl _ _ (w.heap.size + 1) 34 _ (0, 0) _ rfl T9.out.1 Tryd.underlying34 rfl (info34 _)) rfl ⟨rfl, T9.out.2⟩
theorem line_cases (S : St) (c b : Nat) : (firstN S c = 0 ∧ lineN S c b = 0) ∨ (firstN S c ≠ 0 ∧ S.least c < S.prio (firstN S c) ∧ lineN S c b = 2 ^ b) ∨ (firstN S c ≠ 0 ∧ ¬ S.least c < S.prio (firstN S c) ∧ lineN S c b = 0) := by
  unfold lineN mostN
  by_cases h : firstN S c = 0
  · exact .inl ⟨h, by rw [if_pos h, if_neg (by omega)]⟩
  · rw [if_neg h]
    by_cases h2 : S.least c < S.prio (firstN S c)
    · exact .inr (.inl ⟨h, h2, by rw [if_pos h2]⟩)
    · exact .inr (.inr ⟨h, h2, by rw [if_neg h2]⟩)
set_option maxHeartbeats 4000000 in
theorem dlines_any (S : St) (w : World) : Calls Tryd.prog 32 #[.agg (docC S)] w fun e w' => e = .returned (.int .u64 (linesN S : Nat)) ∧ Below w.heap.size w w' := by
  have HF0 : Hid (∀ V, Calls Tryd.prog 38 #[.agg (docC S), .int .i64 0] V fun e w' => e = .returned (.int .i64 (firstN S 0 : Nat)) ∧ Below V.heap.size V w') := fun V => dfirst_any S 0 (by omega) V
  have HF1 : Hid (∀ V, Calls Tryd.prog 38 #[.agg (docC S), .int .i64 1] V fun e w' => e = .returned (.int .i64 (firstN S 1 : Nat)) ∧ Below V.heap.size V w') := fun V => dfirst_any S 1 (by omega) V
  have HL : Hid (linesN S = lineN S 0 11 + lineN S 1 9) := linesN_eq S
  go_enter Tryd.func32, Tryd.ntmps32
  go_upto_region 0 with fail
  refine wp_region_list ?_
  refine wpList_box_agg 34 (docC S) _ rfl rfl rfl ?_
  have X0 : Hid (Box 34 (w.alloc (.cells (docC S) 34)) w.heap.size (docC S) ∧ Below w.heap.size w (w.alloc (.cells (docC S) 34))) := ⟨Box.new 34 w _, (Below.refl _ _).alloc (Nat.le_refl _) _⟩
  generalize w.alloc (.cells (docC S) 34) = W at *
  rcases line_cases S 0 11 with ⟨a0, v0⟩ | ⟨a0, b0, v0⟩ | ⟨a0, b0, v0⟩ <;> rcases line_cases S 1 9 with ⟨a1, v1⟩ | ⟨a1, b1, v1⟩ | ⟨a1, b1, v1⟩
  · have _hm : True := trivial
    rw [a0] at HF0
    rw [a1] at HF1
    rw [v0, v1] at HL
    clear v0 v1 a0 a1 
    go_upto_region 2 with fail
    refine wp_region_list ?_
    refine wpList_load_doc rfl _ rfl w.heap.size (S) rfl X0.out.1 ?_
    refine wpList_step (fun KK hKK => ?_)
    go_simp
    refine (HF0.out _).mono ?_
    rintro e w1 ⟨rfl, hb1⟩
    have X1 : Hid (Box 34 w1 w.heap.size (docC S) ∧ Below w.heap.size w w1) := ⟨X0.out.1.step hb1, below2 X0.out.2 hb1⟩
    clear hb1
    refine hKK _ _ ?_
    clear hKK KK
    have l0 : w1.cell? ⟨w.heap.size, 192, none⟩ = some (.int .i64 (S.least 0 : Nat)) := X1.out.1.dleast 0 (by omega)
    go_upto_region 3 with fail
    go_quiet (fail)
    have X2 : Hid (Box 34 (w1.drewN nq) w.heap.size (docC S) ∧ Below w.heap.size w (w1.drewN nq)) := ⟨X1.out.1.step (below_drewN' (Below.refl _ _) _), below_drewN' X1.out.2 _⟩
    generalize w1.drewN nq = wq at *
    clear X0 X1 l0
    go_upto_region 5 with fail
    refine wp_region_list ?_
    refine wpList_load_doc rfl _ rfl w.heap.size (S) rfl X2.out.1 ?_
    refine wpList_step (fun KK hKK => ?_)
    go_simp
    refine (HF1.out _).mono ?_
    rintro e w3 ⟨rfl, hb3⟩
    have X3 : Hid (Box 34 w3 w.heap.size (docC S) ∧ Below w.heap.size w w3) := ⟨X2.out.1.step hb3, below2 X2.out.2 hb3⟩
    clear hb3
    refine hKK _ _ ?_
    clear hKK KK
    have l1 : w3.cell? ⟨w.heap.size, 193, none⟩ = some (.int .i64 (S.least 1 : Nat)) := X3.out.1.dleast 1 (by omega)
    go_upto_region 6 with fail
    go_quiet (fail)
    go_wp2_with fail
    go_ret
    exact ⟨by rw [HL.out]; rfl, below_drewN' X3.out.2 _⟩
  · have _hm : True := trivial
    rw [a0] at HF0
    have c11 : (0 : Int) < (firstN S 1 : Nat) := by omega
    have c12 : decide (0 < firstN S 1) = true := by simp; omega
    have c13 : ((firstN S 1 : Nat) : Int) < 32 := by have := firstN_lt S 1; omega
    have c14 : (S.least 1 : Int) < (S.prio (firstN S 1) : Nat) := by omega
    have c15 : decide (S.least 1 < S.prio (firstN S 1)) = true := by simp; omega
    rw [v0, v1] at HL
    clear v0 v1 a0 a1 b1
    go_upto_region 2 with fail
    refine wp_region_list ?_
    refine wpList_load_doc rfl _ rfl w.heap.size (S) rfl X0.out.1 ?_
    refine wpList_step (fun KK hKK => ?_)
    go_simp
    refine (HF0.out _).mono ?_
    rintro e w1 ⟨rfl, hb1⟩
    have X1 : Hid (Box 34 w1 w.heap.size (docC S) ∧ Below w.heap.size w w1) := ⟨X0.out.1.step hb1, below2 X0.out.2 hb1⟩
    clear hb1
    refine hKK _ _ ?_
    clear hKK KK
    have l0 : w1.cell? ⟨w.heap.size, 192, none⟩ = some (.int .i64 (S.least 0 : Nat)) := X1.out.1.dleast 0 (by omega)
    go_upto_region 3 with fail
    go_quiet (fail)
    have X2 : Hid (Box 34 (w1.drewN nq) w.heap.size (docC S) ∧ Below w.heap.size w (w1.drewN nq)) := ⟨X1.out.1.step (below_drewN' (Below.refl _ _) _), below_drewN' X1.out.2 _⟩
    generalize w1.drewN nq = wq at *
    clear X0 X1 l0
    go_upto_region 5 with fail
    refine wp_region_list ?_
    refine wpList_load_doc rfl _ rfl w.heap.size (S) rfl X2.out.1 ?_
    refine wpList_step (fun KK hKK => ?_)
    go_simp
    refine (HF1.out _).mono ?_
    rintro e w3 ⟨rfl, hb3⟩
    have X3 : Hid (Box 34 w3 w.heap.size (docC S) ∧ Below w.heap.size w w3) := ⟨X2.out.1.step hb3, below2 X2.out.2 hb3⟩
    clear hb3
    refine hKK _ _ ?_
    clear hKK KK
    have p1 := X3.out.1.dprio (firstN S 1) (firstN_lt S 1)
    have l1 : w3.cell? ⟨w.heap.size, 193, none⟩ = some (.int .i64 (S.least 1 : Nat)) := X3.out.1.dleast 1 (by omega)
    go_upto_region 6 with fail
    go_quiet (fail)
    go_wp2_with fail
    go_ret
    exact ⟨by rw [HL.out]; rfl, below_drewN' X3.out.2 _⟩
  · have _hm : True := trivial
    rw [a0] at HF0
    have c11 : (0 : Int) < (firstN S 1 : Nat) := by omega
    have c12 : decide (0 < firstN S 1) = true := by simp; omega
    have c13 : ((firstN S 1 : Nat) : Int) < 32 := by have := firstN_lt S 1; omega
    have c14 : ¬ (S.least 1 : Int) < (S.prio (firstN S 1) : Nat) := by omega
    have c15 : decide (S.least 1 < S.prio (firstN S 1)) = false := by simp; omega
    rw [v0, v1] at HL
    clear v0 v1 a0 a1 b1
    go_upto_region 2 with fail
    refine wp_region_list ?_
    refine wpList_load_doc rfl _ rfl w.heap.size (S) rfl X0.out.1 ?_
    refine wpList_step (fun KK hKK => ?_)
    go_simp
    refine (HF0.out _).mono ?_
    rintro e w1 ⟨rfl, hb1⟩
    have X1 : Hid (Box 34 w1 w.heap.size (docC S) ∧ Below w.heap.size w w1) := ⟨X0.out.1.step hb1, below2 X0.out.2 hb1⟩
    clear hb1
    refine hKK _ _ ?_
    clear hKK KK
    have l0 : w1.cell? ⟨w.heap.size, 192, none⟩ = some (.int .i64 (S.least 0 : Nat)) := X1.out.1.dleast 0 (by omega)
    go_upto_region 3 with fail
    go_quiet (fail)
    have X2 : Hid (Box 34 (w1.drewN nq) w.heap.size (docC S) ∧ Below w.heap.size w (w1.drewN nq)) := ⟨X1.out.1.step (below_drewN' (Below.refl _ _) _), below_drewN' X1.out.2 _⟩
    generalize w1.drewN nq = wq at *
    clear X0 X1 l0
    go_upto_region 5 with fail
    refine wp_region_list ?_
    refine wpList_load_doc rfl _ rfl w.heap.size (S) rfl X2.out.1 ?_
    refine wpList_step (fun KK hKK => ?_)
    go_simp
    refine (HF1.out _).mono ?_
    rintro e w3 ⟨rfl, hb3⟩
    have X3 : Hid (Box 34 w3 w.heap.size (docC S) ∧ Below w.heap.size w w3) := ⟨X2.out.1.step hb3, below2 X2.out.2 hb3⟩
    clear hb3
    refine hKK _ _ ?_
    clear hKK KK
    have p1 := X3.out.1.dprio (firstN S 1) (firstN_lt S 1)
    have l1 : w3.cell? ⟨w.heap.size, 193, none⟩ = some (.int .i64 (S.least 1 : Nat)) := X3.out.1.dleast 1 (by omega)
    go_upto_region 6 with fail
    go_quiet (fail)
    go_wp2_with fail
    go_ret
    exact ⟨by rw [HL.out]; rfl, below_drewN' X3.out.2 _⟩
  · have _hm : True := trivial
    have c01 : (0 : Int) < (firstN S 0 : Nat) := by omega
    have c02 : decide (0 < firstN S 0) = true := by simp; omega
    have c03 : ((firstN S 0 : Nat) : Int) < 32 := by have := firstN_lt S 0; omega
    have c04 : (S.least 0 : Int) < (S.prio (firstN S 0) : Nat) := by omega
    have c05 : decide (S.least 0 < S.prio (firstN S 0)) = true := by simp; omega
    rw [a1] at HF1
    rw [v0, v1] at HL
    clear v0 v1 a0 a1 b0 
    go_upto_region 2 with fail
    refine wp_region_list ?_
    refine wpList_load_doc rfl _ rfl w.heap.size (S) rfl X0.out.1 ?_
    refine wpList_step (fun KK hKK => ?_)
    go_simp
    refine (HF0.out _).mono ?_
    rintro e w1 ⟨rfl, hb1⟩
    have X1 : Hid (Box 34 w1 w.heap.size (docC S) ∧ Below w.heap.size w w1) := ⟨X0.out.1.step hb1, below2 X0.out.2 hb1⟩
    clear hb1
    refine hKK _ _ ?_
    clear hKK KK
    have p0 := X1.out.1.dprio (firstN S 0) (firstN_lt S 0)
    have l0 : w1.cell? ⟨w.heap.size, 192, none⟩ = some (.int .i64 (S.least 0 : Nat)) := X1.out.1.dleast 0 (by omega)
    go_upto_region 3 with fail
    go_quiet (fail)
    have X2 : Hid (Box 34 (w1.drewN nq) w.heap.size (docC S) ∧ Below w.heap.size w (w1.drewN nq)) := ⟨X1.out.1.step (below_drewN' (Below.refl _ _) _), below_drewN' X1.out.2 _⟩
    generalize w1.drewN nq = wq at *
    clear X0 X1 l0 p0
    go_upto_region 5 with fail
    refine wp_region_list ?_
    refine wpList_load_doc rfl _ rfl w.heap.size (S) rfl X2.out.1 ?_
    refine wpList_step (fun KK hKK => ?_)
    go_simp
    refine (HF1.out _).mono ?_
    rintro e w3 ⟨rfl, hb3⟩
    have X3 : Hid (Box 34 w3 w.heap.size (docC S) ∧ Below w.heap.size w w3) := ⟨X2.out.1.step hb3, below2 X2.out.2 hb3⟩
    clear hb3
    refine hKK _ _ ?_
    clear hKK KK
    have l1 : w3.cell? ⟨w.heap.size, 193, none⟩ = some (.int .i64 (S.least 1 : Nat)) := X3.out.1.dleast 1 (by omega)
    go_upto_region 6 with fail
    go_quiet (fail)
    go_wp2_with fail
    go_ret
    exact ⟨by rw [HL.out]; rfl, below_drewN' X3.out.2 _⟩
  · have _hm : True := trivial
    have c01 : (0 : Int) < (firstN S 0 : Nat) := by omega
    have c02 : decide (0 < firstN S 0) = true := by simp; omega
    have c03 : ((firstN S 0 : Nat) : Int) < 32 := by have := firstN_lt S 0; omega
    have c04 : (S.least 0 : Int) < (S.prio (firstN S 0) : Nat) := by omega
    have c05 : decide (S.least 0 < S.prio (firstN S 0)) = true := by simp; omega
    have c11 : (0 : Int) < (firstN S 1 : Nat) := by omega
    have c12 : decide (0 < firstN S 1) = true := by simp; omega
    have c13 : ((firstN S 1 : Nat) : Int) < 32 := by have := firstN_lt S 1; omega
    have c14 : (S.least 1 : Int) < (S.prio (firstN S 1) : Nat) := by omega
    have c15 : decide (S.least 1 < S.prio (firstN S 1)) = true := by simp; omega
    rw [v0, v1] at HL
    clear v0 v1 a0 a1 b0 b1
    go_upto_region 2 with fail
    refine wp_region_list ?_
    refine wpList_load_doc rfl _ rfl w.heap.size (S) rfl X0.out.1 ?_
    refine wpList_step (fun KK hKK => ?_)
    go_simp
    refine (HF0.out _).mono ?_
    rintro e w1 ⟨rfl, hb1⟩
    have X1 : Hid (Box 34 w1 w.heap.size (docC S) ∧ Below w.heap.size w w1) := ⟨X0.out.1.step hb1, below2 X0.out.2 hb1⟩
    clear hb1
    refine hKK _ _ ?_
    clear hKK KK
    have p0 := X1.out.1.dprio (firstN S 0) (firstN_lt S 0)
    have l0 : w1.cell? ⟨w.heap.size, 192, none⟩ = some (.int .i64 (S.least 0 : Nat)) := X1.out.1.dleast 0 (by omega)
    go_upto_region 3 with fail
    go_quiet (fail)
    have X2 : Hid (Box 34 (w1.drewN nq) w.heap.size (docC S) ∧ Below w.heap.size w (w1.drewN nq)) := ⟨X1.out.1.step (below_drewN' (Below.refl _ _) _), below_drewN' X1.out.2 _⟩
    generalize w1.drewN nq = wq at *
    clear X0 X1 l0 p0
    go_upto_region 5 with fail
    refine wp_region_list ?_
    refine wpList_load_doc rfl _ rfl w.heap.size (S) rfl X2.out.1 ?_
    refine wpList_step (fun KK hKK => ?_)
    go_simp
    refine (HF1.out _).mono ?_
    rintro e w3 ⟨rfl, hb3⟩
    have X3 : Hid (Box 34 w3 w.heap.size (docC S) ∧ Below w.heap.size w w3) := ⟨X2.out.1.step hb3, below2 X2.out.2 hb3⟩
    clear hb3
    refine hKK _ _ ?_
    clear hKK KK
    have p1 := X3.out.1.dprio (firstN S 1) (firstN_lt S 1)
    have l1 : w3.cell? ⟨w.heap.size, 193, none⟩ = some (.int .i64 (S.least 1 : Nat)) := X3.out.1.dleast 1 (by omega)
    go_upto_region 6 with fail
    go_quiet (fail)
    go_wp2_with fail
    go_ret
    exact ⟨by rw [HL.out]; rfl, below_drewN' X3.out.2 _⟩
  · have _hm : True := trivial
    have c01 : (0 : Int) < (firstN S 0 : Nat) := by omega
    have c02 : decide (0 < firstN S 0) = true := by simp; omega
    have c03 : ((firstN S 0 : Nat) : Int) < 32 := by have := firstN_lt S 0; omega
    have c04 : (S.least 0 : Int) < (S.prio (firstN S 0) : Nat) := by omega
    have c05 : decide (S.least 0 < S.prio (firstN S 0)) = true := by simp; omega
    have c11 : (0 : Int) < (firstN S 1 : Nat) := by omega
    have c12 : decide (0 < firstN S 1) = true := by simp; omega
    have c13 : ((firstN S 1 : Nat) : Int) < 32 := by have := firstN_lt S 1; omega
    have c14 : ¬ (S.least 1 : Int) < (S.prio (firstN S 1) : Nat) := by omega
    have c15 : decide (S.least 1 < S.prio (firstN S 1)) = false := by simp; omega
    rw [v0, v1] at HL
    clear v0 v1 a0 a1 b0 b1
    go_upto_region 2 with fail
    refine wp_region_list ?_
    refine wpList_load_doc rfl _ rfl w.heap.size (S) rfl X0.out.1 ?_
    refine wpList_step (fun KK hKK => ?_)
    go_simp
    refine (HF0.out _).mono ?_
    rintro e w1 ⟨rfl, hb1⟩
    have X1 : Hid (Box 34 w1 w.heap.size (docC S) ∧ Below w.heap.size w w1) := ⟨X0.out.1.step hb1, below2 X0.out.2 hb1⟩
    clear hb1
    refine hKK _ _ ?_
    clear hKK KK
    have p0 := X1.out.1.dprio (firstN S 0) (firstN_lt S 0)
    have l0 : w1.cell? ⟨w.heap.size, 192, none⟩ = some (.int .i64 (S.least 0 : Nat)) := X1.out.1.dleast 0 (by omega)
    go_upto_region 3 with fail
    go_quiet (fail)
    have X2 : Hid (Box 34 (w1.drewN nq) w.heap.size (docC S) ∧ Below w.heap.size w (w1.drewN nq)) := ⟨X1.out.1.step (below_drewN' (Below.refl _ _) _), below_drewN' X1.out.2 _⟩
    generalize w1.drewN nq = wq at *
    clear X0 X1 l0 p0
    go_upto_region 5 with fail
    refine wp_region_list ?_
    refine wpList_load_doc rfl _ rfl w.heap.size (S) rfl X2.out.1 ?_
    refine wpList_step (fun KK hKK => ?_)
    go_simp
    refine (HF1.out _).mono ?_
    rintro e w3 ⟨rfl, hb3⟩
    have X3 : Hid (Box 34 w3 w.heap.size (docC S) ∧ Below w.heap.size w w3) := ⟨X2.out.1.step hb3, below2 X2.out.2 hb3⟩
    clear hb3
    refine hKK _ _ ?_
    clear hKK KK
    have p1 := X3.out.1.dprio (firstN S 1) (firstN_lt S 1)
    have l1 : w3.cell? ⟨w.heap.size, 193, none⟩ = some (.int .i64 (S.least 1 : Nat)) := X3.out.1.dleast 1 (by omega)
    go_upto_region 6 with fail
    go_quiet (fail)
    go_wp2_with fail
    go_ret
    exact ⟨by rw [HL.out]; rfl, below_drewN' X3.out.2 _⟩
  · have _hm : True := trivial
    have c01 : (0 : Int) < (firstN S 0 : Nat) := by omega
    have c02 : decide (0 < firstN S 0) = true := by simp; omega
    have c03 : ((firstN S 0 : Nat) : Int) < 32 := by have := firstN_lt S 0; omega
    have c04 : ¬ (S.least 0 : Int) < (S.prio (firstN S 0) : Nat) := by omega
    have c05 : decide (S.least 0 < S.prio (firstN S 0)) = false := by simp; omega
    rw [a1] at HF1
    rw [v0, v1] at HL
    clear v0 v1 a0 a1 b0 
    go_upto_region 2 with fail
    refine wp_region_list ?_
    refine wpList_load_doc rfl _ rfl w.heap.size (S) rfl X0.out.1 ?_
    refine wpList_step (fun KK hKK => ?_)
    go_simp
    refine (HF0.out _).mono ?_
    rintro e w1 ⟨rfl, hb1⟩
    have X1 : Hid (Box 34 w1 w.heap.size (docC S) ∧ Below w.heap.size w w1) := ⟨X0.out.1.step hb1, below2 X0.out.2 hb1⟩
    clear hb1
    refine hKK _ _ ?_
    clear hKK KK
    have p0 := X1.out.1.dprio (firstN S 0) (firstN_lt S 0)
    have l0 : w1.cell? ⟨w.heap.size, 192, none⟩ = some (.int .i64 (S.least 0 : Nat)) := X1.out.1.dleast 0 (by omega)
    go_upto_region 3 with fail
    go_quiet (fail)
    have X2 : Hid (Box 34 (w1.drewN nq) w.heap.size (docC S) ∧ Below w.heap.size w (w1.drewN nq)) := ⟨X1.out.1.step (below_drewN' (Below.refl _ _) _), below_drewN' X1.out.2 _⟩
    generalize w1.drewN nq = wq at *
    clear X0 X1 l0 p0
    go_upto_region 5 with fail
    refine wp_region_list ?_
    refine wpList_load_doc rfl _ rfl w.heap.size (S) rfl X2.out.1 ?_
    refine wpList_step (fun KK hKK => ?_)
    go_simp
    refine (HF1.out _).mono ?_
    rintro e w3 ⟨rfl, hb3⟩
    have X3 : Hid (Box 34 w3 w.heap.size (docC S) ∧ Below w.heap.size w w3) := ⟨X2.out.1.step hb3, below2 X2.out.2 hb3⟩
    clear hb3
    refine hKK _ _ ?_
    clear hKK KK
    have l1 : w3.cell? ⟨w.heap.size, 193, none⟩ = some (.int .i64 (S.least 1 : Nat)) := X3.out.1.dleast 1 (by omega)
    go_upto_region 6 with fail
    go_quiet (fail)
    go_wp2_with fail
    go_ret
    exact ⟨by rw [HL.out]; rfl, below_drewN' X3.out.2 _⟩
  · have _hm : True := trivial
    have c01 : (0 : Int) < (firstN S 0 : Nat) := by omega
    have c02 : decide (0 < firstN S 0) = true := by simp; omega
    have c03 : ((firstN S 0 : Nat) : Int) < 32 := by have := firstN_lt S 0; omega
    have c04 : ¬ (S.least 0 : Int) < (S.prio (firstN S 0) : Nat) := by omega
    have c05 : decide (S.least 0 < S.prio (firstN S 0)) = false := by simp; omega
    have c11 : (0 : Int) < (firstN S 1 : Nat) := by omega
    have c12 : decide (0 < firstN S 1) = true := by simp; omega
    have c13 : ((firstN S 1 : Nat) : Int) < 32 := by have := firstN_lt S 1; omega
    have c14 : (S.least 1 : Int) < (S.prio (firstN S 1) : Nat) := by omega
    have c15 : decide (S.least 1 < S.prio (firstN S 1)) = true := by simp; omega
    rw [v0, v1] at HL
    clear v0 v1 a0 a1 b0 b1
    go_upto_region 2 with fail
    refine wp_region_list ?_
    refine wpList_load_doc rfl _ rfl w.heap.size (S) rfl X0.out.1 ?_
    refine wpList_step (fun KK hKK => ?_)
    go_simp
    refine (HF0.out _).mono ?_
    rintro e w1 ⟨rfl, hb1⟩
    have X1 : Hid (Box 34 w1 w.heap.size (docC S) ∧ Below w.heap.size w w1) := ⟨X0.out.1.step hb1, below2 X0.out.2 hb1⟩
    clear hb1
    refine hKK _ _ ?_
    clear hKK KK
    have p0 := X1.out.1.dprio (firstN S 0) (firstN_lt S 0)
    have l0 : w1.cell? ⟨w.heap.size, 192, none⟩ = some (.int .i64 (S.least 0 : Nat)) := X1.out.1.dleast 0 (by omega)
    go_upto_region 3 with fail
    go_quiet (fail)
    have X2 : Hid (Box 34 (w1.drewN nq) w.heap.size (docC S) ∧ Below w.heap.size w (w1.drewN nq)) := ⟨X1.out.1.step (below_drewN' (Below.refl _ _) _), below_drewN' X1.out.2 _⟩
    generalize w1.drewN nq = wq at *
    clear X0 X1 l0 p0
    go_upto_region 5 with fail
    refine wp_region_list ?_
    refine wpList_load_doc rfl _ rfl w.heap.size (S) rfl X2.out.1 ?_
    refine wpList_step (fun KK hKK => ?_)
    go_simp
    refine (HF1.out _).mono ?_
    rintro e w3 ⟨rfl, hb3⟩
    have X3 : Hid (Box 34 w3 w.heap.size (docC S) ∧ Below w.heap.size w w3) := ⟨X2.out.1.step hb3, below2 X2.out.2 hb3⟩
    clear hb3
    refine hKK _ _ ?_
    clear hKK KK
    have p1 := X3.out.1.dprio (firstN S 1) (firstN_lt S 1)
    have l1 : w3.cell? ⟨w.heap.size, 193, none⟩ = some (.int .i64 (S.least 1 : Nat)) := X3.out.1.dleast 1 (by omega)
    go_upto_region 6 with fail
    go_quiet (fail)
    go_wp2_with fail
    go_ret
    exact ⟨by rw [HL.out]; rfl, below_drewN' X3.out.2 _⟩
  · have _hm : True := trivial
    have c01 : (0 : Int) < (firstN S 0 : Nat) := by omega
    have c02 : decide (0 < firstN S 0) = true := by simp; omega
    have c03 : ((firstN S 0 : Nat) : Int) < 32 := by have := firstN_lt S 0; omega
    have c04 : ¬ (S.least 0 : Int) < (S.prio (firstN S 0) : Nat) := by omega
    have c05 : decide (S.least 0 < S.prio (firstN S 0)) = false := by simp; omega
    have c11 : (0 : Int) < (firstN S 1 : Nat) := by omega
    have c12 : decide (0 < firstN S 1) = true := by simp; omega
    have c13 : ((firstN S 1 : Nat) : Int) < 32 := by have := firstN_lt S 1; omega
    have c14 : ¬ (S.least 1 : Int) < (S.prio (firstN S 1) : Nat) := by omega
    have c15 : decide (S.least 1 < S.prio (firstN S 1)) = false := by simp; omega
    rw [v0, v1] at HL
    clear v0 v1 a0 a1 b0 b1
    go_upto_region 2 with fail
    refine wp_region_list ?_
    refine wpList_load_doc rfl _ rfl w.heap.size (S) rfl X0.out.1 ?_
    refine wpList_step (fun KK hKK => ?_)
    go_simp
    refine (HF0.out _).mono ?_
    rintro e w1 ⟨rfl, hb1⟩
    have X1 : Hid (Box 34 w1 w.heap.size (docC S) ∧ Below w.heap.size w w1) := ⟨X0.out.1.step hb1, below2 X0.out.2 hb1⟩
    clear hb1
    refine hKK _ _ ?_
    clear hKK KK
    have p0 := X1.out.1.dprio (firstN S 0) (firstN_lt S 0)
    have l0 : w1.cell? ⟨w.heap.size, 192, none⟩ = some (.int .i64 (S.least 0 : Nat)) := X1.out.1.dleast 0 (by omega)
    go_upto_region 3 with fail
    go_quiet (fail)
    have X2 : Hid (Box 34 (w1.drewN nq) w.heap.size (docC S) ∧ Below w.heap.size w (w1.drewN nq)) := ⟨X1.out.1.step (below_drewN' (Below.refl _ _) _), below_drewN' X1.out.2 _⟩
    generalize w1.drewN nq = wq at *
    clear X0 X1 l0 p0
    go_upto_region 5 with fail
    refine wp_region_list ?_
    refine wpList_load_doc rfl _ rfl w.heap.size (S) rfl X2.out.1 ?_
    refine wpList_step (fun KK hKK => ?_)
    go_simp
    refine (HF1.out _).mono ?_
    rintro e w3 ⟨rfl, hb3⟩
    have X3 : Hid (Box 34 w3 w.heap.size (docC S) ∧ Below w.heap.size w w3) := ⟨X2.out.1.step hb3, below2 X2.out.2 hb3⟩
    clear hb3
    refine hKK _ _ ?_
    clear hKK KK
    have p1 := X3.out.1.dprio (firstN S 1) (firstN_lt S 1)
    have l1 : w3.cell? ⟨w.heap.size, 193, none⟩ = some (.int .i64 (S.least 1 : Nat)) := X3.out.1.dleast 1 (by omega)
    go_upto_region 6 with fail
    go_quiet (fail)
    go_wp2_with fail
    go_ret
    exact ⟨by rw [HL.out]; rfl, below_drewN' X3.out.2 _⟩
end Go.Proofs.YtpedollliahldaaDoor
