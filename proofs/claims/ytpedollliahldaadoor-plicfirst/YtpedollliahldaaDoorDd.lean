/- The document's calls Line, Take, Done and Lines. -/
import Derived.Test.YtpedollliahldaaDoorDc
namespace Go.Proofs.YtpedollliahldaaDoor
open Go.RowKit
set_option linter.unusedVariables false
set_option linter.unusedSimpArgs false
set_option maxRecDepth 100000
theorem resultsD2 {fn : Func} {p t : Tmp} (h : fn.results = #[.cell p 34, .tmp t]) (tmps : Array Value) (w : World) (b : Nat) (S : St)
    (hp : tmps.getD p undef = .pointer (some ⟨b, 0, none⟩)) (h1 : Box 34 w b (docC S)) :
    (results fn tmps).run Tryd.prog w = .ok (.tuple #[.agg (docC S), tmps.getD t undef]) w := by
  have hp' : tmps[p]?.getD undef = .pointer (some ⟨b, 0, none⟩) := by simpa using hp
  simp [results, h, hp', asAddr, load_doc h1]
theorem resultsD3 {fn : Func} {p t u : Tmp} (h : fn.results = #[.cell p 34, .tmp t, .tmp u]) (tmps : Array Value) (w : World) (b : Nat) (S : St)
    (hp : tmps.getD p undef = .pointer (some ⟨b, 0, none⟩)) (h1 : Box 34 w b (docC S)) :
    (results fn tmps).run Tryd.prog w = .ok (.tuple #[.agg (docC S), tmps.getD t undef, tmps.getD u undef]) w := by
  have hp' : tmps[p]?.getD undef = .pointer (some ⟨b, 0, none⟩) := by simpa using hp
  simp [results, h, hp', asAddr, load_doc h1]
theorem Two.high {w W : World} {S : St} {d : Array Value} (h : Two w W (docC S) d) (i : Nat) (b : Bool) (hi : i < 32) : Two w (W.setCell ⟨w.heap.size, 32 + i, none⟩ (.bool b)) (docC { S with high := setB S.high i b }) d := by
  have h2 := h.set (32 + i) (.bool b)
  rw [docC_high S i b hi] at h2
  exact h2
theorem Two.waits {w W : World} {S : St} {d : Array Value} (h : Two w W (docC S) d) (i : Nat) (b : Bool) (hi : i < 32) : Two w (W.setCell ⟨w.heap.size, 64 + i, none⟩ (.bool b)) (docC { S with waits := setB S.waits i b }) d := by
  have h2 := h.set (64 + i) (.bool b)
  rw [docC_waits S i b hi] at h2
  exact h2
theorem Two.serv {w W : World} {S : St} {d : Array Value} (h : Two w W (docC S) d) (i : Nat) (b : Bool) (hi : i < 32) : Two w (W.setCell ⟨w.heap.size, 96 + i, none⟩ (.bool b)) (docC { S with serv := setB S.serv i b }) d := by
  have h2 := h.set (96 + i) (.bool b)
  rw [docC_serv S i b hi] at h2
  exact h2
theorem dline_no (S : St) (n : Int) (v : Bool) (h : (decide (1 ≤ n) && decide (n < 32)) = false) (w : World) : Calls Tryd.prog 25 #[.agg (docC S), .int .i64 n, .bool v] w fun e w' => e = .returned (.agg (docC S)) ∧ Below w.heap.size w w' := by
  have h2 : n < 1 ∨ 31 < n := by simp at h; omega
  clear h
  rcases h2 with h2 | h2
  · have h3 : decide (n < 1) = true := by simp; omega
    go_enter Tryd.func25, Tryd.ntmps25
    go_upto_region 0 with fail
    refine wp_region_list ?_
    refine wpList_enter2 _ _ rfl rfl rfl rfl rfl ?_
    intro W hT0
    have T0 : Hid (Two w W (docC (S)) (docC zeroS)) := hT0
    clear hT0
    go_upto_region 2 with fail
    refine wp_region_list ?_
    refine wpList_load_doc rfl _ rfl w.heap.size (S) rfl T0.out.1 ?_
    refine wpList_store_doc rfl _ _ rfl (w.heap.size + 1) (S) (docC zeroS) rfl rfl T0.out.2.1 (by rw [docC_size, docC_size]) ?_
    intro W9 B9 U9
    have T9 : Hid (Box 34 W9 (w.heap.size + 1) (docC (S)) ∧ Below w.heap.size w W9) := ⟨B9, T0.out.2.2.trans (U9.below (Nat.le_succ _) T0.out.2.2.size)⟩
    clear B9 U9
    go_wp2_with fail
    exact bodyPost_ret (v := .agg (docC (S))) (results_cell_row rfl _ _ (w.heap.size + 1) 34 _ (0, 0) _ rfl T9.out.1 Tryd.underlying34 rfl (info34 _)) rfl ⟨rfl, T9.out.2⟩
  · have h3 : decide (n < 1) = false := by simp; omega
    have h4 : decide (31 < n) = true := by simp; omega
    go_enter Tryd.func25, Tryd.ntmps25
    go_upto_region 0 with fail
    refine wp_region_list ?_
    refine wpList_enter2 _ _ rfl rfl rfl rfl rfl ?_
    intro W hT0
    have T0 : Hid (Two w W (docC (S)) (docC zeroS)) := hT0
    clear hT0
    go_upto_region 2 with fail
    refine wp_region_list ?_
    refine wpList_load_doc rfl _ rfl w.heap.size (S) rfl T0.out.1 ?_
    refine wpList_store_doc rfl _ _ rfl (w.heap.size + 1) (S) (docC zeroS) rfl rfl T0.out.2.1 (by rw [docC_size, docC_size]) ?_
    intro W9 B9 U9
    have T9 : Hid (Box 34 W9 (w.heap.size + 1) (docC (S)) ∧ Below w.heap.size w W9) := ⟨B9, T0.out.2.2.trans (U9.below (Nat.le_succ _) T0.out.2.2.size)⟩
    clear B9 U9
    go_wp2_with fail
    exact bodyPost_ret (v := .agg (docC (S))) (results_cell_row rfl _ _ (w.heap.size + 1) 34 _ (0, 0) _ rfl T9.out.1 Tryd.underlying34 rfl (info34 _)) rfl ⟨rfl, T9.out.2⟩
set_option maxHeartbeats 2000000 in
theorem dline_any (S : St) (hS : S.Ok) (n : Nat) (v : Bool) (h1 : 1 ≤ n) (h2 : n < 32) (w : World) : Calls Tryd.prog 25 #[.agg (docC S), .int .i64 (n : Int), .bool v] w fun e w' => e = .returned (.agg (docC (lineS S n v))) ∧ Below w.heap.size w w' := by
  have HG : Hid (∀ V, Calls Tryd.prog 37 #[.agg (docC { S with high := setB S.high n true })] V fun e w' => e = .returned (.agg (docC (lineS S n true))) ∧ Below V.heap.size V w') := fun V => gate_any _ (high_ok hS n true h2) V
  have h3 : ¬ (n : Int) < 1 := by omega
  have h4 : ¬ 31 < (n : Int) := by omega
  have h5 : (n : Int) < 32 := by omega
  have HN : Hid (n < 32) := h2
  clear h1 h2 hS
  cases v
  · 
    go_enter Tryd.func25, Tryd.ntmps25
    go_upto_region 0 with fail
    refine wp_region_list ?_
    refine wpList_enter2 _ _ rfl rfl rfl rfl rfl ?_
    intro W hT0
    have T0 : Hid (Two w W (docC (S)) (docC zeroS)) := hT0
    clear hT0
    have f1 := T0.out.1.dhigh n HN.out
    have z1 := T0.out.1.frozen (32 + n)
    have T1 : Hid (Two w (W.setCell ⟨w.heap.size, 32 + n, none⟩ (.bool false)) (docC (lineS S n false)) (docC zeroS)) := T0.out.high n false HN.out
    go_upto_region 4 with fail
    clear T0 f1 z1
    generalize W.setCell ⟨w.heap.size, 32 + n, none⟩ (.bool false) = W1 at *
    go_upto_region 6 with fail
    refine wp_region_list ?_
    refine wpList_load_doc rfl _ rfl w.heap.size (lineS S n false) rfl T1.out.1 ?_
    refine wpList_store_doc rfl _ _ rfl (w.heap.size + 1) (lineS S n false) (docC zeroS) rfl rfl T1.out.2.1 (by rw [docC_size, docC_size]) ?_
    intro W9 B9 U9
    have T9 : Hid (Box 34 W9 (w.heap.size + 1) (docC (lineS S n false)) ∧ Below w.heap.size w W9) := ⟨B9, T1.out.2.2.trans (U9.below (Nat.le_succ _) T1.out.2.2.size)⟩
    clear B9 U9
    go_wp2_with fail
    exact bodyPost_ret (v := .agg (docC (lineS S n false))) (results_cell_row rfl _ _ (w.heap.size + 1) 34 _ (0, 0) _ rfl T9.out.1 Tryd.underlying34 rfl (info34 _)) rfl ⟨rfl, T9.out.2⟩
  · 
    go_enter Tryd.func25, Tryd.ntmps25
    go_upto_region 0 with fail
    refine wp_region_list ?_
    refine wpList_enter2 _ _ rfl rfl rfl rfl rfl ?_
    intro W hT0
    have T0 : Hid (Two w W (docC (S)) (docC zeroS)) := hT0
    clear hT0
    have f1 := T0.out.1.dhigh n HN.out
    have z1 := T0.out.1.frozen (32 + n)
    have T1 : Hid (Two w (W.setCell ⟨w.heap.size, 32 + n, none⟩ (.bool true)) (docC { S with high := setB S.high n true }) (docC zeroS)) := T0.out.high n true HN.out
    go_upto_region 4 with fail
    clear T0 f1 z1
    generalize W.setCell ⟨w.heap.size, 32 + n, none⟩ (.bool true) = W1 at *
    go_upto_region 5 with fail
    refine wp_region_list ?_
    refine wpList_load_doc rfl _ rfl w.heap.size ({ S with high := setB S.high n true }) rfl T1.out.1 ?_
    refine wpList_step (fun KK hKK => ?_)
    go_simp
    refine (HG.out _).mono ?_
    rintro e w2 ⟨rfl, hb2⟩
    have T2 : Hid (Two w w2 (docC { S with high := setB S.high n true }) (docC zeroS)) := T1.out.step hb2
    clear hb2
    refine hKK _ _ ?_
    clear hKK KK
    refine wpList_store_doc rfl _ _ rfl (w.heap.size + 1) (lineS S n true) (docC zeroS) rfl rfl T2.out.2.1 (by rw [docC_size, docC_size]) ?_
    intro W9 B9 U9
    have T9 : Hid (Box 34 W9 (w.heap.size + 1) (docC (lineS S n true)) ∧ Below w.heap.size w W9) := ⟨B9, T2.out.2.2.trans (U9.below (Nat.le_succ _) T2.out.2.2.size)⟩
    clear B9 U9
    go_wp2_with fail
    exact bodyPost_ret (v := .agg (docC (lineS S n true))) (results_cell_row rfl _ _ (w.heap.size + 1) 34 _ (0, 0) _ rfl T9.out.1 Tryd.underlying34 rfl (info34 _)) rfl ⟨rfl, T9.out.2⟩
theorem dtake_no (S : St) (c : Int) (h : (decide (0 ≤ c) && decide (c < 2)) = false) (w : World) : Calls Tryd.prog 26 #[.agg (docC S), .int .i64 c] w fun e w' => e = .returned (.tuple #[.agg (docC S), .int .i64 0]) ∧ Below w.heap.size w w' := by
  have h2 : c < 0 ∨ 1 < c := by simp at h; omega
  clear h
  rcases h2 with h2 | h2
  · have h3 : decide (c < 0) = true := by simp; omega
    go_enter Tryd.func26, Tryd.ntmps26
    go_upto_region 0 with fail
    refine wp_region_list ?_
    refine wpList_enter2 _ _ rfl rfl rfl rfl rfl ?_
    intro W hT0
    have T0 : Hid (Two w W (docC (S)) (docC zeroS)) := hT0
    clear hT0
    go_upto_region 2 with fail
    refine wp_region_list ?_
    refine wpList_load_doc rfl _ rfl w.heap.size (S) rfl T0.out.1 ?_
    refine wpList_store_doc rfl _ _ rfl (w.heap.size + 1) (S) (docC zeroS) rfl rfl T0.out.2.1 (by rw [docC_size, docC_size]) ?_
    intro W9 B9 U9
    have T9 : Hid (Box 34 W9 (w.heap.size + 1) (docC (S)) ∧ Below w.heap.size w W9) := ⟨B9, T0.out.2.2.trans (U9.below (Nat.le_succ _) T0.out.2.2.size)⟩
    clear B9 U9
    go_wp2_with fail
    exact bodyPost_ret (v := .tuple #[.agg (docC (S)), .int .i64 0]) (resultsD2 (p := 4) (t := 5) rfl _ _ (w.heap.size + 1) (S) rfl T9.out.1) rfl ⟨rfl, T9.out.2⟩
  · have h3 : decide (c < 0) = false := by simp; omega
    have h4 : decide (1 < c) = true := by simp; omega
    go_enter Tryd.func26, Tryd.ntmps26
    go_upto_region 0 with fail
    refine wp_region_list ?_
    refine wpList_enter2 _ _ rfl rfl rfl rfl rfl ?_
    intro W hT0
    have T0 : Hid (Two w W (docC (S)) (docC zeroS)) := hT0
    clear hT0
    go_upto_region 2 with fail
    refine wp_region_list ?_
    refine wpList_load_doc rfl _ rfl w.heap.size (S) rfl T0.out.1 ?_
    refine wpList_store_doc rfl _ _ rfl (w.heap.size + 1) (S) (docC zeroS) rfl rfl T0.out.2.1 (by rw [docC_size, docC_size]) ?_
    intro W9 B9 U9
    have T9 : Hid (Box 34 W9 (w.heap.size + 1) (docC (S)) ∧ Below w.heap.size w W9) := ⟨B9, T0.out.2.2.trans (U9.below (Nat.le_succ _) T0.out.2.2.size)⟩
    clear B9 U9
    go_wp2_with fail
    exact bodyPost_ret (v := .tuple #[.agg (docC (S)), .int .i64 0]) (resultsD2 (p := 4) (t := 5) rfl _ _ (w.heap.size + 1) (S) rfl T9.out.1) rfl ⟨rfl, T9.out.2⟩
set_option maxHeartbeats 2000000 in
theorem dtake_any (S : St) (c : Nat) (hc : c < 2) (w : World) : Calls Tryd.prog 26 #[.agg (docC S), .int .i64 (c : Int)] w fun e w' => e = .returned (.tuple #[.agg (docC (takeS S c)), .int .i64 (firstN S c : Nat)]) ∧ Below w.heap.size w w' := by
  have HF : Hid (∀ V, Calls Tryd.prog 38 #[.agg (docC S), .int .i64 (c : Int)] V fun e w' => e = .returned (.int .i64 (firstN S c : Nat)) ∧ Below V.heap.size V w') := fun V => dfirst_any S c hc V
  have h3 : ¬ (c : Int) < 0 := by omega
  have h4 : ¬ 1 < (c : Int) := by omega
  have HN : Hid (firstN S c < 32) := firstN_lt S c
  clear hc
  by_cases h0 : firstN S c = 0
  · have HR : takeS S c = S := by unfold takeS; rw [if_pos h0]
    rw [HR, h0]
    rw [h0] at HF
    clear HR h0 HN
    go_enter Tryd.func26, Tryd.ntmps26
    go_upto_region 0 with fail
    refine wp_region_list ?_
    refine wpList_enter2 _ _ rfl rfl rfl rfl rfl ?_
    intro W hT0
    have T0 : Hid (Two w W (docC (S)) (docC zeroS)) := hT0
    clear hT0
    go_upto_region 3 with fail
    refine wp_region_list ?_
    refine wpList_load_doc rfl _ rfl w.heap.size (S) rfl T0.out.1 ?_
    (refine wpList_step (fun KK hKK => ?_); go_simp; refine hKK _ _ ?_; clear hKK KK)
    refine wpList_step (fun KK hKK => ?_)
    go_simp
    refine (HF.out _).mono ?_
    rintro e w2 ⟨rfl, hb2⟩
    have T2 : Hid (Two w w2 (docC S) (docC zeroS)) := T0.out.step hb2
    clear hb2 T0
    refine hKK _ _ ?_
    clear hKK KK
    go_upto_region 6 with fail
    refine wp_region_list ?_
    refine wpList_load_doc rfl _ rfl w.heap.size (S) rfl T2.out.1 ?_
    (refine wpList_step (fun KK hKK => ?_); go_simp; refine hKK _ _ ?_; clear hKK KK)
    refine wpList_store_doc rfl _ _ rfl (w.heap.size + 1) (S) (docC zeroS) rfl rfl T2.out.2.1 (by rw [docC_size, docC_size]) ?_
    intro W9 B9 U9
    have T9 : Hid (Box 34 W9 (w.heap.size + 1) (docC (S)) ∧ Below w.heap.size w W9) := ⟨B9, T2.out.2.2.trans (U9.below (Nat.le_succ _) T2.out.2.2.size)⟩
    clear B9 U9
    go_wp2_with fail
    exact bodyPost_ret (v := .tuple #[.agg (docC (S)), .int .i64 0]) (resultsD2 (p := 4) (t := 5) rfl _ _ (w.heap.size + 1) (S) rfl T9.out.1) rfl ⟨rfl, T9.out.2⟩
  · have HR : takeS S c = takenS S (firstN S c) := by unfold takeS; rw [if_neg h0]
    rw [HR]
    clear HR
    have hn0 : (0 : Int) < (firstN S c : Nat) := by omega
    have hn2 : decide (0 < firstN S c) = true := by simp; omega
    have hn1 : ((firstN S c : Nat) : Int) < 32 := by have := HN.out; have : firstN S c < 32 := this; omega
    clear h0
    generalize firstN S c = n at *
    go_enter Tryd.func26, Tryd.ntmps26
    go_upto_region 0 with fail
    refine wp_region_list ?_
    refine wpList_enter2 _ _ rfl rfl rfl rfl rfl ?_
    intro W hT0
    have T0 : Hid (Two w W (docC (S)) (docC zeroS)) := hT0
    clear hT0
    go_upto_region 3 with fail
    refine wp_region_list ?_
    refine wpList_load_doc rfl _ rfl w.heap.size (S) rfl T0.out.1 ?_
    (refine wpList_step (fun KK hKK => ?_); go_simp; refine hKK _ _ ?_; clear hKK KK)
    refine wpList_step (fun KK hKK => ?_)
    go_simp
    refine (HF.out _).mono ?_
    rintro e w2 ⟨rfl, hb2⟩
    have T2 : Hid (Two w w2 (docC S) (docC zeroS)) := T0.out.step hb2
    clear hb2 T0
    refine hKK _ _ ?_
    clear hKK KK
    have f1 := T2.out.1.dwaits n HN.out
    have z1 := T2.out.1.frozen (64 + n)
    have T3 : Hid (Two w (w2.setCell ⟨w.heap.size, 64 + n, none⟩ (.bool false)) (docC { S with waits := setB S.waits n false }) (docC zeroS)) := T2.out.waits n false HN.out
    have f2 := T3.out.1.dserv n HN.out
    have z2 := T3.out.1.frozen (96 + n)
    have T4 : Hid (Two w ((w2.setCell ⟨w.heap.size, 64 + n, none⟩ (.bool false)).setCell ⟨w.heap.size, 96 + n, none⟩ (.bool true)) (docC (takenS S n)) (docC zeroS)) := T3.out.serv n true HN.out
    go_upto_region 6 with fail
    clear T2 T3 f1 z1 f2 z2
    generalize (w2.setCell ⟨w.heap.size, 64 + n, none⟩ (.bool false)).setCell ⟨w.heap.size, 96 + n, none⟩ (.bool true) = W4 at *
    refine wp_region_list ?_
    refine wpList_load_doc rfl _ rfl w.heap.size (takenS S n) rfl T4.out.1 ?_
    (refine wpList_step (fun KK hKK => ?_); go_simp; refine hKK _ _ ?_; clear hKK KK)
    refine wpList_store_doc rfl _ _ rfl (w.heap.size + 1) (takenS S n) (docC zeroS) rfl rfl T4.out.2.1 (by rw [docC_size, docC_size]) ?_
    intro W9 B9 U9
    have T9 : Hid (Box 34 W9 (w.heap.size + 1) (docC (takenS S n)) ∧ Below w.heap.size w W9) := ⟨B9, T4.out.2.2.trans (U9.below (Nat.le_succ _) T4.out.2.2.size)⟩
    clear B9 U9
    go_wp2_with fail
    exact bodyPost_ret (v := .tuple #[.agg (docC (takenS S n)), .int .i64 (n : Nat)]) (resultsD2 (p := 4) (t := 5) rfl _ _ (w.heap.size + 1) (takenS S n) rfl T9.out.1) rfl ⟨rfl, T9.out.2⟩
end Go.Proofs.YtpedollliahldaaDoor
