/- The document's call Store; what the document's Load and Store tell. -/
import Derived.Test.YtpedollliahldaaDoorDf
namespace Go.Proofs.YtpedollliahldaaDoor
open Go.RowKit
set_option linter.unusedVariables false
set_option linter.unusedSimpArgs false
set_option maxRecDepth 100000
theorem dstore_no (S : St) (a v : Nat) (n : Int) (ha : a < 18446744073709551616) (h : mayB a n = false) (w : World) : Calls Tryd.prog 30 #[.agg (docC S), .int .u64 (a : Int), .int .i64 n, .int .u64 (v : Int)] w fun e w' => e = .returned (.tuple #[.agg (docC (S)), .bool false]) ∧ Below w.heap.size w w' := by
  have hm := dmay_any a n ha
  rw [h] at hm
  clear h ha
  go_enter Tryd.func30, Tryd.ntmps30
  go_upto_region 0 with fail
  refine wp_region_list ?_
  refine wpList_enter2 _ _ rfl rfl rfl rfl rfl ?_
  intro W hT0
  have T0 : Hid (Two w W (docC (S)) (docC zeroS)) := hT0
  clear hT0
  go_wp2_with fail
  refine (hm _).mono ?_
  rintro e w' ⟨rfl, hw⟩
  rw [hw]
  clear hw w'
  go_upto_region 2 with fail
  refine wp_region_list ?_
  refine wpList_load_doc rfl _ rfl w.heap.size (S) rfl T0.out.1 ?_
  refine wpList_store_doc rfl _ _ rfl (w.heap.size + 1) (S) (docC zeroS) rfl rfl T0.out.2.1 (by rw [docC_size, docC_size]) ?_
  intro W9 B9 U9
  have T9 : Hid (Box 34 W9 (w.heap.size + 1) (docC (S)) ∧ Below w.heap.size w W9) := ⟨B9, T0.out.2.2.trans (U9.below (Nat.le_succ _) T0.out.2.2.size)⟩
  clear B9 U9
  go_wp2_with fail
  exact bodyPost_ret (v := .tuple #[.agg (docC (S)), .bool false]) (resultsD2 (p := 8) (t := 9) rfl _ _ (w.heap.size + 1) (S) rfl T9.out.1) rfl ⟨rfl, T9.out.2⟩
set_option maxHeartbeats 2000000 in
theorem dstore_none (S : St) (a v : Nat) (ha : a < 18446744073709551616) (h : mayB a 4 = true) (h1 : a = 0 ∨ 128 ≤ a) (hne : a ≠ 8192 ∧ a ≠ 8320 ∧ a ≠ 2097152 ∧ a ≠ 2101248 ∧ a ≠ 2097156 ∧ a ≠ 2101252) (w : World) : Calls Tryd.prog 30 #[.agg (docC S), .int .u64 (a : Int), .int .i64 4, .int .u64 (v : Int)] w fun e w' => e = .returned (.tuple #[.agg (docC (S)), .bool true]) ∧ Below w.heap.size w w' := by
  have hm := dmay_any a 4 ha
  rw [h] at hm
  have hr1 : (v : Int) % 4294967296 = ((v % 4294967296 : Nat) : Int) := by omega
  have hr2 : (v : Int).tmod 4294967296 = ((v % 4294967296 : Nat) : Int) := by rw [Int.tmod_eq_emod_of_nonneg (by omega)]; omega
  have e8192 : ((a : Int) == 8192) = false := by simp; omega
  have e8320 : ((a : Int) == 8320) = false := by simp; omega
  have e2097152 : ((a : Int) == 2097152) = false := by simp; omega
  have e2101248 : ((a : Int) == 2101248) = false := by simp; omega
  have e2097156 : ((a : Int) == 2097156) = false := by simp; omega
  have e2101252 : ((a : Int) == 2101252) = false := by simp; omega
  rcases h1 with h1 | h1
  · have hl : ¬ (0 : Int) < (a : Int) := by omega
    have hl2 : decide (0 < a) = false := by simp; omega
    clear h ha h1 hne
    generalize ((v % 4294967296 : Nat) : Int) = v2 at *
    go_enter Tryd.func30, Tryd.ntmps30
    go_upto_region 0 with fail
    refine wp_region_list ?_
    refine wpList_enter2 _ _ rfl rfl rfl rfl rfl ?_
    intro W hT0
    have T0 : Hid (Two w W (docC (S)) (docC zeroS)) := hT0
    clear hT0
    go_wp2_with fail
    refine (hm _).mono ?_
    rintro e w' ⟨rfl, hw⟩
    rw [hw]
    clear hw w'
    go_upto_region 12 with fail
    refine wp_region_list ?_
    refine wpList_load_doc rfl _ rfl w.heap.size (S) rfl T0.out.1 ?_
    refine wpList_store_doc rfl _ _ rfl (w.heap.size + 1) (S) (docC zeroS) rfl rfl T0.out.2.1 (by rw [docC_size, docC_size]) ?_
    intro W9 B9 U9
    have T9 : Hid (Box 34 W9 (w.heap.size + 1) (docC (S)) ∧ Below w.heap.size w W9) := ⟨B9, T0.out.2.2.trans (U9.below (Nat.le_succ _) T0.out.2.2.size)⟩
    clear B9 U9
    go_wp2_with fail
    exact bodyPost_ret (v := .tuple #[.agg (docC (S)), .bool true]) (resultsD2 (p := 8) (t := 9) rfl _ _ (w.heap.size + 1) (S) rfl T9.out.1) rfl ⟨rfl, T9.out.2⟩
  · have hl : (0 : Int) < (a : Int) := by omega
    have hl2 : decide (0 < a) = true := by simp; omega
    have hl3 : ¬ (a : Int) < 128 := by omega
    clear h ha h1 hne
    generalize ((v % 4294967296 : Nat) : Int) = v2 at *
    go_enter Tryd.func30, Tryd.ntmps30
    go_upto_region 0 with fail
    refine wp_region_list ?_
    refine wpList_enter2 _ _ rfl rfl rfl rfl rfl ?_
    intro W hT0
    have T0 : Hid (Two w W (docC (S)) (docC zeroS)) := hT0
    clear hT0
    go_wp2_with fail
    refine (hm _).mono ?_
    rintro e w' ⟨rfl, hw⟩
    rw [hw]
    clear hw w'
    go_upto_region 12 with fail
    refine wp_region_list ?_
    refine wpList_load_doc rfl _ rfl w.heap.size (S) rfl T0.out.1 ?_
    refine wpList_store_doc rfl _ _ rfl (w.heap.size + 1) (S) (docC zeroS) rfl rfl T0.out.2.1 (by rw [docC_size, docC_size]) ?_
    intro W9 B9 U9
    have T9 : Hid (Box 34 W9 (w.heap.size + 1) (docC (S)) ∧ Below w.heap.size w W9) := ⟨B9, T0.out.2.2.trans (U9.below (Nat.le_succ _) T0.out.2.2.size)⟩
    clear B9 U9
    go_wp2_with fail
    exact bodyPost_ret (v := .tuple #[.agg (docC (S)), .bool true]) (resultsD2 (p := 8) (t := 9) rfl _ _ (w.heap.size + 1) (S) rfl T9.out.1) rfl ⟨rfl, T9.out.2⟩
theorem Two.prio {w W : World} {S : St} {d : Array Value} (h : Two w W (docC S) d) (i x : Nat) (hi : i < 32) : Two w (W.setCell ⟨w.heap.size, i, none⟩ (.int .i64 (x : Nat))) (docC { S with prio := updN S.prio i x }) d := by
  have h2 := h.set i (.int .i64 (x : Nat))
  rw [docC_prio S i x hi] at h2
  exact h2
theorem Two.least {w W : World} {S : St} {d : Array Value} (h : Two w W (docC S) d) (c x : Nat) (hc : c < 2) : Two w (W.setCell ⟨w.heap.size, 192 + c, none⟩ (.int .i64 (x : Nat))) (docC { S with least := updN S.least c x }) d := by
  have h2 := h.set (192 + c) (.int .i64 (x : Nat))
  rw [docC_least S c x hc] at h2
  exact h2
set_option maxHeartbeats 2000000 in
theorem dstore_prio (S : St) (i v : Nat) (h0 : i ≠ 0) (hi : i < 32) (w : World) : Calls Tryd.prog 30 #[.agg (docC S), .int .u64 ((4 * i : Nat) : Int), .int .i64 4, .int .u64 (v : Int)] w fun e w' => e = .returned (.tuple #[.agg (docC ({ S with prio := updN S.prio i (v % 8) })), .bool true]) ∧ Below w.heap.size w w' := by
  have hm := dmay_any (4 * i) 4 (by omega)
  rw [show mayB (4 * i) 4 = true from by simp [mayB]; omega] at hm
  have hr1 : (v : Int) % 4294967296 = ((v % 4294967296 : Nat) : Int) := by omega
  have hr2 : (v : Int).tmod 4294967296 = ((v % 4294967296 : Nat) : Int) := by rw [Int.tmod_eq_emod_of_nonneg (by omega)]; omega
  have hs1 : ((v % 4294967296 : Nat) : Int) % 8 = ((v % 8 : Nat) : Int) := by omega
  have hs2 : ((v % 4294967296 : Nat) : Int).tmod 8 = ((v % 8 : Nat) : Int) := by rw [Int.tmod_eq_emod_of_nonneg (by omega)]; omega
  have hs3 : IntKind.i64.wrap ((v % 8 : Nat) : Int) = ((v % 8 : Nat) : Int) := wrap_i64_s _ (by omega)
  have hq1 : ((4 * i : Nat) : Int) / 4 = (i : Int) := by omega
  have hq2 : ((4 * i : Nat) : Int).tdiv 4 = (i : Int) := by rw [Int.tdiv_eq_ediv_of_nonneg (by omega)]; omega
  have hq3 : IntKind.u64.wrap (i : Int) = (i : Int) := by rw [wrap_u64]; omega
  have hq4 : ((4 * i : Nat) : Int) < 128 := by omega
  have hq7 : 0 < ((4 * i : Nat) : Int) := by omega
  have hq5 : (i : Int) < 32 := by omega
  have HI : Hid (i < 32) := hi
  clear hi h0
  generalize ((4 * i : Nat) : Int) = a at *
  generalize v % 8 = y at *
  generalize ((v % 4294967296 : Nat) : Int) = v2 at *
  go_enter Tryd.func30, Tryd.ntmps30
  go_upto_region 0 with fail
  refine wp_region_list ?_
  refine wpList_enter2 _ _ rfl rfl rfl rfl rfl ?_
  intro W hT0
  have T0 : Hid (Two w W (docC (S)) (docC zeroS)) := hT0
  clear hT0
  have f1 := T0.out.1.dprio i HI.out
  have z1 := T0.out.1.frozen i
  have T1 : Hid (Two w (W.setCell ⟨w.heap.size, i, none⟩ (.int .i64 (y : Nat))) (docC { S with prio := updN S.prio i y }) (docC zeroS)) := T0.out.prio i y HI.out
  go_wp2_with fail
  refine (hm _).mono ?_
  rintro e w' ⟨rfl, hw⟩
  rw [hw]
  clear hw w'
  go_upto_region 12 with fail
  clear T0 f1 z1
  generalize W.setCell ⟨w.heap.size, i, none⟩ (.int .i64 (y : Nat)) = W1 at *
  refine wp_region_list ?_
  refine wpList_load_doc rfl _ rfl w.heap.size ({ S with prio := updN S.prio i y }) rfl T1.out.1 ?_
  refine wpList_store_doc rfl _ _ rfl (w.heap.size + 1) ({ S with prio := updN S.prio i y }) (docC zeroS) rfl rfl T1.out.2.1 (by rw [docC_size, docC_size]) ?_
  intro W9 B9 U9
  have T9 : Hid (Box 34 W9 (w.heap.size + 1) (docC ({ S with prio := updN S.prio i y })) ∧ Below w.heap.size w W9) := ⟨B9, T1.out.2.2.trans (U9.below (Nat.le_succ _) T1.out.2.2.size)⟩
  clear B9 U9
  go_wp2_with fail
  exact bodyPost_ret (v := .tuple #[.agg (docC ({ S with prio := updN S.prio i y })), .bool true]) (resultsD2 (p := 8) (t := 9) rfl _ _ (w.heap.size + 1) ({ S with prio := updN S.prio i y }) rfl T9.out.1) rfl ⟨rfl, T9.out.2⟩
set_option maxHeartbeats 2000000 in
theorem dstore_lets0 (S : St) (hS : S.Ok) (v : Nat) (hv : v < 18446744073709551616)  (w : World) : Calls Tryd.prog 30 #[.agg (docC S), .int .u64 8192, .int .i64 4, .int .u64 (v : Int)] w fun e w' => e = .returned (.tuple #[.agg (docC ({ S with lets := updN S.lets 0 (v % 4294967296 &&& 4294967294) })), .bool true]) ∧ Below w.heap.size w w' := by
  have hm : ∀ w, Calls Tryd.prog 39 #[.int .u64 8192, .int .i64 4] w fun e w' => e = .returned (.bool true) ∧ w' = w := fun w => dmay_any 8192 4 (by decide) w
  have hr1 : (v : Int) % 4294967296 = ((v % 4294967296 : Nat) : Int) := by omega
  have hr2 : (v : Int).tmod 4294967296 = ((v % 4294967296 : Nat) : Int) := by rw [Int.tmod_eq_emod_of_nonneg (by omega)]; omega
  have hd := dmarks_any (v % 4294967296) (by omega)
  have hz : IntKind.u64.wrap ((IntKind.u64.wrap 0).tdiv 128) = 0 := by decide
  clear hS hv
  generalize v % 4294967296 = y at *
  go_enter Tryd.func30, Tryd.ntmps30
  go_upto_region 0 with fail
  refine wp_region_list ?_
  refine wpList_enter2 _ _ rfl rfl rfl rfl rfl ?_
  intro W hT0
  have T0 : Hid (Two w W (docC (S)) (docC zeroS)) := hT0
  clear hT0
  go_wp2_with fail
  refine (hm _).mono ?_
  rintro e w' ⟨rfl, hw⟩
  rw [hw]
  clear hw w'
  go_upto_region 7 with fail
  refine wp_region_list ?_
  (refine wpList_step (fun KK hKK => ?_); go_simp; refine hKK _ _ ?_; clear hKK KK)
  (refine wpList_step (fun KK hKK => ?_); go_simp; refine hKK _ _ ?_; clear hKK KK)
  (refine wpList_step (fun KK hKK => ?_); go_simp; refine hKK _ _ ?_; clear hKK KK)
  (refine wpList_step (fun KK hKK => ?_); go_simp; refine hKK _ _ ?_; clear hKK KK)
  refine wpList_step (fun KK hKK => ?_)
  go_simp
  refine (hd _).mono ?_
  rintro e w2 ⟨rfl, hb2⟩
  have T2 : Hid (Two w w2 (docC S) (docC zeroS)) := T0.out.step hb2
  clear hb2 T0 hd
  refine hKK _ _ ?_
  clear hKK KK
  (refine wpList_step (fun KK hKK => ?_); go_simp; refine hKK _ _ ?_; clear hKK KK)
  (refine wpList_step (fun KK hKK => ?_); go_simp; refine hKK _ _ ?_; clear hKK KK)
  refine wpList_store_lets rfl _ _ rfl w.heap.size 0 (y &&& 4294967294) (by omega) S T2.out.1 rfl rfl ?_
  intro W4 B4 U4
  have T4 : Hid (Two w W4 (docC { S with lets := updN S.lets 0 (y &&& 4294967294) }) (docC zeroS)) := ⟨B4, U4.box T2.out.2.1 (by omega), T2.out.2.2.trans (U4.below (Nat.le_refl _) T2.out.2.2.size)⟩
  clear B4 U4 T2
  go_upto_region 12 with fail
  refine wp_region_list ?_
  refine wpList_load_doc rfl _ rfl w.heap.size ({ S with lets := updN S.lets 0 (y &&& 4294967294) }) rfl T4.out.1 ?_
  refine wpList_store_doc rfl _ _ rfl (w.heap.size + 1) ({ S with lets := updN S.lets 0 (y &&& 4294967294) }) (docC zeroS) rfl rfl T4.out.2.1 (by rw [docC_size, docC_size]) ?_
  intro W9 B9 U9
  have T9 : Hid (Box 34 W9 (w.heap.size + 1) (docC ({ S with lets := updN S.lets 0 (y &&& 4294967294) })) ∧ Below w.heap.size w W9) := ⟨B9, T4.out.2.2.trans (U9.below (Nat.le_succ _) T4.out.2.2.size)⟩
  clear B9 U9
  go_wp2_with fail
  exact bodyPost_ret (v := .tuple #[.agg (docC ({ S with lets := updN S.lets 0 (y &&& 4294967294) })), .bool true]) (resultsD2 (p := 8) (t := 9) rfl _ _ (w.heap.size + 1) ({ S with lets := updN S.lets 0 (y &&& 4294967294) }) rfl T9.out.1) rfl ⟨rfl, T9.out.2⟩
set_option maxHeartbeats 2000000 in
theorem dstore_lets1 (S : St) (hS : S.Ok) (v : Nat) (hv : v < 18446744073709551616)  (w : World) : Calls Tryd.prog 30 #[.agg (docC S), .int .u64 8320, .int .i64 4, .int .u64 (v : Int)] w fun e w' => e = .returned (.tuple #[.agg (docC ({ S with lets := updN S.lets 1 (v % 4294967296 &&& 4294967294) })), .bool true]) ∧ Below w.heap.size w w' := by
  have hm : ∀ w, Calls Tryd.prog 39 #[.int .u64 8320, .int .i64 4] w fun e w' => e = .returned (.bool true) ∧ w' = w := fun w => dmay_any 8320 4 (by decide) w
  have hr1 : (v : Int) % 4294967296 = ((v % 4294967296 : Nat) : Int) := by omega
  have hr2 : (v : Int).tmod 4294967296 = ((v % 4294967296 : Nat) : Int) := by rw [Int.tmod_eq_emod_of_nonneg (by omega)]; omega
  have hd := dmarks_any (v % 4294967296) (by omega)
  have hz : IntKind.u64.wrap ((IntKind.u64.wrap 128).tdiv 128) = 1 := by decide
  clear hS hv
  generalize v % 4294967296 = y at *
  go_enter Tryd.func30, Tryd.ntmps30
  go_upto_region 0 with fail
  refine wp_region_list ?_
  refine wpList_enter2 _ _ rfl rfl rfl rfl rfl ?_
  intro W hT0
  have T0 : Hid (Two w W (docC (S)) (docC zeroS)) := hT0
  clear hT0
  go_wp2_with fail
  refine (hm _).mono ?_
  rintro e w' ⟨rfl, hw⟩
  rw [hw]
  clear hw w'
  go_upto_region 7 with fail
  refine wp_region_list ?_
  (refine wpList_step (fun KK hKK => ?_); go_simp; refine hKK _ _ ?_; clear hKK KK)
  (refine wpList_step (fun KK hKK => ?_); go_simp; refine hKK _ _ ?_; clear hKK KK)
  (refine wpList_step (fun KK hKK => ?_); go_simp; refine hKK _ _ ?_; clear hKK KK)
  (refine wpList_step (fun KK hKK => ?_); go_simp; refine hKK _ _ ?_; clear hKK KK)
  refine wpList_step (fun KK hKK => ?_)
  go_simp
  refine (hd _).mono ?_
  rintro e w2 ⟨rfl, hb2⟩
  have T2 : Hid (Two w w2 (docC S) (docC zeroS)) := T0.out.step hb2
  clear hb2 T0 hd
  refine hKK _ _ ?_
  clear hKK KK
  (refine wpList_step (fun KK hKK => ?_); go_simp; refine hKK _ _ ?_; clear hKK KK)
  (refine wpList_step (fun KK hKK => ?_); go_simp; refine hKK _ _ ?_; clear hKK KK)
  refine wpList_store_lets rfl _ _ rfl w.heap.size 1 (y &&& 4294967294) (by omega) S T2.out.1 rfl rfl ?_
  intro W4 B4 U4
  have T4 : Hid (Two w W4 (docC { S with lets := updN S.lets 1 (y &&& 4294967294) }) (docC zeroS)) := ⟨B4, U4.box T2.out.2.1 (by omega), T2.out.2.2.trans (U4.below (Nat.le_refl _) T2.out.2.2.size)⟩
  clear B4 U4 T2
  go_upto_region 12 with fail
  refine wp_region_list ?_
  refine wpList_load_doc rfl _ rfl w.heap.size ({ S with lets := updN S.lets 1 (y &&& 4294967294) }) rfl T4.out.1 ?_
  refine wpList_store_doc rfl _ _ rfl (w.heap.size + 1) ({ S with lets := updN S.lets 1 (y &&& 4294967294) }) (docC zeroS) rfl rfl T4.out.2.1 (by rw [docC_size, docC_size]) ?_
  intro W9 B9 U9
  have T9 : Hid (Box 34 W9 (w.heap.size + 1) (docC ({ S with lets := updN S.lets 1 (y &&& 4294967294) })) ∧ Below w.heap.size w W9) := ⟨B9, T4.out.2.2.trans (U9.below (Nat.le_succ _) T4.out.2.2.size)⟩
  clear B9 U9
  go_wp2_with fail
  exact bodyPost_ret (v := .tuple #[.agg (docC ({ S with lets := updN S.lets 1 (y &&& 4294967294) })), .bool true]) (resultsD2 (p := 8) (t := 9) rfl _ _ (w.heap.size + 1) ({ S with lets := updN S.lets 1 (y &&& 4294967294) }) rfl T9.out.1) rfl ⟨rfl, T9.out.2⟩
set_option maxHeartbeats 2000000 in
theorem dstore_least0 (S : St) (hS : S.Ok) (v : Nat) (hv : v < 18446744073709551616)  (w : World) : Calls Tryd.prog 30 #[.agg (docC S), .int .u64 2097152, .int .i64 4, .int .u64 (v : Int)] w fun e w' => e = .returned (.tuple #[.agg (docC ({ S with least := updN S.least 0 (v % 8) })), .bool true]) ∧ Below w.heap.size w w' := by
  have hm : ∀ w, Calls Tryd.prog 39 #[.int .u64 2097152, .int .i64 4] w fun e w' => e = .returned (.bool true) ∧ w' = w := fun w => dmay_any 2097152 4 (by decide) w
  have hr1 : (v : Int) % 4294967296 = ((v % 4294967296 : Nat) : Int) := by omega
  have hr2 : (v : Int).tmod 4294967296 = ((v % 4294967296 : Nat) : Int) := by rw [Int.tmod_eq_emod_of_nonneg (by omega)]; omega
  have hs1 : ((v % 4294967296 : Nat) : Int) % 8 = ((v % 8 : Nat) : Int) := by omega
  have hs2 : ((v % 4294967296 : Nat) : Int).tmod 8 = ((v % 8 : Nat) : Int) := by rw [Int.tmod_eq_emod_of_nonneg (by omega)]; omega
  have hs3 : IntKind.i64.wrap ((v % 8 : Nat) : Int) = ((v % 8 : Nat) : Int) := wrap_i64_s _ (by omega)
  clear hS hv
  generalize v % 8 = y at *
  generalize ((v % 4294967296 : Nat) : Int) = v2 at *
  go_enter Tryd.func30, Tryd.ntmps30
  go_upto_region 0 with fail
  refine wp_region_list ?_
  refine wpList_enter2 _ _ rfl rfl rfl rfl rfl ?_
  intro W hT0
  have T0 : Hid (Two w W (docC (S)) (docC zeroS)) := hT0
  clear hT0
  have f1 : W.cell? ⟨w.heap.size, 192, none⟩ = some (.int .i64 (S.least 0 : Nat)) := T0.out.1.dleast 0 (by omega)
  have z1 := T0.out.1.frozen 192
  have T1 : Hid (Two w (W.setCell ⟨w.heap.size, 192, none⟩ (.int .i64 (y : Nat))) (docC { S with least := updN S.least 0 y }) (docC zeroS)) := T0.out.least 0 y (by omega)
  go_wp2_with fail
  refine (hm _).mono ?_
  rintro e w' ⟨rfl, hw⟩
  rw [hw]
  clear hw w'
  go_upto_region 12 with fail
  clear T0 f1 z1
  generalize W.setCell ⟨w.heap.size, 192, none⟩ (.int .i64 (y : Nat)) = W1 at *
  refine wp_region_list ?_
  refine wpList_load_doc rfl _ rfl w.heap.size ({ S with least := updN S.least 0 y }) rfl T1.out.1 ?_
  refine wpList_store_doc rfl _ _ rfl (w.heap.size + 1) ({ S with least := updN S.least 0 y }) (docC zeroS) rfl rfl T1.out.2.1 (by rw [docC_size, docC_size]) ?_
  intro W9 B9 U9
  have T9 : Hid (Box 34 W9 (w.heap.size + 1) (docC ({ S with least := updN S.least 0 y })) ∧ Below w.heap.size w W9) := ⟨B9, T1.out.2.2.trans (U9.below (Nat.le_succ _) T1.out.2.2.size)⟩
  clear B9 U9
  go_wp2_with fail
  exact bodyPost_ret (v := .tuple #[.agg (docC ({ S with least := updN S.least 0 y })), .bool true]) (resultsD2 (p := 8) (t := 9) rfl _ _ (w.heap.size + 1) ({ S with least := updN S.least 0 y }) rfl T9.out.1) rfl ⟨rfl, T9.out.2⟩
set_option maxHeartbeats 2000000 in
theorem dstore_least1 (S : St) (hS : S.Ok) (v : Nat) (hv : v < 18446744073709551616)  (w : World) : Calls Tryd.prog 30 #[.agg (docC S), .int .u64 2101248, .int .i64 4, .int .u64 (v : Int)] w fun e w' => e = .returned (.tuple #[.agg (docC ({ S with least := updN S.least 1 (v % 8) })), .bool true]) ∧ Below w.heap.size w w' := by
  have hm : ∀ w, Calls Tryd.prog 39 #[.int .u64 2101248, .int .i64 4] w fun e w' => e = .returned (.bool true) ∧ w' = w := fun w => dmay_any 2101248 4 (by decide) w
  have hr1 : (v : Int) % 4294967296 = ((v % 4294967296 : Nat) : Int) := by omega
  have hr2 : (v : Int).tmod 4294967296 = ((v % 4294967296 : Nat) : Int) := by rw [Int.tmod_eq_emod_of_nonneg (by omega)]; omega
  have hs1 : ((v % 4294967296 : Nat) : Int) % 8 = ((v % 8 : Nat) : Int) := by omega
  have hs2 : ((v % 4294967296 : Nat) : Int).tmod 8 = ((v % 8 : Nat) : Int) := by rw [Int.tmod_eq_emod_of_nonneg (by omega)]; omega
  have hs3 : IntKind.i64.wrap ((v % 8 : Nat) : Int) = ((v % 8 : Nat) : Int) := wrap_i64_s _ (by omega)
  clear hS hv
  generalize v % 8 = y at *
  generalize ((v % 4294967296 : Nat) : Int) = v2 at *
  go_enter Tryd.func30, Tryd.ntmps30
  go_upto_region 0 with fail
  refine wp_region_list ?_
  refine wpList_enter2 _ _ rfl rfl rfl rfl rfl ?_
  intro W hT0
  have T0 : Hid (Two w W (docC (S)) (docC zeroS)) := hT0
  clear hT0
  have f1 : W.cell? ⟨w.heap.size, 193, none⟩ = some (.int .i64 (S.least 1 : Nat)) := T0.out.1.dleast 1 (by omega)
  have z1 := T0.out.1.frozen 193
  have T1 : Hid (Two w (W.setCell ⟨w.heap.size, 193, none⟩ (.int .i64 (y : Nat))) (docC { S with least := updN S.least 1 y }) (docC zeroS)) := T0.out.least 1 y (by omega)
  go_wp2_with fail
  refine (hm _).mono ?_
  rintro e w' ⟨rfl, hw⟩
  rw [hw]
  clear hw w'
  go_upto_region 12 with fail
  clear T0 f1 z1
  generalize W.setCell ⟨w.heap.size, 193, none⟩ (.int .i64 (y : Nat)) = W1 at *
  refine wp_region_list ?_
  refine wpList_load_doc rfl _ rfl w.heap.size ({ S with least := updN S.least 1 y }) rfl T1.out.1 ?_
  refine wpList_store_doc rfl _ _ rfl (w.heap.size + 1) ({ S with least := updN S.least 1 y }) (docC zeroS) rfl rfl T1.out.2.1 (by rw [docC_size, docC_size]) ?_
  intro W9 B9 U9
  have T9 : Hid (Box 34 W9 (w.heap.size + 1) (docC ({ S with least := updN S.least 1 y })) ∧ Below w.heap.size w W9) := ⟨B9, T1.out.2.2.trans (U9.below (Nat.le_succ _) T1.out.2.2.size)⟩
  clear B9 U9
  go_wp2_with fail
  exact bodyPost_ret (v := .tuple #[.agg (docC ({ S with least := updN S.least 1 y })), .bool true]) (resultsD2 (p := 8) (t := 9) rfl _ _ (w.heap.size + 1) ({ S with least := updN S.least 1 y }) rfl T9.out.1) rfl ⟨rfl, T9.out.2⟩
set_option maxHeartbeats 2000000 in
theorem dstore_claim0 (S : St) (hS : S.Ok) (v : Nat) (hv : v < 18446744073709551616) (hlt0 : v % 4294967296 < 32) (w : World) : Calls Tryd.prog 30 #[.agg (docC S), .int .u64 2097156, .int .i64 4, .int .u64 (v : Int)] w fun e w' => e = .returned (.tuple #[.agg (docC (if v % 4294967296 = 0 then S else doneS S 0 (v % 4294967296))), .bool true]) ∧ Below w.heap.size w w' := by
  have hm : ∀ w, Calls Tryd.prog 39 #[.int .u64 2097156, .int .i64 4] w fun e w' => e = .returned (.bool true) ∧ w' = w := fun w => dmay_any 2097156 4 (by decide) w
  have hr1 : (v : Int) % 4294967296 = ((v % 4294967296 : Nat) : Int) := by omega
  have hr2 : (v : Int).tmod 4294967296 = ((v % 4294967296 : Nat) : Int) := by rw [Int.tmod_eq_emod_of_nonneg (by omega)]; omega
  have hlt : ((v % 4294967296 : Nat) : Int) < 32 := by omega
  have hlt2 : decide (v % 4294967296 < 32) = true := by simp; omega
  have hw2 : IntKind.i64.wrap ((v % 4294967296 : Nat) : Int) = ((v % 4294967296 : Nat) : Int) := wrap_i64_s _ (by omega)
  have hd : ∀ V, Calls Tryd.prog 27 #[.agg (docC S), .int .i64 0, .int .i64 ((v % 4294967296 : Nat) : Int)] V fun e w' => e = .returned (.agg (docC (if v % 4294967296 = 0 then S else doneS S 0 (v % 4294967296)))) ∧ Below V.heap.size V w' := by
    intro V
    by_cases h0 : v % 4294967296 = 0
    · rw [if_pos h0, h0]
      exact ddone_no S 0 ((0 : Nat) : Int) (.inr (by decide)) V
    · rw [if_neg h0]
      exact ddone_any S hS 0 _ (by omega) (by omega) hlt0 V
  clear hS hv
  generalize hqS : (if v % 4294967296 = 0 then S else doneS S 0 (v % 4294967296)) = S2 at *
  clear hqS hlt0
  generalize ((v % 4294967296 : Nat) : Int) = v2 at *
  go_enter Tryd.func30, Tryd.ntmps30
  go_upto_region 0 with fail
  refine wp_region_list ?_
  refine wpList_enter2 _ _ rfl rfl rfl rfl rfl ?_
  intro W hT0
  have T0 : Hid (Two w W (docC (S)) (docC zeroS)) := hT0
  clear hT0
  go_wp2_with fail
  refine (hm _).mono ?_
  rintro e w' ⟨rfl, hw⟩
  rw [hw]
  clear hw w'
  go_upto_region 11 with fail
  refine wp_region_list ?_
  refine wpList_load_doc rfl _ rfl w.heap.size (S) rfl T0.out.1 ?_
  (refine wpList_step (fun KK hKK => ?_); go_simp; refine hKK _ _ ?_; clear hKK KK)
  (refine wpList_step (fun KK hKK => ?_); go_simp; refine hKK _ _ ?_; clear hKK KK)
  (refine wpList_step (fun KK hKK => ?_); go_simp; refine hKK _ _ ?_; clear hKK KK)
  (refine wpList_step (fun KK hKK => ?_); go_simp; refine hKK _ _ ?_; clear hKK KK)
  (refine wpList_step (fun KK hKK => ?_); go_simp; refine hKK _ _ ?_; clear hKK KK)
  (refine wpList_step (fun KK hKK => ?_); go_simp; refine hKK _ _ ?_; clear hKK KK)
  refine wpList_step (fun KK hKK => ?_)
  go_simp
  refine (hd _).mono ?_
  rintro e w2 ⟨rfl, hb2⟩
  have T2 : Hid (Two w w2 (docC S) (docC zeroS)) := T0.out.step hb2
  clear hb2 T0 hd
  refine hKK _ _ ?_
  clear hKK KK
  refine wpList_store_doc rfl _ _ rfl w.heap.size S2 (docC S) rfl rfl T2.out.1 (by rw [docC_size, docC_size]) ?_
  intro W4 B4 U4
  have T4 : Hid (Two w W4 (docC S2) (docC zeroS)) := ⟨B4, U4.box T2.out.2.1 (by omega), T2.out.2.2.trans (U4.below (Nat.le_refl _) T2.out.2.2.size)⟩
  clear B4 U4 T2
  go_upto_region 12 with fail
  refine wp_region_list ?_
  refine wpList_load_doc rfl _ rfl w.heap.size (S2) rfl T4.out.1 ?_
  refine wpList_store_doc rfl _ _ rfl (w.heap.size + 1) (S2) (docC zeroS) rfl rfl T4.out.2.1 (by rw [docC_size, docC_size]) ?_
  intro W9 B9 U9
  have T9 : Hid (Box 34 W9 (w.heap.size + 1) (docC (S2)) ∧ Below w.heap.size w W9) := ⟨B9, T4.out.2.2.trans (U9.below (Nat.le_succ _) T4.out.2.2.size)⟩
  clear B9 U9
  go_wp2_with fail
  exact bodyPost_ret (v := .tuple #[.agg (docC (S2)), .bool true]) (resultsD2 (p := 8) (t := 9) rfl _ _ (w.heap.size + 1) (S2) rfl T9.out.1) rfl ⟨rfl, T9.out.2⟩
set_option maxHeartbeats 2000000 in
theorem dstore_claimn0 (S : St) (hS : S.Ok) (v : Nat) (hv : v < 18446744073709551616) (hlt0 : ¬ v % 4294967296 < 32) (w : World) : Calls Tryd.prog 30 #[.agg (docC S), .int .u64 2097156, .int .i64 4, .int .u64 (v : Int)] w fun e w' => e = .returned (.tuple #[.agg (docC (S)), .bool true]) ∧ Below w.heap.size w w' := by
  have hm : ∀ w, Calls Tryd.prog 39 #[.int .u64 2097156, .int .i64 4] w fun e w' => e = .returned (.bool true) ∧ w' = w := fun w => dmay_any 2097156 4 (by decide) w
  have hr1 : (v : Int) % 4294967296 = ((v % 4294967296 : Nat) : Int) := by omega
  have hr2 : (v : Int).tmod 4294967296 = ((v % 4294967296 : Nat) : Int) := by rw [Int.tmod_eq_emod_of_nonneg (by omega)]; omega
  have hlt : ¬ ((v % 4294967296 : Nat) : Int) < 32 := by omega
  have hlt2 : decide (((v % 4294967296 : Nat) : Int) < 32) = false := by simp; omega
  clear hS hv
  clear hlt0
  generalize ((v % 4294967296 : Nat) : Int) = v2 at *
  go_enter Tryd.func30, Tryd.ntmps30
  go_upto_region 0 with fail
  refine wp_region_list ?_
  refine wpList_enter2 _ _ rfl rfl rfl rfl rfl ?_
  intro W hT0
  have T0 : Hid (Two w W (docC (S)) (docC zeroS)) := hT0
  clear hT0
  go_wp2_with fail
  refine (hm _).mono ?_
  rintro e w' ⟨rfl, hw⟩
  rw [hw]
  clear hw w'
  go_upto_region 12 with fail
  refine wp_region_list ?_
  refine wpList_load_doc rfl _ rfl w.heap.size (S) rfl T0.out.1 ?_
  refine wpList_store_doc rfl _ _ rfl (w.heap.size + 1) (S) (docC zeroS) rfl rfl T0.out.2.1 (by rw [docC_size, docC_size]) ?_
  intro W9 B9 U9
  have T9 : Hid (Box 34 W9 (w.heap.size + 1) (docC (S)) ∧ Below w.heap.size w W9) := ⟨B9, T0.out.2.2.trans (U9.below (Nat.le_succ _) T0.out.2.2.size)⟩
  clear B9 U9
  go_wp2_with fail
  exact bodyPost_ret (v := .tuple #[.agg (docC (S)), .bool true]) (resultsD2 (p := 8) (t := 9) rfl _ _ (w.heap.size + 1) (S) rfl T9.out.1) rfl ⟨rfl, T9.out.2⟩
set_option maxHeartbeats 2000000 in
theorem dstore_claim1 (S : St) (hS : S.Ok) (v : Nat) (hv : v < 18446744073709551616) (hlt0 : v % 4294967296 < 32) (w : World) : Calls Tryd.prog 30 #[.agg (docC S), .int .u64 2101252, .int .i64 4, .int .u64 (v : Int)] w fun e w' => e = .returned (.tuple #[.agg (docC (if v % 4294967296 = 0 then S else doneS S 1 (v % 4294967296))), .bool true]) ∧ Below w.heap.size w w' := by
  have hm : ∀ w, Calls Tryd.prog 39 #[.int .u64 2101252, .int .i64 4] w fun e w' => e = .returned (.bool true) ∧ w' = w := fun w => dmay_any 2101252 4 (by decide) w
  have hr1 : (v : Int) % 4294967296 = ((v % 4294967296 : Nat) : Int) := by omega
  have hr2 : (v : Int).tmod 4294967296 = ((v % 4294967296 : Nat) : Int) := by rw [Int.tmod_eq_emod_of_nonneg (by omega)]; omega
  have hlt : ((v % 4294967296 : Nat) : Int) < 32 := by omega
  have hlt2 : decide (v % 4294967296 < 32) = true := by simp; omega
  have hw2 : IntKind.i64.wrap ((v % 4294967296 : Nat) : Int) = ((v % 4294967296 : Nat) : Int) := wrap_i64_s _ (by omega)
  have hd : ∀ V, Calls Tryd.prog 27 #[.agg (docC S), .int .i64 1, .int .i64 ((v % 4294967296 : Nat) : Int)] V fun e w' => e = .returned (.agg (docC (if v % 4294967296 = 0 then S else doneS S 1 (v % 4294967296)))) ∧ Below V.heap.size V w' := by
    intro V
    by_cases h0 : v % 4294967296 = 0
    · rw [if_pos h0, h0]
      exact ddone_no S 1 ((0 : Nat) : Int) (.inr (by decide)) V
    · rw [if_neg h0]
      exact ddone_any S hS 1 _ (by omega) (by omega) hlt0 V
  clear hS hv
  generalize hqS : (if v % 4294967296 = 0 then S else doneS S 1 (v % 4294967296)) = S2 at *
  clear hqS hlt0
  generalize ((v % 4294967296 : Nat) : Int) = v2 at *
  go_enter Tryd.func30, Tryd.ntmps30
  go_upto_region 0 with fail
  refine wp_region_list ?_
  refine wpList_enter2 _ _ rfl rfl rfl rfl rfl ?_
  intro W hT0
  have T0 : Hid (Two w W (docC (S)) (docC zeroS)) := hT0
  clear hT0
  go_wp2_with fail
  refine (hm _).mono ?_
  rintro e w' ⟨rfl, hw⟩
  rw [hw]
  clear hw w'
  go_upto_region 11 with fail
  refine wp_region_list ?_
  refine wpList_load_doc rfl _ rfl w.heap.size (S) rfl T0.out.1 ?_
  (refine wpList_step (fun KK hKK => ?_); go_simp; refine hKK _ _ ?_; clear hKK KK)
  (refine wpList_step (fun KK hKK => ?_); go_simp; refine hKK _ _ ?_; clear hKK KK)
  (refine wpList_step (fun KK hKK => ?_); go_simp; refine hKK _ _ ?_; clear hKK KK)
  (refine wpList_step (fun KK hKK => ?_); go_simp; refine hKK _ _ ?_; clear hKK KK)
  (refine wpList_step (fun KK hKK => ?_); go_simp; refine hKK _ _ ?_; clear hKK KK)
  (refine wpList_step (fun KK hKK => ?_); go_simp; refine hKK _ _ ?_; clear hKK KK)
  refine wpList_step (fun KK hKK => ?_)
  go_simp
  refine (hd _).mono ?_
  rintro e w2 ⟨rfl, hb2⟩
  have T2 : Hid (Two w w2 (docC S) (docC zeroS)) := T0.out.step hb2
  clear hb2 T0 hd
  refine hKK _ _ ?_
  clear hKK KK
  refine wpList_store_doc rfl _ _ rfl w.heap.size S2 (docC S) rfl rfl T2.out.1 (by rw [docC_size, docC_size]) ?_
  intro W4 B4 U4
  have T4 : Hid (Two w W4 (docC S2) (docC zeroS)) := ⟨B4, U4.box T2.out.2.1 (by omega), T2.out.2.2.trans (U4.below (Nat.le_refl _) T2.out.2.2.size)⟩
  clear B4 U4 T2
  go_upto_region 12 with fail
  refine wp_region_list ?_
  refine wpList_load_doc rfl _ rfl w.heap.size (S2) rfl T4.out.1 ?_
  refine wpList_store_doc rfl _ _ rfl (w.heap.size + 1) (S2) (docC zeroS) rfl rfl T4.out.2.1 (by rw [docC_size, docC_size]) ?_
  intro W9 B9 U9
  have T9 : Hid (Box 34 W9 (w.heap.size + 1) (docC (S2)) ∧ Below w.heap.size w W9) := ⟨B9, T4.out.2.2.trans (U9.below (Nat.le_succ _) T4.out.2.2.size)⟩
  clear B9 U9
  go_wp2_with fail
  exact bodyPost_ret (v := .tuple #[.agg (docC (S2)), .bool true]) (resultsD2 (p := 8) (t := 9) rfl _ _ (w.heap.size + 1) (S2) rfl T9.out.1) rfl ⟨rfl, T9.out.2⟩
set_option maxHeartbeats 2000000 in
theorem dstore_claimn1 (S : St) (hS : S.Ok) (v : Nat) (hv : v < 18446744073709551616) (hlt0 : ¬ v % 4294967296 < 32) (w : World) : Calls Tryd.prog 30 #[.agg (docC S), .int .u64 2101252, .int .i64 4, .int .u64 (v : Int)] w fun e w' => e = .returned (.tuple #[.agg (docC (S)), .bool true]) ∧ Below w.heap.size w w' := by
  have hm : ∀ w, Calls Tryd.prog 39 #[.int .u64 2101252, .int .i64 4] w fun e w' => e = .returned (.bool true) ∧ w' = w := fun w => dmay_any 2101252 4 (by decide) w
  have hr1 : (v : Int) % 4294967296 = ((v % 4294967296 : Nat) : Int) := by omega
  have hr2 : (v : Int).tmod 4294967296 = ((v % 4294967296 : Nat) : Int) := by rw [Int.tmod_eq_emod_of_nonneg (by omega)]; omega
  have hlt : ¬ ((v % 4294967296 : Nat) : Int) < 32 := by omega
  have hlt2 : decide (((v % 4294967296 : Nat) : Int) < 32) = false := by simp; omega
  clear hS hv
  clear hlt0
  generalize ((v % 4294967296 : Nat) : Int) = v2 at *
  go_enter Tryd.func30, Tryd.ntmps30
  go_upto_region 0 with fail
  refine wp_region_list ?_
  refine wpList_enter2 _ _ rfl rfl rfl rfl rfl ?_
  intro W hT0
  have T0 : Hid (Two w W (docC (S)) (docC zeroS)) := hT0
  clear hT0
  go_wp2_with fail
  refine (hm _).mono ?_
  rintro e w' ⟨rfl, hw⟩
  rw [hw]
  clear hw w'
  go_upto_region 12 with fail
  refine wp_region_list ?_
  refine wpList_load_doc rfl _ rfl w.heap.size (S) rfl T0.out.1 ?_
  refine wpList_store_doc rfl _ _ rfl (w.heap.size + 1) (S) (docC zeroS) rfl rfl T0.out.2.1 (by rw [docC_size, docC_size]) ?_
  intro W9 B9 U9
  have T9 : Hid (Box 34 W9 (w.heap.size + 1) (docC (S)) ∧ Below w.heap.size w W9) := ⟨B9, T0.out.2.2.trans (U9.below (Nat.le_succ _) T0.out.2.2.size)⟩
  clear B9 U9
  go_wp2_with fail
  exact bodyPost_ret (v := .tuple #[.agg (docC (S)), .bool true]) (resultsD2 (p := 8) (t := 9) rfl _ _ (w.heap.size + 1) (S) rfl T9.out.1) rfl ⟨rfl, T9.out.2⟩
theorem may_n {a : Nat} {n : Int} (h : mayB a n = true) : n = 4 ∧ a % 4 = 0 := by
  unfold mayB at h
  simp at h
  exact h.1
theorem dload_any (S : St) (a : Nat) (n : Int) (hS : S.Ok) (ha : a < 18446744073709551616) (hm : mayB a n = true) (w : World) : Calls Tryd.prog 28 #[.agg (docC S), .int .u64 (a : Int), .int .i64 n] w fun e w' => e = .returned (.tuple #[.agg (docC (loadS S a)), .int .u64 (loadV S a : Nat), .bool true]) ∧ Below w.heap.size w w' := by
  obtain ⟨rfl, h4⟩ := may_n hm
  rcases findR_cases a with ⟨h, hr⟩ | ⟨h, hr⟩ | ⟨c, hc, h, hr⟩ | ⟨c, hc, h, hr⟩ | ⟨c, hc, h, hr⟩ | ⟨hr, h⟩ <;> (unfold loadV loadS; rw [hr]; dsimp only)
  · have := dload_prio S hS (a / 4) (by omega) w
    rw [show 4 * (a / 4) = a from by omega] at this
    exact this
  · subst h
    exact dload_waits S hS w
  · have hc2 : c = 0 ∨ c = 1 := by omega
    rcases hc2 with rfl | rfl <;> subst h
    · exact dload_lets0 S hS w
    · exact dload_lets1 S hS w
  · have hc2 : c = 0 ∨ c = 1 := by omega
    rcases hc2 with rfl | rfl <;> subst h
    · exact dload_least0 S hS w
    · exact dload_least1 S hS w
  · have hc2 : c = 0 ∨ c = 1 := by omega
    rcases hc2 with rfl | rfl <;> subst h
    · exact dload_claim0 S hS w
    · exact dload_claim1 S hS w
  · exact dload_none S a ha hm h.1 h.2 w
theorem dstore_any (S : St) (a : Nat) (n : Int) (v : Nat) (hv : v < 18446744073709551616) (hS : S.Ok) (ha : a < 18446744073709551616) (hm : mayB a n = true) (w : World) : Calls Tryd.prog 30 #[.agg (docC S), .int .u64 (a : Int), .int .i64 n, .int .u64 (v : Int)] w fun e w' => e = .returned (.tuple #[.agg (docC (storeS S a v)), .bool true]) ∧ Below w.heap.size w w' := by
  obtain ⟨rfl, h4⟩ := may_n hm
  rcases findR_cases a with ⟨h, hr⟩ | ⟨h, hr⟩ | ⟨c, hc, h, hr⟩ | ⟨c, hc, h, hr⟩ | ⟨c, hc, h, hr⟩ | ⟨hr, h⟩ <;> (unfold storeS; rw [hr]; dsimp only)
  · rw [if_pos rfl]
    by_cases h0 : a / 4 = 0
    · rw [if_pos h0]
      exact dstore_none S a v ha hm (.inl (by omega)) (by omega) w
    · rw [if_neg h0]
      have := dstore_prio S (a / 4) v h0 (by omega) w
      rw [show 4 * (a / 4) = a from by omega] at this
      exact this
  · exact dstore_none S a v ha hm (.inr (by omega)) (by omega) w
  · have hc2 : c = 0 ∨ c = 1 := by omega
    rcases hc2 with rfl | rfl <;> subst h
    · exact dstore_lets0 S hS v hv w
    · exact dstore_lets1 S hS v hv w
  · have hc2 : c = 0 ∨ c = 1 := by omega
    rcases hc2 with rfl | rfl <;> subst h
    · exact dstore_least0 S hS v hv w
    · exact dstore_least1 S hS v hv w
  · rw [if_neg (by decide), if_neg (by decide), if_neg (by decide)]
    by_cases hb : v % 4294967296 < 32
    · have hk : ∀ c, c < 2 → a = 2097156 + 4096 * c → Calls Tryd.prog 30 #[.agg (docC S), .int .u64 (a : Int), .int .i64 4, .int .u64 (v : Int)] w fun e w' => e = .returned (.tuple #[.agg (docC (if v % 4294967296 = 0 then S else doneS S c (v % 4294967296))), .bool true]) ∧ Below w.heap.size w w' := by
        intro c hc h
        have hc2 : c = 0 ∨ c = 1 := by omega
        rcases hc2 with rfl | rfl <;> subst h
        · exact dstore_claim0 S hS v hv hb w
        · exact dstore_claim1 S hS v hv hb w
      have hk2 := hk c hc h
      by_cases h0 : v % 4294967296 = 0
      · rw [if_pos h0] at hk2
        rw [if_neg (fun h => h.2.2 h0)]
        exact hk2
      · rw [if_neg h0] at hk2
        rw [if_pos ⟨rfl, hb, h0⟩]
        exact hk2
    · rw [if_neg (fun h => hb h.2.1)]
      have hc2 : c = 0 ∨ c = 1 := by omega
      rcases hc2 with rfl | rfl <;> subst h
      · exact dstore_claimn0 S hS v hv hb w
      · exact dstore_claimn1 S hS v hv hb w
  · exact dstore_none S a v ha hm (.inr h.1) (by omega) w
end Go.Proofs.YtpedollliahldaaDoor
