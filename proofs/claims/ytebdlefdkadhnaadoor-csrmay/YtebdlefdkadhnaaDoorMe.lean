/- The document's call May of layer 8. -/
import Derived.Test.YtebdlefdkadhnaaDoorHi
import Derived.Test.YtebdlefdkadhnaaDoorDRd
namespace Go.Proofs.YtebdlefdkadhnaaDoor
open Go.RowKit Go.Maps
set_option linter.unusedVariables false
set_option linter.unusedSimpArgs false
set_option maxRecDepth 100000
set_option maxHeartbeats 4000000 in
theorem dm_lo (m : Int) (K : Nat → Nat) (n : Int) (ga gb : Nat) (wr : Bool) (hK : Ok K) (h0 : 0 ≤ n) (h1 : n ≤ 3860) (hk : knownB n = true) (hga : Int.tmod (Int.tdiv n 1024) 4 = ga) (hgb : Int.tmod (Int.tdiv n 256) 4 = gb) (h : (wr && decide (ga = 3)) = false) (hb : ¬ m < (gb : Int)) (hn : (n == 384) = false ∨ (n = 384 ∧ (m == 1) = false)) (hl : n < 3072) (w : World) : Calls Tryd.prog 19 #[.agg (docC m K), .int .i64 n, .bool wr] w fun e w' => e = .returned (.bool true) ∧ Below w.heap.size w w' := by
  have T0 : Hid (One w (w.alloc (.cells (docC m K) 32)) (docC m K)) := One.new w _
  have hof := fun V => of_any n V
  unfold rowC at hof
  rw [hk] at hof
  generalize dN (ix n) = z0 at *
  generalize dName (ix n) = s at *
  generalize dAt (ix n) = z2 at *
  generalize dMask (ix n) = z3 at *
  have HB0 : Hid (∀ V, Calls Tryd.prog 34 #[.agg (docC m K), .int .i64 0, .int .i64 20] V fun e w' => e = .returned (.bool (bitB (K 0) 20)) ∧ Below V.heap.size V w') := fun V => dbit_any m K 0 20 hK (by decide) V
  have HB7 : Hid (∀ V, Calls Tryd.prog 34 #[.agg (docC m K), .int .i64 7, .int .i64 (Int.tmod n 4)] V fun e w' => e = .returned (.bool (bitB (K 7) (Int.tmod n 4))) ∧ Below V.heap.size V w') := fun V => dbit_any m K 7 _ hK (by decide) V
  have HB13 : Hid (∀ V, Calls Tryd.prog 34 #[.agg (docC m K), .int .i64 13, .int .i64 (Int.tmod n 4)] V fun e w' => e = .returned (.bool (bitB (K 13) (Int.tmod n 4))) ∧ Below V.heap.size V w') := fun V => dbit_any m K 13 _ hK (by decide) V
  have e1 : Int.tdiv n 1024 = n / 1024 := Int.tdiv_eq_ediv_of_nonneg h0
  have e2 : Int.tdiv n 256 = n / 256 := Int.tdiv_eq_ediv_of_nonneg h0
  have hwa : IntKind.i64.wrap (Int.tdiv n 1024) = Int.tdiv n 1024 := by rw [e1]; simp [IntKind.wrap, IntKind.signed, IntKind.bits]; omega
  have hwb : IntKind.i64.wrap (Int.tdiv n 256) = Int.tdiv n 256 := by rw [e2]; simp [IntKind.wrap, IntKind.signed, IntKind.bits]; omega
  clear e1 e2
  clear hK hk h0 h1
  have hp : wr = false ∨ (wr = true ∧ ((ga : Int) == 3) = false) := by
    cases wr
    · exact .inl rfl
    · right; refine ⟨rfl, ?_⟩; simp at h; simp; omega
  clear h
  go_enter Tryd.func19, Tryd.ntmps19
  go_upto_region 1 with fail
  generalize (w.alloc (.cells (docC m K) 32)) = W at *
  go_wp2_with fail
  refine (hof _).mono ?_
  rintro e w1 ⟨rfl, hb1⟩
  have T1 : Hid (One w w1 (docC m K)) := T0.out.step hb1
  clear hb1 hof T0
  go_upto_region 2 with fail
  have T2 : Hid (One w (w1.alloc (.cells #[.int .i64 z0, .string s, .int .i64 z2, .int .u64 (z3 : Nat)] 46)) (docC m K)) := T1.out.step ((Below.refl _ _).alloc (Nat.le_refl _) _)
  generalize w1.alloc (.cells #[.int .i64 z0, .string s, .int .i64 z2, .int .u64 (z3 : Nat)] 46) = W2 at *
  have c0 : W2.cell? ⟨w.heap.size, 0, none⟩ = some (.int .i64 m) := T2.out.1.cell 0 _ rfl
  clear T1
  rcases hn with hn | ⟨hn, hm⟩
  · skip
    rcases hp with rfl | ⟨rfl, h3⟩
    all_goals
      go_wp2_with fail
      go_ret
      exact ⟨rfl, T2.out.2⟩
  · subst hn
    have hg1 : (gb : Int) = 1 := by rw [← hgb]; decide
    have hb1 : ¬ m < 1 := by omega
    clear hga hgb hwa hwb hb hg1
    rcases hp with rfl | ⟨rfl, h3⟩
    all_goals
      go_wp2_with fail
      go_ret
      exact ⟨rfl, T2.out.2⟩
set_option maxHeartbeats 4000000 in
theorem dm_ctr0 (m : Int) (K : Nat → Nat) (n : Int) (ga gb : Nat) (wr : Bool) (hK : Ok K) (h0 : 0 ≤ n) (h1 : n ≤ 3860) (hk : knownB n = true) (hga : Int.tmod (Int.tdiv n 1024) 4 = ga) (hgb : Int.tmod (Int.tdiv n 256) 4 = gb) (h : (wr && decide (ga = 3)) = false) (hb : ¬ m < (gb : Int)) (hn : (n == 384) = false) (hl : ¬ n < 3072) (hh : ¬ 3074 < n) (hm : m = 0) (w : World) : Calls Tryd.prog 19 #[.agg (docC m K), .int .i64 n, .bool wr] w fun e w' => e = .returned (.bool (bitB (K 7) (Int.tmod n 4) && bitB (K 13) (Int.tmod n 4))) ∧ Below w.heap.size w w' := by
  have T0 : Hid (One w (w.alloc (.cells (docC m K) 32)) (docC m K)) := One.new w _
  have hof := fun V => of_any n V
  unfold rowC at hof
  rw [hk] at hof
  generalize dN (ix n) = z0 at *
  generalize dName (ix n) = s at *
  generalize dAt (ix n) = z2 at *
  generalize dMask (ix n) = z3 at *
  have HB0 : Hid (∀ V, Calls Tryd.prog 34 #[.agg (docC m K), .int .i64 0, .int .i64 20] V fun e w' => e = .returned (.bool (bitB (K 0) 20)) ∧ Below V.heap.size V w') := fun V => dbit_any m K 0 20 hK (by decide) V
  have HB7 : Hid (∀ V, Calls Tryd.prog 34 #[.agg (docC m K), .int .i64 7, .int .i64 (Int.tmod n 4)] V fun e w' => e = .returned (.bool (bitB (K 7) (Int.tmod n 4))) ∧ Below V.heap.size V w') := fun V => dbit_any m K 7 _ hK (by decide) V
  have HB13 : Hid (∀ V, Calls Tryd.prog 34 #[.agg (docC m K), .int .i64 13, .int .i64 (Int.tmod n 4)] V fun e w' => e = .returned (.bool (bitB (K 13) (Int.tmod n 4))) ∧ Below V.heap.size V w') := fun V => dbit_any m K 13 _ hK (by decide) V
  have e1 : Int.tdiv n 1024 = n / 1024 := Int.tdiv_eq_ediv_of_nonneg h0
  have e2 : Int.tdiv n 256 = n / 256 := Int.tdiv_eq_ediv_of_nonneg h0
  have hwa : IntKind.i64.wrap (Int.tdiv n 1024) = Int.tdiv n 1024 := by rw [e1]; simp [IntKind.wrap, IntKind.signed, IntKind.bits]; omega
  have hwb : IntKind.i64.wrap (Int.tdiv n 256) = Int.tdiv n 256 := by rw [e2]; simp [IntKind.wrap, IntKind.signed, IntKind.bits]; omega
  clear e1 e2
  clear hK hk h0 h1
  have hp : wr = false ∨ (wr = true ∧ ((ga : Int) == 3) = false) := by
    cases wr
    · exact .inl rfl
    · right; refine ⟨rfl, ?_⟩; simp at h; simp; omega
  clear h
  subst hm
  generalize bitB (K 7) (Int.tmod n 4) = b7 at *
  generalize bitB (K 13) (Int.tmod n 4) = b13 at *
  go_enter Tryd.func19, Tryd.ntmps19
  go_upto_region 1 with fail
  generalize (w.alloc (.cells (docC 0 K) 32)) = W at *
  go_wp2_with fail
  refine (hof _).mono ?_
  rintro e w1 ⟨rfl, hb1⟩
  have T1 : Hid (One w w1 (docC 0 K)) := T0.out.step hb1
  clear hb1 hof T0
  go_upto_region 2 with fail
  have T2 : Hid (One w (w1.alloc (.cells #[.int .i64 z0, .string s, .int .i64 z2, .int .u64 (z3 : Nat)] 46)) (docC 0 K)) := T1.out.step ((Below.refl _ _).alloc (Nat.le_refl _) _)
  generalize w1.alloc (.cells #[.int .i64 z0, .string s, .int .i64 z2, .int .u64 (z3 : Nat)] 46) = W2 at *
  have c0 : W2.cell? ⟨w.heap.size, 0, none⟩ = some (.int .i64 0) := T2.out.1.cell 0 _ rfl
  clear T1
  rcases hp with rfl | ⟨rfl, h3⟩
  all_goals
    go_upto_region 8 with fail
    (try simp only [Act.put, List.getElem_toArray, List.getElem_cons_succ, List.getElem_cons_zero, List.setIfInBounds_toArray, List.set_cons_zero, List.set_cons_succ])
    refine wp_region_list ?_
    iterate 4 (refine wpList_step (fun KK hKK => ?_); go_simp; refine hKK _ _ ?_; clear hKK KK)
    refine wpList_load_docG (by first | rfl | kernel_rfl) _ rfl w.heap.size 0 K rfl T2.out.1 ?_
    iterate 2 (refine wpList_step (fun KK hKK => ?_); go_simp; refine hKK _ _ ?_; clear hKK KK)
    refine wpList_step (fun KK hKK => ?_)
    go_simp
    refine (HB7.out _).mono ?_
    rintro e w3 ⟨rfl, hbb⟩
    have T3 : Hid (One w w3 (docC 0 K)) := T2.out.step hbb
    clear hbb
    cases b7
    · refine hKK _ _ ?_
      clear hKK
      go_wp2_with fail
      go_ret
      exact ⟨rfl, T3.out.2⟩
    · refine hKK _ _ ?_
      clear hKK
      have d0 : w3.cell? ⟨w.heap.size, 0, none⟩ = some (.int .i64 0) := T3.out.1.cell 0 _ rfl
      go_upto_region 10 with fail
      refine wp_region_list ?_
      iterate 4 (refine wpList_step (fun KK hKK => ?_); go_simp; refine hKK _ _ ?_; clear hKK KK)
      refine wpList_load_docG (by first | rfl | kernel_rfl) _ rfl w.heap.size 0 K rfl T3.out.1 ?_
      iterate 2 (refine wpList_step (fun KK hKK => ?_); go_simp; refine hKK _ _ ?_; clear hKK KK)
      refine wpList_step (fun KK hKK => ?_)
      go_simp
      refine (HB13.out _).mono ?_
      rintro e w4 ⟨rfl, hbb⟩
      have T4 : Hid (One w w4 (docC 0 K)) := T3.out.step hbb
      clear hbb
      refine hKK _ _ ?_
      clear hKK
      go_wp2_with fail
      go_ret
      exact ⟨ret_bool (by cases b13 <;> rfl), T4.out.2⟩
set_option maxHeartbeats 4000000 in
theorem dm_ctr1 (m : Int) (K : Nat → Nat) (n : Int) (ga gb : Nat) (wr : Bool) (hK : Ok K) (h0 : 0 ≤ n) (h1 : n ≤ 3860) (hk : knownB n = true) (hga : Int.tmod (Int.tdiv n 1024) 4 = ga) (hgb : Int.tmod (Int.tdiv n 256) 4 = gb) (h : (wr && decide (ga = 3)) = false) (hb : ¬ m < (gb : Int)) (hn : (n == 384) = false) (hl : ¬ n < 3072) (hh : ¬ 3074 < n) (hm : m = 1) (w : World) : Calls Tryd.prog 19 #[.agg (docC m K), .int .i64 n, .bool wr] w fun e w' => e = .returned (.bool (bitB (K 7) (Int.tmod n 4))) ∧ Below w.heap.size w w' := by
  have T0 : Hid (One w (w.alloc (.cells (docC m K) 32)) (docC m K)) := One.new w _
  have hof := fun V => of_any n V
  unfold rowC at hof
  rw [hk] at hof
  generalize dN (ix n) = z0 at *
  generalize dName (ix n) = s at *
  generalize dAt (ix n) = z2 at *
  generalize dMask (ix n) = z3 at *
  have HB0 : Hid (∀ V, Calls Tryd.prog 34 #[.agg (docC m K), .int .i64 0, .int .i64 20] V fun e w' => e = .returned (.bool (bitB (K 0) 20)) ∧ Below V.heap.size V w') := fun V => dbit_any m K 0 20 hK (by decide) V
  have HB7 : Hid (∀ V, Calls Tryd.prog 34 #[.agg (docC m K), .int .i64 7, .int .i64 (Int.tmod n 4)] V fun e w' => e = .returned (.bool (bitB (K 7) (Int.tmod n 4))) ∧ Below V.heap.size V w') := fun V => dbit_any m K 7 _ hK (by decide) V
  have HB13 : Hid (∀ V, Calls Tryd.prog 34 #[.agg (docC m K), .int .i64 13, .int .i64 (Int.tmod n 4)] V fun e w' => e = .returned (.bool (bitB (K 13) (Int.tmod n 4))) ∧ Below V.heap.size V w') := fun V => dbit_any m K 13 _ hK (by decide) V
  have e1 : Int.tdiv n 1024 = n / 1024 := Int.tdiv_eq_ediv_of_nonneg h0
  have e2 : Int.tdiv n 256 = n / 256 := Int.tdiv_eq_ediv_of_nonneg h0
  have hwa : IntKind.i64.wrap (Int.tdiv n 1024) = Int.tdiv n 1024 := by rw [e1]; simp [IntKind.wrap, IntKind.signed, IntKind.bits]; omega
  have hwb : IntKind.i64.wrap (Int.tdiv n 256) = Int.tdiv n 256 := by rw [e2]; simp [IntKind.wrap, IntKind.signed, IntKind.bits]; omega
  clear e1 e2
  clear hK hk h0 h1
  have hp : wr = false ∨ (wr = true ∧ ((ga : Int) == 3) = false) := by
    cases wr
    · exact .inl rfl
    · right; refine ⟨rfl, ?_⟩; simp at h; simp; omega
  clear h
  subst hm
  generalize bitB (K 7) (Int.tmod n 4) = b7 at *
  generalize bitB (K 13) (Int.tmod n 4) = b13 at *
  go_enter Tryd.func19, Tryd.ntmps19
  go_upto_region 1 with fail
  generalize (w.alloc (.cells (docC 1 K) 32)) = W at *
  go_wp2_with fail
  refine (hof _).mono ?_
  rintro e w1 ⟨rfl, hb1⟩
  have T1 : Hid (One w w1 (docC 1 K)) := T0.out.step hb1
  clear hb1 hof T0
  go_upto_region 2 with fail
  have T2 : Hid (One w (w1.alloc (.cells #[.int .i64 z0, .string s, .int .i64 z2, .int .u64 (z3 : Nat)] 46)) (docC 1 K)) := T1.out.step ((Below.refl _ _).alloc (Nat.le_refl _) _)
  generalize w1.alloc (.cells #[.int .i64 z0, .string s, .int .i64 z2, .int .u64 (z3 : Nat)] 46) = W2 at *
  have c0 : W2.cell? ⟨w.heap.size, 0, none⟩ = some (.int .i64 1) := T2.out.1.cell 0 _ rfl
  clear T1
  rcases hp with rfl | ⟨rfl, h3⟩
  all_goals
    go_upto_region 8 with fail
    (try simp only [Act.put, List.getElem_toArray, List.getElem_cons_succ, List.getElem_cons_zero, List.setIfInBounds_toArray, List.set_cons_zero, List.set_cons_succ])
    refine wp_region_list ?_
    iterate 4 (refine wpList_step (fun KK hKK => ?_); go_simp; refine hKK _ _ ?_; clear hKK KK)
    refine wpList_load_docG (by first | rfl | kernel_rfl) _ rfl w.heap.size 1 K rfl T2.out.1 ?_
    iterate 2 (refine wpList_step (fun KK hKK => ?_); go_simp; refine hKK _ _ ?_; clear hKK KK)
    refine wpList_step (fun KK hKK => ?_)
    go_simp
    refine (HB7.out _).mono ?_
    rintro e w3 ⟨rfl, hbb⟩
    have T3 : Hid (One w w3 (docC 1 K)) := T2.out.step hbb
    clear hbb
    cases b7
    · refine hKK _ _ ?_
      clear hKK
      go_wp2_with fail
      go_ret
      exact ⟨rfl, T3.out.2⟩
    · refine hKK _ _ ?_
      clear hKK
      have d0 : w3.cell? ⟨w.heap.size, 0, none⟩ = some (.int .i64 1) := T3.out.1.cell 0 _ rfl
      go_wp2_with fail
      go_ret
      exact ⟨rfl, T3.out.2⟩
set_option maxHeartbeats 4000000 in
theorem dm_ctr3 (m : Int) (K : Nat → Nat) (n : Int) (ga gb : Nat) (wr : Bool) (hK : Ok K) (h0 : 0 ≤ n) (h1 : n ≤ 3860) (hk : knownB n = true) (hga : Int.tmod (Int.tdiv n 1024) 4 = ga) (hgb : Int.tmod (Int.tdiv n 256) 4 = gb) (h : (wr && decide (ga = 3)) = false) (hb : ¬ m < (gb : Int)) (hn : (n == 384) = false) (hl : ¬ n < 3072) (hh : ¬ 3074 < n) (hm : m = 3) (w : World) : Calls Tryd.prog 19 #[.agg (docC m K), .int .i64 n, .bool wr] w fun e w' => e = .returned (.bool true) ∧ Below w.heap.size w w' := by
  have T0 : Hid (One w (w.alloc (.cells (docC m K) 32)) (docC m K)) := One.new w _
  have hof := fun V => of_any n V
  unfold rowC at hof
  rw [hk] at hof
  generalize dN (ix n) = z0 at *
  generalize dName (ix n) = s at *
  generalize dAt (ix n) = z2 at *
  generalize dMask (ix n) = z3 at *
  have HB0 : Hid (∀ V, Calls Tryd.prog 34 #[.agg (docC m K), .int .i64 0, .int .i64 20] V fun e w' => e = .returned (.bool (bitB (K 0) 20)) ∧ Below V.heap.size V w') := fun V => dbit_any m K 0 20 hK (by decide) V
  have HB7 : Hid (∀ V, Calls Tryd.prog 34 #[.agg (docC m K), .int .i64 7, .int .i64 (Int.tmod n 4)] V fun e w' => e = .returned (.bool (bitB (K 7) (Int.tmod n 4))) ∧ Below V.heap.size V w') := fun V => dbit_any m K 7 _ hK (by decide) V
  have HB13 : Hid (∀ V, Calls Tryd.prog 34 #[.agg (docC m K), .int .i64 13, .int .i64 (Int.tmod n 4)] V fun e w' => e = .returned (.bool (bitB (K 13) (Int.tmod n 4))) ∧ Below V.heap.size V w') := fun V => dbit_any m K 13 _ hK (by decide) V
  have e1 : Int.tdiv n 1024 = n / 1024 := Int.tdiv_eq_ediv_of_nonneg h0
  have e2 : Int.tdiv n 256 = n / 256 := Int.tdiv_eq_ediv_of_nonneg h0
  have hwa : IntKind.i64.wrap (Int.tdiv n 1024) = Int.tdiv n 1024 := by rw [e1]; simp [IntKind.wrap, IntKind.signed, IntKind.bits]; omega
  have hwb : IntKind.i64.wrap (Int.tdiv n 256) = Int.tdiv n 256 := by rw [e2]; simp [IntKind.wrap, IntKind.signed, IntKind.bits]; omega
  clear e1 e2
  clear hK hk h0 h1
  have hp : wr = false ∨ (wr = true ∧ ((ga : Int) == 3) = false) := by
    cases wr
    · exact .inl rfl
    · right; refine ⟨rfl, ?_⟩; simp at h; simp; omega
  clear h
  subst hm
  generalize bitB (K 7) (Int.tmod n 4) = b7 at *
  generalize bitB (K 13) (Int.tmod n 4) = b13 at *
  go_enter Tryd.func19, Tryd.ntmps19
  go_upto_region 1 with fail
  generalize (w.alloc (.cells (docC 3 K) 32)) = W at *
  go_wp2_with fail
  refine (hof _).mono ?_
  rintro e w1 ⟨rfl, hb1⟩
  have T1 : Hid (One w w1 (docC 3 K)) := T0.out.step hb1
  clear hb1 hof T0
  go_upto_region 2 with fail
  have T2 : Hid (One w (w1.alloc (.cells #[.int .i64 z0, .string s, .int .i64 z2, .int .u64 (z3 : Nat)] 46)) (docC 3 K)) := T1.out.step ((Below.refl _ _).alloc (Nat.le_refl _) _)
  generalize w1.alloc (.cells #[.int .i64 z0, .string s, .int .i64 z2, .int .u64 (z3 : Nat)] 46) = W2 at *
  have c0 : W2.cell? ⟨w.heap.size, 0, none⟩ = some (.int .i64 3) := T2.out.1.cell 0 _ rfl
  clear T1
  rcases hp with rfl | ⟨rfl, h3⟩
  all_goals
    go_upto_region 8 with fail
    (try simp only [Act.put, List.getElem_toArray, List.getElem_cons_succ, List.getElem_cons_zero, List.setIfInBounds_toArray, List.set_cons_zero, List.set_cons_succ])
    go_wp2_with fail
    go_ret
    exact ⟨rfl, T2.out.2⟩
end Go.Proofs.YtebdlefdkadhnaaDoor
