/- The document's call May of layer 8. -/
import Derived.Test.YtebdlefdkadhnaaDoorHi
import Derived.Test.YtebdlefdkadhnaaDoorDRd
namespace Go.Proofs.YtebdlefdkadhnaaDoor
open Go.RowKit Go.Maps
set_option linter.unusedVariables false
set_option linter.unusedSimpArgs false
set_option maxRecDepth 100000
/-- what is asked of a register that is known -/
def askB (m : Int) (K : Nat → Nat) (n : Int) (ga gb : Nat) (wr : Bool) : Bool := !((wr && decide (ga = 3)) || decide (m < gb) || (decide (n = 384) && decide (m = 1) && bitB (K 0) 20) || (decide (3072 ≤ n) && decide (n ≤ 3074) && hidesB m K (Int.tmod n 4)))
set_option maxHeartbeats 4000000 in
theorem dm_only (m : Int) (K : Nat → Nat) (n : Int) (ga gb : Nat) (wr : Bool) (hK : Ok K) (h0 : 0 ≤ n) (h1 : n ≤ 3860) (hk : knownB n = true) (hga : Int.tmod (Int.tdiv n 1024) 4 = ga) (hgb : Int.tmod (Int.tdiv n 256) 4 = gb) (h : (wr && decide (ga = 3)) = true) (w : World) : Calls Tryd.prog 19 #[.agg (docC m K), .int .i64 n, .bool wr] w fun e w' => e = .returned (.bool false) ∧ Below w.heap.size w w' := by
  have T0 : Hid (One w (w.alloc (.cells (docC m K) 32)) (docC m K)) := One.new w _
  have hof := fun V => of_any n V
  unfold rowC at hof
  rw [hk] at hof
  generalize dN (ix n) = z0 at *
  generalize dName (ix n) = s at *
  generalize dAt (ix n) = z2 at *
  generalize dMask (ix n) = z3 at *
  have HB0 : Hid (∀ V, Calls Tryd.prog 34 #[.agg (docC m K), .int .i64 0, .int .i64 20] V fun e w' => e = .returned (.bool (bitB (K 0) 20)) ∧ Below V.heap.size V w') := fun V => dbit_any m K 0 20 hK (by decide) V
  have HB7 : Hid (∀ V, Calls Tryd.prog 34 #[.agg (docC m K), .int .i64 7, .int .i64 (Int.tmod n 4)] V fun e w' => e = .returned (.bool (bitB (K 7) (Int.tmod n 4))) ∧ Below V.heap.size V w') := fun V => dbit_any m K 7 _ hK (by decide) V
  have HB13 : Hid (∀ V, Calls Tryd.prog 34 #[.agg (docC m K), .int .i64 13, .int .i64 (Int.tmod n 4)] V fun e w' => e = .returned (.bool (bitB (K 13) (Int.tmod n 4))) ∧ Below V.heap.size V w') := fun V => dbit_any m K 13 _ hK (by decide) V
  have e1 : Int.tdiv n 1024 = n / 1024 := Int.tdiv_eq_ediv_of_nonneg h0
  have e2 : Int.tdiv n 256 = n / 256 := Int.tdiv_eq_ediv_of_nonneg h0
  have hwa : IntKind.i64.wrap (Int.tdiv n 1024) = Int.tdiv n 1024 := by rw [e1]; simp [IntKind.wrap, IntKind.signed, IntKind.bits]; omega
  have hwb : IntKind.i64.wrap (Int.tdiv n 256) = Int.tdiv n 256 := by rw [e2]; simp [IntKind.wrap, IntKind.signed, IntKind.bits]; omega
  clear e1 e2
  clear hK hk h0 h1
  have hw : wr = true := by cases wr; simp at h; rfl
  have hg3 : ga = 3 := by cases wr; simp at h; simpa using h
  have hg4 : Int.tmod (Int.tdiv n 1024) 4 = 3 := by rw [hga, hg3]; rfl
  subst hw
  clear h hg3 hga
  go_enter Tryd.func19, Tryd.ntmps19
  go_upto_region 1 with fail
  generalize (w.alloc (.cells (docC m K) 32)) = W at *
  go_wp2_with fail
  refine (hof _).mono ?_
  rintro e w1 ⟨rfl, hb1⟩
  have T1 : Hid (One w w1 (docC m K)) := T0.out.step hb1
  clear hb1 hof T0
  go_upto_region 2 with fail
  have T2 : Hid (One w (w1.alloc (.cells #[.int .i64 z0, .string s, .int .i64 z2, .int .u64 (z3 : Nat)] 46)) (docC m K)) := T1.out.step ((Below.refl _ _).alloc (Nat.le_refl _) _)
  generalize w1.alloc (.cells #[.int .i64 z0, .string s, .int .i64 z2, .int .u64 (z3 : Nat)] 46) = W2 at *
  have c0 : W2.cell? ⟨w.heap.size, 0, none⟩ = some (.int .i64 m) := T2.out.1.cell 0 _ rfl
  clear T1
  go_wp2_with fail
  go_ret
  exact ⟨rfl, T2.out.2⟩
set_option maxHeartbeats 4000000 in
theorem dm_below (m : Int) (K : Nat → Nat) (n : Int) (ga gb : Nat) (wr : Bool) (hK : Ok K) (h0 : 0 ≤ n) (h1 : n ≤ 3860) (hk : knownB n = true) (hga : Int.tmod (Int.tdiv n 1024) 4 = ga) (hgb : Int.tmod (Int.tdiv n 256) 4 = gb) (h : (wr && decide (ga = 3)) = false) (hb : m < (gb : Int)) (w : World) : Calls Tryd.prog 19 #[.agg (docC m K), .int .i64 n, .bool wr] w fun e w' => e = .returned (.bool false) ∧ Below w.heap.size w w' := by
  have T0 : Hid (One w (w.alloc (.cells (docC m K) 32)) (docC m K)) := One.new w _
  have hof := fun V => of_any n V
  unfold rowC at hof
  rw [hk] at hof
  generalize dN (ix n) = z0 at *
  generalize dName (ix n) = s at *
  generalize dAt (ix n) = z2 at *
  generalize dMask (ix n) = z3 at *
  have HB0 : Hid (∀ V, Calls Tryd.prog 34 #[.agg (docC m K), .int .i64 0, .int .i64 20] V fun e w' => e = .returned (.bool (bitB (K 0) 20)) ∧ Below V.heap.size V w') := fun V => dbit_any m K 0 20 hK (by decide) V
  have HB7 : Hid (∀ V, Calls Tryd.prog 34 #[.agg (docC m K), .int .i64 7, .int .i64 (Int.tmod n 4)] V fun e w' => e = .returned (.bool (bitB (K 7) (Int.tmod n 4))) ∧ Below V.heap.size V w') := fun V => dbit_any m K 7 _ hK (by decide) V
  have HB13 : Hid (∀ V, Calls Tryd.prog 34 #[.agg (docC m K), .int .i64 13, .int .i64 (Int.tmod n 4)] V fun e w' => e = .returned (.bool (bitB (K 13) (Int.tmod n 4))) ∧ Below V.heap.size V w') := fun V => dbit_any m K 13 _ hK (by decide) V
  have e1 : Int.tdiv n 1024 = n / 1024 := Int.tdiv_eq_ediv_of_nonneg h0
  have e2 : Int.tdiv n 256 = n / 256 := Int.tdiv_eq_ediv_of_nonneg h0
  have hwa : IntKind.i64.wrap (Int.tdiv n 1024) = Int.tdiv n 1024 := by rw [e1]; simp [IntKind.wrap, IntKind.signed, IntKind.bits]; omega
  have hwb : IntKind.i64.wrap (Int.tdiv n 256) = Int.tdiv n 256 := by rw [e2]; simp [IntKind.wrap, IntKind.signed, IntKind.bits]; omega
  clear e1 e2
  clear hK hk h0 h1
  have hp : wr = false ∨ (wr = true ∧ ((ga : Int) == 3) = false) := by
    cases wr
    · exact .inl rfl
    · right; refine ⟨rfl, ?_⟩; simp at h; simp; omega
  clear h
  go_enter Tryd.func19, Tryd.ntmps19
  go_upto_region 1 with fail
  generalize (w.alloc (.cells (docC m K) 32)) = W at *
  go_wp2_with fail
  refine (hof _).mono ?_
  rintro e w1 ⟨rfl, hb1⟩
  have T1 : Hid (One w w1 (docC m K)) := T0.out.step hb1
  clear hb1 hof T0
  go_upto_region 2 with fail
  have T2 : Hid (One w (w1.alloc (.cells #[.int .i64 z0, .string s, .int .i64 z2, .int .u64 (z3 : Nat)] 46)) (docC m K)) := T1.out.step ((Below.refl _ _).alloc (Nat.le_refl _) _)
  generalize w1.alloc (.cells #[.int .i64 z0, .string s, .int .i64 z2, .int .u64 (z3 : Nat)] 46) = W2 at *
  have c0 : W2.cell? ⟨w.heap.size, 0, none⟩ = some (.int .i64 m) := T2.out.1.cell 0 _ rfl
  clear T1
  rcases hp with rfl | ⟨rfl, h3⟩
  all_goals
    go_wp2_with fail
    go_ret
    exact ⟨rfl, T2.out.2⟩
set_option maxHeartbeats 4000000 in
theorem dm_satp (m : Int) (K : Nat → Nat) (n : Int) (ga gb : Nat) (wr : Bool) (hK : Ok K) (h0 : 0 ≤ n) (h1 : n ≤ 3860) (hk : knownB n = true) (hga : Int.tmod (Int.tdiv n 1024) 4 = ga) (hgb : Int.tmod (Int.tdiv n 256) 4 = gb) (h : (wr && decide (ga = 3)) = false) (hb : ¬ m < (gb : Int)) (hn : n = 384) (hm : m = 1) (w : World) : Calls Tryd.prog 19 #[.agg (docC m K), .int .i64 n, .bool wr] w fun e w' => e = .returned (.bool (!bitB (K 0) 20)) ∧ Below w.heap.size w w' := by
  have T0 : Hid (One w (w.alloc (.cells (docC m K) 32)) (docC m K)) := One.new w _
  have hof := fun V => of_any n V
  unfold rowC at hof
  rw [hk] at hof
  generalize dN (ix n) = z0 at *
  generalize dName (ix n) = s at *
  generalize dAt (ix n) = z2 at *
  generalize dMask (ix n) = z3 at *
  have HB0 : Hid (∀ V, Calls Tryd.prog 34 #[.agg (docC m K), .int .i64 0, .int .i64 20] V fun e w' => e = .returned (.bool (bitB (K 0) 20)) ∧ Below V.heap.size V w') := fun V => dbit_any m K 0 20 hK (by decide) V
  have HB7 : Hid (∀ V, Calls Tryd.prog 34 #[.agg (docC m K), .int .i64 7, .int .i64 (Int.tmod n 4)] V fun e w' => e = .returned (.bool (bitB (K 7) (Int.tmod n 4))) ∧ Below V.heap.size V w') := fun V => dbit_any m K 7 _ hK (by decide) V
  have HB13 : Hid (∀ V, Calls Tryd.prog 34 #[.agg (docC m K), .int .i64 13, .int .i64 (Int.tmod n 4)] V fun e w' => e = .returned (.bool (bitB (K 13) (Int.tmod n 4))) ∧ Below V.heap.size V w') := fun V => dbit_any m K 13 _ hK (by decide) V
  have e1 : Int.tdiv n 1024 = n / 1024 := Int.tdiv_eq_ediv_of_nonneg h0
  have e2 : Int.tdiv n 256 = n / 256 := Int.tdiv_eq_ediv_of_nonneg h0
  have hwa : IntKind.i64.wrap (Int.tdiv n 1024) = Int.tdiv n 1024 := by rw [e1]; simp [IntKind.wrap, IntKind.signed, IntKind.bits]; omega
  have hwb : IntKind.i64.wrap (Int.tdiv n 256) = Int.tdiv n 256 := by rw [e2]; simp [IntKind.wrap, IntKind.signed, IntKind.bits]; omega
  clear e1 e2
  clear hK hk h0 h1
  have hp : wr = false ∨ (wr = true ∧ ((ga : Int) == 3) = false) := by
    cases wr
    · exact .inl rfl
    · right; refine ⟨rfl, ?_⟩; simp at h; simp; omega
  clear h
  subst hn hm
  generalize bitB (K 0) 20 = b20 at *
  go_enter Tryd.func19, Tryd.ntmps19
  go_upto_region 1 with fail
  generalize (w.alloc (.cells (docC 1 K) 32)) = W at *
  go_wp2_with fail
  refine (hof _).mono ?_
  rintro e w1 ⟨rfl, hb1⟩
  have T1 : Hid (One w w1 (docC 1 K)) := T0.out.step hb1
  clear hb1 hof T0
  go_upto_region 2 with fail
  have T2 : Hid (One w (w1.alloc (.cells #[.int .i64 z0, .string s, .int .i64 z2, .int .u64 (z3 : Nat)] 46)) (docC 1 K)) := T1.out.step ((Below.refl _ _).alloc (Nat.le_refl _) _)
  generalize w1.alloc (.cells #[.int .i64 z0, .string s, .int .i64 z2, .int .u64 (z3 : Nat)] 46) = W2 at *
  have c0 : W2.cell? ⟨w.heap.size, 0, none⟩ = some (.int .i64 1) := T2.out.1.cell 0 _ rfl
  clear T1
  rcases hp with rfl | ⟨rfl, h3⟩
  all_goals
    go_upto_region 4 with fail
    refine wp_region_list ?_
    iterate 24 (refine wpList_step (fun KK hKK => ?_); go_simp; refine hKK _ _ ?_; clear hKK KK)
    refine wpList_load_docG (by first | rfl | kernel_rfl) _ rfl w.heap.size 1 K rfl T2.out.1 ?_
    refine wpList_step (fun KK hKK => ?_)
    go_simp
    refine (HB0.out _).mono ?_
    rintro e w3 ⟨rfl, hbb⟩
    have T3 : Hid (One w w3 (docC 1 K)) := T2.out.step hbb
    clear hbb
    cases b20
    · refine hKK _ _ ?_
      clear hKK
      go_wp2_with fail
      go_ret
      exact ⟨rfl, T3.out.2⟩
    · refine hKK _ _ ?_
      clear hKK
      go_wp2_with fail
      go_ret
      exact ⟨rfl, T3.out.2⟩
set_option maxHeartbeats 4000000 in
theorem dm_hi (m : Int) (K : Nat → Nat) (n : Int) (ga gb : Nat) (wr : Bool) (hK : Ok K) (h0 : 0 ≤ n) (h1 : n ≤ 3860) (hk : knownB n = true) (hga : Int.tmod (Int.tdiv n 1024) 4 = ga) (hgb : Int.tmod (Int.tdiv n 256) 4 = gb) (h : (wr && decide (ga = 3)) = false) (hb : ¬ m < (gb : Int)) (hn : (n == 384) = false) (hl : ¬ n < 3072) (hh : 3074 < n) (w : World) : Calls Tryd.prog 19 #[.agg (docC m K), .int .i64 n, .bool wr] w fun e w' => e = .returned (.bool true) ∧ Below w.heap.size w w' := by
  have T0 : Hid (One w (w.alloc (.cells (docC m K) 32)) (docC m K)) := One.new w _
  have hof := fun V => of_any n V
  unfold rowC at hof
  rw [hk] at hof
  generalize dN (ix n) = z0 at *
  generalize dName (ix n) = s at *
  generalize dAt (ix n) = z2 at *
  generalize dMask (ix n) = z3 at *
  have HB0 : Hid (∀ V, Calls Tryd.prog 34 #[.agg (docC m K), .int .i64 0, .int .i64 20] V fun e w' => e = .returned (.bool (bitB (K 0) 20)) ∧ Below V.heap.size V w') := fun V => dbit_any m K 0 20 hK (by decide) V
  have HB7 : Hid (∀ V, Calls Tryd.prog 34 #[.agg (docC m K), .int .i64 7, .int .i64 (Int.tmod n 4)] V fun e w' => e = .returned (.bool (bitB (K 7) (Int.tmod n 4))) ∧ Below V.heap.size V w') := fun V => dbit_any m K 7 _ hK (by decide) V
  have HB13 : Hid (∀ V, Calls Tryd.prog 34 #[.agg (docC m K), .int .i64 13, .int .i64 (Int.tmod n 4)] V fun e w' => e = .returned (.bool (bitB (K 13) (Int.tmod n 4))) ∧ Below V.heap.size V w') := fun V => dbit_any m K 13 _ hK (by decide) V
  have e1 : Int.tdiv n 1024 = n / 1024 := Int.tdiv_eq_ediv_of_nonneg h0
  have e2 : Int.tdiv n 256 = n / 256 := Int.tdiv_eq_ediv_of_nonneg h0
  have hwa : IntKind.i64.wrap (Int.tdiv n 1024) = Int.tdiv n 1024 := by rw [e1]; simp [IntKind.wrap, IntKind.signed, IntKind.bits]; omega
  have hwb : IntKind.i64.wrap (Int.tdiv n 256) = Int.tdiv n 256 := by rw [e2]; simp [IntKind.wrap, IntKind.signed, IntKind.bits]; omega
  clear e1 e2
  clear hK hk h0 h1
  have hp : wr = false ∨ (wr = true ∧ ((ga : Int) == 3) = false) := by
    cases wr
    · exact .inl rfl
    · right; refine ⟨rfl, ?_⟩; simp at h; simp; omega
  clear h
  go_enter Tryd.func19, Tryd.ntmps19
  go_upto_region 1 with fail
  generalize (w.alloc (.cells (docC m K) 32)) = W at *
  go_wp2_with fail
  refine (hof _).mono ?_
  rintro e w1 ⟨rfl, hb1⟩
  have T1 : Hid (One w w1 (docC m K)) := T0.out.step hb1
  clear hb1 hof T0
  go_upto_region 2 with fail
  have T2 : Hid (One w (w1.alloc (.cells #[.int .i64 z0, .string s, .int .i64 z2, .int .u64 (z3 : Nat)] 46)) (docC m K)) := T1.out.step ((Below.refl _ _).alloc (Nat.le_refl _) _)
  generalize w1.alloc (.cells #[.int .i64 z0, .string s, .int .i64 z2, .int .u64 (z3 : Nat)] 46) = W2 at *
  have c0 : W2.cell? ⟨w.heap.size, 0, none⟩ = some (.int .i64 m) := T2.out.1.cell 0 _ rfl
  clear T1
  rcases hp with rfl | ⟨rfl, h3⟩
  all_goals
    go_wp2_with fail
    go_ret
    exact ⟨rfl, T2.out.2⟩
set_option maxHeartbeats 2000000 in
theorem dm_none (m : Int) (K : Nat → Nat) (n : Int) (wr : Bool) (hk : knownB n = false) (w : World) : Calls Tryd.prog 19 #[.agg (docC m K), .int .i64 n, .bool wr] w fun e w' => e = .returned (.bool false) ∧ Below w.heap.size w w' := by
  have T0 : Hid (One w (w.alloc (.cells (docC m K) 32)) (docC m K)) := One.new w _
  have hof := fun V => of_any n V
  unfold rowC at hof
  rw [hk] at hof
  generalize dN (ix n) = z0 at *
  generalize dName (ix n) = s at *
  generalize dAt (ix n) = z2 at *
  generalize dMask (ix n) = z3 at *
  clear hk
  go_enter Tryd.func19, Tryd.ntmps19
  go_upto_region 1 with fail
  generalize (w.alloc (.cells (docC m K) 32)) = W at *
  go_wp2_with fail
  refine (hof _).mono ?_
  rintro e w1 ⟨rfl, hb1⟩
  have T1 : Hid (One w w1 (docC m K)) := T0.out.step hb1
  clear hb1 hof
  go_wp2_with fail
  go_ret
  exact ⟨rfl, (T1.out.step ((Below.refl _ _).alloc (Nat.le_refl _) _)).2⟩
end Go.Proofs.YtebdlefdkadhnaaDoor
