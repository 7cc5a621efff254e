/- The law TrapBack. -/
import Derived.Test.YtdljceeoofhfnaaOt
import Derived.Test.YtdljceeoofhfnaaTb
namespace Go.Proofs.Ytdljceeoofhfnaa
open Go.RowKit Go.Maps
set_option linter.unusedVariables false
set_option linter.unusedSimpArgs false
set_option maxRecDepth 100000
theorem bs (K : Nat → Nat) (j i : Int) (b : Bool) (hj : 0 ≤ j ∧ j < 64) (hi : 0 ≤ i ∧ i < 64) : isB (setK K j b) i = if i = j then b else isB K i := by
  obtain ⟨j, rfl⟩ : ∃ n : Nat, j = n := ⟨j.toNat, by omega⟩
  obtain ⟨i, rfl⟩ : ∃ n : Nat, i = n := ⟨i.toNat, by omega⟩
  rw [isB_set K j i b (by omega) (by omega)]
  by_cases h : i = j
  · rw [if_pos h, if_pos (by omega)]
  · rw [if_neg h, if_neg (by omega)]
theorem bk (K : Nat → Nat) (v : Nat) (i : Int) (hi : 0 ≤ i ∧ i < 64 ∧ (i < 11 ∨ 12 < i)) : isB (keepK K v) i = isB K i := by
  obtain ⟨i, rfl⟩ : ∃ n : Nat, i = n := ⟨i.toNat, by omega⟩
  exact isB_keep K v i (by omega) (by omega)
theorem s22 (L : Nat → Nat) (m : Int) : isB (markS L m) 22 = isB L 22 := by simp [markS, bs]
theorem s8 (L : Nat → Nat) (m : Int) : isB (markS L m) 8 = (m == 1) := by simp [markS, bs]
theorem s1 (L : Nat → Nat) (m : Int) : isB (backS (markS L m)) 1 = isB L 1 := by simp [markS, backS, bs]
theorem s3 (L : Nat → Nat) (m : Int) : isB (backS (markS L m)) 3 = isB L 3 := by simp [markS, backS, bs]
theorem m3 (L : Nat → Nat) (m : Nat) : isB (backM (markM L m)) 3 = isB L 3 := by unfold backM; split <;> simp [markM, backK, bs, bk]
theorem m1 (L : Nat → Nat) (m : Nat) : isB (backM (markM L m)) 1 = isB L 1 := by unfold backM; split <;> simp [markM, backK, bs, bk]
theorem mp (L : Nat → Nat) (m : Nat) (hm : m ≤ 3) : getN (markM L m 0) 11 2 = m := prev_keep _ _ hm
theorem isTellS (K : Nat → Nat) (c v : Nat) (i : Bool) (pc : Nat) (j : Int) : isB (tellS K c v i pc) j = isB K j := rfl
theorem isTellM (K : Nat → Nat) (c v : Nat) (i : Bool) (pc : Nat) (j : Int) : isB (tellM K c v i pc) j = isB K j := rfl
theorem beq_same (b : Bool) : (b == b) = true := by cases b <;> rfl
theorem fl_mode (m : Int) (h : m = 0 ∨ m = 1) : ((flN (m == 1) : Nat) : Int) = m := by rcases h with rfl | rfl <;> decide
set_option maxHeartbeats 4000000 in
theorem back_wrong (mo : Int) (g : Option Addr) (len cap ln : Nat) (ws : Nat → Int × Nat) (hln : ln < 18446744073709551616) (c : Int) (v : Nat) (i : Bool) (hv : v < 18446744073709551616) (pc : Nat) (hp : pc < 18446744073709551616) (hc : ¬ (0 ≤ c ∧ c < 64)) (w : World) (hws : WritesIn w (.slice g len cap) len ws) : Calls Try.prog 5 #[.agg #[.int .i64 mo, .slice g len cap, .int .u64 (ln : Nat)], .agg (tC c v i), .int .u64 (pc : Int)] w fun e w' => e = .returned (.bool true) ∧ Below w.heap.size w w' := by
  have hright : (decide (0 ≤ c) && decide (c < 64)) = false := by
    by_cases h : 0 ≤ c
    · rw [decide_eq_true h, Bool.true_and]; exact decide_eq_false (fun h2 => hc ⟨h, h2⟩)
    · rw [decide_eq_false h, Bool.false_and]
  clear hc hv hp
  have HWS : Hid (WritesIn w (.slice g len cap) len ws) := hws
  have HLN : Hid (ln < 18446744073709551616) := hln
  clear hws hln
  have A0 : Hid (Box 25 ((w.alloc (.cells #[.int .i64 mo, .slice g len cap, .int .u64 (ln : Nat)] 25)).alloc (.cells (tC c v i) 27)) w.heap.size #[.int .i64 mo, .slice g len cap, .int .u64 (ln : Nat)] ∧ Below w.heap.size w ((w.alloc (.cells #[.int .i64 mo, .slice g len cap, .int .u64 (ln : Nat)] 25)).alloc (.cells (tC c v i) 27)) ∧ Box 27 ((w.alloc (.cells #[.int .i64 mo, .slice g len cap, .int .u64 (ln : Nat)] 25)).alloc (.cells (tC c v i) 27)) (w.heap.size + 1) (tC c v i)) := start_trap w _ _
  go_enter Try.func5, Try.ntmps5
  go_upto_region 1 with fail
  generalize ((w.alloc (.cells #[.int .i64 mo, .slice g len cap, .int .u64 (ln : Nat)] 25)).alloc (.cells (tC c v i) 27)) = W at *
  go_wp2_with fail
  refine (awake_any _).mono ?_
  rintro e w1 ⟨rfl, hb1⟩
  have A1 : Hid (Box 25 w1 w.heap.size #[.int .i64 mo, .slice g len cap, .int .u64 (ln : Nat)] ∧ Below w.heap.size w w1 ∧ Box 27 w1 (w.heap.size + 1) (tC c v i)) := ⟨A0.out.1.step hb1, A0.out.2.1.trans (hb1.mono A0.out.2.1.size), A0.out.2.2.step hb1⟩
  clear hb1 A0
  go_upto_region 3 with fail
  refine wp_region_list ?_
  have a0 : w1.cell? ⟨w.heap.size, 0, none⟩ = some (.int .i64 mo) := A1.out.1.cell 0 _ rfl
  have a1 : w1.cell? ⟨w.heap.size, 1, none⟩ = some (.slice g len cap) := A1.out.1.cell 1 _ rfl
  have a2 : w1.cell? ⟨w.heap.size, 2, none⟩ = some (.int .u64 (ln : Nat)) := A1.out.1.cell 2 _ rfl
  (refine wpList_step (fun KK hKK => ?_); go_simp; refine hKK _ _ ?_; clear hKK KK)
  clear a0 a1 a2
  refine wpList_step (fun KK hKK => ?_)
  go_simp
  by_cases h : mo < 0 ∨ 3 < mo ∨ mo = 2 ∨ 40 < (len : Int)
  · refine (begun_no mo g len cap ln h _).mono ?_
    rintro e w2 ⟨rfl, hb2⟩
    have A2 : Hid (Below w.heap.size w w2 ∧ Box 27 w2 (w.heap.size + 1) (tC c v i)) := ⟨A1.out.2.1.trans (hb2.mono A1.out.2.1.size), A1.out.2.2.step hb2⟩
    clear hb2
    refine hKK _ _ ?_
    clear hKK KK
    (refine wpList_step (fun KK hKK => ?_); go_simp; refine hKK _ _ ?_; clear hKK KK)
    refine wpList_extract_at rfl _ _ _ _ rfl rfl rfl ?_
    refine wpList_extract_at rfl _ _ _ _ rfl rfl rfl ?_
    refine wpList_extract_at rfl _ _ _ _ rfl rfl rfl ?_
    refine wpList_alloc_file rfl rfl ?_
    intro W0 hW0
    have B0 : Box 31 W0 w2.heap.size zeroC := by rw [hW0]; exact Box.new _ _ _
    have L0 : Below w2.heap.size w2 W0 := by rw [hW0]; exact (Below.refl _ _).alloc (Nat.le_refl _) _
    have Z0 : W0.heap.size = w2.heap.size + 1 := by rw [hW0]; simp
    clear hW0
    refine wpList_alloc_doc rfl rfl ?_
    intro W3 hW3
    have B3 : Box 34 W3 W0.heap.size zeroD := by rw [hW3]; exact Box.new _ _ _
    have L3 : Below W0.heap.size W0 W3 := by rw [hW3]; exact (Below.refl _ _).alloc (Nat.le_refl _) _
    clear hW3
    refine wpList_store_file rfl _ _ rfl w2.heap.size 3 (fun _ => 0) zeroC rfl rfl (B0.step L3) zeroC_size ?_
    intro W4 B4 U4
    refine wpList_store_doc rfl _ _ rfl W0.heap.size 3 (fun _ => 0) zeroD rfl rfl (U4.box B3 (by omega)) zeroD_size ?_
    intro W5 B5 U5
    have X5 : Hid ((Tw w W5 w2.heap.size W0.heap.size 3 3 (fun _ => 0) (fun _ => 0)) ∧ Box 27 W5 (w.heap.size + 1) (tC c v i) ∧ w.heap.size + 1 < w2.heap.size) := by
      have l2 : Below w2.heap.size w2 W4 := (L0.trans (L3.mono L0.size)).trans (U4.below (Nat.le_refl _) (Nat.le_trans L0.size L3.size))
      have l5 : Below w2.heap.size w2 W5 := l2.trans (U5.below (by omega) l2.size)
      exact ⟨⟨U5.box B4 (by omega), B5, A2.out.1.size, by omega, A2.out.1.trans (l5.mono A2.out.1.size)⟩, A2.out.2.step l5, A2.out.2.lt⟩
    clear B0 L0 B3 L3 B4 U4 B5 U5 Z0
    generalize w2.heap.size = fb at *
    generalize W0.heap.size = db at *
    clear hright
    go_wp2_with fail
    go_ret
    exact ⟨rfl, X5.out.1.2.2.2.2⟩
  · refine (begun_yes mo g len cap ln ws (by omega) (by omega) (by omega) (by omega) HLN.out _ (HWS.out.below A1.out.2.1)).mono ?_
    rintro e w2 ⟨K, hK, rfl, hb2⟩
    have A2 : Hid (Below w.heap.size w w2 ∧ Box 27 w2 (w.heap.size + 1) (tC c v i)) := ⟨A1.out.2.1.trans (hb2.mono A1.out.2.1.size), A1.out.2.2.step hb2⟩
    clear hb2
    refine hKK _ _ ?_
    clear hKK KK
    (refine wpList_step (fun KK hKK => ?_); go_simp; refine hKK _ _ ?_; clear hKK KK)
    refine wpList_extract_at rfl _ _ _ _ rfl rfl rfl ?_
    refine wpList_extract_at rfl _ _ _ _ rfl rfl rfl ?_
    refine wpList_extract_at rfl _ _ _ _ rfl rfl rfl ?_
    refine wpList_alloc_file rfl rfl ?_
    intro W0 hW0
    have B0 : Box 31 W0 w2.heap.size zeroC := by rw [hW0]; exact Box.new _ _ _
    have L0 : Below w2.heap.size w2 W0 := by rw [hW0]; exact (Below.refl _ _).alloc (Nat.le_refl _) _
    have Z0 : W0.heap.size = w2.heap.size + 1 := by rw [hW0]; simp
    clear hW0
    refine wpList_alloc_doc rfl rfl ?_
    intro W3 hW3
    have B3 : Box 34 W3 W0.heap.size zeroD := by rw [hW3]; exact Box.new _ _ _
    have L3 : Below W0.heap.size W0 W3 := by rw [hW3]; exact (Below.refl _ _).alloc (Nat.le_refl _) _
    clear hW3
    refine wpList_store_file rfl _ _ rfl w2.heap.size mo K zeroC rfl rfl (B0.step L3) zeroC_size ?_
    intro W4 B4 U4
    refine wpList_store_doc rfl _ _ rfl W0.heap.size mo K zeroD rfl rfl (U4.box B3 (by omega)) zeroD_size ?_
    intro W5 B5 U5
    have X5 : Hid ((Tw w W5 w2.heap.size W0.heap.size mo mo K K) ∧ Box 27 W5 (w.heap.size + 1) (tC c v i) ∧ w.heap.size + 1 < w2.heap.size) := by
      have l2 : Below w2.heap.size w2 W4 := (L0.trans (L3.mono L0.size)).trans (U4.below (Nat.le_refl _) (Nat.le_trans L0.size L3.size))
      have l5 : Below w2.heap.size w2 W5 := l2.trans (U5.below (by omega) l2.size)
      exact ⟨⟨U5.box B4 (by omega), B5, A2.out.1.size, by omega, A2.out.1.trans (l5.mono A2.out.1.size)⟩, A2.out.2.step l5, A2.out.2.lt⟩
    clear B0 L0 B3 L3 B4 U4 B5 U5 Z0
    generalize w2.heap.size = fb at *
    generalize W0.heap.size = db at *
    clear hK h
    have t0 : W5.cell? ⟨w.heap.size + 1, 0, none⟩ = some (.int .i64 c) := X5.out.2.1.cell 0 _ rfl
    have t1 : W5.cell? ⟨w.heap.size + 1, 1, none⟩ = some (.int .u64 (v : Int)) := X5.out.2.1.cell 1 _ rfl
    have t2 : W5.cell? ⟨w.heap.size + 1, 2, none⟩ = some (.bool i) := X5.out.2.1.cell 2 _ rfl
    have HR : Hid (∀ V, Calls Try.prog 9 #[(.agg #[.int .i64 c, .int .u64 (v : Int), .bool i])] V fun e w' => e = .returned (.bool false) ∧ Below V.heap.size V w') := fun V => by
      have h := right_any c v i V
      rw [hright] at h
      exact h
    go_wp2_with fail
    refine (HR.out _).mono ?_
    rintro e w6 ⟨rfl, hb6⟩
    go_wp2_with fail
    go_ret
    exact ⟨rfl, (X5.out.1.step hb6).2.2.2.2⟩
set_option maxHeartbeats 8000000 in
theorem back_right (mo : Int) (g : Option Addr) (len cap ln : Nat) (ws : Nat → Int × Nat) (hln : ln < 18446744073709551616) (c : Int) (v : Nat) (i : Bool) (hv : v < 18446744073709551616) (pc : Nat) (hp : pc < 18446744073709551616) (hc : 0 ≤ c ∧ c < 64) (w : World) (hws : WritesIn w (.slice g len cap) len ws) : Calls Try.prog 5 #[.agg #[.int .i64 mo, .slice g len cap, .int .u64 (ln : Nat)], .agg (tC c v i), .int .u64 (pc : Int)] w fun e w' => e = .returned (.bool true) ∧ Below w.heap.size w w' := by
  have HWS : Hid (WritesIn w (.slice g len cap) len ws) := hws
  have HLN : Hid (ln < 18446744073709551616) := hln
  clear hws hln
  have A0 : Hid (Box 25 ((w.alloc (.cells #[.int .i64 mo, .slice g len cap, .int .u64 (ln : Nat)] 25)).alloc (.cells (tC c v i) 27)) w.heap.size #[.int .i64 mo, .slice g len cap, .int .u64 (ln : Nat)] ∧ Below w.heap.size w ((w.alloc (.cells #[.int .i64 mo, .slice g len cap, .int .u64 (ln : Nat)] 25)).alloc (.cells (tC c v i) 27)) ∧ Box 27 ((w.alloc (.cells #[.int .i64 mo, .slice g len cap, .int .u64 (ln : Nat)] 25)).alloc (.cells (tC c v i) 27)) (w.heap.size + 1) (tC c v i)) := start_trap w _ _
  go_enter Try.func5, Try.ntmps5
  go_upto_region 1 with fail
  generalize ((w.alloc (.cells #[.int .i64 mo, .slice g len cap, .int .u64 (ln : Nat)] 25)).alloc (.cells (tC c v i) 27)) = W at *
  go_wp2_with fail
  refine (awake_any _).mono ?_
  rintro e w1 ⟨rfl, hb1⟩
  have A1 : Hid (Box 25 w1 w.heap.size #[.int .i64 mo, .slice g len cap, .int .u64 (ln : Nat)] ∧ Below w.heap.size w w1 ∧ Box 27 w1 (w.heap.size + 1) (tC c v i)) := ⟨A0.out.1.step hb1, A0.out.2.1.trans (hb1.mono A0.out.2.1.size), A0.out.2.2.step hb1⟩
  clear hb1 A0
  go_upto_region 3 with fail
  refine wp_region_list ?_
  have a0 : w1.cell? ⟨w.heap.size, 0, none⟩ = some (.int .i64 mo) := A1.out.1.cell 0 _ rfl
  have a1 : w1.cell? ⟨w.heap.size, 1, none⟩ = some (.slice g len cap) := A1.out.1.cell 1 _ rfl
  have a2 : w1.cell? ⟨w.heap.size, 2, none⟩ = some (.int .u64 (ln : Nat)) := A1.out.1.cell 2 _ rfl
  (refine wpList_step (fun KK hKK => ?_); go_simp; refine hKK _ _ ?_; clear hKK KK)
  clear a0 a1 a2
  refine wpList_step (fun KK hKK => ?_)
  go_simp
  by_cases h : mo < 0 ∨ 3 < mo ∨ mo = 2 ∨ 40 < (len : Int)
  · refine (begun_no mo g len cap ln h _).mono ?_
    rintro e w2 ⟨rfl, hb2⟩
    have A2 : Hid (Below w.heap.size w w2 ∧ Box 27 w2 (w.heap.size + 1) (tC c v i)) := ⟨A1.out.2.1.trans (hb2.mono A1.out.2.1.size), A1.out.2.2.step hb2⟩
    clear hb2
    refine hKK _ _ ?_
    clear hKK KK
    (refine wpList_step (fun KK hKK => ?_); go_simp; refine hKK _ _ ?_; clear hKK KK)
    refine wpList_extract_at rfl _ _ _ _ rfl rfl rfl ?_
    refine wpList_extract_at rfl _ _ _ _ rfl rfl rfl ?_
    refine wpList_extract_at rfl _ _ _ _ rfl rfl rfl ?_
    refine wpList_alloc_file rfl rfl ?_
    intro W0 hW0
    have B0 : Box 31 W0 w2.heap.size zeroC := by rw [hW0]; exact Box.new _ _ _
    have L0 : Below w2.heap.size w2 W0 := by rw [hW0]; exact (Below.refl _ _).alloc (Nat.le_refl _) _
    have Z0 : W0.heap.size = w2.heap.size + 1 := by rw [hW0]; simp
    clear hW0
    refine wpList_alloc_doc rfl rfl ?_
    intro W3 hW3
    have B3 : Box 34 W3 W0.heap.size zeroD := by rw [hW3]; exact Box.new _ _ _
    have L3 : Below W0.heap.size W0 W3 := by rw [hW3]; exact (Below.refl _ _).alloc (Nat.le_refl _) _
    clear hW3
    refine wpList_store_file rfl _ _ rfl w2.heap.size 3 (fun _ => 0) zeroC rfl rfl (B0.step L3) zeroC_size ?_
    intro W4 B4 U4
    refine wpList_store_doc rfl _ _ rfl W0.heap.size 3 (fun _ => 0) zeroD rfl rfl (U4.box B3 (by omega)) zeroD_size ?_
    intro W5 B5 U5
    have X5 : Hid ((Tw w W5 w2.heap.size W0.heap.size 3 3 (fun _ => 0) (fun _ => 0)) ∧ Box 27 W5 (w.heap.size + 1) (tC c v i) ∧ w.heap.size + 1 < w2.heap.size) := by
      have l2 : Below w2.heap.size w2 W4 := (L0.trans (L3.mono L0.size)).trans (U4.below (Nat.le_refl _) (Nat.le_trans L0.size L3.size))
      have l5 : Below w2.heap.size w2 W5 := l2.trans (U5.below (by omega) l2.size)
      exact ⟨⟨U5.box B4 (by omega), B5, A2.out.1.size, by omega, A2.out.1.trans (l5.mono A2.out.1.size)⟩, A2.out.2.step l5, A2.out.2.lt⟩
    clear B0 L0 B3 L3 B4 U4 B5 U5 Z0
    generalize w2.heap.size = fb at *
    generalize W0.heap.size = db at *
    go_wp2_with fail
    go_ret
    exact ⟨rfl, X5.out.1.2.2.2.2⟩
  · refine (begun_yes mo g len cap ln ws (by omega) (by omega) (by omega) (by omega) HLN.out _ (HWS.out.below A1.out.2.1)).mono ?_
    rintro e w2 ⟨K, hK, rfl, hb2⟩
    have A2 : Hid (Below w.heap.size w w2 ∧ Box 27 w2 (w.heap.size + 1) (tC c v i)) := ⟨A1.out.2.1.trans (hb2.mono A1.out.2.1.size), A1.out.2.2.step hb2⟩
    clear hb2
    refine hKK _ _ ?_
    clear hKK KK
    (refine wpList_step (fun KK hKK => ?_); go_simp; refine hKK _ _ ?_; clear hKK KK)
    refine wpList_extract_at rfl _ _ _ _ rfl rfl rfl ?_
    refine wpList_extract_at rfl _ _ _ _ rfl rfl rfl ?_
    refine wpList_extract_at rfl _ _ _ _ rfl rfl rfl ?_
    refine wpList_alloc_file rfl rfl ?_
    intro W0 hW0
    have B0 : Box 31 W0 w2.heap.size zeroC := by rw [hW0]; exact Box.new _ _ _
    have L0 : Below w2.heap.size w2 W0 := by rw [hW0]; exact (Below.refl _ _).alloc (Nat.le_refl _) _
    have Z0 : W0.heap.size = w2.heap.size + 1 := by rw [hW0]; simp
    clear hW0
    refine wpList_alloc_doc rfl rfl ?_
    intro W3 hW3
    have B3 : Box 34 W3 W0.heap.size zeroD := by rw [hW3]; exact Box.new _ _ _
    have L3 : Below W0.heap.size W0 W3 := by rw [hW3]; exact (Below.refl _ _).alloc (Nat.le_refl _) _
    clear hW3
    refine wpList_store_file rfl _ _ rfl w2.heap.size mo K zeroC rfl rfl (B0.step L3) zeroC_size ?_
    intro W4 B4 U4
    refine wpList_store_doc rfl _ _ rfl W0.heap.size mo K zeroD rfl rfl (U4.box B3 (by omega)) zeroD_size ?_
    intro W5 B5 U5
    have X5 : Hid ((Tw w W5 w2.heap.size W0.heap.size mo mo K K) ∧ Box 27 W5 (w.heap.size + 1) (tC c v i) ∧ w.heap.size + 1 < w2.heap.size) := by
      have l2 : Below w2.heap.size w2 W4 := (L0.trans (L3.mono L0.size)).trans (U4.below (Nat.le_refl _) (Nat.le_trans L0.size L3.size))
      have l5 : Below w2.heap.size w2 W5 := l2.trans (U5.below (by omega) l2.size)
      exact ⟨⟨U5.box B4 (by omega), B5, A2.out.1.size, by omega, A2.out.1.trans (l5.mono A2.out.1.size)⟩, A2.out.2.step l5, A2.out.2.lt⟩
    clear B0 L0 B3 L3 B4 U4 B5 U5 Z0
    generalize w2.heap.size = fb at *
    generalize W0.heap.size = db at *
    have HQ : Hid (0 ≤ mo ∧ mo ≤ 3 ∧ mo ≠ 2) := by show 0 ≤ mo ∧ mo ≤ 3 ∧ mo ≠ 2; omega
    clear h
    obtain ⟨n, hn⟩ : ∃ n : Nat, c = n := ⟨c.toNat, by omega⟩
    have hn64 : n < 64 := by omega
    obtain ⟨q, hq⟩ : ∃ q : Nat, mo = q := ⟨mo.toNat, by have := HQ.out; omega⟩
    have hq3 : q ≤ 3 := by have := HQ.out; omega
    have HD : Hid (∀ V, Box 31 V fb (fileC mo K) → Calls Try.prog 10 #[.pointer (some ⟨fb, 0, none⟩), (.agg #[.int .i64 c, .int .u64 (v : Int), .bool i])] V fun e w' => e = .returned (.bool (delB mo K n i)) ∧ Below V.heap.size V w') := fun V hV => by rw [hn]; exact deleg_any mo K n v i fb hK V hV
    have HI3 : Hid (∀ V, Box 31 V fb (fileC mo K) → Calls Try.prog 19 #[.pointer (some ⟨fb, 0, none⟩), .int .i64 3] V fun e w' => e = .returned (.bool (isB K 3)) ∧ Below V.heap.size V w') := fun V hV => isb_any mo K 3 fb hK V hV
    have HI1 : Hid (∀ V, Box 31 V fb (fileC mo K) → Calls Try.prog 19 #[.pointer (some ⟨fb, 0, none⟩), .int .i64 1] V fun e w' => e = .returned (.bool (isB K 1)) ∧ Below V.heap.size V w') := fun V hV => isb_any mo K 1 fb hK V hV
    have HI22 : Hid (∀ V, Box 31 V fb (fileC mo K) → Calls Try.prog 19 #[.pointer (some ⟨fb, 0, none⟩), .int .i64 22] V fun e w' => e = .returned (.bool (isB K 22)) ∧ Below V.heap.size V w') := fun V hV => isb_any mo K 22 fb hK V hV
    have hlow := andNot_low pc hp
    have HS : Hid (delB mo K n i = true → isB K 22 = false → ∃ K1, (∀ V, Box 31 V fb (fileC mo K) → Calls Try.prog 13 #[.pointer (some ⟨fb, 0, none⟩), (.agg #[.int .i64 c, .int .u64 (v : Int), .bool i]), .int .u64 (pc : Int)] V fun e w' => (∃ y : Nat, e = .returned (.int .u64 (y : Int))) ∧ Box 31 w' fb (fileC 1 K1) ∧ Upon fb V w') ∧ ∃ K2, (∀ V, Box 31 V fb (fileC 1 K1) → Calls Try.prog 15 #[.pointer (some ⟨fb, 0, none⟩)] V fun e w' => e = .returned (.tuple #[.int .u64 (lowN pc : Nat), .bool true]) ∧ Box 31 w' fb (fileC mo K2) ∧ Upon fb V w') ∧ (∀ V, Box 31 V fb (fileC mo K2) → Calls Try.prog 19 #[.pointer (some ⟨fb, 0, none⟩), .int .i64 1] V fun e w' => e = .returned (.bool (isB K 1)) ∧ Below V.heap.size V w') ∧ ∀ V, Box 31 V fb (fileC mo K2) → Calls Try.prog 19 #[.pointer (some ⟨fb, 0, none⟩), .int .i64 3] V fun e w' => e = .returned (.bool (isB K 3)) ∧ Below V.heap.size V w') := fun hd ht => by
      have hm01 : mo = 0 ∨ mo = 1 := by
        have hlt : mo < 3 := by
          unfold delB at hd
          by_cases h : mo < 3
          · exact h
          · rw [decide_eq_false h, Bool.false_and] at hd; cases hd
        have := HQ.out; omega
      have hL := tellS_ok hK n v i pc hn64 hv hp
      refine ⟨markS (tellS K n v i pc) mo, fun V hV => ?_, backS (markS (tellS K n v i pc) mo), fun V hV => ?_, fun V hV => ?_, fun V hV => ?_⟩
      · rw [hn]
        rw [hq] at hV hd ⊢
        refine (enter_yes q hq3 K n v i pc fb hK hn64 hv hp hd V hV).mono ?_
        rintro e w' ⟨rfl, h1, h2⟩
        exact ⟨⟨_, rfl⟩, h1, h2⟩
      · have h := sret_yes1 (markS (tellS K n v i pc) mo) fb (markS_ok hL mo) (by rw [s22, isTellS]; exact ht) V hV
        rw [s8, fl_mode mo hm01] at h
        exact h
      · have h := isb_any mo (backS (markS (tellS K n v i pc) mo)) 1 fb (backS_ok (markS_ok hL mo)) V hV
        rw [s1, isTellS] at h
        exact h
      · have h := isb_any mo (backS (markS (tellS K n v i pc) mo)) 3 fb (backS_ok (markS_ok hL mo)) V hV
        rw [s3, isTellS] at h
        exact h
    have HM : Hid (delB mo K n i = false → ∃ K1, (∀ V, Box 31 V fb (fileC mo K) → Calls Try.prog 13 #[.pointer (some ⟨fb, 0, none⟩), (.agg #[.int .i64 c, .int .u64 (v : Int), .bool i]), .int .u64 (pc : Int)] V fun e w' => (∃ y : Nat, e = .returned (.int .u64 (y : Int))) ∧ Box 31 w' fb (fileC 3 K1) ∧ Upon fb V w') ∧ ∃ K2, (∀ V, Box 31 V fb (fileC 3 K1) → Calls Try.prog 17 #[.pointer (some ⟨fb, 0, none⟩)] V fun e w' => e = .returned (.tuple #[.int .u64 (lowN pc : Nat), .bool true]) ∧ Box 31 w' fb (fileC mo K2) ∧ Upon fb V w') ∧ (∀ V, Box 31 V fb (fileC mo K2) → Calls Try.prog 19 #[.pointer (some ⟨fb, 0, none⟩), .int .i64 1] V fun e w' => e = .returned (.bool (isB K 1)) ∧ Below V.heap.size V w') ∧ ∀ V, Box 31 V fb (fileC mo K2) → Calls Try.prog 19 #[.pointer (some ⟨fb, 0, none⟩), .int .i64 3] V fun e w' => e = .returned (.bool (isB K 3)) ∧ Below V.heap.size V w') := fun hd => by
      have hL := tellM_ok hK n v i pc hn64 hv hp
      refine ⟨markM (tellM K n v i pc) q, fun V hV => ?_, backM (markM (tellM K n v i pc) q), fun V hV => ?_, fun V hV => ?_, fun V hV => ?_⟩
      · rw [hn]
        rw [hq] at hV hd
        refine (enter_no q hq3 K n v i pc fb hK hn64 hv hp hd V hV).mono ?_
        rintro e w' ⟨rfl, h1, h2⟩
        exact ⟨⟨_, rfl⟩, h1, h2⟩
      · have h := mret_yes (markM (tellM K n v i pc) q) fb (markM_ok hL q) V hV
        rw [mp _ q hq3, ← hq] at h
        exact h
      · have h := isb_any mo (backM (markM (tellM K n v i pc) q)) 1 fb (backM_ok (markM_ok hL q)) V hV
        rw [m1, isTellM] at h
        exact h
      · have h := isb_any mo (backM (markM (tellM K n v i pc) q)) 3 fb (backM_ok (markM_ok hL q)) V hV
        rw [m3, isTellM] at h
        exact h
    generalize delB mo K n i = dl at *
    generalize isB K 3 = mie at *
    generalize isB K 1 = sie at *
    generalize isB K 22 = tsr at *
    generalize lowN pc = lp at *
    clear hn hn64 hq hq3 hv hp hK
    have t0 : W5.cell? ⟨w.heap.size + 1, 0, none⟩ = some (.int .i64 c) := X5.out.2.1.cell 0 _ rfl
    have t1 : W5.cell? ⟨w.heap.size + 1, 1, none⟩ = some (.int .u64 (v : Int)) := X5.out.2.1.cell 1 _ rfl
    have t2 : W5.cell? ⟨w.heap.size + 1, 2, none⟩ = some (.bool i) := X5.out.2.1.cell 2 _ rfl
    have HR : Hid (∀ V, Calls Try.prog 9 #[(.agg #[.int .i64 c, .int .u64 (v : Int), .bool i])] V fun e w' => e = .returned (.bool true) ∧ Below V.heap.size V w') := fun V => by
      have h := right_any c v i V
      rw [decide_eq_true hc.1, decide_eq_true hc.2] at h
      exact h
    go_wp2_with fail
    refine (HR.out _).mono ?_
    rintro e w6 ⟨rfl, hb6⟩
    have X6 : Hid (Tt w w6 fb db mo mo K K c v i) := Tt.step X5.out hb6
    clear hb6 HR hc t0 t1 t2
    go_upto_region 6 with fail
    have X6d : Hid (Tt w w6.drew fb db mo mo K K c v i) := X6.out.step (below_drew1 _)
    refine wp_region_held_drew (S := fun V => V.cell? ⟨fb, 0, none⟩ = some (.int .i64 mo)) (by kernel_rfl) (X6d.out.1.1.cell 0 _ rfl) ?_
    intro hS
    refine wpAnyH_take (i := 0) (v := ?_) rfl (by kernel_rfl) (by kernel_rfl) (by kernel_rfl) (fun _ _ _ h => h) (Or.inl ⟨by kernel_rfl, ?_⟩) hS ?_
    rotate_left
    · intro w hSw; (try dsimp only at hSw); go_simp; try (with_reducible rfl)
    (try simp only [Act.put, List.getElem_toArray, List.getElem_cons_succ, List.getElem_cons_zero, List.setIfInBounds_toArray, List.set_cons_zero, List.set_cons_succ])
    refine wpAnyH_take (i := 1) (v := ?_) rfl (by kernel_rfl) (by kernel_rfl) (by kernel_rfl) (fun _ _ _ h => h) (Or.inl ⟨by kernel_rfl, ?_⟩) hS ?_
    rotate_left
    · intro w hSw; (try dsimp only at hSw); go_simp; try (with_reducible rfl)
    (try simp only [Act.put, List.getElem_toArray, List.getElem_cons_succ, List.getElem_cons_zero, List.setIfInBounds_toArray, List.set_cons_zero, List.set_cons_succ])
    refine wpAnyH_ready (rs := [2]) (by kernel_rfl) (by simp) ?_
    refine AllReadyH.cons rfl (fun K1 hK1 => ?_) AllReadyH.nil
    go_simp
    refine (HI3.out _ X6d.out.1.1).mono ?_
    rintro e w7 ⟨rfl, hb7⟩
    have X7 : Hid (Tt w w7 fb db mo mo K K c v i) := X6d.out.step hb7
    clear hb7
    refine hK1.out _ _ (X7.out.1.1.cell 0 _ rfl) (fun hS2 => ?_)
    clear hK1 K1 hS
    (try simp only [Act.put, List.getElem_toArray, List.getElem_cons_succ, List.getElem_cons_zero, List.setIfInBounds_toArray, List.set_cons_zero, List.set_cons_succ])
    refine wpAnyH_ready (rs := [3]) (by kernel_rfl) (by simp) ?_
    refine AllReadyH.cons rfl (fun K1 hK1 => ?_) AllReadyH.nil
    go_simp
    refine (HI1.out _ X7.out.1.1).mono ?_
    rintro e w8 ⟨rfl, hb8⟩
    have X8 : Hid (Tt w w8 fb db mo mo K K c v i) := X7.out.step hb8
    clear hb8
    refine hK1.out _ _ (X8.out.1.1.cell 0 _ rfl) (fun hS3 => ?_)
    clear hK1 K1 hS2
    (try simp only [Act.put, List.getElem_toArray, List.getElem_cons_succ, List.getElem_cons_zero, List.setIfInBounds_toArray, List.set_cons_zero, List.set_cons_succ])
    refine wpAnyH_take (i := 4) (v := ?_) rfl (by kernel_rfl) (by kernel_rfl) (by kernel_rfl) (fun _ _ _ h => h) (Or.inl ⟨by kernel_rfl, ?_⟩) hS3 ?_
    rotate_left
    · intro w hSw; (try dsimp only at hSw); go_simp; try (with_reducible rfl)
    (try simp only [Act.put, List.getElem_toArray, List.getElem_cons_succ, List.getElem_cons_zero, List.setIfInBounds_toArray, List.set_cons_zero, List.set_cons_succ])
    refine wpAnyH_take (i := 5) (v := ?_) rfl (by kernel_rfl) (by kernel_rfl) (by kernel_rfl) (fun _ _ _ h => h) (Or.inl ⟨by kernel_rfl, ?_⟩) hS3 ?_
    rotate_left
    · intro w hSw; (try dsimp only at hSw); go_simp; try (with_reducible rfl)
    (try simp only [Act.put, List.getElem_toArray, List.getElem_cons_succ, List.getElem_cons_zero, List.setIfInBounds_toArray, List.set_cons_zero, List.set_cons_succ])
    refine wpAnyH_take (i := 6) (v := ?_) rfl (by kernel_rfl) (by kernel_rfl) (by kernel_rfl) (fun _ _ _ h => h) (Or.inl ⟨by kernel_rfl, ?_⟩) hS3 ?_
    rotate_left
    · intro w hSw; (try dsimp only at hSw); go_simp; try (with_reducible rfl)
    (try simp only [Act.put, List.getElem_toArray, List.getElem_cons_succ, List.getElem_cons_zero, List.setIfInBounds_toArray, List.set_cons_zero, List.set_cons_succ])
    refine wpAnyH_done (by kernel_rfl) ?_ _
    clear hS3 X6 X6d X7 X5
    have t0 : w8.cell? ⟨w.heap.size + 1, 0, none⟩ = some (.int .i64 c) := X8.out.2.1.cell 0 _ rfl
    have t1 : w8.cell? ⟨w.heap.size + 1, 1, none⟩ = some (.int .u64 (v : Int)) := X8.out.2.1.cell 1 _ rfl
    have t2 : w8.cell? ⟨w.heap.size + 1, 2, none⟩ = some (.bool i) := X8.out.2.1.cell 2 _ rfl
    go_wp2_with fail
    refine (HD.out _ X8.out.1.1).mono ?_
    rintro e w9 ⟨rfl, hb9⟩
    have X9 : Hid (Tt w w9 fb db mo mo K K c v i) := X8.out.step hb9
    clear hb9 t0 t1 t2
    cases dl
    · obtain ⟨K1, HE, K2, HB, HJ1, HJ3⟩ := HM.out (by first | rfl | trivial)
      have t0 : w9.cell? ⟨w.heap.size + 1, 0, none⟩ = some (.int .i64 c) := X9.out.2.1.cell 0 _ rfl
      have t1 : w9.cell? ⟨w.heap.size + 1, 1, none⟩ = some (.int .u64 (v : Int)) := X9.out.2.1.cell 1 _ rfl
      have t2 : w9.cell? ⟨w.heap.size + 1, 2, none⟩ = some (.bool i) := X9.out.2.1.cell 2 _ rfl
      go_wp2_with fail
      refine (HE _ X9.out.1.1).mono ?_
      rintro e w11 ⟨⟨y, rfl⟩, hB11, hU11⟩
      have X11 : Hid (Tt w w11 fb db 3 mo K1 K c v i) := X9.out.file hB11 hU11
      clear hB11 hU11 t0 t1 t2 HE
      go_wp2_with fail
      refine (HB _ X11.out.1.1).mono ?_
      rintro e w12 ⟨rfl, hB12, hU12⟩
      have X12 : Hid (Tt w w12 fb db mo mo K2 K c v i) := X11.out.file hB12 hU12
      clear hB12 hU12 HB
      have n0 : w12.cell? ⟨fb, 0, none⟩ = some (.int .i64 mo) := X12.out.1.1.cell 0 _ rfl
      go_wp2_with fail
      refine (HJ3 _ X12.out.1.1).mono ?_
      rintro e w13 ⟨rfl, hb13⟩
      have X13 : Hid (Tt w w13 fb db mo mo K2 K c v i) := X12.out.step hb13
      clear hb13 n0
      go_wp2_with fail
      refine (HJ1 _ X13.out.1.1).mono ?_
      rintro e w14 ⟨rfl, hb14⟩
      go_wp2_with fail
      go_ret
      exact ⟨ret_bool (by first | rfl | simp), (X13.out.step hb14).1.2.2.2.2⟩
    · go_wp2_with fail
      refine (HI22.out _ X9.out.1.1).mono ?_
      rintro e w10 ⟨rfl, hb10⟩
      have X10 : Hid (Tt w w10 fb db mo mo K K c v i) := X9.out.step hb10
      clear hb10
      cases tsr
      · obtain ⟨K1, HE, K2, HB, HJ1, HJ3⟩ := HS.out (by first | rfl | trivial) (by first | rfl | trivial)
        have t0 : w10.cell? ⟨w.heap.size + 1, 0, none⟩ = some (.int .i64 c) := X10.out.2.1.cell 0 _ rfl
        have t1 : w10.cell? ⟨w.heap.size + 1, 1, none⟩ = some (.int .u64 (v : Int)) := X10.out.2.1.cell 1 _ rfl
        have t2 : w10.cell? ⟨w.heap.size + 1, 2, none⟩ = some (.bool i) := X10.out.2.1.cell 2 _ rfl
        go_wp2_with fail
        refine (HE _ X10.out.1.1).mono ?_
        rintro e w11 ⟨⟨y, rfl⟩, hB11, hU11⟩
        have X11 : Hid (Tt w w11 fb db 1 mo K1 K c v i) := X10.out.file hB11 hU11
        clear hB11 hU11 t0 t1 t2 HE
        go_wp2_with fail
        refine (HB _ X11.out.1.1).mono ?_
        rintro e w12 ⟨rfl, hB12, hU12⟩
        have X12 : Hid (Tt w w12 fb db mo mo K2 K c v i) := X11.out.file hB12 hU12
        clear hB12 hU12 HB
        have n0 : w12.cell? ⟨fb, 0, none⟩ = some (.int .i64 mo) := X12.out.1.1.cell 0 _ rfl
        go_wp2_with fail
        refine (HJ1 _ X12.out.1.1).mono ?_
        rintro e w13 ⟨rfl, hb13⟩
        have X13 : Hid (Tt w w13 fb db mo mo K2 K c v i) := X12.out.step hb13
        clear hb13 n0
        go_wp2_with fail
        refine (HJ3 _ X13.out.1.1).mono ?_
        rintro e w14 ⟨rfl, hb14⟩
        go_wp2_with fail
        go_ret
        exact ⟨ret_bool (by first | rfl | simp), (X13.out.step hb14).1.2.2.2.2⟩
      · go_wp2_with fail
        go_ret
        exact ⟨rfl, X10.out.1.2.2.2.2⟩
theorem back_core (mo : Int) (g : Option Addr) (len cap ln : Nat) (ws : Nat → Int × Nat) (hln : ln < 18446744073709551616) (c : Int) (v : Nat) (i : Bool) (hv : v < 18446744073709551616) (pc : Nat) (hp : pc < 18446744073709551616) (w : World) (hws : WritesIn w (.slice g len cap) len ws) : Calls Try.prog 5 #[.agg #[.int .i64 mo, .slice g len cap, .int .u64 (ln : Nat)], .agg (tC c v i), .int .u64 (pc : Int)] w fun e w' => e = .returned (.bool true) ∧ Below w.heap.size w w' := by
  by_cases hc : 0 ≤ c ∧ c < 64
  · exact back_right mo g len cap ln ws hln c v i hv pc hp hc w hws
  · exact back_wrong mo g len cap ln ws hln c v i hv pc hp hc w hws
end Go.Proofs.Ytdljceeoofhfnaa
