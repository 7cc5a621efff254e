/- The law TrapEnters. -/
import Derived.Test.YtdljceeoofhfnaaOt
import Derived.Test.YtdljceeoofhfnaaSa
import Derived.Test.YtdljceeoofhfnaaDe
import Derived.Test.YtdljceeoofhfnaaDf
import Derived.Test.YtdljceeoofhfnaaDg
import Derived.Test.YtdljceeoofhfnaaDh
namespace Go.Proofs.Ytdljceeoofhfnaa
open Go.RowKit Go.Maps
set_option linter.unusedVariables false
set_option linter.unusedSimpArgs false
set_option maxRecDepth 100000
theorem load_tC {w : World} {b : Nat} {c : Int} {v : Nat} {i : Bool} (h : Box 27 w b (tC c v i)) : (loadVar 27 ⟨b, 0, none⟩).run Try.prog w = .ok (.agg (tC c v i)) w := run_loadVar_row w b 27 27 _ (0, 0) _ h Try.underlying27 rfl info27
theorem yield_tC {w : World} {o : Oper} {a : Act} {b : Nat} {c : Int} {v : Nat} {i : Bool} (hw : Box 27 w b (tC c v i)) (x : Operand) (hop : o.op = Op.load 27 x) (hx : a.eval x = .pointer (some ⟨b, 0, none⟩)) : (execOp a.eval o).run Try.prog w = .ok (.value (.agg (tC c v i))) w := by
  simp only [execOp, hop, hx, Instr.loadAt, Instr.sureAddr, Sem.run_bind, Sem.run_pure, Result.andThen_ok, load_tC hw]
section
variable {w : World} {ops : Array Oper} {rest : List Oper} {o : Oper} {a : Act} {Q : Exit → Act → World → Prop}
theorem wpList_load_tC (hg : o.guard = none) (x : Operand) (ho : o.op = .load 27 x) (b : Nat) (c : Int) (v : Nat) (i : Bool) (hx : a.eval x = .pointer (some ⟨b, 0, none⟩)) (hb : Box 27 w b (tC c v i))
    (h : wpList Try.prog ops Q rest (a.put o.dst (.agg (tC c v i))) w) : wpList Try.prog ops Q (o :: rest) a w :=
  wpList_load_row hg 27 x ho b hx 27 _ (0, 0) _ hb Try.underlying27 rfl info27 h
theorem wpList_load_tCG (hw : Region.wanted o (yielded ops a.tmps) = true) (x : Operand) (ho : o.op = .load 27 x) (b : Nat) (c : Int) (v : Nat) (i : Bool) (hx : a.eval x = .pointer (some ⟨b, 0, none⟩)) (hb : Box 27 w b (tC c v i))
    (h : wpList Try.prog ops Q rest (a.put o.dst (.agg (tC c v i))) w) : wpList Try.prog ops Q (o :: rest) a w :=
  wpList_want hw fun KK hKK => wp_load_row 27 x ho b hx 27 _ (0, 0) _ hb Try.underlying27 rfl info27 (hKK _ _ h)
end
theorem enter_both (mo : Int) (h : 0 ≤ mo ∧ mo ≤ 3 ∧ mo ≠ 2) (K : Nat → Nat) (hK : Ok K) (c v : Nat) (i : Bool) (pc : Nat) (hc : c < 64) (hv : v < 18446744073709551616) (hp : pc < 18446744073709551616) (fb : Nat) : ∃ (m2 : Int) (K2 : Nat → Nat) (y : Nat),
    (∀ V, Box 31 V fb (fileC mo K) → Calls Try.prog 13 #[.pointer (some ⟨fb, 0, none⟩), .agg (tC (c : Int) v i), .int .u64 (pc : Int)] V fun e w' => e = .returned (.int .u64 (y : Int)) ∧ Box 31 w' fb (fileC m2 K2) ∧ Upon fb V w') ∧
    ∀ V, Calls Try.prog 14 #[.agg (docC mo K), .agg (tC (c : Int) v i), .int .u64 (pc : Int)] V fun e w' => e = .returned (.tuple #[.agg (docC m2 K2), .int .u64 (y : Int)]) ∧ Below V.heap.size V w' := by
  obtain ⟨m, rfl⟩ : ∃ m : Nat, mo = m := ⟨mo.toNat, by omega⟩
  have hm : m ≤ 3 := by omega
  cases hd : delB m K c i
  · refine ⟨_, _, _, fun V hV => enter_no m hm K c v i pc fb hK hc hv hp hd V hV, fun V => ?_⟩
    cases i
    · exact denter_false_false m hm K c v pc hK hc hv hp hd V
    · exact denter_false_true m hm K c v pc hK hc hv hp hd V
  · refine ⟨_, _, _, fun V hV => enter_yes m hm K c v i pc fb hK hc hv hp hd V hV, fun V => ?_⟩
    cases i
    · exact denter_true_false m hm K c v pc hK hc hv hp hd V
    · exact denter_true_true m hm K c v pc hK hc hv hp hd V
set_option maxHeartbeats 4000000 in
theorem enters_wrong (mo : Int) (g : Option Addr) (len cap ln : Nat) (ws : Nat → Int × Nat) (hln : ln < 18446744073709551616) (c : Int) (v : Nat) (i : Bool) (hv : v < 18446744073709551616) (pc : Nat) (hp : pc < 18446744073709551616) (hc : ¬ (0 ≤ c ∧ c < 64)) (w : World) (hws : WritesIn w (.slice g len cap) len ws) : Calls Try.prog 3 #[.agg #[.int .i64 mo, .slice g len cap, .int .u64 (ln : Nat)], .agg (tC c v i), .int .u64 (pc : Int)] w fun e w' => e = .returned (.bool true) ∧ Below w.heap.size w w' := by
  have hright : (decide (0 ≤ c) && decide (c < 64)) = false := by
    by_cases h : 0 ≤ c
    · rw [decide_eq_true h, Bool.true_and]; exact decide_eq_false (fun h2 => hc ⟨h, h2⟩)
    · rw [decide_eq_false h, Bool.false_and]
  clear hc hv hp
  have HWS : Hid (WritesIn w (.slice g len cap) len ws) := hws
  have HLN : Hid (ln < 18446744073709551616) := hln
  clear hws hln
  have A0 : Hid (Box 25 ((w.alloc (.cells #[.int .i64 mo, .slice g len cap, .int .u64 (ln : Nat)] 25)).alloc (.cells (tC c v i) 27)) w.heap.size #[.int .i64 mo, .slice g len cap, .int .u64 (ln : Nat)] ∧ Below w.heap.size w ((w.alloc (.cells #[.int .i64 mo, .slice g len cap, .int .u64 (ln : Nat)] 25)).alloc (.cells (tC c v i) 27)) ∧ Box 27 ((w.alloc (.cells #[.int .i64 mo, .slice g len cap, .int .u64 (ln : Nat)] 25)).alloc (.cells (tC c v i) 27)) (w.heap.size + 1) (tC c v i)) := start_trap w _ _
  go_enter Try.func3, Try.ntmps3
  go_upto_region 1 with fail
  generalize ((w.alloc (.cells #[.int .i64 mo, .slice g len cap, .int .u64 (ln : Nat)] 25)).alloc (.cells (tC c v i) 27)) = W at *
  go_wp2_with fail
  refine (awake_any _).mono ?_
  rintro e w1 ⟨rfl, hb1⟩
  have A1 : Hid (Box 25 w1 w.heap.size #[.int .i64 mo, .slice g len cap, .int .u64 (ln : Nat)] ∧ Below w.heap.size w w1 ∧ Box 27 w1 (w.heap.size + 1) (tC c v i)) := ⟨A0.out.1.step hb1, A0.out.2.1.trans (hb1.mono A0.out.2.1.size), A0.out.2.2.step hb1⟩
  clear hb1 A0
  go_upto_region 3 with fail
  refine wp_region_list ?_
  have a0 : w1.cell? ⟨w.heap.size, 0, none⟩ = some (.int .i64 mo) := A1.out.1.cell 0 _ rfl
  have a1 : w1.cell? ⟨w.heap.size, 1, none⟩ = some (.slice g len cap) := A1.out.1.cell 1 _ rfl
  have a2 : w1.cell? ⟨w.heap.size, 2, none⟩ = some (.int .u64 (ln : Nat)) := A1.out.1.cell 2 _ rfl
  (refine wpList_step (fun KK hKK => ?_); go_simp; refine hKK _ _ ?_; clear hKK KK)
  clear a0 a1 a2
  refine wpList_step (fun KK hKK => ?_)
  go_simp
  by_cases h : mo < 0 ∨ 3 < mo ∨ mo = 2 ∨ 40 < (len : Int)
  · refine (begun_no mo g len cap ln h _).mono ?_
    rintro e w2 ⟨rfl, hb2⟩
    have A2 : Hid (Below w.heap.size w w2 ∧ Box 27 w2 (w.heap.size + 1) (tC c v i)) := ⟨A1.out.2.1.trans (hb2.mono A1.out.2.1.size), A1.out.2.2.step hb2⟩
    clear hb2
    refine hKK _ _ ?_
    clear hKK KK
    (refine wpList_step (fun KK hKK => ?_); go_simp; refine hKK _ _ ?_; clear hKK KK)
    refine wpList_extract_at rfl _ _ _ _ rfl rfl rfl ?_
    refine wpList_extract_at rfl _ _ _ _ rfl rfl rfl ?_
    refine wpList_extract_at rfl _ _ _ _ rfl rfl rfl ?_
    refine wpList_alloc_file rfl rfl ?_
    intro W0 hW0
    have B0 : Box 31 W0 w2.heap.size zeroC := by rw [hW0]; exact Box.new _ _ _
    have L0 : Below w2.heap.size w2 W0 := by rw [hW0]; exact (Below.refl _ _).alloc (Nat.le_refl _) _
    have Z0 : W0.heap.size = w2.heap.size + 1 := by rw [hW0]; simp
    clear hW0
    refine wpList_alloc_doc rfl rfl ?_
    intro W3 hW3
    have B3 : Box 34 W3 W0.heap.size zeroD := by rw [hW3]; exact Box.new _ _ _
    have L3 : Below W0.heap.size W0 W3 := by rw [hW3]; exact (Below.refl _ _).alloc (Nat.le_refl _) _
    clear hW3
    refine wpList_store_file rfl _ _ rfl w2.heap.size 3 (fun _ => 0) zeroC rfl rfl (B0.step L3) zeroC_size ?_
    intro W4 B4 U4
    refine wpList_store_doc rfl _ _ rfl W0.heap.size 3 (fun _ => 0) zeroD rfl rfl (U4.box B3 (by omega)) zeroD_size ?_
    intro W5 B5 U5
    have X5 : Hid ((Tw w W5 w2.heap.size W0.heap.size 3 3 (fun _ => 0) (fun _ => 0)) ∧ Box 27 W5 (w.heap.size + 1) (tC c v i) ∧ w.heap.size + 1 < w2.heap.size) := by
      have l2 : Below w2.heap.size w2 W4 := (L0.trans (L3.mono L0.size)).trans (U4.below (Nat.le_refl _) (Nat.le_trans L0.size L3.size))
      have l5 : Below w2.heap.size w2 W5 := l2.trans (U5.below (by omega) l2.size)
      exact ⟨⟨U5.box B4 (by omega), B5, A2.out.1.size, by omega, A2.out.1.trans (l5.mono A2.out.1.size)⟩, A2.out.2.step l5, A2.out.2.lt⟩
    clear B0 L0 B3 L3 B4 U4 B5 U5 Z0
    generalize w2.heap.size = fb at *
    generalize W0.heap.size = db at *
    clear hright
    go_wp2_with fail
    go_ret
    exact ⟨rfl, X5.out.1.2.2.2.2⟩
  · refine (begun_yes mo g len cap ln ws (by omega) (by omega) (by omega) (by omega) HLN.out _ (HWS.out.below A1.out.2.1)).mono ?_
    rintro e w2 ⟨K, hK, rfl, hb2⟩
    have A2 : Hid (Below w.heap.size w w2 ∧ Box 27 w2 (w.heap.size + 1) (tC c v i)) := ⟨A1.out.2.1.trans (hb2.mono A1.out.2.1.size), A1.out.2.2.step hb2⟩
    clear hb2
    refine hKK _ _ ?_
    clear hKK KK
    (refine wpList_step (fun KK hKK => ?_); go_simp; refine hKK _ _ ?_; clear hKK KK)
    refine wpList_extract_at rfl _ _ _ _ rfl rfl rfl ?_
    refine wpList_extract_at rfl _ _ _ _ rfl rfl rfl ?_
    refine wpList_extract_at rfl _ _ _ _ rfl rfl rfl ?_
    refine wpList_alloc_file rfl rfl ?_
    intro W0 hW0
    have B0 : Box 31 W0 w2.heap.size zeroC := by rw [hW0]; exact Box.new _ _ _
    have L0 : Below w2.heap.size w2 W0 := by rw [hW0]; exact (Below.refl _ _).alloc (Nat.le_refl _) _
    have Z0 : W0.heap.size = w2.heap.size + 1 := by rw [hW0]; simp
    clear hW0
    refine wpList_alloc_doc rfl rfl ?_
    intro W3 hW3
    have B3 : Box 34 W3 W0.heap.size zeroD := by rw [hW3]; exact Box.new _ _ _
    have L3 : Below W0.heap.size W0 W3 := by rw [hW3]; exact (Below.refl _ _).alloc (Nat.le_refl _) _
    clear hW3
    refine wpList_store_file rfl _ _ rfl w2.heap.size mo K zeroC rfl rfl (B0.step L3) zeroC_size ?_
    intro W4 B4 U4
    refine wpList_store_doc rfl _ _ rfl W0.heap.size mo K zeroD rfl rfl (U4.box B3 (by omega)) zeroD_size ?_
    intro W5 B5 U5
    have X5 : Hid ((Tw w W5 w2.heap.size W0.heap.size mo mo K K) ∧ Box 27 W5 (w.heap.size + 1) (tC c v i) ∧ w.heap.size + 1 < w2.heap.size) := by
      have l2 : Below w2.heap.size w2 W4 := (L0.trans (L3.mono L0.size)).trans (U4.below (Nat.le_refl _) (Nat.le_trans L0.size L3.size))
      have l5 : Below w2.heap.size w2 W5 := l2.trans (U5.below (by omega) l2.size)
      exact ⟨⟨U5.box B4 (by omega), B5, A2.out.1.size, by omega, A2.out.1.trans (l5.mono A2.out.1.size)⟩, A2.out.2.step l5, A2.out.2.lt⟩
    clear B0 L0 B3 L3 B4 U4 B5 U5 Z0
    generalize w2.heap.size = fb at *
    generalize W0.heap.size = db at *
    clear hK h
    have HR : Hid (∀ V, Calls Try.prog 9 #[(.agg (tC c v i))] V fun e w' => e = .returned (.bool false) ∧ Below V.heap.size V w') := fun V => by
      have h := right_any c v i V
      rw [hright] at h
      exact h
    go_upto_region 4 with fail
    refine wp_region_list ?_
    iterate 3 (refine wpList_step (fun KK hKK => ?_); go_simp; refine hKK _ _ ?_; clear hKK KK)
    refine wpList_load_tCG (by first | rfl | kernel_rfl) _ rfl _ c v i rfl X5.out.2.1 ?_
    go_wp2_with fail
    refine (HR.out _).mono ?_
    rintro e w6 ⟨rfl, hb6⟩
    go_wp2_with fail
    go_ret
    exact ⟨rfl, (X5.out.1.step hb6).2.2.2.2⟩
set_option maxHeartbeats 8000000 in
theorem enters_right (mo : Int) (g : Option Addr) (len cap ln : Nat) (ws : Nat → Int × Nat) (hln : ln < 18446744073709551616) (c : Int) (v : Nat) (i : Bool) (hv : v < 18446744073709551616) (pc : Nat) (hp : pc < 18446744073709551616) (hc : 0 ≤ c ∧ c < 64) (w : World) (hws : WritesIn w (.slice g len cap) len ws) : Calls Try.prog 3 #[.agg #[.int .i64 mo, .slice g len cap, .int .u64 (ln : Nat)], .agg (tC c v i), .int .u64 (pc : Int)] w fun e w' => e = .returned (.bool true) ∧ Below w.heap.size w w' := by
  have HWS : Hid (WritesIn w (.slice g len cap) len ws) := hws
  have HLN : Hid (ln < 18446744073709551616) := hln
  clear hws hln
  have A0 : Hid (Box 25 ((w.alloc (.cells #[.int .i64 mo, .slice g len cap, .int .u64 (ln : Nat)] 25)).alloc (.cells (tC c v i) 27)) w.heap.size #[.int .i64 mo, .slice g len cap, .int .u64 (ln : Nat)] ∧ Below w.heap.size w ((w.alloc (.cells #[.int .i64 mo, .slice g len cap, .int .u64 (ln : Nat)] 25)).alloc (.cells (tC c v i) 27)) ∧ Box 27 ((w.alloc (.cells #[.int .i64 mo, .slice g len cap, .int .u64 (ln : Nat)] 25)).alloc (.cells (tC c v i) 27)) (w.heap.size + 1) (tC c v i)) := start_trap w _ _
  go_enter Try.func3, Try.ntmps3
  go_upto_region 1 with fail
  generalize ((w.alloc (.cells #[.int .i64 mo, .slice g len cap, .int .u64 (ln : Nat)] 25)).alloc (.cells (tC c v i) 27)) = W at *
  go_wp2_with fail
  refine (awake_any _).mono ?_
  rintro e w1 ⟨rfl, hb1⟩
  have A1 : Hid (Box 25 w1 w.heap.size #[.int .i64 mo, .slice g len cap, .int .u64 (ln : Nat)] ∧ Below w.heap.size w w1 ∧ Box 27 w1 (w.heap.size + 1) (tC c v i)) := ⟨A0.out.1.step hb1, A0.out.2.1.trans (hb1.mono A0.out.2.1.size), A0.out.2.2.step hb1⟩
  clear hb1 A0
  go_upto_region 3 with fail
  refine wp_region_list ?_
  have a0 : w1.cell? ⟨w.heap.size, 0, none⟩ = some (.int .i64 mo) := A1.out.1.cell 0 _ rfl
  have a1 : w1.cell? ⟨w.heap.size, 1, none⟩ = some (.slice g len cap) := A1.out.1.cell 1 _ rfl
  have a2 : w1.cell? ⟨w.heap.size, 2, none⟩ = some (.int .u64 (ln : Nat)) := A1.out.1.cell 2 _ rfl
  (refine wpList_step (fun KK hKK => ?_); go_simp; refine hKK _ _ ?_; clear hKK KK)
  clear a0 a1 a2
  refine wpList_step (fun KK hKK => ?_)
  go_simp
  by_cases h : mo < 0 ∨ 3 < mo ∨ mo = 2 ∨ 40 < (len : Int)
  · refine (begun_no mo g len cap ln h _).mono ?_
    rintro e w2 ⟨rfl, hb2⟩
    have A2 : Hid (Below w.heap.size w w2 ∧ Box 27 w2 (w.heap.size + 1) (tC c v i)) := ⟨A1.out.2.1.trans (hb2.mono A1.out.2.1.size), A1.out.2.2.step hb2⟩
    clear hb2
    refine hKK _ _ ?_
    clear hKK KK
    (refine wpList_step (fun KK hKK => ?_); go_simp; refine hKK _ _ ?_; clear hKK KK)
    refine wpList_extract_at rfl _ _ _ _ rfl rfl rfl ?_
    refine wpList_extract_at rfl _ _ _ _ rfl rfl rfl ?_
    refine wpList_extract_at rfl _ _ _ _ rfl rfl rfl ?_
    refine wpList_alloc_file rfl rfl ?_
    intro W0 hW0
    have B0 : Box 31 W0 w2.heap.size zeroC := by rw [hW0]; exact Box.new _ _ _
    have L0 : Below w2.heap.size w2 W0 := by rw [hW0]; exact (Below.refl _ _).alloc (Nat.le_refl _) _
    have Z0 : W0.heap.size = w2.heap.size + 1 := by rw [hW0]; simp
    clear hW0
    refine wpList_alloc_doc rfl rfl ?_
    intro W3 hW3
    have B3 : Box 34 W3 W0.heap.size zeroD := by rw [hW3]; exact Box.new _ _ _
    have L3 : Below W0.heap.size W0 W3 := by rw [hW3]; exact (Below.refl _ _).alloc (Nat.le_refl _) _
    clear hW3
    refine wpList_store_file rfl _ _ rfl w2.heap.size 3 (fun _ => 0) zeroC rfl rfl (B0.step L3) zeroC_size ?_
    intro W4 B4 U4
    refine wpList_store_doc rfl _ _ rfl W0.heap.size 3 (fun _ => 0) zeroD rfl rfl (U4.box B3 (by omega)) zeroD_size ?_
    intro W5 B5 U5
    have X5 : Hid ((Tw w W5 w2.heap.size W0.heap.size 3 3 (fun _ => 0) (fun _ => 0)) ∧ Box 27 W5 (w.heap.size + 1) (tC c v i) ∧ w.heap.size + 1 < w2.heap.size) := by
      have l2 : Below w2.heap.size w2 W4 := (L0.trans (L3.mono L0.size)).trans (U4.below (Nat.le_refl _) (Nat.le_trans L0.size L3.size))
      have l5 : Below w2.heap.size w2 W5 := l2.trans (U5.below (by omega) l2.size)
      exact ⟨⟨U5.box B4 (by omega), B5, A2.out.1.size, by omega, A2.out.1.trans (l5.mono A2.out.1.size)⟩, A2.out.2.step l5, A2.out.2.lt⟩
    clear B0 L0 B3 L3 B4 U4 B5 U5 Z0
    generalize w2.heap.size = fb at *
    generalize W0.heap.size = db at *
    go_wp2_with fail
    go_ret
    exact ⟨rfl, X5.out.1.2.2.2.2⟩
  · refine (begun_yes mo g len cap ln ws (by omega) (by omega) (by omega) (by omega) HLN.out _ (HWS.out.below A1.out.2.1)).mono ?_
    rintro e w2 ⟨K, hK, rfl, hb2⟩
    have A2 : Hid (Below w.heap.size w w2 ∧ Box 27 w2 (w.heap.size + 1) (tC c v i)) := ⟨A1.out.2.1.trans (hb2.mono A1.out.2.1.size), A1.out.2.2.step hb2⟩
    clear hb2
    refine hKK _ _ ?_
    clear hKK KK
    (refine wpList_step (fun KK hKK => ?_); go_simp; refine hKK _ _ ?_; clear hKK KK)
    refine wpList_extract_at rfl _ _ _ _ rfl rfl rfl ?_
    refine wpList_extract_at rfl _ _ _ _ rfl rfl rfl ?_
    refine wpList_extract_at rfl _ _ _ _ rfl rfl rfl ?_
    refine wpList_alloc_file rfl rfl ?_
    intro W0 hW0
    have B0 : Box 31 W0 w2.heap.size zeroC := by rw [hW0]; exact Box.new _ _ _
    have L0 : Below w2.heap.size w2 W0 := by rw [hW0]; exact (Below.refl _ _).alloc (Nat.le_refl _) _
    have Z0 : W0.heap.size = w2.heap.size + 1 := by rw [hW0]; simp
    clear hW0
    refine wpList_alloc_doc rfl rfl ?_
    intro W3 hW3
    have B3 : Box 34 W3 W0.heap.size zeroD := by rw [hW3]; exact Box.new _ _ _
    have L3 : Below W0.heap.size W0 W3 := by rw [hW3]; exact (Below.refl _ _).alloc (Nat.le_refl _) _
    clear hW3
    refine wpList_store_file rfl _ _ rfl w2.heap.size mo K zeroC rfl rfl (B0.step L3) zeroC_size ?_
    intro W4 B4 U4
    refine wpList_store_doc rfl _ _ rfl W0.heap.size mo K zeroD rfl rfl (U4.box B3 (by omega)) zeroD_size ?_
    intro W5 B5 U5
    have X5 : Hid ((Tw w W5 w2.heap.size W0.heap.size mo mo K K) ∧ Box 27 W5 (w.heap.size + 1) (tC c v i) ∧ w.heap.size + 1 < w2.heap.size) := by
      have l2 : Below w2.heap.size w2 W4 := (L0.trans (L3.mono L0.size)).trans (U4.below (Nat.le_refl _) (Nat.le_trans L0.size L3.size))
      have l5 : Below w2.heap.size w2 W5 := l2.trans (U5.below (by omega) l2.size)
      exact ⟨⟨U5.box B4 (by omega), B5, A2.out.1.size, by omega, A2.out.1.trans (l5.mono A2.out.1.size)⟩, A2.out.2.step l5, A2.out.2.lt⟩
    clear B0 L0 B3 L3 B4 U4 B5 U5 Z0
    generalize w2.heap.size = fb at *
    generalize W0.heap.size = db at *
    have HQ : Hid (0 ≤ mo ∧ mo ≤ 3 ∧ mo ≠ 2) := by show 0 ≤ mo ∧ mo ≤ 3 ∧ mo ≠ 2; omega
    clear h
    obtain ⟨n, hn⟩ : ∃ n : Nat, c = n := ⟨c.toNat, by omega⟩
    have hn64 : n < 64 := by omega
    obtain ⟨m2, K2, y, HE, HDE⟩ : ∃ (m2 : Int) (K2 : Nat → Nat) (y : Nat), Hid (∀ V, Box 31 V fb (fileC mo K) → Calls Try.prog 13 #[.pointer (some ⟨fb, 0, none⟩), .agg (tC c v i), .int .u64 (pc : Int)] V fun e w' => e = .returned (.int .u64 (y : Int)) ∧ Box 31 w' fb (fileC m2 K2) ∧ Upon fb V w') ∧ Hid (∀ V, Calls Try.prog 14 #[.agg (docC mo K), .agg (tC c v i), .int .u64 (pc : Int)] V fun e w' => e = .returned (.tuple #[.agg (docC m2 K2), .int .u64 (y : Int)]) ∧ Below V.heap.size V w') := by
      rw [hn]
      exact enter_both mo HQ.out K hK n v i pc hn64 hv hp fb
    have HD : Hid (∀ V, Box 31 V fb (fileC mo K) → Calls Try.prog 10 #[.pointer (some ⟨fb, 0, none⟩), .agg (tC c v i)] V fun e w' => e = .returned (.bool (delB mo K n i)) ∧ Below V.heap.size V w') := fun V hV => by rw [hn]; exact deleg_any mo K n v i fb hK V hV
    have HDD : Hid (∀ V, Calls Try.prog 11 #[.agg (docC mo K), .agg (tC c v i)] V fun e w' => e = .returned (.bool (delB mo K n i)) ∧ Below V.heap.size V w') := fun V => by rw [hn]; exact ddel_any mo HQ.out.2.1 K n v i hK V
    generalize delB mo K n i = dl at *
    clear hn hn64 hv hp hK HQ
    have HR : Hid (∀ V, Calls Try.prog 9 #[(.agg (tC c v i))] V fun e w' => e = .returned (.bool true) ∧ Below V.heap.size V w') := fun V => by
      have h := right_any c v i V
      rw [decide_eq_true hc.1, decide_eq_true hc.2] at h
      exact h
    go_upto_region 4 with fail
    refine wp_region_list ?_
    iterate 3 (refine wpList_step (fun KK hKK => ?_); go_simp; refine hKK _ _ ?_; clear hKK KK)
    refine wpList_load_tCG (by first | rfl | kernel_rfl) _ rfl _ c v i rfl X5.out.2.1 ?_
    go_wp2_with fail
    refine (HR.out _).mono ?_
    rintro e w6 ⟨rfl, hb6⟩
    have X6 : Hid (Tt w w6 fb db mo mo K K c v i) := Tt.step X5.out hb6
    clear hb6 HR hc
    go_upto_region 6 with fail
    have X6d : Hid (Tt w w6.drew fb db mo mo K K c v i) := X6.out.step (below_drew1 _)
    refine wp_region_held_drew (S := fun V => Box 27 V (w.heap.size + 1) (tC c v i) ∧ Box 31 V fb (fileC mo K) ∧ Box 34 V db (docC mo K)) (by kernel_rfl) ⟨X6d.out.2.1, X6d.out.1.1, X6d.out.1.2.1⟩ ?_
    intro hS
    refine wpAnyH_take (i := 0) (v := .agg (tC c v i)) rfl (by kernel_rfl) (by kernel_rfl) (by kernel_rfl) (fun _ _ _ h => h) (Or.inl ⟨by kernel_rfl, fun V hV => yield_tC hV.1 _ rfl rfl⟩) hS ?_
    (try simp only [Act.put, List.getElem_toArray, List.getElem_cons_succ, List.getElem_cons_zero, List.setIfInBounds_toArray, List.set_cons_zero, List.set_cons_succ])
    refine wpAnyH_take (i := 2) (v := .agg (docC mo K)) rfl (by kernel_rfl) (by kernel_rfl) (by kernel_rfl) (fun _ _ _ h => h) (Or.inl ⟨by kernel_rfl, fun V hV => yield_docB hV.2.2 _ rfl rfl⟩) hS ?_
    (try simp only [Act.put, List.getElem_toArray, List.getElem_cons_succ, List.getElem_cons_zero, List.setIfInBounds_toArray, List.set_cons_zero, List.set_cons_succ])
    refine wpAnyH_take (i := 3) (v := .agg (tC c v i)) rfl (by kernel_rfl) (by kernel_rfl) (by kernel_rfl) (fun _ _ _ h => h) (Or.inl ⟨by kernel_rfl, fun V hV => yield_tC hV.1 _ rfl rfl⟩) hS ?_
    (try simp only [Act.put, List.getElem_toArray, List.getElem_cons_succ, List.getElem_cons_zero, List.setIfInBounds_toArray, List.set_cons_zero, List.set_cons_succ])
    refine wpAnyH_ready (rs := [1]) (by kernel_rfl) (by simp) ?_
    refine AllReadyH.cons rfl (fun K1 hK1 => ?_) AllReadyH.nil
    go_simp
    refine (HD.out _ X6d.out.1.1).mono ?_
    rintro e w7 ⟨rfl, hb⟩
    have X7 : Hid (Tt w w7 fb db mo mo K K c v i) := X6d.out.step hb
    clear hb
    refine hK1.out _ _ ⟨X7.out.2.1, X7.out.1.1, X7.out.1.2.1⟩ (fun hS2 => ?_)
    clear hK1 K1 hS
    (try simp only [Act.put, List.getElem_toArray, List.getElem_cons_succ, List.getElem_cons_zero, List.setIfInBounds_toArray, List.set_cons_zero, List.set_cons_succ])
    refine wpAnyH_ready (rs := [4]) (by kernel_rfl) (by simp) ?_
    refine AllReadyH.cons rfl (fun K1 hK1 => ?_) AllReadyH.nil
    go_simp
    refine (HDD.out _).mono ?_
    rintro e w8 ⟨rfl, hb⟩
    have X8 : Hid (Tt w w8 fb db mo mo K K c v i) := X7.out.step hb
    clear hb
    refine hK1.out _ _ ⟨X8.out.2.1, X8.out.1.1, X8.out.1.2.1⟩ (fun hS3 => ?_)
    clear hK1 K1 hS2
    (try simp only [Act.put, List.getElem_toArray, List.getElem_cons_succ, List.getElem_cons_zero, List.setIfInBounds_toArray, List.set_cons_zero, List.set_cons_succ])
    refine wpAnyH_take (i := 5) (v := ?_) rfl (by kernel_rfl) (by kernel_rfl) (by kernel_rfl) (fun _ _ _ h => h) (Or.inl ⟨by kernel_rfl, ?_⟩) hS3 ?_
    rotate_left
    · intro w hSw; (try dsimp only at hSw); go_simp; try (with_reducible rfl)
    (try simp only [Act.put, List.getElem_toArray, List.getElem_cons_succ, List.getElem_cons_zero, List.setIfInBounds_toArray, List.set_cons_zero, List.set_cons_succ])
    refine wpAnyH_take (i := 6) (v := ?_) rfl (by kernel_rfl) (by kernel_rfl) (by kernel_rfl) (fun _ _ _ h => h) (Or.inl ⟨by kernel_rfl, ?_⟩) hS3 ?_
    rotate_left
    · intro w hSw; (try dsimp only at hSw); go_simp; try (with_reducible rfl)
    (try simp only [Act.put, List.getElem_toArray, List.getElem_cons_succ, List.getElem_cons_zero, List.setIfInBounds_toArray, List.set_cons_zero, List.set_cons_succ])
    refine wpAnyH_take (i := 7) (v := .agg (fileC mo K)) rfl (by kernel_rfl) (by kernel_rfl) (by kernel_rfl) (fun _ _ _ h => h) (Or.inl ⟨by kernel_rfl, fun V hV => yield_file hV.2.1 _ rfl rfl⟩) hS3 ?_
    (try simp only [Act.put, List.getElem_toArray, List.getElem_cons_succ, List.getElem_cons_zero, List.setIfInBounds_toArray, List.set_cons_zero, List.set_cons_succ])
    refine wpAnyH_take (i := 8) (v := .agg (docC mo K)) rfl (by kernel_rfl) (by kernel_rfl) (by kernel_rfl) (fun _ _ _ h => h) (Or.inl ⟨by kernel_rfl, fun V hV => yield_docB hV.2.2 _ rfl rfl⟩) hS3 ?_
    (try simp only [Act.put, List.getElem_toArray, List.getElem_cons_succ, List.getElem_cons_zero, List.setIfInBounds_toArray, List.set_cons_zero, List.set_cons_succ])
    refine wpAnyH_ready (rs := [9]) (by kernel_rfl) (by simp) ?_
    refine AllReadyH.cons rfl (fun K1 hK1 => ?_) AllReadyH.nil
    go_simp
    refine (same_any mo K _).mono ?_
    rintro e w9 ⟨rfl, hb⟩
    have X9 : Hid (Tt w w9 fb db mo mo K K c v i) := X8.out.step hb
    clear hb
    refine hK1.out _ _ ⟨X9.out.2.1, X9.out.1.1, X9.out.1.2.1⟩ (fun hS4 => ?_)
    clear hK1 K1 hS3
    (try simp only [Act.put, List.getElem_toArray, List.getElem_cons_succ, List.getElem_cons_zero, List.setIfInBounds_toArray, List.set_cons_zero, List.set_cons_succ])
    refine wpAnyH_take (i := 10) (v := ?_) rfl (by kernel_rfl) (by kernel_rfl) (by kernel_rfl) (fun _ _ _ h => h) (Or.inl ⟨by kernel_rfl, ?_⟩) hS4 ?_
    rotate_left
    · intro w hSw; (try dsimp only at hSw); go_simp; try (with_reducible rfl)
    (try simp only [Act.put, List.getElem_toArray, List.getElem_cons_succ, List.getElem_cons_zero, List.setIfInBounds_toArray, List.set_cons_zero, List.set_cons_succ])
    refine wpAnyH_take (i := 11) (v := ?_) rfl (by kernel_rfl) (by kernel_rfl) (by kernel_rfl) (fun _ _ _ h => h) (Or.inl ⟨by kernel_rfl, ?_⟩) hS4 ?_
    rotate_left
    · intro w hSw; (try dsimp only at hSw); go_simp; try (with_reducible rfl)
    (try simp only [Act.put, List.getElem_toArray, List.getElem_cons_succ, List.getElem_cons_zero, List.setIfInBounds_toArray, List.set_cons_zero, List.set_cons_succ])
    refine wpAnyH_done (by kernel_rfl) ?_ _
    clear hS4 X6 X6d X7 X8 X5
    go_upto_region 8 with fail
    refine wp_region_list ?_
    refine wpList_load_tC rfl _ rfl _ c v i rfl X9.out.2.1 ?_
    (refine wpList_step (fun KK hKK => ?_); go_simp; refine hKK _ _ ?_; clear hKK KK)
    refine wpList_step (fun KK hKK => ?_)
    go_simp
    refine (HE.out _ X9.out.1.1).mono ?_
    rintro e w10 ⟨rfl, hB10, hU10⟩
    have Y1 : Hid (Tt w w10 fb db m2 mo K2 K c v i) := X9.out.file hB10 hU10
    clear hB10 hU10
    refine hKK _ _ ?_
    clear hKK KK
    go_upto_region 9 with fail
    refine wp_region_list ?_
    refine wpList_load_doc rfl _ rfl db mo K rfl Y1.out.1.2.1 ?_
    refine wpList_load_tC rfl _ rfl _ c v i rfl Y1.out.2.1 ?_
    (refine wpList_step (fun KK hKK => ?_); go_simp; refine hKK _ _ ?_; clear hKK KK)
    refine wpList_step (fun KK hKK => ?_)
    go_simp
    refine (HDE.out _).mono ?_
    rintro e w11 ⟨rfl, hb11⟩
    have Y2 : Hid (Tt w w11 fb db m2 mo K2 K c v i) := Y1.out.step hb11
    clear hb11
    refine hKK _ _ ?_
    clear hKK KK
    (refine wpList_step (fun KK hKK => ?_); go_simp; refine hKK _ _ ?_; clear hKK KK)
    refine wpList_extract_at rfl _ _ _ _ rfl rfl rfl ?_
    refine wpList_extract_at rfl _ _ _ _ rfl rfl rfl ?_
    refine wpList_alloc_doc rfl rfl ?_
    intro W12 hW12
    have B12 : Box 34 W12 w11.heap.size zeroD := by rw [hW12]; exact Box.new _ _ _
    have L12 : Below w11.heap.size w11 W12 := by rw [hW12]; exact (Below.refl _ _).alloc (Nat.le_refl _) _
    clear hW12
    refine wpList_store_doc rfl _ _ rfl w11.heap.size m2 K2 zeroD rfl rfl B12 zeroD_size ?_
    intro W13 B13 U13
    have Y3 : Hid (Tt w W13 fb db m2 mo K2 K c v i ∧ Box 34 W13 w11.heap.size (docC m2 K2)) := ⟨Y2.out.step (L12.trans (U13.below (Nat.le_refl _) L12.size)), B13⟩
    clear B12 L12 B13 U13
    generalize w11.heap.size = xb at *
    go_upto_region 10 with fail
    refine wp_region_list ?_
    iterate 4 (refine wpList_step (fun KK hKK => ?_); go_simp; refine hKK _ _ ?_; clear hKK KK)
    refine wpList_load_fileG (by first | rfl | kernel_rfl) _ rfl fb m2 K2 rfl Y3.out.1.1.1 ?_
    refine wpList_load_docG (by first | rfl | kernel_rfl) _ rfl xb m2 K2 rfl Y3.out.2 ?_
    go_wp2_with fail
    refine (same_any m2 K2 _).mono ?_
    rintro e w14 ⟨rfl, hb14⟩
    go_wp2_with fail
    go_ret
    exact ⟨rfl, (Y3.out.1.step hb14).1.2.2.2.2⟩
theorem enters_core (mo : Int) (g : Option Addr) (len cap ln : Nat) (ws : Nat → Int × Nat) (hln : ln < 18446744073709551616) (c : Int) (v : Nat) (i : Bool) (hv : v < 18446744073709551616) (pc : Nat) (hp : pc < 18446744073709551616) (w : World) (hws : WritesIn w (.slice g len cap) len ws) : Calls Try.prog 3 #[.agg #[.int .i64 mo, .slice g len cap, .int .u64 (ln : Nat)], .agg (tC c v i), .int .u64 (pc : Int)] w fun e w' => e = .returned (.bool true) ∧ Below w.heap.size w w' := by
  by_cases hc : 0 ≤ c ∧ c < 64
  · exact enters_right mo g len cap ln ws hln c v i hv pc hp hc w hws
  · exact enters_wrong mo g len cap ln ws hln c v i hv pc hp hc w hws
end Go.Proofs.Ytdljceeoofhfnaa
