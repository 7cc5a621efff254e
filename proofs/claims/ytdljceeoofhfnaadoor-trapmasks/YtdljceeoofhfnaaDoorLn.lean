/- The law TrapNext. -/
import Derived.Test.YtdljceeoofhfnaaDoorNd
import Derived.Test.YtdljceeoofhfnaaDoorSa
namespace Go.Proofs.YtdljceeoofhfnaaDoor
open Go.RowKit Go.Maps
set_option linter.unusedVariables false
set_option linter.unusedSimpArgs false
set_option maxRecDepth 100000
theorem eq_trap (c v : Nat) (i : Bool) (w : World) : (Op.equalIn 10000 36 (.agg (trapC c v i)) (.agg (trapC c v i))).run Tryd.prog w = .ok true w := by
  unfold trapC
  simp [go_sem]
theorem guard36 : Tryd.prog.eqGuardType Tryd.prog.depth 36 = false := by kernel_rfl
section
variable {w : World} {ops : Array Oper} {rest : List Oper} {o : Oper} {a : Act} {Q : Exit → Act → World → Prop}
theorem wpList_eql_trap (hg : o.guard = none) (x y : Operand) (r : TypeId) (hop : o.op = Op.binOp .eql 36 x y r) (c v : Nat) (i : Bool) (hx : a.eval x = .agg (trapC c v i)) (hy : a.eval y = .agg (trapC c v i)) (h : wpList Tryd.prog ops Q rest (a.put o.dst (.bool true)) w) : wpList Tryd.prog ops Q (o :: rest) a w := by
  refine wpList_plain hg fun KK hKK => ?_
  unfold Oper.wp
  simp [execOp, hop, hx, hy, run_eql_struct, eq_trap c v i, run_eqGuard_agg (P := Tryd.prog) w _ _ _ _ _ _ guard36, Result.andThen]
  exact hKK _ _ h
end
theorem next_any (mo : Int) (h : 0 ≤ mo ∧ mo ≤ 3 ∧ mo ≠ 2) (K : Nat → Nat) (b : Nat) (hK : Ok K) (w : World) (hO : Ord w) (hB : Box 29 w b (fileC mo K)) : Calls Tryd.prog 7 #[.pointer (some ⟨b, 0, none⟩)] w fun e w' => e = .returned (tellT (nextN mo K)) ∧ Below w.heap.size w w' := by
  have h' : mo = 0 ∨ mo = 1 ∨ mo = 3 := by omega
  clear h
  rcases h' with rfl | rfl | rfl
  · exact next_0 K b hK w hO hB
  · exact next_1 K b hK w hO hB
  · exact next_3 K b hK w hO hB
theorem dnext_any (mo : Int) (h : 0 ≤ mo ∧ mo ≤ 3 ∧ mo ≠ 2) (K : Nat → Nat) (hK : Ok K) (w : World) : Calls Tryd.prog 8 #[.agg (docC mo K)] w fun e w' => e = .returned (tellT (nextN mo K)) ∧ Below w.heap.size w w' := by
  have h' : mo = 0 ∨ mo = 1 ∨ mo = 3 := by omega
  clear h
  rcases h' with rfl | rfl | rfl
  · exact dnext_0 K hK w
  · exact dnext_1 K hK w
  · exact dnext_3 K hK w
set_option maxHeartbeats 8000000 in
theorem next_core (mo : Int) (g : Option Addr) (len cap ln : Nat) (ws : Nat → Int × Nat) (hln : ln < 18446744073709551616) (w : World) (hO : Ord w) (hws : WritesIn w (.slice g len cap) len ws) : Calls Tryd.prog 3 #[.agg #[.int .i64 mo, .slice g len cap, .int .u64 (ln : Nat)]] w fun e w' => e = .returned (.bool true) ∧ Below w.heap.size w w' := by
  have HWS : Hid (WritesIn w (.slice g len cap) len ws) := hws
  have HLN : Hid (ln < 18446744073709551616) := hln
  clear hws hln
  have HOW : Hid (Ord w) := hO
  clear hO
  have A0 : Hid (Box 25 (w.alloc (.cells #[.int .i64 mo, .slice g len cap, .int .u64 (ln : Nat)] 25)) w.heap.size #[.int .i64 mo, .slice g len cap, .int .u64 (ln : Nat)] ∧ Below w.heap.size w (w.alloc (.cells #[.int .i64 mo, .slice g len cap, .int .u64 (ln : Nat)] 25))) := ⟨Box.new _ _ _, (Below.refl _ _).alloc (Nat.le_refl _) _⟩
  go_enter Tryd.func3, Tryd.ntmps3
  go_upto_region 1 with fail
  generalize (w.alloc (.cells #[.int .i64 mo, .slice g len cap, .int .u64 (ln : Nat)] 25)) = W at *
  go_wp2_with fail
  refine (awake_any _).mono ?_
  rintro e w1 ⟨rfl, hb1⟩
  have A1 : Hid (Box 25 w1 w.heap.size #[.int .i64 mo, .slice g len cap, .int .u64 (ln : Nat)] ∧ Below w.heap.size w w1) := ⟨A0.out.1.step hb1, A0.out.2.trans (hb1.mono A0.out.2.size)⟩
  clear hb1 A0
  go_upto_region 3 with fail
  refine wp_region_list ?_
  have a0 : w1.cell? ⟨w.heap.size, 0, none⟩ = some (.int .i64 mo) := A1.out.1.cell 0 _ rfl
  have a1 : w1.cell? ⟨w.heap.size, 1, none⟩ = some (.slice g len cap) := A1.out.1.cell 1 _ rfl
  have a2 : w1.cell? ⟨w.heap.size, 2, none⟩ = some (.int .u64 (ln : Nat)) := A1.out.1.cell 2 _ rfl
  (refine wpList_step (fun KK hKK => ?_); go_simp; refine hKK _ _ ?_; clear hKK KK)
  clear a0 a1 a2
  refine wpList_step (fun KK hKK => ?_)
  go_simp
  by_cases h : mo < 0 ∨ 3 < mo ∨ mo = 2 ∨ 40 < (len : Int)
  · refine (begun_no mo g len cap ln h _).mono ?_
    rintro e w2 ⟨rfl, hb2⟩
    have A2 : Hid (Below w.heap.size w w2) := A1.out.2.trans (hb2.mono A1.out.2.size)
    clear hb2
    refine hKK _ _ ?_
    clear hKK KK
    (refine wpList_step (fun KK hKK => ?_); go_simp; refine hKK _ _ ?_; clear hKK KK)
    refine wpList_extract_at rfl _ _ _ _ rfl rfl rfl ?_
    refine wpList_extract_at rfl _ _ _ _ rfl rfl rfl ?_
    refine wpList_extract_at rfl _ _ _ _ rfl rfl rfl ?_
    refine wpList_alloc_file rfl rfl ?_
    intro W0 hW0
    have B0 : Box 29 W0 w2.heap.size zeroC := by rw [hW0]; exact Box.new _ _ _
    have L0 : Below w2.heap.size w2 W0 := by rw [hW0]; exact (Below.refl _ _).alloc (Nat.le_refl _) _
    have Z0 : W0.heap.size = w2.heap.size + 1 := by rw [hW0]; simp
    clear hW0
    refine wpList_alloc_doc rfl rfl ?_
    intro W3 hW3
    have B3 : Box 32 W3 W0.heap.size zeroD := by rw [hW3]; exact Box.new _ _ _
    have L3 : Below W0.heap.size W0 W3 := by rw [hW3]; exact (Below.refl _ _).alloc (Nat.le_refl _) _
    clear hW3
    refine wpList_store_file rfl _ _ rfl w2.heap.size 3 (fun _ => 0) zeroC rfl rfl (B0.step L3) zeroC_size ?_
    intro W4 B4 U4
    refine wpList_store_doc rfl _ _ rfl W0.heap.size 3 (fun _ => 0) zeroD rfl rfl (U4.box B3 (by omega)) zeroD_size ?_
    intro W5 B5 U5
    have X5 : Hid (Tw w W5 w2.heap.size W0.heap.size 3 3 (fun _ => 0) (fun _ => 0)) := by
      have l2 : Below w2.heap.size w2 W4 := (L0.trans (L3.mono L0.size)).trans (U4.below (Nat.le_refl _) (Nat.le_trans L0.size L3.size))
      have l5 : Below w2.heap.size w2 W5 := l2.trans (U5.below (by omega) l2.size)
      exact ⟨U5.box B4 (by omega), B5, A2.out.size, by omega, A2.out.trans (l5.mono A2.out.size)⟩
    clear B0 L0 B3 L3 B4 U4 B5 U5 Z0
    generalize w2.heap.size = fb at *
    generalize W0.heap.size = db at *
    go_wp2_with fail
    go_ret
    exact ⟨rfl, X5.out.2.2.2.2⟩
  · refine (begun_yes mo g len cap ln ws (by omega) (by omega) (by omega) (by omega) HLN.out _ (HWS.out.below A1.out.2)).mono ?_
    rintro e w2 ⟨K, hK, rfl, hb2⟩
    have A2 : Hid (Below w.heap.size w w2) := A1.out.2.trans (hb2.mono A1.out.2.size)
    clear hb2
    refine hKK _ _ ?_
    clear hKK KK
    (refine wpList_step (fun KK hKK => ?_); go_simp; refine hKK _ _ ?_; clear hKK KK)
    refine wpList_extract_at rfl _ _ _ _ rfl rfl rfl ?_
    refine wpList_extract_at rfl _ _ _ _ rfl rfl rfl ?_
    refine wpList_extract_at rfl _ _ _ _ rfl rfl rfl ?_
    refine wpList_alloc_file rfl rfl ?_
    intro W0 hW0
    have B0 : Box 29 W0 w2.heap.size zeroC := by rw [hW0]; exact Box.new _ _ _
    have L0 : Below w2.heap.size w2 W0 := by rw [hW0]; exact (Below.refl _ _).alloc (Nat.le_refl _) _
    have Z0 : W0.heap.size = w2.heap.size + 1 := by rw [hW0]; simp
    clear hW0
    refine wpList_alloc_doc rfl rfl ?_
    intro W3 hW3
    have B3 : Box 32 W3 W0.heap.size zeroD := by rw [hW3]; exact Box.new _ _ _
    have L3 : Below W0.heap.size W0 W3 := by rw [hW3]; exact (Below.refl _ _).alloc (Nat.le_refl _) _
    clear hW3
    refine wpList_store_file rfl _ _ rfl w2.heap.size mo K zeroC rfl rfl (B0.step L3) zeroC_size ?_
    intro W4 B4 U4
    refine wpList_store_doc rfl _ _ rfl W0.heap.size mo K zeroD rfl rfl (U4.box B3 (by omega)) zeroD_size ?_
    intro W5 B5 U5
    have X5 : Hid (Tw w W5 w2.heap.size W0.heap.size mo mo K K) := by
      have l2 : Below w2.heap.size w2 W4 := (L0.trans (L3.mono L0.size)).trans (U4.below (Nat.le_refl _) (Nat.le_trans L0.size L3.size))
      have l5 : Below w2.heap.size w2 W5 := l2.trans (U5.below (by omega) l2.size)
      exact ⟨U5.box B4 (by omega), B5, A2.out.size, by omega, A2.out.trans (l5.mono A2.out.size)⟩
    clear B0 L0 B3 L3 B4 U4 B5 U5 Z0
    generalize w2.heap.size = fb at *
    generalize W0.heap.size = db at *
    have HQ : Hid (0 ≤ mo ∧ mo ≤ 3 ∧ mo ≠ 2) := by show 0 ≤ mo ∧ mo ≤ 3 ∧ mo ≠ 2; omega
    have HP : Hid (∀ V, Ord V → Box 29 V fb (fileC mo K) → Calls Tryd.prog 7 #[.pointer (some ⟨fb, 0, none⟩)] V fun e w' => e = .returned (tellT (nextN mo K)) ∧ Below V.heap.size V w') := fun V hO hV => next_any mo HQ.out K fb hK V hO hV
    have HD : Hid (∀ V, Calls Tryd.prog 8 #[.agg (docC mo K)] V fun e w' => e = .returned (tellT (nextN mo K)) ∧ Below V.heap.size V w') := fun V => dnext_any mo HQ.out K hK V
    generalize nextN mo K = n at *
    clear h hK
    go_wp2_with fail
    refine (HP.out _ (HOW.out.below X5.out.2.2.2.2) X5.out.1).mono ?_
    rintro e w6 ⟨rfl, hb6⟩
    have X6 : Hid (Tw w w6 fb db mo mo K K) := X5.out.step hb6
    clear hb6
    unfold tellT
    rename_i KK hKK
    refine hKK _ _ ?_
    clear hKK
    (refine wpList_step (fun KK hKK => ?_); go_simp; refine hKK _ _ ?_; clear hKK KK)
    refine wpList_extract_at rfl _ _ _ _ rfl rfl rfl ?_
    refine wpList_extract_at rfl _ _ _ _ rfl rfl rfl ?_
    refine wpList_alloc_trap rfl rfl ?_
    intro W1 hW1
    have B1 : Box 36 W1 w6.heap.size zeroT := by rw [hW1]; exact Box.new _ _ _
    have L1 : Below w6.heap.size w6 W1 := by rw [hW1]; exact (Below.refl _ _).alloc (Nat.le_refl _) _
    clear hW1
    refine wpList_store_trap rfl _ _ rfl w6.heap.size n 0 (nzB n) zeroT rfl rfl B1 zT_size ?_
    intro W7 B2 U2
    have hbW : Below w6.heap.size w6 W7 := L1.trans (U2.below (Nat.le_refl _) L1.size)
    have X7 : Hid ((Tw w W7 fb db mo mo K K) ∧ Box 36 W7 w6.heap.size (trapC n 0 (nzB n))) := ⟨X6.out.step hbW, B2⟩
    clear B1 L1 B2 U2 hbW
    generalize w6.heap.size = tb at *
    go_upto_region 7 with fail
    refine wp_region_list ?_
    refine wpList_load_doc rfl _ rfl db mo K rfl X7.out.1.2.1 ?_
    refine wpList_step (fun KK hKK => ?_)
    go_simp
    refine (HD.out _).mono ?_
    rintro e w8 ⟨rfl, hb8⟩
    have X8 : Hid ((Tw w w8 fb db mo mo K K) ∧ Box 36 w8 tb (trapC n 0 (nzB n))) := ⟨X7.out.1.step hb8, X7.out.2.step hb8⟩
    clear hb8
    unfold tellT
    refine hKK _ _ ?_
    clear hKK KK
    (refine wpList_step (fun KK hKK => ?_); go_simp; refine hKK _ _ ?_; clear hKK KK)
    refine wpList_extract_at rfl _ _ _ _ rfl rfl rfl ?_
    refine wpList_extract_at rfl _ _ _ _ rfl rfl rfl ?_
    refine wpList_alloc_trap rfl rfl ?_
    intro W1 hW1
    have B1 : Box 36 W1 w8.heap.size zeroT := by rw [hW1]; exact Box.new _ _ _
    have L1 : Below w8.heap.size w8 W1 := by rw [hW1]; exact (Below.refl _ _).alloc (Nat.le_refl _) _
    clear hW1
    refine wpList_store_trap rfl _ _ rfl w8.heap.size n 0 (nzB n) zeroT rfl rfl B1 zT_size ?_
    intro W9 B2 U2
    have hbW : Below w8.heap.size w8 W9 := L1.trans (U2.below (Nat.le_refl _) L1.size)
    have X9 : Hid ((Tw w W9 fb db mo mo K K) ∧ Box 36 W9 tb (trapC n 0 (nzB n)) ∧ Box 36 W9 w8.heap.size (trapC n 0 (nzB n))) := ⟨X8.out.1.step hbW, X8.out.2.step hbW, B2⟩
    clear B1 L1 B2 U2 hbW
    generalize w8.heap.size = xb at *
    go_upto_region 8 with fail
    refine wp_region_list ?_
    refine wpList_load_trap rfl _ rfl tb n 0 (nzB n) rfl X9.out.2.1 ?_
    refine wpList_load_trap rfl _ rfl xb n 0 (nzB n) rfl X9.out.2.2 ?_
    refine wpList_eql_trap rfl _ _ _ rfl n 0 (nzB n) rfl rfl ?_
    iterate 6 (refine wpList_step (fun KK hKK => ?_); go_simp; refine hKK _ _ ?_; clear hKK KK)
    refine wpList_load_fileG (by first | rfl | kernel_rfl) _ rfl fb mo K rfl X9.out.1.1 ?_
    refine wpList_load_docG (by first | rfl | kernel_rfl) _ rfl db mo K rfl X9.out.1.2.1 ?_
    go_wp2_with fail
    refine (same_any mo K _).mono ?_
    rintro e w10 ⟨rfl, hb10⟩
    go_wp2_with fail
    go_ret
    exact ⟨rfl, (X9.out.1.step hb10).2.2.2.2⟩
end Go.Proofs.YtdljceeoofhfnaaDoor
