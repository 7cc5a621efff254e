/- The law TrapMasks, mode 0. -/
import Derived.Test.YtdljceeoofhfnaaDoorMp
namespace Go.Proofs.YtdljceeoofhfnaaDoor
open Go.RowKit Go.Maps
set_option linter.unusedVariables false
set_option linter.unusedSimpArgs false
set_option maxRecDepth 100000
set_option maxHeartbeats 16000000 in
theorem masks_0 (mo : Int) (g : Option Addr) (len cap ln : Nat) (ws : Nat → Int × Nat) (hln : ln < 18446744073709551616) (hmo : mo = 0) (w : World) (hO : Ord w) (hws : WritesIn w (.slice g len cap) len ws) : Calls Tryd.prog 4 #[.agg #[.int .i64 mo, .slice g len cap, .int .u64 (ln : Nat)]] w fun e w' => e = .returned (.bool true) ∧ Below w.heap.size w w' := by
  have HMO : Hid (mo = 0) := hmo
  clear hmo
  have HWS : Hid (WritesIn w (.slice g len cap) len ws) := hws
  have HLN : Hid (ln < 18446744073709551616) := hln
  clear hws hln
  have HOW : Hid (Ord w) := hO
  clear hO
  have A0 : Hid (Box 25 (w.alloc (.cells #[.int .i64 mo, .slice g len cap, .int .u64 (ln : Nat)] 25)) w.heap.size #[.int .i64 mo, .slice g len cap, .int .u64 (ln : Nat)] ∧ Below w.heap.size w (w.alloc (.cells #[.int .i64 mo, .slice g len cap, .int .u64 (ln : Nat)] 25))) := ⟨Box.new _ _ _, (Below.refl _ _).alloc (Nat.le_refl _) _⟩
  go_enter Tryd.func4, Tryd.ntmps4
  go_upto_region 1 with fail
  generalize (w.alloc (.cells #[.int .i64 mo, .slice g len cap, .int .u64 (ln : Nat)] 25)) = W at *
  go_wp2_with fail
  refine (awake_any _).mono ?_
  rintro e w1 ⟨rfl, hb1⟩
  have A1 : Hid (Box 25 w1 w.heap.size #[.int .i64 mo, .slice g len cap, .int .u64 (ln : Nat)] ∧ Below w.heap.size w w1) := ⟨A0.out.1.step hb1, A0.out.2.trans (hb1.mono A0.out.2.size)⟩
  clear hb1 A0
  go_upto_region 3 with fail
  refine wp_region_list ?_
  have a0 : w1.cell? ⟨w.heap.size, 0, none⟩ = some (.int .i64 mo) := A1.out.1.cell 0 _ rfl
  have a1 : w1.cell? ⟨w.heap.size, 1, none⟩ = some (.slice g len cap) := A1.out.1.cell 1 _ rfl
  have a2 : w1.cell? ⟨w.heap.size, 2, none⟩ = some (.int .u64 (ln : Nat)) := A1.out.1.cell 2 _ rfl
  (refine wpList_step (fun KK hKK => ?_); go_simp; refine hKK _ _ ?_; clear hKK KK)
  clear a0 a1 a2
  refine wpList_step (fun KK hKK => ?_)
  go_simp
  by_cases h : mo < 0 ∨ 3 < mo ∨ mo = 2 ∨ 40 < (len : Int)
  · refine (begun_no mo g len cap ln h _).mono ?_
    rintro e w2 ⟨rfl, hb2⟩
    have A2 : Hid (Below w.heap.size w w2) := A1.out.2.trans (hb2.mono A1.out.2.size)
    clear hb2
    refine hKK _ _ ?_
    clear hKK KK
    (refine wpList_step (fun KK hKK => ?_); go_simp; refine hKK _ _ ?_; clear hKK KK)
    refine wpList_extract_at rfl _ _ _ _ rfl rfl rfl ?_
    refine wpList_extract_at rfl _ _ _ _ rfl rfl rfl ?_
    refine wpList_extract_at rfl _ _ _ _ rfl rfl rfl ?_
    refine wpList_alloc_file rfl rfl ?_
    intro W0 hW0
    have B0 : Box 29 W0 w2.heap.size zeroC := by rw [hW0]; exact Box.new _ _ _
    have L0 : Below w2.heap.size w2 W0 := by rw [hW0]; exact (Below.refl _ _).alloc (Nat.le_refl _) _
    have Z0 : W0.heap.size = w2.heap.size + 1 := by rw [hW0]; simp
    clear hW0
    refine wpList_alloc_doc rfl rfl ?_
    intro W3 hW3
    have B3 : Box 32 W3 W0.heap.size zeroD := by rw [hW3]; exact Box.new _ _ _
    have L3 : Below W0.heap.size W0 W3 := by rw [hW3]; exact (Below.refl _ _).alloc (Nat.le_refl _) _
    clear hW3
    refine wpList_store_file rfl _ _ rfl w2.heap.size 3 (fun _ => 0) zeroC rfl rfl (B0.step L3) zeroC_size ?_
    intro W4 B4 U4
    refine wpList_store_doc rfl _ _ rfl W0.heap.size 3 (fun _ => 0) zeroD rfl rfl (U4.box B3 (by omega)) zeroD_size ?_
    intro W5 B5 U5
    have X5 : Hid (Tw w W5 w2.heap.size W0.heap.size 3 3 (fun _ => 0) (fun _ => 0)) := by
      have l2 : Below w2.heap.size w2 W4 := (L0.trans (L3.mono L0.size)).trans (U4.below (Nat.le_refl _) (Nat.le_trans L0.size L3.size))
      have l5 : Below w2.heap.size w2 W5 := l2.trans (U5.below (by omega) l2.size)
      exact ⟨U5.box B4 (by omega), B5, A2.out.size, by omega, A2.out.trans (l5.mono A2.out.size)⟩
    clear B0 L0 B3 L3 B4 U4 B5 U5 Z0
    generalize w2.heap.size = fb at *
    generalize W0.heap.size = db at *
    go_wp2_with fail
    go_ret
    exact ⟨rfl, X5.out.2.2.2.2⟩
  · refine (begun_yes mo g len cap ln ws (by omega) (by omega) (by omega) (by omega) HLN.out _ (HWS.out.below A1.out.2)).mono ?_
    rintro e w2 ⟨K, hK, rfl, hb2⟩
    have A2 : Hid (Below w.heap.size w w2) := A1.out.2.trans (hb2.mono A1.out.2.size)
    clear hb2
    refine hKK _ _ ?_
    clear hKK KK
    (refine wpList_step (fun KK hKK => ?_); go_simp; refine hKK _ _ ?_; clear hKK KK)
    refine wpList_extract_at rfl _ _ _ _ rfl rfl rfl ?_
    refine wpList_extract_at rfl _ _ _ _ rfl rfl rfl ?_
    refine wpList_extract_at rfl _ _ _ _ rfl rfl rfl ?_
    refine wpList_alloc_file rfl rfl ?_
    intro W0 hW0
    have B0 : Box 29 W0 w2.heap.size zeroC := by rw [hW0]; exact Box.new _ _ _
    have L0 : Below w2.heap.size w2 W0 := by rw [hW0]; exact (Below.refl _ _).alloc (Nat.le_refl _) _
    have Z0 : W0.heap.size = w2.heap.size + 1 := by rw [hW0]; simp
    clear hW0
    refine wpList_alloc_doc rfl rfl ?_
    intro W3 hW3
    have B3 : Box 32 W3 W0.heap.size zeroD := by rw [hW3]; exact Box.new _ _ _
    have L3 : Below W0.heap.size W0 W3 := by rw [hW3]; exact (Below.refl _ _).alloc (Nat.le_refl _) _
    clear hW3
    refine wpList_store_file rfl _ _ rfl w2.heap.size mo K zeroC rfl rfl (B0.step L3) zeroC_size ?_
    intro W4 B4 U4
    refine wpList_store_doc rfl _ _ rfl W0.heap.size mo K zeroD rfl rfl (U4.box B3 (by omega)) zeroD_size ?_
    intro W5 B5 U5
    have X5 : Hid (Tw w W5 w2.heap.size W0.heap.size mo mo K K) := by
      have l2 : Below w2.heap.size w2 W4 := (L0.trans (L3.mono L0.size)).trans (U4.below (Nat.le_refl _) (Nat.le_trans L0.size L3.size))
      have l5 : Below w2.heap.size w2 W5 := l2.trans (U5.below (by omega) l2.size)
      exact ⟨U5.box B4 (by omega), B5, A2.out.size, by omega, A2.out.trans (l5.mono A2.out.size)⟩
    clear B0 L0 B3 L3 B4 U4 B5 U5 Z0
    generalize w2.heap.size = fb at *
    generalize W0.heap.size = db at *
    clear h
    obtain rfl : mo = 0 := HMO.out
    have HP : Hid (∀ V, Ord V → Box 29 V fb (fileC 0 K) → Calls Tryd.prog 7 #[.pointer (some ⟨fb, 0, none⟩)] V fun e w' => e = .returned (tellT (nextN 0 K)) ∧ Below V.heap.size V w') := fun V hO hV => next_any 0 (by omega) K fb hK V hO hV
    have HF : Hid (nextN 0 K ≠ 0 → bits .and .u64 (((K 1 ||| K 2 : Nat) : Int) / 2 ^ (nextN 0 K)) 1 = 1 ∧ bits .and .u64 (((K 5 : Nat) : Int) / 2 ^ (nextN 0 K)) 1 = 1) := fun h => ⟨shr_and _ _ (or_lt _ _ (hK _) (hK _)) (next_lt _ _) (next_bits _ _ h).1, shr_and _ _ (hK _) (next_lt _ _) (next_bits _ _ h).2⟩
    have HLT : Hid (nextN 0 K < 64) := next_lt _ _
    have HPE : Hid (∀ V, Box 29 V fb (fileC 0 K) → Calls Tryd.prog 10 #[.pointer (some ⟨fb, 0, none⟩)] V fun e w' => e = .returned (.int .u64 (K 1 ||| K 2 : Nat)) ∧ Below V.heap.size V w') := fun V hV => pending_any 0 K fb hK V hV
    have HDL : Hid (∀ V, Box 29 V fb (fileC 0 K) → Calls Tryd.prog 12 #[.pointer (some ⟨fb, 0, none⟩), .agg (trapC (nextN 0 K) 0 true)] V fun e w' => e = .returned (.bool (delB 0 K (nextN 0 K) true)) ∧ Below V.heap.size V w') := fun V hV => deleg_any 0 K (nextN 0 K) 0 true fb hK V hV
    obtain ⟨KM, HEM, HNM⟩ : ∃ KM, Hid (delB 0 K (nextN 0 K) true = false → ∀ V, Box 29 V fb (fileC 0 K) → Calls Tryd.prog 13 #[.pointer (some ⟨fb, 0, none⟩), .agg (trapC (nextN 0 K) 0 true), .int .u64 4096] V fun e w' => (∃ y : Nat, e = .returned (.int .u64 (y : Int))) ∧ Box 29 w' fb (fileC 3 KM) ∧ Upon fb V w') ∧ Hid (∀ V, Ord V → Box 29 V fb (fileC 3 KM) → Calls Tryd.prog 7 #[.pointer (some ⟨fb, 0, none⟩)] V fun e w' => e = .returned (tellT 0) ∧ Below V.heap.size V w') := by
      refine ⟨markM (tellM K (nextN 0 K) 0 true 4096) 0, fun hd V hV => ?_, fun V hO hV => ?_⟩
      · refine (enter_no 0 (by omega) K (nextN 0 K) 0 true 4096 fb hK HLT.out (by decide) (by decide) hd V hV).mono ?_
        rintro e w' ⟨rfl, h1, h2⟩
        exact ⟨⟨_, rfl⟩, h1, h2⟩
      · have q := next_any 3 (by omega) _ fb (markM_ok (tellM_ok hK (nextN 0 K) 0 true 4096 HLT.out (by decide) (by decide)) 0) V hO hV
        rw [next_mach _ (off_M _ _)] at q
        exact q
    obtain ⟨KS, n2, HES, HNS, HD2⟩ : ∃ (KS : Nat → Nat) (n2 : Nat), Hid (delB 0 K (nextN 0 K) true = true → ∀ V, Box 29 V fb (fileC 0 K) → Calls Tryd.prog 13 #[.pointer (some ⟨fb, 0, none⟩), .agg (trapC (nextN 0 K) 0 true), .int .u64 4096] V fun e w' => (∃ y : Nat, e = .returned (.int .u64 (y : Int))) ∧ Box 29 w' fb (fileC 1 KS) ∧ Upon fb V w') ∧ Hid (∀ V, Ord V → Box 29 V fb (fileC 1 KS) → Calls Tryd.prog 7 #[.pointer (some ⟨fb, 0, none⟩)] V fun e w' => e = .returned (tellT n2) ∧ Below V.heap.size V w') ∧ Hid (True → n2 ≠ 0 → ∀ V, Box 29 V fb (fileC 1 KS) → Calls Tryd.prog 12 #[.pointer (some ⟨fb, 0, none⟩), .agg (trapC n2 0 true)] V fun e w' => e = .returned (.bool false) ∧ Below V.heap.size V w') := by
      have hKS := markS_ok (tellS_ok hK (nextN 0 K) 0 true 4096 HLT.out (by decide) (by decide)) 0
      refine ⟨markS (tellS K (nextN 0 K) 0 true 4096) 0, nextN 1 (markS (tellS K (nextN 0 K) 0 true 4096) 0), fun hd V hV => ?_, fun V hO hV => ?_, fun _ hz V hV => ?_⟩
      · refine (enter_yes 0 (by omega) K (nextN 0 K) 0 true 4096 fb hK HLT.out (by decide) (by decide) hd V hV).mono ?_
        rintro e w' ⟨rfl, h1, h2⟩
        exact ⟨⟨_, rfl⟩, h1, h2⟩
      · exact next_any 1 (by omega) _ fb hKS V hO hV
      · have q := deleg_any 1 _ (nextN 1 (markS (tellS K (nextN 0 K) 0 true 4096) 0)) 0 true fb hKS V hV
        rw [show delB 1 (markS (tellS K (nextN 0 K) 0 true 4096) 0) (nextN 1 (markS (tellS K (nextN 0 K) 0 true 4096) 0)) true = false from by
          unfold delB
          rw [if_pos rfl, next_own _ hKS (off_S _ _) hz, Bool.and_false]] at q
        exact q
    generalize delB 0 K (nextN 0 K) true = dl at *
    generalize nextN 0 K = n at *
    clear hK
    go_wp2_with fail
    refine (HP.out _ (HOW.out.below X5.out.2.2.2.2) X5.out.1).mono ?_
    rintro e w6 ⟨rfl, hb6⟩
    have X6 : Hid ((Tw w w6 fb db 0 0 (K) K)) := X5.out.step hb6
    clear hb6
    unfold tellT
    rename_i KK hKK
    refine hKK _ _ ?_
    clear hKK
    (refine wpList_step (fun KK hKK => ?_); go_simp; refine hKK _ _ ?_; clear hKK KK)
    refine wpList_extract_at rfl _ _ _ _ rfl rfl rfl ?_
    refine wpList_extract_at rfl _ _ _ _ rfl rfl rfl ?_
    refine wpList_alloc_trap rfl rfl ?_
    intro W1 hW1
    have B1 : Box 36 W1 w6.heap.size zeroT := by rw [hW1]; exact Box.new _ _ _
    have L1 : Below w6.heap.size w6 W1 := by rw [hW1]; exact (Below.refl _ _).alloc (Nat.le_refl _) _
    clear hW1
    refine wpList_store_trap rfl _ _ rfl w6.heap.size n 0 (nzB n) zeroT rfl rfl B1 zT_size ?_
    intro W7 B2 U2
    have hbW : Below w6.heap.size w6 W7 := L1.trans (U2.below (Nat.le_refl _) L1.size)
    have X7 : Hid ((Tw w W7 fb db 0 0 (K) K) ∧ Box 36 W7 w6.heap.size (trapC n 0 (nzB n)) ∧ w6.heap.size ≠ fb) := ⟨X6.out.step hbW, B2, by have := X6.out.1.lt; omega⟩
    clear B1 L1 B2 U2 hbW
    generalize w6.heap.size = tb at *
    by_cases h0 : n = 0
    · have hz : nzB n = false := by rw [h0]; rfl
      have X7z : Hid ((Tw w W7 fb db 0 0 (K) K) ∧ Box 36 W7 tb (trapC 0 0 false)) := ⟨X7.out.1, by have h := X7.out.2.1; rw [hz, h0] at h; exact h⟩
      rw [hz]
      clear hz X7 h0
      go_upto_region 8 with fail
      refine wp_region_list ?_
      refine wpList_load_trap rfl _ rfl tb 0 0 false rfl X7z.out.2 ?_
      (refine wpList_step (fun KK hKK => ?_); go_simp; refine hKK _ _ ?_; clear hKK KK)
      refine wpList_eql_trap rfl _ _ _ rfl 0 0 false rfl rfl ?_
      go_wp2_with fail
      go_ret
      exact ⟨rfl, X7z.out.1.2.2.2.2⟩
    · have hz : nzB n = true := decide_eq_true h0
      have X8 : Hid ((Tw w W7 fb db 0 0 (K) K) ∧ Box 36 W7 tb (trapC n 0 true) ∧ tb ≠ fb) := ⟨X7.out.1, by have h := X7.out.2.1; rw [hz] at h; exact h, X7.out.2.2⟩
      obtain ⟨hs1, hs2⟩ := HF.out h0
      rw [hz]
      have g1 : ¬ (n : Int) < 0 := by omega
      have g2 : ¬ 63 < (n : Int) := by have := HLT.out; omega
      have g3 : min n 64 = n := min_n n HLT.out
      have g4 : (n : Int) ≤ 63 := by have := HLT.out; omega
      clear hz X7 h0 HF
      go_upto_region 9 with fail
      have X7d : Hid ((Tw w W7.drew fb db 0 0 (K) K) ∧ Box 36 W7.drew tb (trapC n 0 true) ∧ tb ≠ fb) := ⟨X8.out.1.step (below_drew1 _), X8.out.2.1.step (below_drew1 _), X8.out.2.2⟩
      refine wp_region_held_drew (S := fun V => (V.cell? ⟨tb, 0, none⟩ = some (.int .i64 (n : Int)) ∧ V.cell? ⟨tb, 2, none⟩ = some (.bool true)) ∧ V.cell? ⟨fb, 4, none⟩ = some (.int .u64 (K 5 : Nat)) ∧ V.cell? ⟨fb, 0, none⟩ = some (.int .i64 0)) (by kernel_rfl) ⟨⟨X7d.out.2.1.cell 0 _ rfl, X7d.out.2.1.cell 2 _ rfl⟩, X7d.out.1.1.cell 4 _ rfl, X7d.out.1.1.cell 0 _ rfl⟩ ?_
      intro hS
      refine wpAnyH_take (i := 0) (v := ?_) rfl (by kernel_rfl) (by kernel_rfl) (by kernel_rfl) (fun _ _ _ h => h) (Or.inl ⟨by kernel_rfl, ?_⟩) hS ?_
      rotate_left
      · intro w hSw; (try dsimp only at hSw); go_simp; try (with_reducible rfl)
      (try simp only [Act.put, List.getElem_toArray, List.getElem_cons_succ, List.getElem_cons_zero, List.setIfInBounds_toArray, List.set_cons_zero, List.set_cons_succ])
      refine wpAnyH_take (i := 1) (v := ?_) rfl (by kernel_rfl) (by kernel_rfl) (by kernel_rfl) (fun _ _ _ h => h) (Or.inl ⟨by kernel_rfl, ?_⟩) hS ?_
      rotate_left
      · intro w hSw; (try dsimp only at hSw); go_simp; try (with_reducible rfl)
      (try simp only [Act.put, List.getElem_toArray, List.getElem_cons_succ, List.getElem_cons_zero, List.setIfInBounds_toArray, List.set_cons_zero, List.set_cons_succ])
      refine wpAnyH_take (i := 2) (v := ?_) rfl (by kernel_rfl) (by kernel_rfl) (by kernel_rfl) (fun _ _ _ h => h) (Or.inl ⟨by kernel_rfl, ?_⟩) hS ?_
      rotate_left
      · intro w hSw; (try dsimp only at hSw); go_simp; try (with_reducible rfl)
      (try simp only [Act.put, List.getElem_toArray, List.getElem_cons_succ, List.getElem_cons_zero, List.setIfInBounds_toArray, List.set_cons_zero, List.set_cons_succ])
      refine wpAnyH_take (i := 3) (v := ?_) rfl (by kernel_rfl) (by kernel_rfl) (by kernel_rfl) (fun _ _ _ h => h) (Or.inl ⟨by kernel_rfl, ?_⟩) hS ?_
      rotate_left
      · intro w hSw; (try dsimp only at hSw); go_simp; try (with_reducible rfl)
      (try simp only [Act.put, List.getElem_toArray, List.getElem_cons_succ, List.getElem_cons_zero, List.setIfInBounds_toArray, List.set_cons_zero, List.set_cons_succ])
      refine wpAnyH_take (i := 4) (v := ?_) rfl (by kernel_rfl) (by kernel_rfl) (by kernel_rfl) (fun _ _ _ h => h) (Or.inl ⟨by kernel_rfl, ?_⟩) hS ?_
      rotate_left
      · intro w hSw; (try dsimp only at hSw); go_simp; try (with_reducible rfl)
      (try simp only [Act.put, List.getElem_toArray, List.getElem_cons_succ, List.getElem_cons_zero, List.setIfInBounds_toArray, List.set_cons_zero, List.set_cons_succ])
      refine wpAnyH_take (i := 5) (v := ?_) rfl (by kernel_rfl) (by kernel_rfl) (by kernel_rfl) (fun _ _ _ h => h) (Or.inl ⟨by kernel_rfl, ?_⟩) hS ?_
      rotate_left
      · intro w hSw; (try dsimp only at hSw); go_simp; try (with_reducible rfl)
      (try simp only [Act.put, List.getElem_toArray, List.getElem_cons_succ, List.getElem_cons_zero, List.setIfInBounds_toArray, List.set_cons_zero, List.set_cons_succ])
      refine wpAnyH_take (i := 6) (v := ?_) rfl (by kernel_rfl) (by kernel_rfl) (by kernel_rfl) (fun _ _ _ h => h) (Or.inl ⟨by kernel_rfl, ?_⟩) hS ?_
      rotate_left
      · intro w hSw; (try dsimp only at hSw); go_simp; try (with_reducible rfl)
      (try simp only [Act.put, List.getElem_toArray, List.getElem_cons_succ, List.getElem_cons_zero, List.setIfInBounds_toArray, List.set_cons_zero, List.set_cons_succ])
      refine wpAnyH_take (i := 7) (v := ?_) rfl (by kernel_rfl) (by kernel_rfl) (by kernel_rfl) (fun _ _ _ h => h) (Or.inl ⟨by kernel_rfl, ?_⟩) hS ?_
      rotate_left
      · intro w hSw; (try dsimp only at hSw); go_simp; try (with_reducible rfl)
      (try simp only [Act.put, List.getElem_toArray, List.getElem_cons_succ, List.getElem_cons_zero, List.setIfInBounds_toArray, List.set_cons_zero, List.set_cons_succ])
      refine wpAnyH_take (i := 8) (v := ?_) rfl (by kernel_rfl) (by kernel_rfl) (by kernel_rfl) (fun _ _ _ h => h) (Or.inl ⟨by kernel_rfl, ?_⟩) hS ?_
      rotate_left
      · intro w hSw; (try dsimp only at hSw); go_simp; try (with_reducible rfl)
      (try simp only [Act.put, List.getElem_toArray, List.getElem_cons_succ, List.getElem_cons_zero, List.setIfInBounds_toArray, List.set_cons_zero, List.set_cons_succ])
      refine wpAnyH_take (i := 9) (v := ?_) rfl (by kernel_rfl) (by kernel_rfl) (by kernel_rfl) (fun _ _ _ h => h) (Or.inl ⟨by kernel_rfl, ?_⟩) hS ?_
      rotate_left
      · intro w hSw; (try dsimp only at hSw); go_simp; try (with_reducible rfl)
      (try simp only [Act.put, List.getElem_toArray, List.getElem_cons_succ, List.getElem_cons_zero, List.setIfInBounds_toArray, List.set_cons_zero, List.set_cons_succ])
      refine wpAnyH_take (i := 10) (v := ?_) rfl (by kernel_rfl) (by kernel_rfl) (by kernel_rfl) (fun _ _ _ h => h) (Or.inl ⟨by kernel_rfl, ?_⟩) hS ?_
      rotate_left
      · intro w hSw; (try dsimp only at hSw); go_simp; try (with_reducible rfl)
      (try simp only [Act.put, List.getElem_toArray, List.getElem_cons_succ, List.getElem_cons_zero, List.setIfInBounds_toArray, List.set_cons_zero, List.set_cons_succ])
      refine wpAnyH_take (i := 11) (v := ?_) rfl (by kernel_rfl) (by kernel_rfl) (by kernel_rfl) (fun _ _ _ h => h) (Or.inl ⟨by kernel_rfl, ?_⟩) hS ?_
      rotate_left
      · intro w hSw; (try dsimp only at hSw); go_simp; try (with_reducible rfl)
      (try simp only [Act.put, List.getElem_toArray, List.getElem_cons_succ, List.getElem_cons_zero, List.setIfInBounds_toArray, List.set_cons_zero, List.set_cons_succ])
      refine wpAnyH_take (i := 12) (v := ?_) rfl (by kernel_rfl) (by kernel_rfl) (by kernel_rfl) (fun _ _ _ h => h) (Or.inl ⟨by kernel_rfl, ?_⟩) hS ?_
      rotate_left
      · intro w hSw; (try dsimp only at hSw); go_simp; try (with_reducible rfl)
      (try simp only [Act.put, List.getElem_toArray, List.getElem_cons_succ, List.getElem_cons_zero, List.setIfInBounds_toArray, List.set_cons_zero, List.set_cons_succ])
      refine wpAnyH_take (i := 13) (v := ?_) rfl (by kernel_rfl) (by kernel_rfl) (by kernel_rfl) (fun _ _ _ h => h) (Or.inl ⟨by kernel_rfl, ?_⟩) hS ?_
      rotate_left
      · intro w hSw; (try dsimp only at hSw); go_simp; try (with_reducible rfl)
      (try simp only [Act.put, List.getElem_toArray, List.getElem_cons_succ, List.getElem_cons_zero, List.setIfInBounds_toArray, List.set_cons_zero, List.set_cons_succ])
      refine wpAnyH_take (i := 15) (v := ?_) rfl (by kernel_rfl) (by kernel_rfl) (by kernel_rfl) (fun _ _ _ h => h) (Or.inl ⟨by kernel_rfl, ?_⟩) hS ?_
      rotate_left
      · intro w hSw; (try dsimp only at hSw); go_simp; try (with_reducible rfl)
      (try simp only [Act.put, List.getElem_toArray, List.getElem_cons_succ, List.getElem_cons_zero, List.setIfInBounds_toArray, List.set_cons_zero, List.set_cons_succ])
      refine wpAnyH_take (i := 16) (v := ?_) rfl (by kernel_rfl) (by kernel_rfl) (by kernel_rfl) (fun _ _ _ h => h) (Or.inl ⟨by kernel_rfl, ?_⟩) hS ?_
      rotate_left
      · intro w hSw; (try dsimp only at hSw); go_simp; try (with_reducible rfl)
      (try simp only [Act.put, List.getElem_toArray, List.getElem_cons_succ, List.getElem_cons_zero, List.setIfInBounds_toArray, List.set_cons_zero, List.set_cons_succ])
      refine wpAnyH_ready (rs := [14]) (by kernel_rfl) (by simp) ?_
      refine AllReadyH.cons rfl (fun K1 hK1 => ?_) AllReadyH.nil
      go_simp
      refine (HPE.out _ X7d.out.1.1).mono ?_
      rintro e w8 ⟨rfl, hb⟩
      have Y1 : Hid ((Tw w w8 fb db 0 0 (K) K) ∧ Box 36 w8 tb (trapC n 0 true) ∧ tb ≠ fb) := ⟨X7d.out.1.step hb, X7d.out.2.1.step hb, X7d.out.2.2⟩
      clear hb
      refine hK1.out _ _ ⟨⟨Y1.out.2.1.cell 0 _ rfl, Y1.out.2.1.cell 2 _ rfl⟩, Y1.out.1.1.cell 4 _ rfl, Y1.out.1.1.cell 0 _ rfl⟩ (fun hS2 => ?_)
      clear hK1 K1 hS
      (try simp only [Act.put, List.getElem_toArray, List.getElem_cons_succ, List.getElem_cons_zero, List.setIfInBounds_toArray, List.set_cons_zero, List.set_cons_succ])
      refine wpAnyH_take (i := 17) (v := ?_) rfl (by kernel_rfl) (by kernel_rfl) (by kernel_rfl) (fun _ _ _ h => h) (Or.inl ⟨by kernel_rfl, ?_⟩) hS2 ?_
      rotate_left
      · intro w hSw; (try dsimp only at hSw); go_simp; try (with_reducible rfl)
      (try simp only [Act.put, List.getElem_toArray, List.getElem_cons_succ, List.getElem_cons_zero, List.setIfInBounds_toArray, List.set_cons_zero, List.set_cons_succ])
      refine wpAnyH_take (i := 18) (v := ?_) rfl (by kernel_rfl) (by kernel_rfl) (by kernel_rfl) (fun _ _ _ h => h) (Or.inl ⟨by kernel_rfl, ?_⟩) hS2 ?_
      rotate_left
      · intro w hSw; (try dsimp only at hSw); go_simp; try (with_reducible rfl)
      (try simp only [Act.put, List.getElem_toArray, List.getElem_cons_succ, List.getElem_cons_zero, List.setIfInBounds_toArray, List.set_cons_zero, List.set_cons_succ])
      refine wpAnyH_take (i := 19) (v := ?_) rfl (by kernel_rfl) (by kernel_rfl) (by kernel_rfl) (fun _ _ _ h => h) (Or.inl ⟨by kernel_rfl, ?_⟩) hS2 ?_
      rotate_left
      · intro w hSw; (try dsimp only at hSw); go_simp; try (with_reducible rfl)
      (try simp only [Act.put, List.getElem_toArray, List.getElem_cons_succ, List.getElem_cons_zero, List.setIfInBounds_toArray, List.set_cons_zero, List.set_cons_succ])
      refine wpAnyH_take (i := 20) (v := ?_) rfl (by kernel_rfl) (by kernel_rfl) (by kernel_rfl) (fun _ _ _ h => h) (Or.inl ⟨by kernel_rfl, ?_⟩) hS2 ?_
      rotate_left
      · intro w hSw; (try dsimp only at hSw); go_simp; try (with_reducible rfl)
      (try simp only [Act.put, List.getElem_toArray, List.getElem_cons_succ, List.getElem_cons_zero, List.setIfInBounds_toArray, List.set_cons_zero, List.set_cons_succ])
      refine wpAnyH_take (i := 21) (v := ?_) rfl (by kernel_rfl) (by kernel_rfl) (by kernel_rfl) (fun _ _ _ h => h) (Or.inl ⟨by kernel_rfl, ?_⟩) hS2 ?_
      rotate_left
      · intro w hSw; (try dsimp only at hSw); go_simp; try (with_reducible rfl)
      (try simp only [Act.put, List.getElem_toArray, List.getElem_cons_succ, List.getElem_cons_zero, List.setIfInBounds_toArray, List.set_cons_zero, List.set_cons_succ])
      refine wpAnyH_take (i := 22) (v := ?_) rfl (by kernel_rfl) (by kernel_rfl) (by kernel_rfl) (fun _ _ _ h => h) (Or.inl ⟨by kernel_rfl, ?_⟩) hS2 ?_
      rotate_left
      · intro w hSw; (try dsimp only at hSw); go_simp; try (with_reducible rfl)
      (try simp only [Act.put, List.getElem_toArray, List.getElem_cons_succ, List.getElem_cons_zero, List.setIfInBounds_toArray, List.set_cons_zero, List.set_cons_succ])
      refine wpAnyH_take (i := 23) (v := ?_) rfl (by kernel_rfl) (by kernel_rfl) (by kernel_rfl) (fun _ _ _ h => h) (Or.inl ⟨by kernel_rfl, ?_⟩) hS2 ?_
      rotate_left
      · intro w hSw; (try dsimp only at hSw); go_simp; try (with_reducible rfl)
      (try simp only [Act.put, List.getElem_toArray, List.getElem_cons_succ, List.getElem_cons_zero, List.setIfInBounds_toArray, List.set_cons_zero, List.set_cons_succ])
      refine wpAnyH_take (i := 24) (v := ?_) rfl (by kernel_rfl) (by kernel_rfl) (by kernel_rfl) (fun _ _ _ h => h) (Or.inl ⟨by kernel_rfl, ?_⟩) hS2 ?_
      rotate_left
      · intro w hSw; (try dsimp only at hSw); go_simp; try (with_reducible rfl)
      (try simp only [Act.put, List.getElem_toArray, List.getElem_cons_succ, List.getElem_cons_zero, List.setIfInBounds_toArray, List.set_cons_zero, List.set_cons_succ])
      refine wpAnyH_take (i := 25) (v := ?_) rfl (by kernel_rfl) (by kernel_rfl) (by kernel_rfl) (fun _ _ _ h => h) (Or.inl ⟨by kernel_rfl, ?_⟩) hS2 ?_
      rotate_left
      · intro w hSw; (try dsimp only at hSw); go_simp; try (with_reducible rfl)
      (try simp only [Act.put, List.getElem_toArray, List.getElem_cons_succ, List.getElem_cons_zero, List.setIfInBounds_toArray, List.set_cons_zero, List.set_cons_succ])
      refine wpAnyH_take (i := 26) (v := ?_) rfl (by kernel_rfl) (by kernel_rfl) (by kernel_rfl) (fun _ _ _ h => h) (Or.inl ⟨by kernel_rfl, ?_⟩) hS2 ?_
      rotate_left
      · intro w hSw; (try dsimp only at hSw); go_simp; try (with_reducible rfl)
      (try simp only [Act.put, List.getElem_toArray, List.getElem_cons_succ, List.getElem_cons_zero, List.setIfInBounds_toArray, List.set_cons_zero, List.set_cons_succ])
      refine wpAnyH_take (i := 27) (v := ?_) rfl (by kernel_rfl) (by kernel_rfl) (by kernel_rfl) (fun _ _ _ h => h) (Or.inl ⟨by kernel_rfl, ?_⟩) hS2 ?_
      rotate_left
      · intro w hSw; (try dsimp only at hSw); go_simp; try (with_reducible rfl)
      (try simp only [Act.put, List.getElem_toArray, List.getElem_cons_succ, List.getElem_cons_zero, List.setIfInBounds_toArray, List.set_cons_zero, List.set_cons_succ])
      refine wpAnyH_take (i := 28) (v := ?_) rfl (by kernel_rfl) (by kernel_rfl) (by kernel_rfl) (fun _ _ _ h => h) (Or.inl ⟨by kernel_rfl, ?_⟩) hS2 ?_
      rotate_left
      · intro w hSw; (try dsimp only at hSw); go_simp; try (with_reducible rfl)
      (try simp only [Act.put, List.getElem_toArray, List.getElem_cons_succ, List.getElem_cons_zero, List.setIfInBounds_toArray, List.set_cons_zero, List.set_cons_succ])
      refine wpAnyH_take (i := 29) (v := ?_) rfl (by kernel_rfl) (by kernel_rfl) (by kernel_rfl) (fun _ _ _ h => h) (Or.inl ⟨by kernel_rfl, ?_⟩) hS2 ?_
      rotate_left
      · intro w hSw; (try dsimp only at hSw); go_simp; try (with_reducible rfl)
      (try simp only [Act.put, List.getElem_toArray, List.getElem_cons_succ, List.getElem_cons_zero, List.setIfInBounds_toArray, List.set_cons_zero, List.set_cons_succ])
      refine wpAnyH_take (i := 30) (v := ?_) rfl (by kernel_rfl) (by kernel_rfl) (by kernel_rfl) (fun _ _ _ h => h) (Or.inl ⟨by kernel_rfl, ?_⟩) hS2 ?_
      rotate_left
      · intro w hSw; (try dsimp only at hSw); go_simp; try (with_reducible rfl)
      (try simp only [Act.put, List.getElem_toArray, List.getElem_cons_succ, List.getElem_cons_zero, List.setIfInBounds_toArray, List.set_cons_zero, List.set_cons_succ])
      refine wpAnyH_take (i := 31) (v := ?_) rfl (by kernel_rfl) (by kernel_rfl) (by kernel_rfl) (fun _ _ _ h => h) (Or.inl ⟨by kernel_rfl, ?_⟩) hS2 ?_
      rotate_left
      · intro w hSw; (try dsimp only at hSw); go_simp; try (with_reducible rfl)
      (try simp only [Act.put, List.getElem_toArray, List.getElem_cons_succ, List.getElem_cons_zero, List.setIfInBounds_toArray, List.set_cons_zero, List.set_cons_succ])
      refine wpAnyH_take (i := 32) (v := ?_) rfl (by kernel_rfl) (by kernel_rfl) (by kernel_rfl) (fun _ _ _ h => h) (Or.inl ⟨by kernel_rfl, ?_⟩) hS2 ?_
      rotate_left
      · intro w hSw; (try dsimp only at hSw); go_simp; try (with_reducible rfl)
      (try simp only [Act.put, List.getElem_toArray, List.getElem_cons_succ, List.getElem_cons_zero, List.setIfInBounds_toArray, List.set_cons_zero, List.set_cons_succ])
      refine wpAnyH_take (i := 33) (v := ?_) rfl (by kernel_rfl) (by kernel_rfl) (by kernel_rfl) (fun _ _ _ h => h) (Or.inl ⟨by kernel_rfl, ?_⟩) hS2 ?_
      rotate_left
      · intro w hSw; (try dsimp only at hSw); go_simp; try (with_reducible rfl)
      (try simp only [Act.put, List.getElem_toArray, List.getElem_cons_succ, List.getElem_cons_zero, List.setIfInBounds_toArray, List.set_cons_zero, List.set_cons_succ])
      refine wpAnyH_take (i := 34) (v := ?_) rfl (by kernel_rfl) (by kernel_rfl) (by kernel_rfl) (fun _ _ _ h => h) (Or.inl ⟨by kernel_rfl, ?_⟩) hS2 ?_
      rotate_left
      · intro w hSw; (try dsimp only at hSw); go_simp; try (with_reducible rfl)
      (try simp only [Act.put, List.getElem_toArray, List.getElem_cons_succ, List.getElem_cons_zero, List.setIfInBounds_toArray, List.set_cons_zero, List.set_cons_succ])
      refine wpAnyH_take (i := 35) (v := undef) rfl (by kernel_rfl) (by kernel_rfl) (by kernel_rfl) (fun _ _ _ h => h) (Or.inr ⟨by kernel_rfl, rfl⟩) hS2 ?_
      (try simp only [Act.put, List.getElem_toArray, List.getElem_cons_succ, List.getElem_cons_zero, List.setIfInBounds_toArray, List.set_cons_zero, List.set_cons_succ])
      refine wpAnyH_take (i := 36) (v := undef) rfl (by kernel_rfl) (by kernel_rfl) (by kernel_rfl) (fun _ _ _ h => h) (Or.inr ⟨by kernel_rfl, rfl⟩) hS2 ?_
      (try simp only [Act.put, List.getElem_toArray, List.getElem_cons_succ, List.getElem_cons_zero, List.setIfInBounds_toArray, List.set_cons_zero, List.set_cons_succ])
      refine wpAnyH_take (i := 37) (v := ?_) rfl (by kernel_rfl) (by kernel_rfl) (by kernel_rfl) (fun _ _ _ h => h) (Or.inl ⟨by kernel_rfl, ?_⟩) hS2 ?_
      rotate_left
      · intro w hSw; (try dsimp only at hSw); go_simp; try (with_reducible rfl)
      (try simp only [Act.put, List.getElem_toArray, List.getElem_cons_succ, List.getElem_cons_zero, List.setIfInBounds_toArray, List.set_cons_zero, List.set_cons_succ])
      refine wpAnyH_take (i := 38) (v := ?_) rfl (by kernel_rfl) (by kernel_rfl) (by kernel_rfl) (fun _ _ _ h => h) (Or.inl ⟨by kernel_rfl, ?_⟩) hS2 ?_
      rotate_left
      · intro w hSw; (try dsimp only at hSw); go_simp; try (with_reducible rfl)
      (try simp only [Act.put, List.getElem_toArray, List.getElem_cons_succ, List.getElem_cons_zero, List.setIfInBounds_toArray, List.set_cons_zero, List.set_cons_succ])
      refine wpAnyH_done (by kernel_rfl) ?_ _
      clear hS2
      go_upto_region 11 with fail
      refine wp_region_list ?_
      refine wpList_load_trap rfl _ rfl tb n 0 true rfl Y1.out.2.1 ?_
      refine wpList_step (fun KK hKK => ?_)
      go_simp
      refine (HDL.out _ Y1.out.1.1).mono ?_
      rintro e v1 ⟨rfl, hb⟩
      have Z1 : Hid ((Tw w v1 fb db 0 0 (K) K) ∧ Box 36 v1 tb (trapC n 0 true) ∧ tb ≠ fb) := ⟨Y1.out.1.step hb, Y1.out.2.1.step hb, Y1.out.2.2⟩
      clear hb
      refine hKK _ _ ?_
      clear hKK KK
      cases dl
      · go_upto_region 12 with fail
        refine wp_region_list ?_
        refine wpList_load_trap rfl _ rfl tb n 0 true rfl Z1.out.2.1 ?_
        refine wpList_step (fun KK hKK => ?_)
        go_simp
        refine (HEM.out (by first | rfl | trivial) _ Z1.out.1.1).mono ?_
        rintro e v2 ⟨⟨y, rfl⟩, hB2, hU2⟩
        have Z2 : Hid ((Tw w v2 fb db (3) 0 (KM) K)) := Z1.out.1.file hB2 hU2
        clear hB2 hU2
        refine hKK _ _ ?_
        clear hKK KK
        go_wp2_with fail
        refine (HNM.out _ (HOW.out.below Z2.out.2.2.2.2) Z2.out.1).mono ?_
        rintro e v3 ⟨rfl, hb3⟩
        have Z3 : Hid ((Tw w v3 fb db (3) 0 (KM) K)) := Z2.out.step hb3
        clear hb3
        unfold tellT
        rename_i KK hKK
        refine hKK _ _ ?_
        clear hKK
        (refine wpList_step (fun KK hKK => ?_); go_simp; refine hKK _ _ ?_; clear hKK KK)
        refine wpList_extract_at rfl _ _ _ _ rfl rfl rfl ?_
        refine wpList_extract_at rfl _ _ _ _ rfl rfl rfl ?_
        refine wpList_alloc_trap rfl rfl ?_
        intro W1 hW1
        have B1 : Box 36 W1 v3.heap.size zeroT := by rw [hW1]; exact Box.new _ _ _
        have L1 : Below v3.heap.size v3 W1 := by rw [hW1]; exact (Below.refl _ _).alloc (Nat.le_refl _) _
        clear hW1
        refine wpList_store_trap rfl _ _ rfl v3.heap.size 0 0 (nzB 0) zeroT rfl rfl B1 zT_size ?_
        intro W4 B2 U2
        have hbW : Below v3.heap.size v3 W4 := L1.trans (U2.below (Nat.le_refl _) L1.size)
        have Z4 : Hid ((Tw w W4 fb db (3) 0 (KM) K) ∧ Box 36 W4 v3.heap.size (trapC 0 0 (nzB 0))) := ⟨Z3.out.step hbW, B2⟩
        clear B1 L1 B2 U2 hbW
        generalize v3.heap.size = ub at *
        rw [show nzB 0 = false from rfl]
        go_wp2_with fail
        go_ret
        exact ⟨rfl, Z4.out.1.2.2.2.2⟩
      · go_upto_region 12 with fail
        refine wp_region_list ?_
        refine wpList_load_trap rfl _ rfl tb n 0 true rfl Z1.out.2.1 ?_
        refine wpList_step (fun KK hKK => ?_)
        go_simp
        refine (HES.out (by first | rfl | trivial) _ Z1.out.1.1).mono ?_
        rintro e v2 ⟨⟨y, rfl⟩, hB2, hU2⟩
        have Z2 : Hid ((Tw w v2 fb db (1) 0 (KS) K)) := Z1.out.1.file hB2 hU2
        clear hB2 hU2
        refine hKK _ _ ?_
        clear hKK KK
        go_wp2_with fail
        refine (HNS.out _ (HOW.out.below Z2.out.2.2.2.2) Z2.out.1).mono ?_
        rintro e v3 ⟨rfl, hb3⟩
        have Z3 : Hid ((Tw w v3 fb db (1) 0 (KS) K)) := Z2.out.step hb3
        clear hb3
        unfold tellT
        rename_i KK hKK
        refine hKK _ _ ?_
        clear hKK
        (refine wpList_step (fun KK hKK => ?_); go_simp; refine hKK _ _ ?_; clear hKK KK)
        refine wpList_extract_at rfl _ _ _ _ rfl rfl rfl ?_
        refine wpList_extract_at rfl _ _ _ _ rfl rfl rfl ?_
        refine wpList_alloc_trap rfl rfl ?_
        intro W1 hW1
        have B1 : Box 36 W1 v3.heap.size zeroT := by rw [hW1]; exact Box.new _ _ _
        have L1 : Below v3.heap.size v3 W1 := by rw [hW1]; exact (Below.refl _ _).alloc (Nat.le_refl _) _
        clear hW1
        refine wpList_store_trap rfl _ _ rfl v3.heap.size n2 0 (nzB n2) zeroT rfl rfl B1 zT_size ?_
        intro W4 B2 U2
        have hbW : Below v3.heap.size v3 W4 := L1.trans (U2.below (Nat.le_refl _) L1.size)
        have Z4 : Hid ((Tw w W4 fb db (1) 0 (KS) K) ∧ Box 36 W4 v3.heap.size (trapC n2 0 (nzB n2))) := ⟨Z3.out.step hbW, B2⟩
        clear B1 L1 B2 U2 hbW
        generalize v3.heap.size = ub at *
        by_cases hq : n2 = 0
        · rw [show nzB n2 = false from by rw [hq]; rfl]
          clear hq
          go_wp2_with fail
          go_ret
          exact ⟨rfl, Z4.out.1.2.2.2.2⟩
        · have HQ2 : Hid (n2 ≠ 0) := hq
          have hz2 : nzB n2 = true := decide_eq_true hq
          have Z5 : Hid (Box 36 W4 ub (trapC n2 0 true)) := by have h := Z4.out.2; rw [hz2] at h; exact h
          rw [hz2]
          clear hz2 hq
          go_upto_region 14 with fail
          refine wp_region_list ?_
          iterate 5 (refine wpList_step (fun KK hKK => ?_); go_simp; refine hKK _ _ ?_; clear hKK KK)
          refine wpList_load_trapG (by first | rfl | kernel_rfl) _ rfl ub n2 0 true rfl Z5.out ?_
          go_wp2_with fail
          refine (HD2.out (by first | rfl | trivial) HQ2.out _ Z4.out.1.1).mono ?_
          rintro e v6 ⟨rfl, hb6⟩
          go_wp2_with fail
          go_ret
          exact ⟨rfl, (Z4.out.1.step hb6).2.2.2.2⟩
end Go.Proofs.YtdljceeoofhfnaaDoor
