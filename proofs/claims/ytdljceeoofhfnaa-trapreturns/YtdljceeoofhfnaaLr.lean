/- The law TrapReturns. -/
import Derived.Test.YtdljceeoofhfnaaOt
import Derived.Test.YtdljceeoofhfnaaSa
import Derived.Test.YtdljceeoofhfnaaDs
namespace Go.Proofs.Ytdljceeoofhfnaa
open Go.RowKit Go.Maps
set_option linter.unusedVariables false
set_option linter.unusedSimpArgs false
set_option maxRecDepth 100000
theorem mret_both (mo : Int) (h : 0 ≤ mo ∧ mo ≤ 3 ∧ mo ≠ 2) (K : Nat → Nat) (hK : Ok K) (fb : Nat) : ∃ (m2 : Int) (K2 : Nat → Nat) (y : Nat) (bb : Bool),
    (∀ V, Box 31 V fb (fileC mo K) → Calls Try.prog 17 #[.pointer (some ⟨fb, 0, none⟩)] V fun e w' => e = .returned (.tuple #[.int .u64 (y : Int), .bool bb]) ∧ Box 31 w' fb (fileC m2 K2) ∧ Upon fb V w') ∧
    ∀ V, Calls Try.prog 18 #[.agg (docC mo K)] V fun e w' => e = .returned (.tuple #[.agg (docC m2 K2), .int .u64 (y : Int), .bool bb]) ∧ Below V.heap.size V w' := by
  by_cases h3 : mo = 3
  · subst h3
    exact ⟨_, _, _, _, fun V hV => mret_yes K fb hK V hV, fun V => dmret_yes K hK V⟩
  · refine ⟨mo, K, 0, false, fun V hV => (mret_no mo h3 K fb V hV).mono ?_, fun V => dmret_no mo h3 K V⟩
    rintro e w' ⟨rfl, hb⟩
    exact ⟨rfl, hV.step hb, Upon.of_below hb⟩
theorem sret_both (mo : Int) (h : 0 ≤ mo ∧ mo ≤ 3 ∧ mo ≠ 2) (K : Nat → Nat) (hK : Ok K) (fb : Nat) : ∃ (m2 : Int) (K2 : Nat → Nat) (y : Nat) (bb : Bool),
    (∀ V, Box 31 V fb (fileC mo K) → Calls Try.prog 15 #[.pointer (some ⟨fb, 0, none⟩)] V fun e w' => e = .returned (.tuple #[.int .u64 (y : Int), .bool bb]) ∧ Box 31 w' fb (fileC m2 K2) ∧ Upon fb V w') ∧
    ∀ V, Calls Try.prog 16 #[.agg (docC mo K)] V fun e w' => e = .returned (.tuple #[.agg (docC m2 K2), .int .u64 (y : Int), .bool bb]) ∧ Below V.heap.size V w' := by
  have h' : mo = 0 ∨ mo = 1 ∨ mo = 3 := by omega
  clear h
  rcases h' with rfl | rfl | rfl
  · refine ⟨0, K, 0, false, fun V hV => (sret_no0 K fb V hV).mono ?_, fun V => dsret_no0 K V⟩
    rintro e w' ⟨rfl, hb⟩
    exact ⟨rfl, hV.step hb, Upon.of_below hb⟩
  · cases ht : isB K 22
    · exact ⟨_, _, _, _, fun V hV => sret_yes1 K fb hK ht V hV, fun V => dsret_yes1 K hK ht V⟩
    · refine ⟨1, K, 0, false, fun V hV => (sret_no1 K fb hK ht V hV).mono ?_, fun V => dsret_no1 K hK ht V⟩
      rintro e w' ⟨rfl, hb⟩
      exact ⟨rfl, hV.step hb, Upon.of_below hb⟩
  · exact ⟨_, _, _, _, fun V hV => sret_yes3 K fb hK V hV, fun V => dsret_yes3 K hK V⟩
set_option maxHeartbeats 8000000 in
theorem returns_core (mo : Int) (g : Option Addr) (len cap ln : Nat) (ws : Nat → Int × Nat) (hln : ln < 18446744073709551616) (su : Bool) (w : World) (hws : WritesIn w (.slice g len cap) len ws) : Calls Try.prog 4 #[.agg #[.int .i64 mo, .slice g len cap, .int .u64 (ln : Nat)], .bool su] w fun e w' => e = .returned (.bool true) ∧ Below w.heap.size w w' := by
  have HWS : Hid (WritesIn w (.slice g len cap) len ws) := hws
  have HLN : Hid (ln < 18446744073709551616) := hln
  clear hws hln
  have A0 : Hid (Box 25 (w.alloc (.cells #[.int .i64 mo, .slice g len cap, .int .u64 (ln : Nat)] 25)) w.heap.size #[.int .i64 mo, .slice g len cap, .int .u64 (ln : Nat)] ∧ Below w.heap.size w (w.alloc (.cells #[.int .i64 mo, .slice g len cap, .int .u64 (ln : Nat)] 25))) := ⟨Box.new _ _ _, (Below.refl _ _).alloc (Nat.le_refl _) _⟩
  go_enter Try.func4, Try.ntmps4
  go_upto_region 1 with fail
  generalize (w.alloc (.cells #[.int .i64 mo, .slice g len cap, .int .u64 (ln : Nat)] 25)) = W at *
  go_wp2_with fail
  refine (awake_any _).mono ?_
  rintro e w1 ⟨rfl, hb1⟩
  have A1 : Hid (Box 25 w1 w.heap.size #[.int .i64 mo, .slice g len cap, .int .u64 (ln : Nat)] ∧ Below w.heap.size w w1) := ⟨A0.out.1.step hb1, A0.out.2.trans (hb1.mono A0.out.2.size)⟩
  clear hb1 A0
  go_upto_region 3 with fail
  refine wp_region_list ?_
  have a0 : w1.cell? ⟨w.heap.size, 0, none⟩ = some (.int .i64 mo) := A1.out.1.cell 0 _ rfl
  have a1 : w1.cell? ⟨w.heap.size, 1, none⟩ = some (.slice g len cap) := A1.out.1.cell 1 _ rfl
  have a2 : w1.cell? ⟨w.heap.size, 2, none⟩ = some (.int .u64 (ln : Nat)) := A1.out.1.cell 2 _ rfl
  (refine wpList_step (fun KK hKK => ?_); go_simp; refine hKK _ _ ?_; clear hKK KK)
  clear a0 a1 a2
  refine wpList_step (fun KK hKK => ?_)
  go_simp
  by_cases h : mo < 0 ∨ 3 < mo ∨ mo = 2 ∨ 40 < (len : Int)
  · refine (begun_no mo g len cap ln h _).mono ?_
    rintro e w2 ⟨rfl, hb2⟩
    have A2 : Hid (Below w.heap.size w w2) := A1.out.2.trans (hb2.mono A1.out.2.size)
    clear hb2
    refine hKK _ _ ?_
    clear hKK KK
    (refine wpList_step (fun KK hKK => ?_); go_simp; refine hKK _ _ ?_; clear hKK KK)
    refine wpList_extract_at rfl _ _ _ _ rfl rfl rfl ?_
    refine wpList_extract_at rfl _ _ _ _ rfl rfl rfl ?_
    refine wpList_extract_at rfl _ _ _ _ rfl rfl rfl ?_
    refine wpList_alloc_file rfl rfl ?_
    intro W0 hW0
    have B0 : Box 31 W0 w2.heap.size zeroC := by rw [hW0]; exact Box.new _ _ _
    have L0 : Below w2.heap.size w2 W0 := by rw [hW0]; exact (Below.refl _ _).alloc (Nat.le_refl _) _
    have Z0 : W0.heap.size = w2.heap.size + 1 := by rw [hW0]; simp
    clear hW0
    refine wpList_alloc_doc rfl rfl ?_
    intro W3 hW3
    have B3 : Box 34 W3 W0.heap.size zeroD := by rw [hW3]; exact Box.new _ _ _
    have L3 : Below W0.heap.size W0 W3 := by rw [hW3]; exact (Below.refl _ _).alloc (Nat.le_refl _) _
    clear hW3
    refine wpList_store_file rfl _ _ rfl w2.heap.size 3 (fun _ => 0) zeroC rfl rfl (B0.step L3) zeroC_size ?_
    intro W4 B4 U4
    refine wpList_store_doc rfl _ _ rfl W0.heap.size 3 (fun _ => 0) zeroD rfl rfl (U4.box B3 (by omega)) zeroD_size ?_
    intro W5 B5 U5
    have X5 : Hid (Tw w W5 w2.heap.size W0.heap.size 3 3 (fun _ => 0) (fun _ => 0)) := by
      have l2 : Below w2.heap.size w2 W4 := (L0.trans (L3.mono L0.size)).trans (U4.below (Nat.le_refl _) (Nat.le_trans L0.size L3.size))
      have l5 : Below w2.heap.size w2 W5 := l2.trans (U5.below (by omega) l2.size)
      exact ⟨U5.box B4 (by omega), B5, A2.out.size, by omega, A2.out.trans (l5.mono A2.out.size)⟩
    clear B0 L0 B3 L3 B4 U4 B5 U5 Z0
    generalize w2.heap.size = fb at *
    generalize W0.heap.size = db at *
    go_wp2_with fail
    go_ret
    exact ⟨rfl, X5.out.2.2.2.2⟩
  · refine (begun_yes mo g len cap ln ws (by omega) (by omega) (by omega) (by omega) HLN.out _ (HWS.out.below A1.out.2)).mono ?_
    rintro e w2 ⟨K, hK, rfl, hb2⟩
    have A2 : Hid (Below w.heap.size w w2) := A1.out.2.trans (hb2.mono A1.out.2.size)
    clear hb2
    refine hKK _ _ ?_
    clear hKK KK
    (refine wpList_step (fun KK hKK => ?_); go_simp; refine hKK _ _ ?_; clear hKK KK)
    refine wpList_extract_at rfl _ _ _ _ rfl rfl rfl ?_
    refine wpList_extract_at rfl _ _ _ _ rfl rfl rfl ?_
    refine wpList_extract_at rfl _ _ _ _ rfl rfl rfl ?_
    refine wpList_alloc_file rfl rfl ?_
    intro W0 hW0
    have B0 : Box 31 W0 w2.heap.size zeroC := by rw [hW0]; exact Box.new _ _ _
    have L0 : Below w2.heap.size w2 W0 := by rw [hW0]; exact (Below.refl _ _).alloc (Nat.le_refl _) _
    have Z0 : W0.heap.size = w2.heap.size + 1 := by rw [hW0]; simp
    clear hW0
    refine wpList_alloc_doc rfl rfl ?_
    intro W3 hW3
    have B3 : Box 34 W3 W0.heap.size zeroD := by rw [hW3]; exact Box.new _ _ _
    have L3 : Below W0.heap.size W0 W3 := by rw [hW3]; exact (Below.refl _ _).alloc (Nat.le_refl _) _
    clear hW3
    refine wpList_store_file rfl _ _ rfl w2.heap.size mo K zeroC rfl rfl (B0.step L3) zeroC_size ?_
    intro W4 B4 U4
    refine wpList_store_doc rfl _ _ rfl W0.heap.size mo K zeroD rfl rfl (U4.box B3 (by omega)) zeroD_size ?_
    intro W5 B5 U5
    have X5 : Hid (Tw w W5 w2.heap.size W0.heap.size mo mo K K) := by
      have l2 : Below w2.heap.size w2 W4 := (L0.trans (L3.mono L0.size)).trans (U4.below (Nat.le_refl _) (Nat.le_trans L0.size L3.size))
      have l5 : Below w2.heap.size w2 W5 := l2.trans (U5.below (by omega) l2.size)
      exact ⟨U5.box B4 (by omega), B5, A2.out.size, by omega, A2.out.trans (l5.mono A2.out.size)⟩
    clear B0 L0 B3 L3 B4 U4 B5 U5 Z0
    generalize w2.heap.size = fb at *
    generalize W0.heap.size = db at *
    have HQ : Hid (0 ≤ mo ∧ mo ≤ 3 ∧ mo ≠ 2) := by show 0 ≤ mo ∧ mo ≤ 3 ∧ mo ≠ 2; omega
    have HK : Hid (Ok K) := hK
    clear h hK
    cases su
    · obtain ⟨m2, K2, y, bb, HP, HD⟩ := mret_both mo HQ.out K HK.out fb
      clear HK HQ
      go_wp2_with fail
      refine (HP _ X5.out.1).mono ?_
      rintro e w6 ⟨rfl, hB6, hU6⟩
      have X6 : Hid (Tw w w6 fb db m2 mo K2 K) := X5.out.file hB6 hU6
      clear hB6 hU6 HP
      go_upto_region 11 with fail
      refine wp_region_list ?_
      refine wpList_load_doc rfl _ rfl db mo K rfl X6.out.2.1 ?_
      refine wpList_step (fun KK hKK => ?_)
      go_simp
      refine (HD _).mono ?_
      rintro e w7 ⟨rfl, hb7⟩
      have X7 : Hid (Tw w w7 fb db m2 mo K2 K) := X6.out.step hb7
      clear hb7 HD
      refine hKK _ _ ?_
      clear hKK KK
      (refine wpList_step (fun KK hKK => ?_); go_simp; refine hKK _ _ ?_; clear hKK KK)
      refine wpList_extract_at rfl _ _ _ _ rfl rfl rfl ?_
      refine wpList_extract_at rfl _ _ _ _ rfl rfl rfl ?_
      refine wpList_extract_at rfl _ _ _ _ rfl rfl rfl ?_
      refine wpList_alloc_doc rfl rfl ?_
      intro W8 hW8
      have B8 : Box 34 W8 w7.heap.size zeroD := by rw [hW8]; exact Box.new _ _ _
      have L8 : Below w7.heap.size w7 W8 := by rw [hW8]; exact (Below.refl _ _).alloc (Nat.le_refl _) _
      clear hW8
      refine wpList_store_doc rfl _ _ rfl w7.heap.size m2 K2 zeroD rfl rfl B8 zeroD_size ?_
      intro W9 B9 U9
      have X9 : Hid (Tw w W9 fb db m2 mo K2 K ∧ Box 34 W9 w7.heap.size (docC m2 K2)) := ⟨X7.out.step (L8.trans (U9.below (Nat.le_refl _) L8.size)), B9⟩
      clear B8 L8 B9 U9
      generalize w7.heap.size = xb at *
      go_upto_region 12 with fail
      refine wp_region_list ?_
      iterate 9 (refine wpList_step (fun KK hKK => ?_); go_simp; refine hKK _ _ ?_; clear hKK KK)
      refine wpList_load_fileG (by first | rfl | kernel_rfl) _ rfl fb m2 K2 rfl X9.out.1.1 ?_
      refine wpList_load_docG (by first | rfl | kernel_rfl) _ rfl xb m2 K2 rfl X9.out.2 ?_
      go_wp2_with fail
      refine (same_any m2 K2 _).mono ?_
      rintro e w10 ⟨rfl, hb10⟩
      go_wp2_with fail
      go_ret
      exact ⟨rfl, (X9.out.1.step hb10).2.2.2.2⟩
    · obtain ⟨m2, K2, y, bb, HP, HD⟩ := sret_both mo HQ.out K HK.out fb
      clear HK HQ
      go_wp2_with fail
      refine (HP _ X5.out.1).mono ?_
      rintro e w6 ⟨rfl, hB6, hU6⟩
      have X6 : Hid (Tw w w6 fb db m2 mo K2 K) := X5.out.file hB6 hU6
      clear hB6 hU6 HP
      go_upto_region 8 with fail
      refine wp_region_list ?_
      refine wpList_load_doc rfl _ rfl db mo K rfl X6.out.2.1 ?_
      refine wpList_step (fun KK hKK => ?_)
      go_simp
      refine (HD _).mono ?_
      rintro e w7 ⟨rfl, hb7⟩
      have X7 : Hid (Tw w w7 fb db m2 mo K2 K) := X6.out.step hb7
      clear hb7 HD
      refine hKK _ _ ?_
      clear hKK KK
      (refine wpList_step (fun KK hKK => ?_); go_simp; refine hKK _ _ ?_; clear hKK KK)
      refine wpList_extract_at rfl _ _ _ _ rfl rfl rfl ?_
      refine wpList_extract_at rfl _ _ _ _ rfl rfl rfl ?_
      refine wpList_extract_at rfl _ _ _ _ rfl rfl rfl ?_
      refine wpList_alloc_doc rfl rfl ?_
      intro W8 hW8
      have B8 : Box 34 W8 w7.heap.size zeroD := by rw [hW8]; exact Box.new _ _ _
      have L8 : Below w7.heap.size w7 W8 := by rw [hW8]; exact (Below.refl _ _).alloc (Nat.le_refl _) _
      clear hW8
      refine wpList_store_doc rfl _ _ rfl w7.heap.size m2 K2 zeroD rfl rfl B8 zeroD_size ?_
      intro W9 B9 U9
      have X9 : Hid (Tw w W9 fb db m2 mo K2 K ∧ Box 34 W9 w7.heap.size (docC m2 K2)) := ⟨X7.out.step (L8.trans (U9.below (Nat.le_refl _) L8.size)), B9⟩
      clear B8 L8 B9 U9
      generalize w7.heap.size = xb at *
      go_upto_region 9 with fail
      refine wp_region_list ?_
      iterate 9 (refine wpList_step (fun KK hKK => ?_); go_simp; refine hKK _ _ ?_; clear hKK KK)
      refine wpList_load_fileG (by first | rfl | kernel_rfl) _ rfl fb m2 K2 rfl X9.out.1.1 ?_
      refine wpList_load_docG (by first | rfl | kernel_rfl) _ rfl xb m2 K2 rfl X9.out.2 ?_
      go_wp2_with fail
      refine (same_any m2 K2 _).mono ?_
      rintro e w10 ⟨rfl, hb10⟩
      go_wp2_with fail
      go_ret
      exact ⟨rfl, (X9.out.1.step hb10).2.2.2.2⟩
end Go.Proofs.Ytdljceeoofhfnaa
