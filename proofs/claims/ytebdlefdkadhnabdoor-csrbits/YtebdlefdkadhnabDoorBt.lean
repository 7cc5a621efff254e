/- The law CsrBits. -/
import Derived.Test.YtebdlefdkadhnabDoorLa
import Derived.Test.YtebdlefdkadhnabDoorBq
namespace Go.Proofs.YtebdlefdkadhnabDoor
open Go.RowKit Go.Maps
set_option linter.unusedVariables false
set_option linter.unusedSimpArgs false
set_option maxRecDepth 100000
set_option maxHeartbeats 8000000 in
theorem bits_core (mo : Int) (g : Option Addr) (len cap ln : Nat) (ws : Nat → Int × Nat) (hln : ln < 18446744073709551616) (i : Int) (hi : (Lit.int .i64 i).wf = true) (m : Int) (hm : (Lit.int .i64 m).wf = true) (w : World) (hR : Regs w) (hws : WritesIn w (.slice g len cap) len ws) : Calls Tryd.prog 4 #[.agg #[.int .i64 mo, .slice g len cap, .int .u64 (ln : Nat)], .int .i64 i, .int .i64 m] w fun e w' => e = .returned (.bool true) ∧ Below w.heap.size w w' := by
  clear hi hm
  have HR : Hid (Regs w) := hR
  have HWS : Hid (WritesIn w (.slice g len cap) len ws) := hws
  have HLN : Hid (ln < 18446744073709551616) := hln
  clear hR hws hln
  have A0 : Hid (Box 25 (w.alloc (.cells #[.int .i64 mo, .slice g len cap, .int .u64 (ln : Nat)] 25)) w.heap.size #[.int .i64 mo, .slice g len cap, .int .u64 (ln : Nat)] ∧ Below w.heap.size w (w.alloc (.cells #[.int .i64 mo, .slice g len cap, .int .u64 (ln : Nat)] 25))) := ⟨Box.new _ _ _, (Below.refl _ _).alloc (Nat.le_refl _) _⟩
  go_enter Tryd.func4, Tryd.ntmps4
  go_upto_region 1 with fail
  generalize w.alloc (.cells #[.int .i64 mo, .slice g len cap, .int .u64 (ln : Nat)] 25) = W at *
  go_wp2_with fail
  refine (awake_any _ (HR.out.below A0.out.2)).mono ?_
  rintro e w1 ⟨rfl, hb1⟩
  have A1 : Hid (Box 25 w1 w.heap.size #[.int .i64 mo, .slice g len cap, .int .u64 (ln : Nat)] ∧ Below w.heap.size w w1) := ⟨A0.out.1.step hb1, A0.out.2.trans (hb1.mono A0.out.2.size)⟩
  clear hb1 A0
  go_upto_region 3 with fail
  refine wp_region_list ?_
  have a0 : w1.cell? ⟨w.heap.size, 0, none⟩ = some (.int .i64 mo) := A1.out.1.cell 0 _ rfl
  have a1 : w1.cell? ⟨w.heap.size, 1, none⟩ = some (.slice g len cap) := A1.out.1.cell 1 _ rfl
  have a2 : w1.cell? ⟨w.heap.size, 2, none⟩ = some (.int .u64 (ln : Nat)) := A1.out.1.cell 2 _ rfl
  (refine wpList_step (fun KK hKK => ?_); go_simp; refine hKK _ _ ?_; clear hKK KK)
  clear a0 a1 a2
  refine wpList_step (fun KK hKK => ?_)
  go_simp
  by_cases h : mo < 0 ∨ 3 < mo ∨ mo = 2 ∨ 40 < (len : Int)
  · refine (begun_no mo g len cap ln h _).mono ?_
    rintro e w2 ⟨rfl, hb2⟩
    have A2 : Hid (Below w.heap.size w w2) := A1.out.2.trans (hb2.mono A1.out.2.size)
    clear hb2
    refine hKK _ _ ?_
    clear hKK KK
    (refine wpList_step (fun KK hKK => ?_); go_simp; refine hKK _ _ ?_; clear hKK KK)
    refine wpList_extract_at rfl _ _ _ _ rfl rfl rfl ?_
    refine wpList_extract_at rfl _ _ _ _ rfl rfl rfl ?_
    refine wpList_extract_at rfl _ _ _ _ rfl rfl rfl ?_
    refine wpList_alloc_file rfl rfl ?_
    intro W0 hW0
    have B0 : Box 32 W0 w2.heap.size zeroC := by rw [hW0]; exact Box.new _ _ _
    have L0 : Below w2.heap.size w2 W0 := by rw [hW0]; exact (Below.refl _ _).alloc (Nat.le_refl _) _
    have Z0 : W0.heap.size = w2.heap.size + 1 := by rw [hW0]; simp
    clear hW0
    refine wpList_alloc_doc rfl rfl ?_
    intro W3 hW3
    have B3 : Box 35 W3 W0.heap.size zeroD := by rw [hW3]; exact Box.new _ _ _
    have L3 : Below W0.heap.size W0 W3 := by rw [hW3]; exact (Below.refl _ _).alloc (Nat.le_refl _) _
    clear hW3
    refine wpList_store_file rfl _ _ rfl w2.heap.size 3 (fun _ => 0) zeroC rfl rfl (B0.step L3) zeroC_size ?_
    intro W4 B4 U4
    refine wpList_store_doc rfl _ _ rfl W0.heap.size 3 (fun _ => 0) zeroD rfl rfl (U4.box B3 (by omega)) zeroD_size ?_
    intro W5 B5 U5
    have X5 : Hid (Tw w W5 w2.heap.size W0.heap.size 3 3 (fun _ => 0) (fun _ => 0)) := by
      have l2 : Below w2.heap.size w2 W4 := (L0.trans (L3.mono L0.size)).trans (U4.below (Nat.le_refl _) (Nat.le_trans L0.size L3.size))
      have l5 : Below w2.heap.size w2 W5 := l2.trans (U5.below (by omega) l2.size)
      exact ⟨U5.box B4 (by omega), B5, A2.out.size, by omega, A2.out.trans (l5.mono A2.out.size)⟩
    clear B0 L0 B3 L3 B4 U4 B5 U5 Z0
    generalize w2.heap.size = fb at *
    generalize W0.heap.size = db at *
    go_wp2_with fail
    go_ret
    exact ⟨rfl, X5.out.2.2.2.2⟩
  · refine (begun_yes mo g len cap ln ws (by omega) (by omega) (by omega) (by omega) HLN.out _ (HWS.out.below A1.out.2)).mono ?_
    rintro e w2 ⟨K, hK, rfl, hb2⟩
    have A2 : Hid (Below w.heap.size w w2) := A1.out.2.trans (hb2.mono A1.out.2.size)
    clear hb2 h
    refine hKK _ _ ?_
    clear hKK KK
    (refine wpList_step (fun KK hKK => ?_); go_simp; refine hKK _ _ ?_; clear hKK KK)
    refine wpList_extract_at rfl _ _ _ _ rfl rfl rfl ?_
    refine wpList_extract_at rfl _ _ _ _ rfl rfl rfl ?_
    refine wpList_extract_at rfl _ _ _ _ rfl rfl rfl ?_
    refine wpList_alloc_file rfl rfl ?_
    intro W0 hW0
    have B0 : Box 32 W0 w2.heap.size zeroC := by rw [hW0]; exact Box.new _ _ _
    have L0 : Below w2.heap.size w2 W0 := by rw [hW0]; exact (Below.refl _ _).alloc (Nat.le_refl _) _
    have Z0 : W0.heap.size = w2.heap.size + 1 := by rw [hW0]; simp
    clear hW0
    refine wpList_alloc_doc rfl rfl ?_
    intro W3 hW3
    have B3 : Box 35 W3 W0.heap.size zeroD := by rw [hW3]; exact Box.new _ _ _
    have L3 : Below W0.heap.size W0 W3 := by rw [hW3]; exact (Below.refl _ _).alloc (Nat.le_refl _) _
    clear hW3
    refine wpList_store_file rfl _ _ rfl w2.heap.size mo K zeroC rfl rfl (B0.step L3) zeroC_size ?_
    intro W4 B4 U4
    refine wpList_store_doc rfl _ _ rfl W0.heap.size mo K zeroD rfl rfl (U4.box B3 (by omega)) zeroD_size ?_
    intro W5 B5 U5
    have X5 : Hid (Tw w W5 w2.heap.size W0.heap.size mo mo K K) := by
      have l2 : Below w2.heap.size w2 W4 := (L0.trans (L3.mono L0.size)).trans (U4.below (Nat.le_refl _) (Nat.le_trans L0.size L3.size))
      have l5 : Below w2.heap.size w2 W5 := l2.trans (U5.below (by omega) l2.size)
      exact ⟨U5.box B4 (by omega), B5, A2.out.size, by omega, A2.out.trans (l5.mono A2.out.size)⟩
    clear B0 L0 B3 L3 B4 U4 B5 U5 Z0
    generalize w2.heap.size = fb at *
    generalize W0.heap.size = db at *
    by_cases h1 : i < 0
    · skip
      go_wp2_with fail
      go_ret
      exact ⟨rfl, X5.out.2.2.2.2⟩
    by_cases h2 : 63 < i
    · skip
      go_wp2_with fail
      go_ret
      exact ⟨rfl, X5.out.2.2.2.2⟩
    by_cases h3 : m < 0
    · skip
      go_wp2_with fail
      go_ret
      exact ⟨rfl, X5.out.2.2.2.2⟩
    by_cases h4 : 3 < m
    · skip
      go_wp2_with fail
      go_ret
      exact ⟨rfl, X5.out.2.2.2.2⟩
    obtain ⟨j, rfl⟩ : ∃ j : Nat, i = j := ⟨i.toNat, by omega⟩
    obtain ⟨v, rfl⟩ : ∃ v : Nat, m = v := ⟨m.toNat, by omega⟩
    have hj : j ≤ 63 := by omega
    have hv : v ≤ 3 := by omega
    have HK1 : Hid (Ok (upd K 0 (putA (K 0) j 1 1))) := hK.upd _ _ (putA_lt _ _ _ _ (hK _))
    have HS1 : Hid (∀ V, Box 32 V fb (fileC mo K) → Calls Tryd.prog 8 #[.pointer (some ⟨fb, 0, none⟩), .int .i64 (j : Int), .bool true] V fun e w' => e = .returned (.tuple #[]) ∧ Box 32 w' fb (fileC mo (upd K 0 (putA (K 0) j 1 1))) ∧ Upon fb V w') := fun V hV => set_on mo K j fb hK V hV
    have HI1 : Hid (∀ V, Box 32 V fb (fileC mo (upd K 0 (putA (K 0) j 1 1))) → Calls Tryd.prog 9 #[.pointer (some ⟨fb, 0, none⟩), .int .i64 (j : Int)] V fun e w' => e = .returned (.bool true) ∧ Below V.heap.size V w') := fun V hV => by
      have h := is_any mo (upd K 0 (putA (K 0) j 1 1)) j fb HK1.out V hV
      rw [upd_at, get_set (K 0) j 1 hj (by omega)] at h
      exact h
    have HS0 : Hid (∀ V, Box 32 V fb (fileC mo (upd K 0 (putA (K 0) j 1 1))) → Calls Tryd.prog 8 #[.pointer (some ⟨fb, 0, none⟩), .int .i64 (j : Int), .bool false] V fun e w' => e = .returned (.tuple #[]) ∧ Box 32 w' fb (fileC mo (upd K 0 (putA (K 0) j 1 0))) ∧ Upon fb V w') := fun V hV => by
      have h := set_off mo (upd K 0 (putA (K 0) j 1 1)) j fb HK1.out V hV
      rw [upd_at, upd_upd, put_put (K 0) j 1 0 hj] at h
      exact h
    have HK0 : Hid (Ok (upd K 0 (putA (K 0) j 1 0))) := hK.upd _ _ (putA_lt _ _ _ _ (hK _))
    have HI0 : Hid (∀ V, Box 32 V fb (fileC mo (upd K 0 (putA (K 0) j 1 0))) → Calls Tryd.prog 9 #[.pointer (some ⟨fb, 0, none⟩), .int .i64 (j : Int)] V fun e w' => e = .returned (.bool false) ∧ Below V.heap.size V w') := fun V hV => by
      have h := is_any mo (upd K 0 (putA (K 0) j 1 0)) j fb HK0.out V hV
      rw [upd_at, get_set (K 0) j 0 hj (by omega)] at h
      exact h
    have HKE : Hid (∀ V, Box 32 V fb (fileC mo K) → Calls Tryd.prog 10 #[.pointer (some ⟨fb, 0, none⟩), .int .i64 (v : Int)] V fun e w' => e = .returned (.tuple #[]) ∧ Box 32 w' fb (fileC mo (upd K 0 (putA (K 0) 11 2 v))) ∧ Upon fb V w') := fun V hV => keep_any mo K v fb hv hK V hV
    have HKM : Hid (Ok (upd K 0 (putA (K 0) 11 2 v))) := hK.upd _ _ (putA_lt _ _ _ _ (hK _))
    have HPR : Hid (∀ V, Box 32 V fb (fileC mo (upd K 0 (putA (K 0) 11 2 v))) → Calls Tryd.prog 12 #[.pointer (some ⟨fb, 0, none⟩)] V fun e w' => e = .returned (.int .i64 (v : Int)) ∧ Below V.heap.size V w') := fun V hV => prev_any mo _ v fb hv (by rw [upd_at]; exact get_keep _ _ hv) HKM.out V hV
    have HP1 : Hid (∀ V, Calls Tryd.prog 11 #[.int .u64 (K 0 : Nat), .int .i64 (j : Int), .int .i64 1, .int .u64 1] V fun e w' => e = .returned (.int .u64 (upd K 0 (putA (K 0) j 1 1) 0 : Nat)) ∧ Below V.heap.size V w') := fun V => by rw [upd_at]; exact rput_all (K 0) j 1 1 (hK _) (by decide) V V (Below.refl _ _)
    have HP0 : Hid (∀ V, Calls Tryd.prog 11 #[.int .u64 (K 0 : Nat), .int .i64 (j : Int), .int .i64 1, .int .u64 0] V fun e w' => e = .returned (.int .u64 (upd K 0 (putA (K 0) j 1 0) 0 : Nat)) ∧ Below V.heap.size V w') := fun V => by rw [upd_at]; exact rput_all (K 0) j 1 0 (hK _) (by decide) V V (Below.refl _ _)
    have HPK : Hid (∀ V, Calls Tryd.prog 11 #[.int .u64 (K 0 : Nat), .int .i64 11, .int .i64 2, .int .u64 (v : Int)] V fun e w' => e = .returned (.int .u64 (upd K 0 (putA (K 0) 11 2 v) 0 : Nat)) ∧ Below V.heap.size V w') := fun V => by rw [upd_at]; exact rput_all (K 0) 11 2 v (hK _) (by omega) V V (Below.refl _ _)
    have HBK : Hid (∀ y V, Box 32 V fb (fileC mo (upd K 0 y)) → Box 32 (V.setCell ⟨fb, 1, none⟩ (.int .u64 (K 0 : Nat))) fb (fileC mo K)) := fun y V hV => by
      have h := hV.set 1 (.int .u64 (K 0 : Nat))
      rw [(set_fileC mo (upd K 0 y) (K 0)).1, upd_upd, upd_self K 0 (K 0) rfl] at h
      exact h
    have hwv : IntKind.u64.wrap (v : Int) = v := by rw [wrap_u64]; omega
    generalize putA (K 0) 11 2 v = ym at *
    generalize putA (K 0) j 1 1 = y1 at *
    generalize putA (K 0) j 1 0 = y0 at *
    generalize hK1 : upd K 0 y1 = K1 at *
    generalize upd K 0 ym = KM at *
    have HB0 : Hid (∀ V, Box 32 V fb (fileC mo (upd K 0 y0)) → Box 32 (V.setCell ⟨fb, 1, none⟩ (.int .u64 (K 0 : Nat))) fb (fileC mo K)) := fun V hV => HBK.out y0 V hV
    generalize upd K 0 y0 = K0 at *
    clear hK hK1 HBK
    have c0 : W5.cell? ⟨fb, 1, none⟩ = some (.int .u64 (K 0 : Nat)) := X5.out.1.cell 1 _ rfl
    go_wp2_with fail
    refine (HS1.out _ X5.out.1).mono ?_
    rintro e w6 ⟨rfl, hB6, hU6⟩
    have X6 : Hid (Tw w w6 fb db mo mo K1 K) := X5.out.file hB6 hU6
    clear hB6 hU6 c0
    go_upto_region 8 with fail
    have X6d : Hid (Tw w w6.drew fb db mo mo K1 K) := X6.out.step (below_drew1 _)
    have X6b : Hid (Box 32 w6.drew fb (fileC mo K1)) := X6d.out.1
    have q8 : w6.cell? ⟨fb, 1, none⟩ = some (.int .u64 (K1 0 : Nat)) := X6.out.1.cell 1 _ rfl
    go_region_held3 (fun V => V.cell? ⟨fb, 1, none⟩ = some (.int .u64 (K1 0 : Nat))) (go_keep) (first | (go_at_call 9; (with_reducible refine Calls.mono (HI1.out _ X6b.out) ?_); rintro e w8 ⟨rfl, hb8⟩; have Z8 : Hid (Tw w w8 fb db mo mo K1 K) := X6d.out.step hb8; have r8 : w8.cell? ⟨fb, 1, none⟩ = some (.int .u64 (K1 0 : Nat)) := Z8.out.1.cell 1 _ rfl; clear hb8))
    clear q8 r8
    go_wp2_with fail
    refine (HS0.out _ Z8.out.1).mono ?_
    rintro e w9 ⟨rfl, hB9, hU9⟩
    have X9 : Hid (Tw w w9 fb db mo mo K0 K) := Z8.out.file hB9 hU9
    clear hB9 hU9
    go_upto_region 10 with fail
    have X9d : Hid (Tw w w9.drew fb db mo mo K0 K) := X9.out.step (below_drew1 _)
    have X9b : Hid (Box 32 w9.drew fb (fileC mo K0)) := X9d.out.1
    have q10 : w9.cell? ⟨fb, 1, none⟩ = some (.int .u64 (K0 0 : Nat)) := X9.out.1.cell 1 _ rfl
    go_region_held3 (fun V => V.cell? ⟨fb, 1, none⟩ = some (.int .u64 (K0 0 : Nat))) (go_keep) (first | (go_at_call 9; (with_reducible refine Calls.mono (HI0.out _ X9b.out) ?_); rintro e w10 ⟨rfl, hb10⟩; have Z10 : Hid (Tw w w10 fb db mo mo K0 K) := X9d.out.step hb10; have r10 : w10.cell? ⟨fb, 1, none⟩ = some (.int .u64 (K0 0 : Nat)) := Z10.out.1.cell 1 _ rfl; clear hb10))
    clear q10 r10
    have s0 : w10.cell? ⟨fb, 1, none⟩ = some (.int .u64 (K0 0 : Nat)) := Z10.out.1.cell 1 _ rfl
    have s1 := Z10.out.1.frozen 1
    go_upto_region 12 with fail
    have X11 : Hid (Tw w (w10.setCell ⟨fb, 1, none⟩ (.int .u64 (K 0 : Nat))) fb db mo mo K K) := Z10.out.file (HB0.out _ Z10.out.1) ((Upon.refl _ _).set 1 _)
    clear s0 s1
    generalize w10.setCell ⟨fb, 1, none⟩ (.int .u64 (K 0 : Nat)) = w11 at *
    go_wp2_with fail
    refine (HKE.out _ X11.out.1).mono ?_
    rintro e w12 ⟨rfl, hB12, hU12⟩
    have X12 : Hid (Tw w w12 fb db mo mo KM K) := X11.out.file hB12 hU12
    clear hB12 hU12
    go_upto_region 13 with fail
    have Y0 : Hid (Tw w w12.drew fb db mo mo KM K) := X12.out.step (below_drew1 _)
    (try simp only [Act.put, List.getElem_toArray, List.getElem_cons_succ, List.getElem_cons_zero, List.setIfInBounds_toArray, List.set_cons_zero, List.set_cons_succ])
    refine wp_region_held_drew (S := fun V => V.cell? ⟨fb, 1, none⟩ = some (.int .u64 (KM 0 : Nat)) ∧ Box 32 V fb (fileC mo KM)) (by kernel_rfl) ⟨Y0.out.1.cell 1 _ rfl, Y0.out.1⟩ ?_
    intro hS0
    refine wpAnyH_take (i := 0) (v := ?_) rfl (by kernel_rfl) (by kernel_rfl) (by kernel_rfl) (fun _ _ _ h => h) (Or.inl ⟨by kernel_rfl, ?_⟩) hS0 ?_
    rotate_left
    · intro w hSw; (try dsimp only at hSw); go_simp; try (with_reducible rfl)
    (try simp only [Act.put, List.getElem_toArray, List.getElem_cons_succ, List.getElem_cons_zero, List.setIfInBounds_toArray, List.set_cons_zero, List.set_cons_succ])
    refine wpAnyH_take (i := 1) (v := ?_) rfl (by kernel_rfl) (by kernel_rfl) (by kernel_rfl) (fun _ _ _ h => h) (Or.inl ⟨by kernel_rfl, ?_⟩) hS0 ?_
    rotate_left
    · intro w hSw; (try dsimp only at hSw); go_simp; try (with_reducible rfl)
    (try simp only [Act.put, List.getElem_toArray, List.getElem_cons_succ, List.getElem_cons_zero, List.setIfInBounds_toArray, List.set_cons_zero, List.set_cons_succ])
    refine wpAnyH_take (i := 2) (v := ?_) rfl (by kernel_rfl) (by kernel_rfl) (by kernel_rfl) (fun _ _ _ h => h) (Or.inl ⟨by kernel_rfl, ?_⟩) hS0 ?_
    rotate_left
    · intro w hSw; (try dsimp only at hSw); go_simp; try (with_reducible rfl)
    (try simp only [Act.put, List.getElem_toArray, List.getElem_cons_succ, List.getElem_cons_zero, List.setIfInBounds_toArray, List.set_cons_zero, List.set_cons_succ])
    refine wpAnyH_take (i := 3) (v := ?_) rfl (by kernel_rfl) (by kernel_rfl) (by kernel_rfl) (fun _ _ _ h => h) (Or.inl ⟨by kernel_rfl, ?_⟩) hS0 ?_
    rotate_left
    · intro w hSw; (try dsimp only at hSw); go_simp; try (with_reducible rfl)
    (try simp only [Act.put, List.getElem_toArray, List.getElem_cons_succ, List.getElem_cons_zero, List.setIfInBounds_toArray, List.set_cons_zero, List.set_cons_succ])
    refine wpAnyH_take (i := 4) (v := ?_) rfl (by kernel_rfl) (by kernel_rfl) (by kernel_rfl) (fun _ _ _ h => h) (Or.inl ⟨by kernel_rfl, ?_⟩) hS0 ?_
    rotate_left
    · intro w hSw; (try dsimp only at hSw); go_simp; try (with_reducible rfl)
    (try simp only [Act.put, List.getElem_toArray, List.getElem_cons_succ, List.getElem_cons_zero, List.setIfInBounds_toArray, List.set_cons_zero, List.set_cons_succ])
    refine wpAnyH_take (i := 5) (v := ?_) rfl (by kernel_rfl) (by kernel_rfl) (by kernel_rfl) (fun _ _ _ h => h) (Or.inl ⟨by kernel_rfl, ?_⟩) hS0 ?_
    rotate_left
    · intro w hSw; (try dsimp only at hSw); go_simp; try (with_reducible rfl)
    (try simp only [Act.put, List.getElem_toArray, List.getElem_cons_succ, List.getElem_cons_zero, List.setIfInBounds_toArray, List.set_cons_zero, List.set_cons_succ])
    refine wpAnyH_take (i := 6) (v := ?_) rfl (by kernel_rfl) (by kernel_rfl) (by kernel_rfl) (fun _ _ _ h => h) (Or.inl ⟨by kernel_rfl, ?_⟩) hS0 ?_
    rotate_left
    · intro w hSw; (try dsimp only at hSw); go_simp; try (with_reducible rfl)
    (try simp only [Act.put, List.getElem_toArray, List.getElem_cons_succ, List.getElem_cons_zero, List.setIfInBounds_toArray, List.set_cons_zero, List.set_cons_succ])
    refine wpAnyH_take (i := 7) (v := ?_) rfl (by kernel_rfl) (by kernel_rfl) (by kernel_rfl) (fun _ _ _ h => h) (Or.inl ⟨by kernel_rfl, ?_⟩) hS0 ?_
    rotate_left
    · intro w hSw; (try dsimp only at hSw); go_simp; try (with_reducible rfl)
    (try simp only [Act.put, List.getElem_toArray, List.getElem_cons_succ, List.getElem_cons_zero, List.setIfInBounds_toArray, List.set_cons_zero, List.set_cons_succ])
    refine wpAnyH_take (i := 8) (v := ?_) rfl (by kernel_rfl) (by kernel_rfl) (by kernel_rfl) (fun _ _ _ h => h) (Or.inl ⟨by kernel_rfl, ?_⟩) hS0 ?_
    rotate_left
    · intro w hSw; (try dsimp only at hSw); go_simp; try (with_reducible rfl)
    (try simp only [Act.put, List.getElem_toArray, List.getElem_cons_succ, List.getElem_cons_zero, List.setIfInBounds_toArray, List.set_cons_zero, List.set_cons_succ])
    refine wpAnyH_ready (rs := [9]) (by kernel_rfl) (by simp) ?_
    refine AllReadyH.cons rfl (fun K1 hK1 => ?_) AllReadyH.nil
    go_simp
    refine (HP1.out _).mono ?_
    rintro e v1 ⟨rfl, hb1⟩
    have Y1 : Hid (Tw w v1 fb db mo mo KM K) := Y0.out.step hb1
    clear hb1
    refine hK1.out _ _ ⟨Y1.out.1.cell 1 _ rfl, Y1.out.1⟩ (fun hS1 => ?_)
    clear hK1 K1
    (try simp only [Act.put, List.getElem_toArray, List.getElem_cons_succ, List.getElem_cons_zero, List.setIfInBounds_toArray, List.set_cons_zero, List.set_cons_succ])
    refine wpAnyH_take (i := 10) (v := ?_) rfl (by kernel_rfl) (by kernel_rfl) (by kernel_rfl) (fun _ _ _ h => h) (Or.inl ⟨by kernel_rfl, ?_⟩) hS1 ?_
    rotate_left
    · intro w hSw; (try dsimp only at hSw); go_simp; try (with_reducible rfl)
    (try simp only [Act.put, List.getElem_toArray, List.getElem_cons_succ, List.getElem_cons_zero, List.setIfInBounds_toArray, List.set_cons_zero, List.set_cons_succ])
    refine wpAnyH_take (i := 11) (v := ?_) rfl (by kernel_rfl) (by kernel_rfl) (by kernel_rfl) (fun _ _ _ h => h) (Or.inl ⟨by kernel_rfl, ?_⟩) hS1 ?_
    rotate_left
    · intro w hSw; (try dsimp only at hSw); go_simp; try (with_reducible rfl)
    (try simp only [Act.put, List.getElem_toArray, List.getElem_cons_succ, List.getElem_cons_zero, List.setIfInBounds_toArray, List.set_cons_zero, List.set_cons_succ])
    refine wpAnyH_take (i := 12) (v := ?_) rfl (by kernel_rfl) (by kernel_rfl) (by kernel_rfl) (fun _ _ _ h => h) (Or.inl ⟨by kernel_rfl, ?_⟩) hS1 ?_
    rotate_left
    · intro w hSw; (try dsimp only at hSw); go_simp; try (with_reducible rfl)
    (try simp only [Act.put, List.getElem_toArray, List.getElem_cons_succ, List.getElem_cons_zero, List.setIfInBounds_toArray, List.set_cons_zero, List.set_cons_succ])
    refine wpAnyH_take (i := 13) (v := ?_) rfl (by kernel_rfl) (by kernel_rfl) (by kernel_rfl) (fun _ _ _ h => h) (Or.inl ⟨by kernel_rfl, ?_⟩) hS1 ?_
    rotate_left
    · intro w hSw; (try dsimp only at hSw); go_simp; try (with_reducible rfl)
    (try simp only [Act.put, List.getElem_toArray, List.getElem_cons_succ, List.getElem_cons_zero, List.setIfInBounds_toArray, List.set_cons_zero, List.set_cons_succ])
    refine wpAnyH_take (i := 14) (v := ?_) rfl (by kernel_rfl) (by kernel_rfl) (by kernel_rfl) (fun _ _ _ h => h) (Or.inl ⟨by kernel_rfl, ?_⟩) hS1 ?_
    rotate_left
    · intro w hSw; (try dsimp only at hSw); go_simp; try (with_reducible rfl)
    (try simp only [Act.put, List.getElem_toArray, List.getElem_cons_succ, List.getElem_cons_zero, List.setIfInBounds_toArray, List.set_cons_zero, List.set_cons_succ])
    refine wpAnyH_take (i := 15) (v := ?_) rfl (by kernel_rfl) (by kernel_rfl) (by kernel_rfl) (fun _ _ _ h => h) (Or.inl ⟨by kernel_rfl, ?_⟩) hS1 ?_
    rotate_left
    · intro w hSw; (try dsimp only at hSw); go_simp; try (with_reducible rfl)
    (try simp only [Act.put, List.getElem_toArray, List.getElem_cons_succ, List.getElem_cons_zero, List.setIfInBounds_toArray, List.set_cons_zero, List.set_cons_succ])
    refine wpAnyH_ready (rs := [16]) (by kernel_rfl) (by simp) ?_
    refine AllReadyH.cons rfl (fun K1 hK1 => ?_) AllReadyH.nil
    go_simp
    refine (HP0.out _).mono ?_
    rintro e v2 ⟨rfl, hb2⟩
    have Y2 : Hid (Tw w v2 fb db mo mo KM K) := Y1.out.step hb2
    clear hb2
    refine hK1.out _ _ ⟨Y2.out.1.cell 1 _ rfl, Y2.out.1⟩ (fun hS2 => ?_)
    clear hK1 K1
    (try simp only [Act.put, List.getElem_toArray, List.getElem_cons_succ, List.getElem_cons_zero, List.setIfInBounds_toArray, List.set_cons_zero, List.set_cons_succ])
    refine wpAnyH_take (i := 17) (v := ?_) rfl (by kernel_rfl) (by kernel_rfl) (by kernel_rfl) (fun _ _ _ h => h) (Or.inl ⟨by kernel_rfl, ?_⟩) hS2 ?_
    rotate_left
    · intro w hSw; (try dsimp only at hSw); go_simp; try (with_reducible rfl)
    (try simp only [Act.put, List.getElem_toArray, List.getElem_cons_succ, List.getElem_cons_zero, List.setIfInBounds_toArray, List.set_cons_zero, List.set_cons_succ])
    refine wpAnyH_take (i := 18) (v := ?_) rfl (by kernel_rfl) (by kernel_rfl) (by kernel_rfl) (fun _ _ _ h => h) (Or.inl ⟨by kernel_rfl, ?_⟩) hS2 ?_
    rotate_left
    · intro w hSw; (try dsimp only at hSw); go_simp; try (with_reducible rfl)
    (try simp only [Act.put, List.getElem_toArray, List.getElem_cons_succ, List.getElem_cons_zero, List.setIfInBounds_toArray, List.set_cons_zero, List.set_cons_succ])
    refine wpAnyH_take (i := 19) (v := ?_) rfl (by kernel_rfl) (by kernel_rfl) (by kernel_rfl) (fun _ _ _ h => h) (Or.inl ⟨by kernel_rfl, ?_⟩) hS2 ?_
    rotate_left
    · intro w hSw; (try dsimp only at hSw); go_simp; try (with_reducible rfl)
    (try simp only [Act.put, List.getElem_toArray, List.getElem_cons_succ, List.getElem_cons_zero, List.setIfInBounds_toArray, List.set_cons_zero, List.set_cons_succ])
    refine wpAnyH_take (i := 21) (v := ?_) rfl (by kernel_rfl) (by kernel_rfl) (by kernel_rfl) (fun _ _ _ h => h) (Or.inl ⟨by kernel_rfl, ?_⟩) hS2 ?_
    rotate_left
    · intro w hSw; (try dsimp only at hSw); go_simp; try (with_reducible rfl)
    (try simp only [Act.put, List.getElem_toArray, List.getElem_cons_succ, List.getElem_cons_zero, List.setIfInBounds_toArray, List.set_cons_zero, List.set_cons_succ])
    refine wpAnyH_ready (rs := [20]) (by kernel_rfl) (by simp) ?_
    refine AllReadyH.cons rfl (fun K1 hK1 => ?_) AllReadyH.nil
    go_simp
    refine (HPR.out _ Y2.out.1).mono ?_
    rintro e v3 ⟨rfl, hb3⟩
    have Y3 : Hid (Tw w v3 fb db mo mo KM K) := Y2.out.step hb3
    clear hb3
    refine hK1.out _ _ ⟨Y3.out.1.cell 1 _ rfl, Y3.out.1⟩ (fun hS3 => ?_)
    clear hK1 K1
    (try simp only [Act.put, List.getElem_toArray, List.getElem_cons_succ, List.getElem_cons_zero, List.setIfInBounds_toArray, List.set_cons_zero, List.set_cons_succ])
    refine wpAnyH_take (i := 22) (v := ?_) rfl (by kernel_rfl) (by kernel_rfl) (by kernel_rfl) (fun _ _ _ h => h) (Or.inl ⟨by kernel_rfl, ?_⟩) hS3 ?_
    rotate_left
    · intro w hSw; (try dsimp only at hSw); go_simp; try (with_reducible rfl)
    (try simp only [Act.put, List.getElem_toArray, List.getElem_cons_succ, List.getElem_cons_zero, List.setIfInBounds_toArray, List.set_cons_zero, List.set_cons_succ])
    refine wpAnyH_take (i := 23) (v := ?_) rfl (by kernel_rfl) (by kernel_rfl) (by kernel_rfl) (fun _ _ _ h => h) (Or.inl ⟨by kernel_rfl, ?_⟩) hS3 ?_
    rotate_left
    · intro w hSw; (try dsimp only at hSw); go_simp; try (with_reducible rfl)
    (try simp only [Act.put, List.getElem_toArray, List.getElem_cons_succ, List.getElem_cons_zero, List.setIfInBounds_toArray, List.set_cons_zero, List.set_cons_succ])
    refine wpAnyH_take (i := 24) (v := ?_) rfl (by kernel_rfl) (by kernel_rfl) (by kernel_rfl) (fun _ _ _ h => h) (Or.inl ⟨by kernel_rfl, ?_⟩) hS3 ?_
    rotate_left
    · intro w hSw; (try dsimp only at hSw); go_simp; try (with_reducible rfl)
    (try simp only [Act.put, List.getElem_toArray, List.getElem_cons_succ, List.getElem_cons_zero, List.setIfInBounds_toArray, List.set_cons_zero, List.set_cons_succ])
    refine wpAnyH_take (i := 25) (v := ?_) rfl (by kernel_rfl) (by kernel_rfl) (by kernel_rfl) (fun _ _ _ h => h) (Or.inl ⟨by kernel_rfl, ?_⟩) hS3 ?_
    rotate_left
    · intro w hSw; (try dsimp only at hSw); go_simp; try (with_reducible rfl)
    (try simp only [Act.put, List.getElem_toArray, List.getElem_cons_succ, List.getElem_cons_zero, List.setIfInBounds_toArray, List.set_cons_zero, List.set_cons_succ])
    refine wpAnyH_take (i := 26) (v := ?_) rfl (by kernel_rfl) (by kernel_rfl) (by kernel_rfl) (fun _ _ _ h => h) (Or.inl ⟨by kernel_rfl, ?_⟩) hS3 ?_
    rotate_left
    · intro w hSw; (try dsimp only at hSw); go_simp; try (with_reducible rfl)
    (try simp only [Act.put, List.getElem_toArray, List.getElem_cons_succ, List.getElem_cons_zero, List.setIfInBounds_toArray, List.set_cons_zero, List.set_cons_succ])
    refine wpAnyH_take (i := 27) (v := ?_) rfl (by kernel_rfl) (by kernel_rfl) (by kernel_rfl) (fun _ _ _ h => h) (Or.inl ⟨by kernel_rfl, ?_⟩) hS3 ?_
    rotate_left
    · intro w hSw; (try dsimp only at hSw); go_simp; try (with_reducible rfl)
    (try simp only [Act.put, List.getElem_toArray, List.getElem_cons_succ, List.getElem_cons_zero, List.setIfInBounds_toArray, List.set_cons_zero, List.set_cons_succ])
    refine wpAnyH_take (i := 28) (v := ?_) rfl (by kernel_rfl) (by kernel_rfl) (by kernel_rfl) (fun _ _ _ h => h) (Or.inl ⟨by kernel_rfl, ?_⟩) hS3 ?_
    rotate_left
    · intro w hSw; (try dsimp only at hSw); go_simp; try (with_reducible rfl)
    (try simp only [Act.put, List.getElem_toArray, List.getElem_cons_succ, List.getElem_cons_zero, List.setIfInBounds_toArray, List.set_cons_zero, List.set_cons_succ])
    refine wpAnyH_take (i := 29) (v := ?_) rfl (by kernel_rfl) (by kernel_rfl) (by kernel_rfl) (fun _ _ _ h => h) (Or.inl ⟨by kernel_rfl, ?_⟩) hS3 ?_
    rotate_left
    · intro w hSw; (try dsimp only at hSw); go_simp; try (with_reducible rfl)
    (try simp only [Act.put, List.getElem_toArray, List.getElem_cons_succ, List.getElem_cons_zero, List.setIfInBounds_toArray, List.set_cons_zero, List.set_cons_succ])
    refine wpAnyH_ready (rs := [30]) (by kernel_rfl) (by simp) ?_
    refine AllReadyH.cons rfl (fun K1 hK1 => ?_) AllReadyH.nil
    go_simp
    refine (HPK.out _).mono ?_
    rintro e v4 ⟨rfl, hb4⟩
    have Y4 : Hid (Tw w v4 fb db mo mo KM K) := Y3.out.step hb4
    clear hb4
    refine hK1.out _ _ ⟨Y4.out.1.cell 1 _ rfl, Y4.out.1⟩ (fun hS4 => ?_)
    clear hK1 K1
    (try simp only [Act.put, List.getElem_toArray, List.getElem_cons_succ, List.getElem_cons_zero, List.setIfInBounds_toArray, List.set_cons_zero, List.set_cons_succ])
    refine wpAnyH_take (i := 31) (v := ?_) rfl (by kernel_rfl) (by kernel_rfl) (by kernel_rfl) (fun _ _ _ h => h) (Or.inl ⟨by kernel_rfl, ?_⟩) hS4 ?_
    rotate_left
    · intro w hSw; (try dsimp only at hSw); go_simp; try (with_reducible rfl)
    (try simp only [Act.put, List.getElem_toArray, List.getElem_cons_succ, List.getElem_cons_zero, List.setIfInBounds_toArray, List.set_cons_zero, List.set_cons_succ])
    refine wpAnyH_take (i := 32) (v := ?_) rfl (by kernel_rfl) (by kernel_rfl) (by kernel_rfl) (fun _ _ _ h => h) (Or.inl ⟨by kernel_rfl, ?_⟩) hS4 ?_
    rotate_left
    · intro w hSw; (try dsimp only at hSw); go_simp; try (with_reducible rfl)
    (try simp only [Act.put, List.getElem_toArray, List.getElem_cons_succ, List.getElem_cons_zero, List.setIfInBounds_toArray, List.set_cons_zero, List.set_cons_succ])
    refine wpAnyH_take (i := 33) (v := ?_) rfl (by kernel_rfl) (by kernel_rfl) (by kernel_rfl) (fun _ _ _ h => h) (Or.inl ⟨by kernel_rfl, ?_⟩) hS4 ?_
    rotate_left
    · intro w hSw; (try dsimp only at hSw); go_simp; try (with_reducible rfl)
    (try simp only [Act.put, List.getElem_toArray, List.getElem_cons_succ, List.getElem_cons_zero, List.setIfInBounds_toArray, List.set_cons_zero, List.set_cons_succ])
    refine wpAnyH_done (by kernel_rfl) ?_ _
    clear hS4
    go_wp2_with fail
    go_ret
    exact ⟨ret_bool (by first | rfl | simp), Y4.out.2.2.2.2⟩
end Go.Proofs.YtebdlefdkadhnabDoor
