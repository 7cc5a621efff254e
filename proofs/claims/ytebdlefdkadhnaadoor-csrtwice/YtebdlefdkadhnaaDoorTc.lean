/- The law CsrTwice. -/
import Derived.Test.YtebdlefdkadhnaaDoorLa
import Derived.Test.YtebdlefdkadhnaaDoorTp
namespace Go.Proofs.YtebdlefdkadhnaaDoor
open Go.RowKit Go.Maps
set_option linter.unusedVariables false
set_option linter.unusedSimpArgs false
set_option maxRecDepth 100000
set_option maxHeartbeats 8000000 in
theorem twice_core (mo : Int) (g : Option Addr) (len cap ln : Nat) (ws : Nat → Int × Nat) (hln : ln < 18446744073709551616) (n : Int) (hn : (Lit.int .i64 n).wf = true) (x : Nat) (hx : x < 18446744073709551616) (w : World) (hR : Regs w) (hws : WritesIn w (.slice g len cap) len ws) : Calls Tryd.prog 8 #[.agg #[.int .i64 mo, .slice g len cap, .int .u64 (ln : Nat)], .int .i64 n, .int .u64 (x : Int)] w fun e w' => e = .returned (.bool true) ∧ Below w.heap.size w w' := by
  have HX : Hid (x < 18446744073709551616) := hx
  clear hx hn
  have HR : Hid (Regs w) := hR
  have HWS : Hid (WritesIn w (.slice g len cap) len ws) := hws
  have HLN : Hid (ln < 18446744073709551616) := hln
  clear hR hws hln
  have A0 : Hid (Box 25 (w.alloc (.cells #[.int .i64 mo, .slice g len cap, .int .u64 (ln : Nat)] 25)) w.heap.size #[.int .i64 mo, .slice g len cap, .int .u64 (ln : Nat)] ∧ Below w.heap.size w (w.alloc (.cells #[.int .i64 mo, .slice g len cap, .int .u64 (ln : Nat)] 25))) := ⟨Box.new _ _ _, (Below.refl _ _).alloc (Nat.le_refl _) _⟩
  go_enter Tryd.func8, Tryd.ntmps8
  go_upto_region 1 with fail
  generalize w.alloc (.cells #[.int .i64 mo, .slice g len cap, .int .u64 (ln : Nat)] 25) = W at *
  go_wp2_with fail
  refine (awake_any _ (HR.out.below A0.out.2)).mono ?_
  rintro e w1 ⟨rfl, hb1⟩
  have A1 : Hid (Box 25 w1 w.heap.size #[.int .i64 mo, .slice g len cap, .int .u64 (ln : Nat)] ∧ Below w.heap.size w w1) := ⟨A0.out.1.step hb1, A0.out.2.trans (hb1.mono A0.out.2.size)⟩
  clear hb1 A0
  go_upto_region 3 with fail
  refine wp_region_list ?_
  have a0 : w1.cell? ⟨w.heap.size, 0, none⟩ = some (.int .i64 mo) := A1.out.1.cell 0 _ rfl
  have a1 : w1.cell? ⟨w.heap.size, 1, none⟩ = some (.slice g len cap) := A1.out.1.cell 1 _ rfl
  have a2 : w1.cell? ⟨w.heap.size, 2, none⟩ = some (.int .u64 (ln : Nat)) := A1.out.1.cell 2 _ rfl
  (refine wpList_step (fun KK hKK => ?_); go_simp; refine hKK _ _ ?_; clear hKK KK)
  clear a0 a1 a2
  refine wpList_step (fun KK hKK => ?_)
  go_simp
  by_cases h : mo < 0 ∨ 3 < mo ∨ mo = 2 ∨ 40 < (len : Int)
  · refine (begun_no mo g len cap ln h _).mono ?_
    rintro e w2 ⟨rfl, hb2⟩
    have A2 : Hid (Below w.heap.size w w2) := A1.out.2.trans (hb2.mono A1.out.2.size)
    clear hb2
    refine hKK _ _ ?_
    clear hKK KK
    (refine wpList_step (fun KK hKK => ?_); go_simp; refine hKK _ _ ?_; clear hKK KK)
    refine wpList_extract_at rfl _ _ _ _ rfl rfl rfl ?_
    refine wpList_extract_at rfl _ _ _ _ rfl rfl rfl ?_
    refine wpList_extract_at rfl _ _ _ _ rfl rfl rfl ?_
    refine wpList_alloc_file rfl rfl ?_
    intro W0 hW0
    have B0 : Box 29 W0 w2.heap.size zeroC := by rw [hW0]; exact Box.new _ _ _
    have L0 : Below w2.heap.size w2 W0 := by rw [hW0]; exact (Below.refl _ _).alloc (Nat.le_refl _) _
    have Z0 : W0.heap.size = w2.heap.size + 1 := by rw [hW0]; simp
    clear hW0
    refine wpList_alloc_doc rfl rfl ?_
    intro W3 hW3
    have B3 : Box 32 W3 W0.heap.size zeroD := by rw [hW3]; exact Box.new _ _ _
    have L3 : Below W0.heap.size W0 W3 := by rw [hW3]; exact (Below.refl _ _).alloc (Nat.le_refl _) _
    clear hW3
    refine wpList_store_file rfl _ _ rfl w2.heap.size 3 (fun _ => 0) zeroC rfl rfl (B0.step L3) zeroC_size ?_
    intro W4 B4 U4
    refine wpList_store_doc rfl _ _ rfl W0.heap.size 3 (fun _ => 0) zeroD rfl rfl (U4.box B3 (by omega)) zeroD_size ?_
    intro W5 B5 U5
    have X5 : Hid (Tw w W5 w2.heap.size W0.heap.size 3 3 (fun _ => 0) (fun _ => 0)) := by
      have l2 : Below w2.heap.size w2 W4 := (L0.trans (L3.mono L0.size)).trans (U4.below (Nat.le_refl _) (Nat.le_trans L0.size L3.size))
      have l5 : Below w2.heap.size w2 W5 := l2.trans (U5.below (by omega) l2.size)
      exact ⟨U5.box B4 (by omega), B5, A2.out.size, by omega, A2.out.trans (l5.mono A2.out.size)⟩
    clear B0 L0 B3 L3 B4 U4 B5 U5 Z0
    generalize w2.heap.size = fb at *
    generalize W0.heap.size = db at *
    go_wp2_with fail
    go_ret
    exact ⟨rfl, X5.out.2.2.2.2⟩
  · refine (begun_yes mo g len cap ln ws (by omega) (by omega) (by omega) (by omega) HLN.out _ (HWS.out.below A1.out.2)).mono ?_
    rintro e w2 ⟨K, hK, rfl, hb2⟩
    have A2 : Hid (Below w.heap.size w w2) := A1.out.2.trans (hb2.mono A1.out.2.size)
    clear hb2
    refine hKK _ _ ?_
    clear hKK KK
    (refine wpList_step (fun KK hKK => ?_); go_simp; refine hKK _ _ ?_; clear hKK KK)
    refine wpList_extract_at rfl _ _ _ _ rfl rfl rfl ?_
    refine wpList_extract_at rfl _ _ _ _ rfl rfl rfl ?_
    refine wpList_extract_at rfl _ _ _ _ rfl rfl rfl ?_
    refine wpList_alloc_file rfl rfl ?_
    intro W0 hW0
    have B0 : Box 29 W0 w2.heap.size zeroC := by rw [hW0]; exact Box.new _ _ _
    have L0 : Below w2.heap.size w2 W0 := by rw [hW0]; exact (Below.refl _ _).alloc (Nat.le_refl _) _
    have Z0 : W0.heap.size = w2.heap.size + 1 := by rw [hW0]; simp
    clear hW0
    refine wpList_alloc_doc rfl rfl ?_
    intro W3 hW3
    have B3 : Box 32 W3 W0.heap.size zeroD := by rw [hW3]; exact Box.new _ _ _
    have L3 : Below W0.heap.size W0 W3 := by rw [hW3]; exact (Below.refl _ _).alloc (Nat.le_refl _) _
    clear hW3
    refine wpList_store_file rfl _ _ rfl w2.heap.size mo K zeroC rfl rfl (B0.step L3) zeroC_size ?_
    intro W4 B4 U4
    refine wpList_store_doc rfl _ _ rfl W0.heap.size mo K zeroD rfl rfl (U4.box B3 (by omega)) zeroD_size ?_
    intro W5 B5 U5
    have X5 : Hid (Tw w W5 w2.heap.size W0.heap.size mo mo K K) := by
      have l2 : Below w2.heap.size w2 W4 := (L0.trans (L3.mono L0.size)).trans (U4.below (Nat.le_refl _) (Nat.le_trans L0.size L3.size))
      have l5 : Below w2.heap.size w2 W5 := l2.trans (U5.below (by omega) l2.size)
      exact ⟨U5.box B4 (by omega), B5, A2.out.size, by omega, A2.out.trans (l5.mono A2.out.size)⟩
    clear B0 L0 B3 L3 B4 U4 B5 U5 Z0
    generalize w2.heap.size = fb at *
    generalize W0.heap.size = db at *
    have HK2 : Hid (Ok (writeK K n x)) := writeK_ok K n x hK HX.out
    have E1 : Hid (writeK (writeK K n x) n x = writeK K n x) := twice_1 K n x hK HX.out
    have E2 : Hid (readN (writeK (writeK K n x) n (readN (upd (writeK K n x) 2 (writeK K n x 2 &&& 18446744073709551069)) n)) n = readN (writeK K n x) n) := twice_2 K n x _ HK2.out rfl
    have HW1 : Hid (∀ V, Box 29 V fb (fileC mo K) → Calls Tryd.prog 24 #[.pointer (some ⟨fb, 0, none⟩), .int .i64 n, .int .u64 (x : Int)] V fun e w' => e = .returned (.tuple #[]) ∧ Box 29 w' fb (fileC mo (writeK K n x)) ∧ Upon fb V w') := fun V hV => write_any mo K n x fb hK HX.out V hV
    generalize writeK K n x = L at *
    have HW2 : Hid (∀ V, Box 29 V fb (fileC mo L) → Calls Tryd.prog 24 #[.pointer (some ⟨fb, 0, none⟩), .int .i64 n, .int .u64 (x : Int)] V fun e w' => e = .returned (.tuple #[]) ∧ Box 29 w' fb (fileC mo L) ∧ Upon fb V w') := fun V hV => by
      have h := write_any mo L n x fb HK2.out HX.out V hV
      rw [E1.out] at h
      exact h
    have HRD : Hid (∀ V, Box 29 V fb (fileC mo L) → Calls Tryd.prog 12 #[.pointer (some ⟨fb, 0, none⟩), .int .i64 n] V fun e w' => e = .returned (.int .u64 (readN L n : Nat)) ∧ Below V.heap.size V w') := fun V hV => read_any mo L n fb HK2.out V hV
    have HRW : Hid (∀ V, Box 29 V fb (fileC mo L) → Calls Tryd.prog 14 #[.pointer (some ⟨fb, 0, none⟩), .int .i64 n] V fun e w' => e = .returned (.int .u64 (readN (upd L 2 (L 2 &&& 18446744073709551069)) n : Nat)) ∧ Below V.heap.size V w') := fun V hV => raw_any mo L n fb HK2.out V hV
    have HRL : Hid (readN (upd L 2 (L 2 &&& 18446744073709551069)) n < 18446744073709551616) := readN_lt _ _ (HK2.out.upd _ _ (and_lt _ _ (HK2.out _)))
    generalize readN (upd L 2 (L 2 &&& 18446744073709551069)) n = r at *
    have HW3 : Hid (∀ V, Box 29 V fb (fileC mo L) → Calls Tryd.prog 24 #[.pointer (some ⟨fb, 0, none⟩), .int .i64 n, .int .u64 (r : Int)] V fun e w' => e = .returned (.tuple #[]) ∧ Box 29 w' fb (fileC mo (writeK L n r)) ∧ Upon fb V w') := fun V hV => write_any mo L n r fb HK2.out HRL.out V hV
    have HR2 : Hid (∀ V, Box 29 V fb (fileC mo (writeK L n r)) → Calls Tryd.prog 12 #[.pointer (some ⟨fb, 0, none⟩), .int .i64 n] V fun e w' => e = .returned (.int .u64 (readN L n : Nat)) ∧ Below V.heap.size V w') := fun V hV => by
      have h := read_any mo (writeK L n r) n fb (writeK_ok L n r HK2.out HRL.out) V hV
      rw [E2.out] at h
      exact h
    generalize readN L n = rd at *
    generalize writeK L n r = M at *
    clear hK E1 E2
    go_wp2_with fail
    refine (HW1.out _ X5.out.1).mono ?_
    rintro e w3 ⟨rfl, hB3, hU3⟩
    have X6 : Hid (Tw w w3 fb db mo mo L K) := X5.out.file hB3 hU3
    clear hB3 hU3 X5
    go_upto_region 7 with fail
    refine wp_region_list ?_
    refine wpList_load_file rfl _ rfl fb mo L rfl X6.out.1 ?_
    refine wpList_alloc_file rfl rfl ?_
    intro W6 hW6
    have B6 : Box 29 W6 w3.heap.size zeroC := by rw [hW6]; exact Box.new _ _ _
    have L6 : Below w3.heap.size w3 W6 := by rw [hW6]; exact (Below.refl _ _).alloc (Nat.le_refl _) _
    clear hW6
    refine wpList_store_file rfl _ _ rfl w3.heap.size mo L _ rfl rfl B6 zeroC_size ?_
    intro W7 B7 U7
    have l7 : Below w3.heap.size w3 W7 := L6.trans (U7.below (Nat.le_refl _) L6.size)
    have X7 : Hid (Tw w W7 fb db mo mo L K ∧ Box 29 W7 w3.heap.size (fileC mo L) ∧ w3.heap.size ≠ fb) := ⟨X6.out.step l7, B7, by have := X6.out.1.lt; omega⟩
    clear B6 L6 B7 U7 l7 X6
    generalize w3.heap.size = ob at *
    go_wp2_with fail
    refine (HW2.out _ X7.out.1.1).mono ?_
    rintro e w4 ⟨rfl, hB4, hU4⟩
    have X8 : Hid (Tw w w4 fb db mo mo L K ∧ Box 29 w4 ob (fileC mo L)) := ⟨X7.out.1.file hB4 hU4, hU4.box X7.out.2.1 X7.out.2.2⟩
    clear hB4 hU4 X7
    go_upto_region 9 with fail
    refine wp_region_list ?_
    refine wpList_load_file rfl _ rfl fb mo L rfl X8.out.1.1 ?_
    refine wpList_load_file rfl _ rfl ob mo L rfl X8.out.2 ?_
    refine wpList_neq_file rfl _ _ _ rfl mo L rfl rfl ?_
    go_wp2_with fail
    refine (HRD.out _ X8.out.1.1).mono ?_
    rintro e w5 ⟨rfl, hb5⟩
    have X9 : Hid (Tw w w5 fb db mo mo L K) := X8.out.1.step hb5
    clear hb5 X8
    go_wp2_with fail
    refine (HRW.out _ X9.out.1).mono ?_
    rintro e w6 ⟨rfl, hb6⟩
    have Y1 : Hid (Tw w w6 fb db mo mo L K) := X9.out.step hb6
    clear hb6 X9
    go_wp2_with fail
    refine (HW3.out _ Y1.out.1).mono ?_
    rintro e w7 ⟨rfl, hB7, hU7⟩
    have Y2 : Hid (Tw w w7 fb db mo mo M K) := Y1.out.file hB7 hU7
    clear hB7 hU7 Y1
    go_wp2_with fail
    refine (HR2.out _ Y2.out.1).mono ?_
    rintro e w8 ⟨rfl, hb8⟩
    go_wp2_with fail
    go_ret
    exact ⟨ret_bool (by first | rfl | simp), (Y2.out.step hb8).2.2.2.2⟩
end Go.Proofs.YtebdlefdkadhnaaDoor
