/- The law TrapMasks. -/
import Derived.Test.YtdljceeoofhfnaaDoorLm0
import Derived.Test.YtdljceeoofhfnaaDoorLm1
import Derived.Test.YtdljceeoofhfnaaDoorLm3
namespace Go.Proofs.YtdljceeoofhfnaaDoor
open Go.RowKit Go.Maps
set_option linter.unusedVariables false
set_option linter.unusedSimpArgs false
set_option maxRecDepth 100000
set_option maxHeartbeats 4000000 in
theorem masks_bad (mo : Int) (g : Option Addr) (len cap ln : Nat) (ws : Nat → Int × Nat) (hln : ln < 18446744073709551616) (hmo : mo ≠ 0 ∧ mo ≠ 1 ∧ mo ≠ 3) (w : World) (hO : Ord w) (hws : WritesIn w (.slice g len cap) len ws) : Calls Tryd.prog 4 #[.agg #[.int .i64 mo, .slice g len cap, .int .u64 (ln : Nat)]] w fun e w' => e = .returned (.bool true) ∧ Below w.heap.size w w' := by
  have HMO : Hid (mo ≠ 0 ∧ mo ≠ 1 ∧ mo ≠ 3) := hmo
  clear hmo
  have HWS : Hid (WritesIn w (.slice g len cap) len ws) := hws
  have HLN : Hid (ln < 18446744073709551616) := hln
  clear hws hln
  have HOW : Hid (Ord w) := hO
  clear hO
  have A0 : Hid (Box 25 (w.alloc (.cells #[.int .i64 mo, .slice g len cap, .int .u64 (ln : Nat)] 25)) w.heap.size #[.int .i64 mo, .slice g len cap, .int .u64 (ln : Nat)] ∧ Below w.heap.size w (w.alloc (.cells #[.int .i64 mo, .slice g len cap, .int .u64 (ln : Nat)] 25))) := ⟨Box.new _ _ _, (Below.refl _ _).alloc (Nat.le_refl _) _⟩
  go_enter Tryd.func4, Tryd.ntmps4
  go_upto_region 1 with fail
  generalize (w.alloc (.cells #[.int .i64 mo, .slice g len cap, .int .u64 (ln : Nat)] 25)) = W at *
  go_wp2_with fail
  refine (awake_any _).mono ?_
  rintro e w1 ⟨rfl, hb1⟩
  have A1 : Hid (Box 25 w1 w.heap.size #[.int .i64 mo, .slice g len cap, .int .u64 (ln : Nat)] ∧ Below w.heap.size w w1) := ⟨A0.out.1.step hb1, A0.out.2.trans (hb1.mono A0.out.2.size)⟩
  clear hb1 A0
  go_upto_region 3 with fail
  refine wp_region_list ?_
  have a0 : w1.cell? ⟨w.heap.size, 0, none⟩ = some (.int .i64 mo) := A1.out.1.cell 0 _ rfl
  have a1 : w1.cell? ⟨w.heap.size, 1, none⟩ = some (.slice g len cap) := A1.out.1.cell 1 _ rfl
  have a2 : w1.cell? ⟨w.heap.size, 2, none⟩ = some (.int .u64 (ln : Nat)) := A1.out.1.cell 2 _ rfl
  (refine wpList_step (fun KK hKK => ?_); go_simp; refine hKK _ _ ?_; clear hKK KK)
  clear a0 a1 a2
  refine wpList_step (fun KK hKK => ?_)
  go_simp
  by_cases h : mo < 0 ∨ 3 < mo ∨ mo = 2 ∨ 40 < (len : Int)
  · refine (begun_no mo g len cap ln h _).mono ?_
    rintro e w2 ⟨rfl, hb2⟩
    have A2 : Hid (Below w.heap.size w w2) := A1.out.2.trans (hb2.mono A1.out.2.size)
    clear hb2
    refine hKK _ _ ?_
    clear hKK KK
    (refine wpList_step (fun KK hKK => ?_); go_simp; refine hKK _ _ ?_; clear hKK KK)
    refine wpList_extract_at rfl _ _ _ _ rfl rfl rfl ?_
    refine wpList_extract_at rfl _ _ _ _ rfl rfl rfl ?_
    refine wpList_extract_at rfl _ _ _ _ rfl rfl rfl ?_
    refine wpList_alloc_file rfl rfl ?_
    intro W0 hW0
    have B0 : Box 29 W0 w2.heap.size zeroC := by rw [hW0]; exact Box.new _ _ _
    have L0 : Below w2.heap.size w2 W0 := by rw [hW0]; exact (Below.refl _ _).alloc (Nat.le_refl _) _
    have Z0 : W0.heap.size = w2.heap.size + 1 := by rw [hW0]; simp
    clear hW0
    refine wpList_alloc_doc rfl rfl ?_
    intro W3 hW3
    have B3 : Box 32 W3 W0.heap.size zeroD := by rw [hW3]; exact Box.new _ _ _
    have L3 : Below W0.heap.size W0 W3 := by rw [hW3]; exact (Below.refl _ _).alloc (Nat.le_refl _) _
    clear hW3
    refine wpList_store_file rfl _ _ rfl w2.heap.size 3 (fun _ => 0) zeroC rfl rfl (B0.step L3) zeroC_size ?_
    intro W4 B4 U4
    refine wpList_store_doc rfl _ _ rfl W0.heap.size 3 (fun _ => 0) zeroD rfl rfl (U4.box B3 (by omega)) zeroD_size ?_
    intro W5 B5 U5
    have X5 : Hid (Tw w W5 w2.heap.size W0.heap.size 3 3 (fun _ => 0) (fun _ => 0)) := by
      have l2 : Below w2.heap.size w2 W4 := (L0.trans (L3.mono L0.size)).trans (U4.below (Nat.le_refl _) (Nat.le_trans L0.size L3.size))
      have l5 : Below w2.heap.size w2 W5 := l2.trans (U5.below (by omega) l2.size)
      exact ⟨U5.box B4 (by omega), B5, A2.out.size, by omega, A2.out.trans (l5.mono A2.out.size)⟩
    clear B0 L0 B3 L3 B4 U4 B5 U5 Z0
    generalize w2.heap.size = fb at *
    generalize W0.heap.size = db at *
    go_wp2_with fail
    go_ret
    exact ⟨rfl, X5.out.2.2.2.2⟩
  · refine (begun_yes mo g len cap ln ws (by omega) (by omega) (by omega) (by omega) HLN.out _ (HWS.out.below A1.out.2)).mono ?_
    rintro e w2 ⟨K, hK, rfl, hb2⟩
    have A2 : Hid (Below w.heap.size w w2) := A1.out.2.trans (hb2.mono A1.out.2.size)
    clear hb2
    refine hKK _ _ ?_
    clear hKK KK
    (refine wpList_step (fun KK hKK => ?_); go_simp; refine hKK _ _ ?_; clear hKK KK)
    refine wpList_extract_at rfl _ _ _ _ rfl rfl rfl ?_
    refine wpList_extract_at rfl _ _ _ _ rfl rfl rfl ?_
    refine wpList_extract_at rfl _ _ _ _ rfl rfl rfl ?_
    refine wpList_alloc_file rfl rfl ?_
    intro W0 hW0
    have B0 : Box 29 W0 w2.heap.size zeroC := by rw [hW0]; exact Box.new _ _ _
    have L0 : Below w2.heap.size w2 W0 := by rw [hW0]; exact (Below.refl _ _).alloc (Nat.le_refl _) _
    have Z0 : W0.heap.size = w2.heap.size + 1 := by rw [hW0]; simp
    clear hW0
    refine wpList_alloc_doc rfl rfl ?_
    intro W3 hW3
    have B3 : Box 32 W3 W0.heap.size zeroD := by rw [hW3]; exact Box.new _ _ _
    have L3 : Below W0.heap.size W0 W3 := by rw [hW3]; exact (Below.refl _ _).alloc (Nat.le_refl _) _
    clear hW3
    refine wpList_store_file rfl _ _ rfl w2.heap.size mo K zeroC rfl rfl (B0.step L3) zeroC_size ?_
    intro W4 B4 U4
    refine wpList_store_doc rfl _ _ rfl W0.heap.size mo K zeroD rfl rfl (U4.box B3 (by omega)) zeroD_size ?_
    intro W5 B5 U5
    have X5 : Hid (Tw w W5 w2.heap.size W0.heap.size mo mo K K) := by
      have l2 : Below w2.heap.size w2 W4 := (L0.trans (L3.mono L0.size)).trans (U4.below (Nat.le_refl _) (Nat.le_trans L0.size L3.size))
      have l5 : Below w2.heap.size w2 W5 := l2.trans (U5.below (by omega) l2.size)
      exact ⟨U5.box B4 (by omega), B5, A2.out.size, by omega, A2.out.trans (l5.mono A2.out.size)⟩
    clear B0 L0 B3 L3 B4 U4 B5 U5 Z0
    generalize w2.heap.size = fb at *
    generalize W0.heap.size = db at *
    exact absurd HMO.out (by omega)
theorem masks_core (mo : Int) (g : Option Addr) (len cap ln : Nat) (ws : Nat → Int × Nat) (hln : ln < 18446744073709551616) (w : World) (hO : Ord w) (hws : WritesIn w (.slice g len cap) len ws) : Calls Tryd.prog 4 #[.agg #[.int .i64 mo, .slice g len cap, .int .u64 (ln : Nat)]] w fun e w' => e = .returned (.bool true) ∧ Below w.heap.size w w' := by
  by_cases h0 : mo = 0
  · exact masks_0 mo g len cap ln ws hln h0 w hO hws
  by_cases h1 : mo = 1
  · exact masks_1 mo g len cap ln ws hln h1 w hO hws
  by_cases h3 : mo = 3
  · exact masks_3 mo g len cap ln ws hln h3 w hO hws
  exact masks_bad mo g len cap ln ws hln ⟨h0, h1, h3⟩ w hO hws
end Go.Proofs.YtdljceeoofhfnaaDoor
