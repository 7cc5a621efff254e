/- Plain numbers: the bits of a word that tell its operation, by its five pieces. -/
import Derived.Test.YtooaafbdjnlmfaaGreatDoorQFin
namespace Go.Proofs.YtooaafbdjnlmfaaGreatDoor
open Go.RowKit
set_option linter.unusedVariables false
set_option linter.unusedSimpArgs false
theorem keep (k r m n : Nat) (hk : Sub k m) (hr : Sub r n) (hm : m < 4294967296) (hn : n < 4294967296) (hd : m &&& n = 0) : (k + r) &&& m = k := by
  obtain ⟨e1, s1⟩ := hk.join hr (by omega) (by omega) hd
  rw [← e1, or_and, hk.and, hr.apart (Sub.refl m) (by rw [Nat.and_comm]; exact hd), Nat.or_zero]
theorem s_c (c : Nat) (h : c < 128) : Sub c 0x7f := field_eq (x := c) 7 0 0x7f (by omega) h (by decide)
theorem s_A (A : Nat) (h : A < 32) : Sub (A * 128) 0xf80 := field_eq (x := A) 5 7 0xf80 (by omega) h (by decide)
theorem s_g (g : Nat) (h : g < 8) : Sub (g * 4096) 0x7000 := field_eq (x := g) 3 12 0x7000 (by omega) h (by decide)
theorem s_B (B : Nat) (h : B < 32) : Sub (B * 32768) 0xf8000 := field_eq (x := B) 5 15 0xf8000 (by omega) h (by decide)
theorem s_T (T : Nat) (h : T < 4096) : Sub (T * 1048576) 0xfff00000 := field_eq (x := T) 12 20 0xfff00000 (by omega) h (by decide)
theorem s_T6 (T : Nat) (h : T < 64) : Sub (T * 67108864) 0xfc000000 := field_eq (x := T) 6 26 0xfc000000 (by omega) h (by decide)
theorem s_T7 (T : Nat) (h : T < 128) : Sub (T * 33554432) 0xfe000000 := field_eq (x := T) 7 25 0xfe000000 (by omega) h (by decide)
theorem s_T5 (T : Nat) (h : T < 32) : Sub (T * 134217728) 0xf8000000 := field_eq (x := T) 5 27 0xf8000000 (by omega) h (by decide)
theorem s_l6 (T : Nat) (h : T < 64) : Sub (T * 1048576) 0x3f00000 := field_eq (x := T) 6 20 0x3f00000 (by omega) h (by decide)
theorem s_l5 (T : Nat) (h : T < 32) : Sub (T * 1048576) 0x1f00000 := field_eq (x := T) 5 20 0x1f00000 (by omega) h (by decide)
theorem s_l7 (T : Nat) (h : T < 128) : Sub (T * 1048576) 0x7f00000 := field_eq (x := T) 7 20 0x7f00000 (by omega) h (by decide)
theorem s_m2 (T : Nat) (h : T < 4) : Sub (T * 33554432) 0x6000000 := field_eq (x := T) 2 25 0x6000000 (by omega) h (by decide)
theorem mask_1 (c A g B T : Nat) (hc : c < 128) (hA : A < 32) (hg : g < 8) (hB : B < 32) (hT : T < 4096) : (c + A * 128 + g * 4096 + B * 32768 + T * 1048576) &&& 127 = c := by
  rw [show c + A * 128 + g * 4096 + B * 32768 + T * 1048576 = (c) + (A * 128 + g * 4096 + B * 32768 + T * 1048576) by omega]
  exact keep _ _ 127 4294967168 (s_c c hc) ((((((s_A A hA).join (s_g g hg) (by decide) (by decide) (by decide)).2).join (s_B B hB) (by decide) (by decide) (by decide)).2).join (s_T T hT) (by decide) (by decide) (by decide)).2 (by decide) (by decide) (by decide)
theorem mask_3 (c A g B T : Nat) (hc : c < 128) (hA : A < 32) (hg : g < 8) (hB : B < 32) (hT : T < 4096) : (c + A * 128 + g * 4096 + B * 32768 + T * 1048576) &&& 28799 = c + g * 4096 := by
  rw [show c + A * 128 + g * 4096 + B * 32768 + T * 1048576 = (c + g * 4096) + (A * 128 + B * 32768 + T * 1048576) by omega]
  exact keep _ _ 28799 4294938496 ((s_c c hc).join (s_g g hg) (by decide) (by decide) (by decide)).2 ((((s_A A hA).join (s_B B hB) (by decide) (by decide) (by decide)).2).join (s_T T hT) (by decide) (by decide) (by decide)).2 (by decide) (by decide) (by decide)
theorem mask_7 (c A g B T : Nat) (hc : c < 128) (hA : A < 32) (hg : g < 8) (hB : B < 32) (hT : T < 4096) : (c + A * 128 + g * 4096 + B * 32768 + T * 1048576) &&& 4227887231 = c + g * 4096 + T / 64 * 67108864 := by
  rw [show c + A * 128 + g * 4096 + B * 32768 + T * 1048576 = (c + g * 4096 + T / 64 * 67108864) + (A * 128 + B * 32768 + T % 64 * 1048576) by omega]
  exact keep _ _ 4227887231 67080064 ((((s_c c hc).join (s_g g hg) (by decide) (by decide) (by decide)).2).join (s_T6 (T / 64) (by omega)) (by decide) (by decide) (by decide)).2 ((((s_A A hA).join (s_B B hB) (by decide) (by decide) (by decide)).2).join (s_l6 (T % 64) (by omega)) (by decide) (by decide) (by decide)).2 (by decide) (by decide) (by decide)
theorem mask_8 (c A g B T : Nat) (hc : c < 128) (hA : A < 32) (hg : g < 8) (hB : B < 32) (hT : T < 4096) : (c + A * 128 + g * 4096 + B * 32768 + T * 1048576) &&& 4261441663 = c + g * 4096 + T / 32 * 33554432 := by
  rw [show c + A * 128 + g * 4096 + B * 32768 + T * 1048576 = (c + g * 4096 + T / 32 * 33554432) + (A * 128 + B * 32768 + T % 32 * 1048576) by omega]
  exact keep _ _ 4261441663 33525632 ((((s_c c hc).join (s_g g hg) (by decide) (by decide) (by decide)).2).join (s_T7 (T / 32) (by omega)) (by decide) (by decide) (by decide)).2 ((((s_A A hA).join (s_B B hB) (by decide) (by decide) (by decide)).2).join (s_l5 (T % 32) (by omega)) (by decide) (by decide) (by decide)).2 (by decide) (by decide) (by decide)
theorem mask_15 (c A g B T : Nat) (hc : c < 128) (hA : A < 32) (hg : g < 8) (hB : B < 32) (hT : T < 4096) : (c + A * 128 + g * 4096 + B * 32768 + T * 1048576) &&& 4160778367 = c + g * 4096 + T / 128 * 134217728 := by
  rw [show c + A * 128 + g * 4096 + B * 32768 + T * 1048576 = (c + g * 4096 + T / 128 * 134217728) + (A * 128 + B * 32768 + T % 128 * 1048576) by omega]
  exact keep _ _ 4160778367 134188928 ((((s_c c hc).join (s_g g hg) (by decide) (by decide) (by decide)).2).join (s_T5 (T / 128) (by omega)) (by decide) (by decide) (by decide)).2 ((((s_A A hA).join (s_B B hB) (by decide) (by decide) (by decide)).2).join (s_l7 (T % 128) (by omega)) (by decide) (by decide) (by decide)).2 (by decide) (by decide) (by decide)
theorem mask_14 (c A g B T : Nat) (hc : c < 128) (hA : A < 32) (hg : g < 8) (hB : B < 32) (hT : T < 4096) : (c + A * 128 + g * 4096 + B * 32768 + T * 1048576) &&& 4193284223 = c + g * 4096 + T % 32 * 1048576 + T / 128 * 134217728 := by
  rw [show c + A * 128 + g * 4096 + B * 32768 + T * 1048576 = (c + g * 4096 + T % 32 * 1048576 + T / 128 * 134217728) + (A * 128 + B * 32768 + T / 32 % 4 * 33554432) by omega]
  exact keep _ _ 4193284223 101683072 ((((((s_c c hc).join (s_g g hg) (by decide) (by decide) (by decide)).2).join (s_l5 (T % 32) (by omega)) (by decide) (by decide) (by decide)).2).join (s_T5 (T / 128) (by omega)) (by decide) (by decide) (by decide)).2 ((((s_A A hA).join (s_B B hB) (by decide) (by decide) (by decide)).2).join (s_m2 (T / 32 % 4) (by omega)) (by decide) (by decide) (by decide)).2 (by decide) (by decide) (by decide)
theorem mask_16 (c A g B T : Nat) (hc : c < 128) (hA : A < 32) (hg : g < 8) (hB : B < 32) (hT : T < 4096) : (c + A * 128 + g * 4096 + B * 32768 + T * 1048576) &&& 4261445631 = c + A * 128 + g * 4096 + T / 32 * 33554432 := by
  rw [show c + A * 128 + g * 4096 + B * 32768 + T * 1048576 = (c + A * 128 + g * 4096 + T / 32 * 33554432) + (B * 32768 + T % 32 * 1048576) by omega]
  exact keep _ _ 4261445631 33521664 ((((((s_c c hc).join (s_A A hA) (by decide) (by decide) (by decide)).2).join (s_g g hg) (by decide) (by decide) (by decide)).2).join (s_T7 (T / 32) (by omega)) (by decide) (by decide) (by decide)).2 ((s_B B hB).join (s_l5 (T % 32) (by omega)) (by decide) (by decide) (by decide)).2 (by decide) (by decide) (by decide)
theorem mask_11 (c A g B T : Nat) (hc : c < 128) (hA : A < 32) (hg : g < 8) (hB : B < 32) (hT : T < 4096) : (c + A * 128 + g * 4096 + B * 32768 + T * 1048576) &&& 4294967295 = c + A * 128 + g * 4096 + B * 32768 + T * 1048576 := by
  rw [show (4294967295 : Nat) = 2 ^ 32 - 1 from by decide, Nat.and_two_pow_sub_one_eq_mod]
  exact Nat.mod_eq_of_lt (by omega)
theorem own_digits (x : Nat) (hx : x < 4294967296) : ∃ c A g B T : Nat, c < 128 ∧ A < 32 ∧ g < 8 ∧ B < 32 ∧ T < 4096 ∧ x = c + A * 128 + g * 4096 + B * 32768 + T * 1048576 := ⟨x % 128, x / 128 % 32, x / 4096 % 8, x / 32768 % 32, x / 1048576, by omega, by omega, by omega, by omega, by omega, by omega⟩
end Go.Proofs.YtooaafbdjnlmfaaGreatDoor

namespace Go.Proofs.YtooaafbdjnlmfaaGreatDoor
open Go.RowKit
set_option linter.unusedVariables false
set_option linter.unusedSimpArgs false
theorem v12 (y : Nat) (v : Int) (U : Nat) (hv : v = if y / 2048 % 2 = 1 then ((y % 4096 : Nat) : Int) - 4096 else ((y % 4096 : Nat) : Int)) (hU : (U : Int) = v % 18446744073709551616) : -2048 ≤ v ∧ v ≤ 2047 ∧ U % 4096 = y % 4096 := by
  rw [hv] at hU ⊢
  clear hv
  split at hU <;> (refine ⟨?_, ?_, ?_⟩ <;> omega)
theorem v13 (y : Nat) (v : Int) (U : Nat) (h2 : y % 2 = 0) (hv : v = if y / 4096 % 2 = 1 then ((y % 8192 : Nat) : Int) - 8192 else ((y % 8192 : Nat) : Int)) (hU : (U : Int) = v % 18446744073709551616) : -4096 ≤ v ∧ v ≤ 4094 ∧ v % 2 = 0 ∧ U % 8192 = y % 8192 := by
  rw [hv] at hU ⊢
  clear hv
  split at hU <;> (refine ⟨?_, ?_, ?_, ?_⟩ <;> omega)
theorem v21 (y : Nat) (v : Int) (U : Nat) (h2 : y % 2 = 0) (hv : v = if y / 1048576 % 2 = 1 then ((y % 2097152 : Nat) : Int) - 2097152 else ((y % 2097152 : Nat) : Int)) (hU : (U : Int) = v % 18446744073709551616) : -1048576 ≤ v ∧ v ≤ 1048574 ∧ v % 2 = 0 ∧ U % 2097152 = y % 2097152 := by
  rw [hv] at hU ⊢
  clear hv
  split at hU <;> (refine ⟨?_, ?_, ?_, ?_⟩ <;> omega)
theorem v32 (y : Nat) (v : Int) (U : Nat) (h2 : y % 4096 = 0) (hv : v = if y / 2147483648 % 2 = 1 then ((y % 4294967296 : Nat) : Int) - 4294967296 else ((y % 4294967296 : Nat) : Int)) (hU : (U : Int) = v % 18446744073709551616) : -2147483648 ≤ v ∧ v ≤ 2147479552 ∧ v % 4096 = 0 ∧ U % 4294967296 = y % 4294967296 := by
  rw [hv] at hU ⊢
  clear hv
  split at hU <;> (refine ⟨?_, ?_, ?_, ?_⟩ <;> omega)
theorem back2 (U p q r s : Nat) (hp : p < 2) (hq : q < 1024) (hr : r < 2) (hs : s < 256) (h : U % 2097152 = p * 1048576 + q * 2 + r * 2048 + s * 4096) : U / 1048576 % 2 = p ∧ U / 2 % 1024 = q ∧ U / 2048 % 2 = r ∧ U / 4096 % 256 = s := by refine ⟨?_, ?_, ?_, ?_⟩ <;> omega
theorem back5 (U p q r s : Nat) (hp : p < 2) (hq : q < 64) (hr : r < 16) (hs : s < 2) (h : U % 8192 = p * 4096 + q * 32 + r * 2 + s * 2048) : U / 4096 % 2 = p ∧ U / 32 % 64 = q ∧ U / 2 % 16 = r ∧ U / 2048 % 2 = s := by refine ⟨?_, ?_, ?_, ?_⟩ <;> omega
theorem back6 (U p q : Nat) (hp : p < 128) (hq : q < 32) (h : U % 4096 = p * 32 + q) : U / 32 % 128 = p ∧ U % 32 = q := by refine ⟨?_, ?_⟩ <;> omega
theorem even5 (p q r s : Nat) : (p * 4096 + q * 32 + r * 2 + s * 2048) % 2 = 0 := by omega
theorem even2 (p q r s : Nat) : (p * 1048576 + q * 2 + r * 2048 + s * 4096) % 2 = 0 := by omega
theorem half_lt (A : Nat) (h : A < 32) : A / 2 < 16 := by omega
theorem gb_lt (g B : Nat) (h : g < 8) (h2 : B < 32) : g + B * 8 < 256 := by omega
theorem bit64 (t : Nat) (h : t < 2) : (if (t == 1) = true then 64 else 0 : Nat) = t * 64 := by
  have : t = 0 ∨ t = 1 := by omega
  rcases this with rfl | rfl <;> rfl
theorem bit32 (t : Nat) (h : t < 2) : (if (t == 1) = true then 32 else 0 : Nat) = t * 32 := by
  have : t = 0 ∨ t = 1 := by omega
  rcases this with rfl | rfl <;> rfl
theorem sum_1 (W c A g B T : Nat) (hT : T < 4096) (hm : c = W)  : W + (A * 128 + 0 * 32768 + 0 * 1048576 + 0 * 1048576) + (g + B * 8 + T * 256) * 4096 = c + A * 128 + g * 4096 + B * 32768 + T * 1048576 := by
  rw [← hm]; omega
theorem wd_1 (W c A g B T : Nat) (hc : c < 128) (hA : A < 32) (hg : g < 8) (hB : B < 32) (hT : T < 4096) (x : Nat) (hx : x = c + A * 128 + g * 4096 + B * 32768 + T * 1048576) (hm : x &&& 127 = W) (v : Int) (hv : immD 1 x = v) (U : Nat) (hU : (U : Int) = v % 18446744073709551616) :
    ((spanN 1).1 ≤ v ∧ v ≤ (spanN 1).2.1 ∧ v % (spanN 1).2.2 = 0) ∧ W + partsS (dP 1 1 128 32 x) (dP 1 2 32768 32 x) (dP 1 4 1048576 32 x) (dP 1 8 1048576 4096 x) (dB 1 67108864 x) (dB 1 33554432 x) + immP 1 U = x := by
  obtain ⟨d0, d1, d2, d3, d4, d5, d6, d7, d8, d9, d10, d11⟩ := digits c A g B T x hc hA hg hB hT hx
  have hk : c = W := ((mask_1 c A g B T hc hA hg hB hT).symm.trans (congrArg (fun z => z &&& 127) hx.symm)).trans hm
  have hq : partsT.getD 1 0 = 1 := by decide
  have p1 : dP 1 1 128 32 x = A := by unfold dP; rw [hq]; rw [if_neg (by decide)]; exact d1
  have p2 : dP 1 2 32768 32 x = 0 := by unfold dP; rw [hq]; exact if_pos (by decide)
  have p3 : dP 1 4 1048576 32 x = 0 := by unfold dP; rw [hq]; exact if_pos (by decide)
  have p4 : dP 1 8 1048576 4096 x = 0 := by unfold dP; rw [hq]; exact if_pos (by decide)
  have p5 : dB 1 67108864 x = false := by unfold dB; rw [hq]; rfl
  have p6 : dB 1 33554432 x = false := by unfold dB; rw [hq]; rfl
  rw [p1, p2, p3, p4, p5, p6]
  clear p1 p2 p3 p4 p5 p6 hm hq
  rw [immD_1, sext32, d11] at hv
  obtain ⟨h0, h1, h2, h3⟩ := v32 _ v U (Nat.mul_mod_left _ _) hv.symm hU
  refine ⟨⟨h0, h1, h2⟩, ?_⟩
  have hI := immP_1 U v hU h0 h1 h2
  have hJ : U % 4294967296 / 4096 * 4096 = (g + B * 8 + T * 256) * 4096 := by rw [h3]; clear d0 d1 d2 d3 d4 d5 d6 d7 d8 d9 d10 d11 hx hk hI h3 hv hU h0 h1 h2; omega
  exact ((combine (plain_parts A 0 (0) (0)) (hI.trans hJ)).trans (sum_1 W c A g B T hT hk)).trans hx.symm
theorem sum_2 (W c A g B T : Nat) (hT : T < 4096) (hm : c = W)  : W + (A * 128 + 0 * 32768 + 0 * 1048576 + 0 * 1048576) + (T / 2048 % 2 * 2147483648 + T / 2 % 1024 * 2097152 + T % 2 * 1048576 + (g + B * 8) * 4096) = c + A * 128 + g * 4096 + B * 32768 + T * 1048576 := by
  rw [← hm]; omega
theorem wd_2 (W c A g B T : Nat) (hc : c < 128) (hA : A < 32) (hg : g < 8) (hB : B < 32) (hT : T < 4096) (x : Nat) (hx : x = c + A * 128 + g * 4096 + B * 32768 + T * 1048576) (hm : x &&& 127 = W) (v : Int) (hv : immD 2 x = v) (U : Nat) (hU : (U : Int) = v % 18446744073709551616) :
    ((spanN 2).1 ≤ v ∧ v ≤ (spanN 2).2.1 ∧ v % (spanN 2).2.2 = 0) ∧ W + partsS (dP 2 1 128 32 x) (dP 2 2 32768 32 x) (dP 2 4 1048576 32 x) (dP 2 8 1048576 4096 x) (dB 2 67108864 x) (dB 2 33554432 x) + immP 2 U = x := by
  obtain ⟨d0, d1, d2, d3, d4, d5, d6, d7, d8, d9, d10, d11⟩ := digits c A g B T x hc hA hg hB hT hx
  have hk : c = W := ((mask_1 c A g B T hc hA hg hB hT).symm.trans (congrArg (fun z => z &&& 127) hx.symm)).trans hm
  have hq : partsT.getD 2 0 = 1 := by decide
  have p1 : dP 2 1 128 32 x = A := by unfold dP; rw [hq]; rw [if_neg (by decide)]; exact d1
  have p2 : dP 2 2 32768 32 x = 0 := by unfold dP; rw [hq]; exact if_pos (by decide)
  have p3 : dP 2 4 1048576 32 x = 0 := by unfold dP; rw [hq]; exact if_pos (by decide)
  have p4 : dP 2 8 1048576 4096 x = 0 := by unfold dP; rw [hq]; exact if_pos (by decide)
  have p5 : dB 2 67108864 x = false := by unfold dB; rw [hq]; rfl
  have p6 : dB 2 33554432 x = false := by unfold dB; rw [hq]; rfl
  rw [p1, p2, p3, p4, p5, p6]
  clear p1 p2 p3 p4 p5 p6 hm hq
  rw [immD_2, sext21, (getI_num x).1, (getI_num x).2.1, (getI_num x).2.2.1, (getI_num x).2.2.2.1, d6, d7, d3, d10] at hv
  obtain ⟨h0, h1, h2, h3⟩ := v21 _ v U (even2 _ _ _ _) hv.symm hU
  refine ⟨⟨h0, h1, h2⟩, ?_⟩
  have hI := immP_2 U v hU h0 h1 h2
  obtain ⟨k1, k2, k3, k4⟩ := back2 U (T / 2048 % 2) (T / 2 % 1024) (T % 2) (g + B * 8) (Nat.mod_lt _ (by decide)) (Nat.mod_lt _ (by decide)) (Nat.mod_lt _ (by decide)) (gb_lt g B hg hB) (by rw [h3]; clear d0 d1 d2 d3 d4 d5 d6 d7 d8 d9 d10 d11 hx hk hI h3 hv hU h0 h1 h2; omega)
  rw [k1, k2, k3, k4] at hI
  exact ((combine (plain_parts A 0 (0) (0)) hI).trans (sum_2 W c A g B T hT hk)).trans hx.symm
theorem sum_3 (W c A g B T : Nat) (hT : T < 4096) (hm : c + g * 4096 = W)  : W + (A * 128 + B * 32768 + 0 * 1048576 + 0 * 1048576) + T % 4096 * 1048576 = c + A * 128 + g * 4096 + B * 32768 + T * 1048576 := by
  rw [← hm]; omega
theorem wd_3 (W c A g B T : Nat) (hc : c < 128) (hA : A < 32) (hg : g < 8) (hB : B < 32) (hT : T < 4096) (x : Nat) (hx : x = c + A * 128 + g * 4096 + B * 32768 + T * 1048576) (hm : x &&& 28799 = W) (v : Int) (hv : immD 3 x = v) (U : Nat) (hU : (U : Int) = v % 18446744073709551616) :
    ((spanN 3).1 ≤ v ∧ v ≤ (spanN 3).2.1 ∧ v % (spanN 3).2.2 = 0) ∧ W + partsS (dP 3 1 128 32 x) (dP 3 2 32768 32 x) (dP 3 4 1048576 32 x) (dP 3 8 1048576 4096 x) (dB 3 67108864 x) (dB 3 33554432 x) + immP 3 U = x := by
  obtain ⟨d0, d1, d2, d3, d4, d5, d6, d7, d8, d9, d10, d11⟩ := digits c A g B T x hc hA hg hB hT hx
  have hk : c + g * 4096 = W := ((mask_3 c A g B T hc hA hg hB hT).symm.trans (congrArg (fun z => z &&& 28799) hx.symm)).trans hm
  have hq : partsT.getD 3 0 = 3 := by decide
  have p1 : dP 3 1 128 32 x = A := by unfold dP; rw [hq]; rw [if_neg (by decide)]; exact d1
  have p2 : dP 3 2 32768 32 x = B := by unfold dP; rw [hq]; rw [if_neg (by decide)]; exact d2
  have p3 : dP 3 4 1048576 32 x = 0 := by unfold dP; rw [hq]; exact if_pos (by decide)
  have p4 : dP 3 8 1048576 4096 x = 0 := by unfold dP; rw [hq]; exact if_pos (by decide)
  have p5 : dB 3 67108864 x = false := by unfold dB; rw [hq]; rfl
  have p6 : dB 3 33554432 x = false := by unfold dB; rw [hq]; rfl
  rw [p1, p2, p3, p4, p5, p6]
  clear p1 p2 p3 p4 p5 p6 hm hq
  rw [immD_3, sext12, (getI_num x).2.2.2.2.1, d3] at hv
  obtain ⟨h0, h1, h3⟩ := v12 _ v U hv.symm hU
  have h2 : v % 1 = 0 := Int.emod_one v
  refine ⟨⟨h0, h1, h2⟩, ?_⟩
  have hI := immP_3 U v hU h0 h1 h2
  replace hI := hI.trans (congrArg (fun z => z * 1048576) (h3.trans (Nat.mod_mod _ _)))
  exact ((combine (plain_parts A B (0) (0)) hI).trans (sum_3 W c A g B T hT hk)).trans hx.symm
theorem sum_4 (W c A g B T : Nat) (hT : T < 4096) (hm : c + g * 4096 = W)  : W + (A * 128 + B * 32768 + 0 * 1048576 + 0 * 1048576) + T % 4096 * 1048576 = c + A * 128 + g * 4096 + B * 32768 + T * 1048576 := by
  rw [← hm]; omega
theorem wd_4 (W c A g B T : Nat) (hc : c < 128) (hA : A < 32) (hg : g < 8) (hB : B < 32) (hT : T < 4096) (x : Nat) (hx : x = c + A * 128 + g * 4096 + B * 32768 + T * 1048576) (hm : x &&& 28799 = W) (v : Int) (hv : immD 4 x = v) (U : Nat) (hU : (U : Int) = v % 18446744073709551616) :
    ((spanN 4).1 ≤ v ∧ v ≤ (spanN 4).2.1 ∧ v % (spanN 4).2.2 = 0) ∧ W + partsS (dP 4 1 128 32 x) (dP 4 2 32768 32 x) (dP 4 4 1048576 32 x) (dP 4 8 1048576 4096 x) (dB 4 67108864 x) (dB 4 33554432 x) + immP 4 U = x := by
  obtain ⟨d0, d1, d2, d3, d4, d5, d6, d7, d8, d9, d10, d11⟩ := digits c A g B T x hc hA hg hB hT hx
  have hk : c + g * 4096 = W := ((mask_3 c A g B T hc hA hg hB hT).symm.trans (congrArg (fun z => z &&& 28799) hx.symm)).trans hm
  have hq : partsT.getD 4 0 = 3 := by decide
  have p1 : dP 4 1 128 32 x = A := by unfold dP; rw [hq]; rw [if_neg (by decide)]; exact d1
  have p2 : dP 4 2 32768 32 x = B := by unfold dP; rw [hq]; rw [if_neg (by decide)]; exact d2
  have p3 : dP 4 4 1048576 32 x = 0 := by unfold dP; rw [hq]; exact if_pos (by decide)
  have p4 : dP 4 8 1048576 4096 x = 0 := by unfold dP; rw [hq]; exact if_pos (by decide)
  have p5 : dB 4 67108864 x = false := by unfold dB; rw [hq]; rfl
  have p6 : dB 4 33554432 x = false := by unfold dB; rw [hq]; rfl
  rw [p1, p2, p3, p4, p5, p6]
  clear p1 p2 p3 p4 p5 p6 hm hq
  rw [immD_4, sext12, (getI_num x).2.2.2.2.1, d3] at hv
  obtain ⟨h0, h1, h3⟩ := v12 _ v U hv.symm hU
  have h2 : v % 1 = 0 := Int.emod_one v
  refine ⟨⟨h0, h1, h2⟩, ?_⟩
  have hI := immP_4 U v hU h0 h1 h2
  replace hI := hI.trans (congrArg (fun z => z * 1048576) (h3.trans (Nat.mod_mod _ _)))
  exact ((combine (plain_parts A B (0) (0)) hI).trans (sum_4 W c A g B T hT hk)).trans hx.symm
theorem sum_5 (W c A g B T : Nat) (hT : T < 4096) (hm : c + g * 4096 = W)  : W + (0 * 128 + B * 32768 + (T % 32) * 1048576 + 0 * 1048576) + (T / 2048 % 2 * 2147483648 + T / 32 % 64 * 33554432 + A / 2 * 256 + A % 2 * 128) = c + A * 128 + g * 4096 + B * 32768 + T * 1048576 := by
  rw [← hm]; omega
theorem wd_5 (W c A g B T : Nat) (hc : c < 128) (hA : A < 32) (hg : g < 8) (hB : B < 32) (hT : T < 4096) (x : Nat) (hx : x = c + A * 128 + g * 4096 + B * 32768 + T * 1048576) (hm : x &&& 28799 = W) (v : Int) (hv : immD 5 x = v) (U : Nat) (hU : (U : Int) = v % 18446744073709551616) :
    ((spanN 5).1 ≤ v ∧ v ≤ (spanN 5).2.1 ∧ v % (spanN 5).2.2 = 0) ∧ W + partsS (dP 5 1 128 32 x) (dP 5 2 32768 32 x) (dP 5 4 1048576 32 x) (dP 5 8 1048576 4096 x) (dB 5 67108864 x) (dB 5 33554432 x) + immP 5 U = x := by
  obtain ⟨d0, d1, d2, d3, d4, d5, d6, d7, d8, d9, d10, d11⟩ := digits c A g B T x hc hA hg hB hT hx
  have hk : c + g * 4096 = W := ((mask_3 c A g B T hc hA hg hB hT).symm.trans (congrArg (fun z => z &&& 28799) hx.symm)).trans hm
  have hq : partsT.getD 5 0 = 6 := by decide
  have p1 : dP 5 1 128 32 x = 0 := by unfold dP; rw [hq]; exact if_pos (by decide)
  have p2 : dP 5 2 32768 32 x = B := by unfold dP; rw [hq]; rw [if_neg (by decide)]; exact d2
  have p3 : dP 5 4 1048576 32 x = T % 32 := by unfold dP; rw [hq]; rw [if_neg (by decide), d3]
  have p4 : dP 5 8 1048576 4096 x = 0 := by unfold dP; rw [hq]; exact if_pos (by decide)
  have p5 : dB 5 67108864 x = false := by unfold dB; rw [hq]; rfl
  have p6 : dB 5 33554432 x = false := by unfold dB; rw [hq]; rfl
  rw [p1, p2, p3, p4, p5, p6]
  clear p1 p2 p3 p4 p5 p6 hm hq
  rw [immD_5, sext13, (getI_num x).1, (getI_num x).2.2.2.2.2.1, (getI_num x).2.2.2.2.2.2.1, (getI_num x).2.2.2.2.2.2.2.1, d6, d4, d8, d9] at hv
  obtain ⟨h0, h1, h2, h3⟩ := v13 _ v U (even5 _ _ _ _) hv.symm hU
  refine ⟨⟨h0, h1, h2⟩, ?_⟩
  have hI := immP_5 U v hU h0 h1 h2
  obtain ⟨k1, k2, k3, k4⟩ := back5 U (T / 2048 % 2) (T / 32 % 64) (A / 2) (A % 2) (Nat.mod_lt _ (by decide)) (Nat.mod_lt _ (by decide)) (half_lt A hA) (Nat.mod_lt _ (by decide)) (by rw [h3]; clear d0 d1 d2 d3 d4 d5 d6 d7 d8 d9 d10 d11 hx hk hI h3 hv hU h0 h1 h2; omega)
  rw [k1, k2, k3, k4] at hI
  exact ((combine (plain_parts 0 B (T % 32) (0)) hI).trans (sum_5 W c A g B T hT hk)).trans hx.symm
theorem sum_6 (W c A g B T : Nat) (hT : T < 4096) (hm : c + g * 4096 = W)  : W + (0 * 128 + B * 32768 + (T % 32) * 1048576 + 0 * 1048576) + (T / 32 % 128 * 33554432 + A * 128) = c + A * 128 + g * 4096 + B * 32768 + T * 1048576 := by
  rw [← hm]; omega
theorem wd_6 (W c A g B T : Nat) (hc : c < 128) (hA : A < 32) (hg : g < 8) (hB : B < 32) (hT : T < 4096) (x : Nat) (hx : x = c + A * 128 + g * 4096 + B * 32768 + T * 1048576) (hm : x &&& 28799 = W) (v : Int) (hv : immD 6 x = v) (U : Nat) (hU : (U : Int) = v % 18446744073709551616) :
    ((spanN 6).1 ≤ v ∧ v ≤ (spanN 6).2.1 ∧ v % (spanN 6).2.2 = 0) ∧ W + partsS (dP 6 1 128 32 x) (dP 6 2 32768 32 x) (dP 6 4 1048576 32 x) (dP 6 8 1048576 4096 x) (dB 6 67108864 x) (dB 6 33554432 x) + immP 6 U = x := by
  obtain ⟨d0, d1, d2, d3, d4, d5, d6, d7, d8, d9, d10, d11⟩ := digits c A g B T x hc hA hg hB hT hx
  have hk : c + g * 4096 = W := ((mask_3 c A g B T hc hA hg hB hT).symm.trans (congrArg (fun z => z &&& 28799) hx.symm)).trans hm
  have hq : partsT.getD 6 0 = 6 := by decide
  have p1 : dP 6 1 128 32 x = 0 := by unfold dP; rw [hq]; exact if_pos (by decide)
  have p2 : dP 6 2 32768 32 x = B := by unfold dP; rw [hq]; rw [if_neg (by decide)]; exact d2
  have p3 : dP 6 4 1048576 32 x = T % 32 := by unfold dP; rw [hq]; rw [if_neg (by decide), d3]
  have p4 : dP 6 8 1048576 4096 x = 0 := by unfold dP; rw [hq]; exact if_pos (by decide)
  have p5 : dB 6 67108864 x = false := by unfold dB; rw [hq]; rfl
  have p6 : dB 6 33554432 x = false := by unfold dB; rw [hq]; rfl
  rw [p1, p2, p3, p4, p5, p6]
  clear p1 p2 p3 p4 p5 p6 hm hq
  rw [immD_6, sext12, (getI_num x).2.2.2.2.2.2.2.2.1, (getI_num x).2.2.2.2.2.2.2.2.2.1, d4, d1] at hv
  obtain ⟨h0, h1, h3⟩ := v12 _ v U hv.symm hU
  have h2 : v % 1 = 0 := Int.emod_one v
  refine ⟨⟨h0, h1, h2⟩, ?_⟩
  have hI := immP_6 U v hU h0 h1 h2
  obtain ⟨k1, k2⟩ := back6 U (T / 32 % 128) A (Nat.mod_lt _ (by decide)) hA (by rw [h3]; clear d0 d1 d2 d3 d4 d5 d6 d7 d8 d9 d10 d11 hx hk hI h3 hv hU h0 h1 h2; omega)
  rw [k1, k2] at hI
  exact ((combine (plain_parts 0 B (T % 32) (0)) hI).trans (sum_6 W c A g B T hT hk)).trans hx.symm
theorem sum_7 (W c A g B T : Nat) (hT : T < 4096) (hm : c + g * 4096 + T / 64 * 67108864 = W)  : W + (A * 128 + B * 32768 + 0 * 1048576 + 0 * 1048576) + T % 64 * 1048576 = c + A * 128 + g * 4096 + B * 32768 + T * 1048576 := by
  rw [← hm]; omega
theorem wd_7 (W c A g B T : Nat) (hc : c < 128) (hA : A < 32) (hg : g < 8) (hB : B < 32) (hT : T < 4096) (x : Nat) (hx : x = c + A * 128 + g * 4096 + B * 32768 + T * 1048576) (hm : x &&& 4227887231 = W) (v : Int) (hv : immD 7 x = v) (U : Nat) (hU : (U : Int) = v % 18446744073709551616) :
    ((spanN 7).1 ≤ v ∧ v ≤ (spanN 7).2.1 ∧ v % (spanN 7).2.2 = 0) ∧ W + partsS (dP 7 1 128 32 x) (dP 7 2 32768 32 x) (dP 7 4 1048576 32 x) (dP 7 8 1048576 4096 x) (dB 7 67108864 x) (dB 7 33554432 x) + immP 7 U = x := by
  obtain ⟨d0, d1, d2, d3, d4, d5, d6, d7, d8, d9, d10, d11⟩ := digits c A g B T x hc hA hg hB hT hx
  have hk : c + g * 4096 + T / 64 * 67108864 = W := ((mask_7 c A g B T hc hA hg hB hT).symm.trans (congrArg (fun z => z &&& 4227887231) hx.symm)).trans hm
  have hq : partsT.getD 7 0 = 3 := by decide
  have p1 : dP 7 1 128 32 x = A := by unfold dP; rw [hq]; rw [if_neg (by decide)]; exact d1
  have p2 : dP 7 2 32768 32 x = B := by unfold dP; rw [hq]; rw [if_neg (by decide)]; exact d2
  have p3 : dP 7 4 1048576 32 x = 0 := by unfold dP; rw [hq]; exact if_pos (by decide)
  have p4 : dP 7 8 1048576 4096 x = 0 := by unfold dP; rw [hq]; exact if_pos (by decide)
  have p5 : dB 7 67108864 x = false := by unfold dB; rw [hq]; rfl
  have p6 : dB 7 33554432 x = false := by unfold dB; rw [hq]; rfl
  rw [p1, p2, p3, p4, p5, p6]
  clear p1 p2 p3 p4 p5 p6 hm hq
  rw [immD_7, (getI_num x).2.2.2.2.2.2.2.2.2.2.1, d3] at hv
  clear d0 d1 d2 d3 d4 d5 d6 d7 d8 d9 d10 d11
  have HX : Hid (_ ∧ _) := ⟨hx, hk⟩
  clear hx hk
  have h0 : 0 ≤ v := by omega
  have h1 : v ≤ 63 := by omega
  have h2 : v % 1 = 0 := Int.emod_one v
  have h3 : U = T % 64 := by omega
  refine ⟨⟨h0, h1, h2⟩, ?_⟩
  have hI := immP_7 U v hU h0 h1 h2
  replace hI := hI.trans (congrArg (fun z => z * 1048576) h3)
  exact ((combine (plain_parts A B (0) (0)) hI).trans (sum_7 W c A g B T hT HX.out.2)).trans HX.out.1.symm
theorem sum_8 (W c A g B T : Nat) (hT : T < 4096) (hm : c + g * 4096 + T / 32 * 33554432 = W)  : W + (A * 128 + B * 32768 + 0 * 1048576 + 0 * 1048576) + T % 32 * 1048576 = c + A * 128 + g * 4096 + B * 32768 + T * 1048576 := by
  rw [← hm]; omega
theorem wd_8 (W c A g B T : Nat) (hc : c < 128) (hA : A < 32) (hg : g < 8) (hB : B < 32) (hT : T < 4096) (x : Nat) (hx : x = c + A * 128 + g * 4096 + B * 32768 + T * 1048576) (hm : x &&& 4261441663 = W) (v : Int) (hv : immD 8 x = v) (U : Nat) (hU : (U : Int) = v % 18446744073709551616) :
    ((spanN 8).1 ≤ v ∧ v ≤ (spanN 8).2.1 ∧ v % (spanN 8).2.2 = 0) ∧ W + partsS (dP 8 1 128 32 x) (dP 8 2 32768 32 x) (dP 8 4 1048576 32 x) (dP 8 8 1048576 4096 x) (dB 8 67108864 x) (dB 8 33554432 x) + immP 8 U = x := by
  obtain ⟨d0, d1, d2, d3, d4, d5, d6, d7, d8, d9, d10, d11⟩ := digits c A g B T x hc hA hg hB hT hx
  have hk : c + g * 4096 + T / 32 * 33554432 = W := ((mask_8 c A g B T hc hA hg hB hT).symm.trans (congrArg (fun z => z &&& 4261441663) hx.symm)).trans hm
  have hq : partsT.getD 8 0 = 3 := by decide
  have p1 : dP 8 1 128 32 x = A := by unfold dP; rw [hq]; rw [if_neg (by decide)]; exact d1
  have p2 : dP 8 2 32768 32 x = B := by unfold dP; rw [hq]; rw [if_neg (by decide)]; exact d2
  have p3 : dP 8 4 1048576 32 x = 0 := by unfold dP; rw [hq]; exact if_pos (by decide)
  have p4 : dP 8 8 1048576 4096 x = 0 := by unfold dP; rw [hq]; exact if_pos (by decide)
  have p5 : dB 8 67108864 x = false := by unfold dB; rw [hq]; rfl
  have p6 : dB 8 33554432 x = false := by unfold dB; rw [hq]; rfl
  rw [p1, p2, p3, p4, p5, p6]
  clear p1 p2 p3 p4 p5 p6 hm hq
  rw [immD_8, (getI_num x).2.2.2.2.2.2.2.2.2.2.2.1, d3] at hv
  clear d0 d1 d2 d3 d4 d5 d6 d7 d8 d9 d10 d11
  have HX : Hid (_ ∧ _) := ⟨hx, hk⟩
  clear hx hk
  have h0 : 0 ≤ v := by omega
  have h1 : v ≤ 31 := by omega
  have h2 : v % 1 = 0 := Int.emod_one v
  have h3 : U = T % 32 := by omega
  refine ⟨⟨h0, h1, h2⟩, ?_⟩
  have hI := immP_8 U v hU h0 h1 h2
  replace hI := hI.trans (congrArg (fun z => z * 1048576) h3)
  exact ((combine (plain_parts A B (0) (0)) hI).trans (sum_8 W c A g B T hT HX.out.2)).trans HX.out.1.symm
theorem sum_9 (W c A g B T : Nat) (hT : T < 4096) (hm : c + g * 4096 + T / 32 * 33554432 = W)  : W + (A * 128 + B * 32768 + (T % 32) * 1048576 + 0 * 1048576) = c + A * 128 + g * 4096 + B * 32768 + T * 1048576 := by
  rw [← hm]; omega
theorem wd_9 (W c A g B T : Nat) (hc : c < 128) (hA : A < 32) (hg : g < 8) (hB : B < 32) (hT : T < 4096) (x : Nat) (hx : x = c + A * 128 + g * 4096 + B * 32768 + T * 1048576) (hm : x &&& 4261441663 = W) (v : Int) (hv : immD 9 x = v) (U : Nat) (hU : (U : Int) = v % 18446744073709551616) :
    ((spanN 9).1 ≤ v ∧ v ≤ (spanN 9).2.1 ∧ v % (spanN 9).2.2 = 0) ∧ W + partsS (dP 9 1 128 32 x) (dP 9 2 32768 32 x) (dP 9 4 1048576 32 x) (dP 9 8 1048576 4096 x) (dB 9 67108864 x) (dB 9 33554432 x) + immP 9 U = x := by
  obtain ⟨d0, d1, d2, d3, d4, d5, d6, d7, d8, d9, d10, d11⟩ := digits c A g B T x hc hA hg hB hT hx
  have hk : c + g * 4096 + T / 32 * 33554432 = W := ((mask_8 c A g B T hc hA hg hB hT).symm.trans (congrArg (fun z => z &&& 4261441663) hx.symm)).trans hm
  have hq : partsT.getD 9 0 = 7 := by decide
  have p1 : dP 9 1 128 32 x = A := by unfold dP; rw [hq]; rw [if_neg (by decide)]; exact d1
  have p2 : dP 9 2 32768 32 x = B := by unfold dP; rw [hq]; rw [if_neg (by decide)]; exact d2
  have p3 : dP 9 4 1048576 32 x = T % 32 := by unfold dP; rw [hq]; rw [if_neg (by decide), d3]
  have p4 : dP 9 8 1048576 4096 x = 0 := by unfold dP; rw [hq]; exact if_pos (by decide)
  have p5 : dB 9 67108864 x = false := by unfold dB; rw [hq]; rfl
  have p6 : dB 9 33554432 x = false := by unfold dB; rw [hq]; rfl
  rw [p1, p2, p3, p4, p5, p6]
  clear p1 p2 p3 p4 p5 p6 hm hq
  rw [immD_none 9 x (by decide)] at hv
  clear d0 d1 d2 d3 d4 d5 d6 d7 d8 d9 d10 d11
  have h0 : 0 ≤ v := by rw [← hv]; decide
  have h1 : v ≤ 0 := by rw [← hv]; decide
  have h2 : v % 1 = 0 := by rw [← hv]; decide
  refine ⟨⟨h0, h1, h2⟩, ?_⟩
  have hI := immP_9 U v hU h0 h1 h2
  exact ((combine0 (plain_parts A B (T % 32) (0)) hI).trans (sum_9 W c A g B T hT hk)).trans hx.symm
theorem sum_10 (W c A g B T : Nat) (hT : T < 4096) (hm : c + g * 4096 = W)  : W + (A * 128 + B * 32768 + 0 * 1048576 + 0 * 1048576) + T % 4096 * 1048576 = c + A * 128 + g * 4096 + B * 32768 + T * 1048576 := by
  rw [← hm]; omega
theorem wd_10 (W c A g B T : Nat) (hc : c < 128) (hA : A < 32) (hg : g < 8) (hB : B < 32) (hT : T < 4096) (x : Nat) (hx : x = c + A * 128 + g * 4096 + B * 32768 + T * 1048576) (hm : x &&& 28799 = W) (v : Int) (hv : immD 10 x = v) (U : Nat) (hU : (U : Int) = v % 18446744073709551616) :
    ((spanN 10).1 ≤ v ∧ v ≤ (spanN 10).2.1 ∧ v % (spanN 10).2.2 = 0) ∧ W + partsS (dP 10 1 128 32 x) (dP 10 2 32768 32 x) (dP 10 4 1048576 32 x) (dP 10 8 1048576 4096 x) (dB 10 67108864 x) (dB 10 33554432 x) + immP 10 U = x := by
  obtain ⟨d0, d1, d2, d3, d4, d5, d6, d7, d8, d9, d10, d11⟩ := digits c A g B T x hc hA hg hB hT hx
  have hk : c + g * 4096 = W := ((mask_3 c A g B T hc hA hg hB hT).symm.trans (congrArg (fun z => z &&& 28799) hx.symm)).trans hm
  have hq : partsT.getD 10 0 = 3 := by decide
  have p1 : dP 10 1 128 32 x = A := by unfold dP; rw [hq]; rw [if_neg (by decide)]; exact d1
  have p2 : dP 10 2 32768 32 x = B := by unfold dP; rw [hq]; rw [if_neg (by decide)]; exact d2
  have p3 : dP 10 4 1048576 32 x = 0 := by unfold dP; rw [hq]; exact if_pos (by decide)
  have p4 : dP 10 8 1048576 4096 x = 0 := by unfold dP; rw [hq]; exact if_pos (by decide)
  have p5 : dB 10 67108864 x = false := by unfold dB; rw [hq]; rfl
  have p6 : dB 10 33554432 x = false := by unfold dB; rw [hq]; rfl
  rw [p1, p2, p3, p4, p5, p6]
  clear p1 p2 p3 p4 p5 p6 hm hq
  rw [immD_10, (getI_num x).2.2.2.2.1, d3] at hv
  clear d0 d1 d2 d3 d4 d5 d6 d7 d8 d9 d10 d11
  have HX : Hid (_ ∧ _) := ⟨hx, hk⟩
  clear hx hk
  have h0 : 0 ≤ v := by omega
  have h1 : v ≤ 4095 := by omega
  have h2 : v % 1 = 0 := Int.emod_one v
  have h3 : U = T % 4096 := by omega
  refine ⟨⟨h0, h1, h2⟩, ?_⟩
  have hI := immP_10 U v hU h0 h1 h2
  replace hI := hI.trans (congrArg (fun z => z % 4096 * 1048576) h3)
  replace hI := hI.trans (congrArg (fun z => z * 1048576) (Nat.mod_mod _ _))
  exact ((combine (plain_parts A B (0) (0)) hI).trans (sum_10 W c A g B T hT HX.out.2)).trans HX.out.1.symm
theorem sum_11 (W c A g B T : Nat) (hT : T < 4096) (hm : c + A * 128 + g * 4096 + B * 32768 + T * 1048576 = W)  : W + (0 * 128 + 0 * 32768 + 0 * 1048576 + 0 * 1048576) = c + A * 128 + g * 4096 + B * 32768 + T * 1048576 := by
  rw [← hm]; omega
theorem wd_11 (W c A g B T : Nat) (hc : c < 128) (hA : A < 32) (hg : g < 8) (hB : B < 32) (hT : T < 4096) (x : Nat) (hx : x = c + A * 128 + g * 4096 + B * 32768 + T * 1048576) (hm : x &&& 4294967295 = W) (v : Int) (hv : immD 11 x = v) (U : Nat) (hU : (U : Int) = v % 18446744073709551616) :
    ((spanN 11).1 ≤ v ∧ v ≤ (spanN 11).2.1 ∧ v % (spanN 11).2.2 = 0) ∧ W + partsS (dP 11 1 128 32 x) (dP 11 2 32768 32 x) (dP 11 4 1048576 32 x) (dP 11 8 1048576 4096 x) (dB 11 67108864 x) (dB 11 33554432 x) + immP 11 U = x := by
  obtain ⟨d0, d1, d2, d3, d4, d5, d6, d7, d8, d9, d10, d11⟩ := digits c A g B T x hc hA hg hB hT hx
  have hk : c + A * 128 + g * 4096 + B * 32768 + T * 1048576 = W := ((mask_11 c A g B T hc hA hg hB hT).symm.trans (congrArg (fun z => z &&& 4294967295) hx.symm)).trans hm
  have hq : partsT.getD 11 0 = 0 := by decide
  have p1 : dP 11 1 128 32 x = 0 := by unfold dP; rw [hq]; exact if_pos (by decide)
  have p2 : dP 11 2 32768 32 x = 0 := by unfold dP; rw [hq]; exact if_pos (by decide)
  have p3 : dP 11 4 1048576 32 x = 0 := by unfold dP; rw [hq]; exact if_pos (by decide)
  have p4 : dP 11 8 1048576 4096 x = 0 := by unfold dP; rw [hq]; exact if_pos (by decide)
  have p5 : dB 11 67108864 x = false := by unfold dB; rw [hq]; rfl
  have p6 : dB 11 33554432 x = false := by unfold dB; rw [hq]; rfl
  rw [p1, p2, p3, p4, p5, p6]
  clear p1 p2 p3 p4 p5 p6 hm hq
  rw [immD_none 11 x (by decide)] at hv
  clear d0 d1 d2 d3 d4 d5 d6 d7 d8 d9 d10 d11
  have h0 : 0 ≤ v := by rw [← hv]; decide
  have h1 : v ≤ 0 := by rw [← hv]; decide
  have h2 : v % 1 = 0 := by rw [← hv]; decide
  refine ⟨⟨h0, h1, h2⟩, ?_⟩
  have hI := immP_11 U v hU h0 h1 h2
  exact ((combine0 (plain_parts 0 0 (0) (0)) hI).trans (sum_11 W c A g B T hT hk)).trans hx.symm
theorem sum_12 (W c A g B T : Nat) (hT : T < 4096) (hm : c + g * 4096 = W)  : W + (A * 128 + B * 32768 + 0 * 1048576 + (T % 4096) * 1048576) = c + A * 128 + g * 4096 + B * 32768 + T * 1048576 := by
  rw [← hm]; omega
theorem wd_12 (W c A g B T : Nat) (hc : c < 128) (hA : A < 32) (hg : g < 8) (hB : B < 32) (hT : T < 4096) (x : Nat) (hx : x = c + A * 128 + g * 4096 + B * 32768 + T * 1048576) (hm : x &&& 28799 = W) (v : Int) (hv : immD 12 x = v) (U : Nat) (hU : (U : Int) = v % 18446744073709551616) :
    ((spanN 12).1 ≤ v ∧ v ≤ (spanN 12).2.1 ∧ v % (spanN 12).2.2 = 0) ∧ W + partsS (dP 12 1 128 32 x) (dP 12 2 32768 32 x) (dP 12 4 1048576 32 x) (dP 12 8 1048576 4096 x) (dB 12 67108864 x) (dB 12 33554432 x) + immP 12 U = x := by
  obtain ⟨d0, d1, d2, d3, d4, d5, d6, d7, d8, d9, d10, d11⟩ := digits c A g B T x hc hA hg hB hT hx
  have hk : c + g * 4096 = W := ((mask_3 c A g B T hc hA hg hB hT).symm.trans (congrArg (fun z => z &&& 28799) hx.symm)).trans hm
  have hq : partsT.getD 12 0 = 11 := by decide
  have p1 : dP 12 1 128 32 x = A := by unfold dP; rw [hq]; rw [if_neg (by decide)]; exact d1
  have p2 : dP 12 2 32768 32 x = B := by unfold dP; rw [hq]; rw [if_neg (by decide)]; exact d2
  have p3 : dP 12 4 1048576 32 x = 0 := by unfold dP; rw [hq]; exact if_pos (by decide)
  have p4 : dP 12 8 1048576 4096 x = T % 4096 := by unfold dP; rw [hq]; rw [if_neg (by decide), d3]
  have p5 : dB 12 67108864 x = false := by unfold dB; rw [hq]; rfl
  have p6 : dB 12 33554432 x = false := by unfold dB; rw [hq]; rfl
  rw [p1, p2, p3, p4, p5, p6]
  clear p1 p2 p3 p4 p5 p6 hm hq
  rw [immD_none 12 x (by decide)] at hv
  clear d0 d1 d2 d3 d4 d5 d6 d7 d8 d9 d10 d11
  have h0 : 0 ≤ v := by rw [← hv]; decide
  have h1 : v ≤ 0 := by rw [← hv]; decide
  have h2 : v % 1 = 0 := by rw [← hv]; decide
  refine ⟨⟨h0, h1, h2⟩, ?_⟩
  have hI := immP_12 U v hU h0 h1 h2
  exact ((combine0 (plain_parts A B (0) (T % 4096)) hI).trans (sum_12 W c A g B T hT hk)).trans hx.symm
theorem sum_13 (W c A g B T : Nat) (hT : T < 4096) (hm : c + g * 4096 = W)  : W + (A * 128 + 0 * 32768 + 0 * 1048576 + (T % 4096) * 1048576) + B * 32768 = c + A * 128 + g * 4096 + B * 32768 + T * 1048576 := by
  rw [← hm]; omega
theorem wd_13 (W c A g B T : Nat) (hc : c < 128) (hA : A < 32) (hg : g < 8) (hB : B < 32) (hT : T < 4096) (x : Nat) (hx : x = c + A * 128 + g * 4096 + B * 32768 + T * 1048576) (hm : x &&& 28799 = W) (v : Int) (hv : immD 13 x = v) (U : Nat) (hU : (U : Int) = v % 18446744073709551616) :
    ((spanN 13).1 ≤ v ∧ v ≤ (spanN 13).2.1 ∧ v % (spanN 13).2.2 = 0) ∧ W + partsS (dP 13 1 128 32 x) (dP 13 2 32768 32 x) (dP 13 4 1048576 32 x) (dP 13 8 1048576 4096 x) (dB 13 67108864 x) (dB 13 33554432 x) + immP 13 U = x := by
  obtain ⟨d0, d1, d2, d3, d4, d5, d6, d7, d8, d9, d10, d11⟩ := digits c A g B T x hc hA hg hB hT hx
  have hk : c + g * 4096 = W := ((mask_3 c A g B T hc hA hg hB hT).symm.trans (congrArg (fun z => z &&& 28799) hx.symm)).trans hm
  have hq : partsT.getD 13 0 = 9 := by decide
  have p1 : dP 13 1 128 32 x = A := by unfold dP; rw [hq]; rw [if_neg (by decide)]; exact d1
  have p2 : dP 13 2 32768 32 x = 0 := by unfold dP; rw [hq]; exact if_pos (by decide)
  have p3 : dP 13 4 1048576 32 x = 0 := by unfold dP; rw [hq]; exact if_pos (by decide)
  have p4 : dP 13 8 1048576 4096 x = T % 4096 := by unfold dP; rw [hq]; rw [if_neg (by decide), d3]
  have p5 : dB 13 67108864 x = false := by unfold dB; rw [hq]; rfl
  have p6 : dB 13 33554432 x = false := by unfold dB; rw [hq]; rfl
  rw [p1, p2, p3, p4, p5, p6]
  clear p1 p2 p3 p4 p5 p6 hm hq
  rw [immD_13, (getI_num x).2.2.2.2.2.2.2.2.2.2.2.2, d2] at hv
  clear d0 d1 d2 d3 d4 d5 d6 d7 d8 d9 d10 d11
  have HX : Hid (_ ∧ _) := ⟨hx, hk⟩
  clear hx hk
  have h0 : 0 ≤ v := by omega
  have h1 : v ≤ 31 := by omega
  have h2 : v % 1 = 0 := Int.emod_one v
  have h3 : U = B := by omega
  refine ⟨⟨h0, h1, h2⟩, ?_⟩
  have hI := immP_13 U v hU h0 h1 h2
  replace hI := hI.trans (congrArg (fun z => z * 32768) h3)
  exact ((combine (plain_parts A 0 (0) (T % 4096)) hI).trans (sum_13 W c A g B T hT HX.out.2)).trans HX.out.1.symm
theorem sum_14 (W c A g B T : Nat) (hT : T < 4096) (hm : c + g * 4096 + T % 32 * 1048576 + T / 128 * 134217728 = W)  : W + (A * 128 + B * 32768 + 0 * 1048576 + 0 * 1048576 + T / 64 % 2 * 64 * 1048576 + T / 32 % 2 * 32 * 1048576) = c + A * 128 + g * 4096 + B * 32768 + T * 1048576 := by
  rw [← hm]; omega
theorem wd_14 (W c A g B T : Nat) (hc : c < 128) (hA : A < 32) (hg : g < 8) (hB : B < 32) (hT : T < 4096) (x : Nat) (hx : x = c + A * 128 + g * 4096 + B * 32768 + T * 1048576) (hm : x &&& 4193284223 = W) (v : Int) (hv : immD 14 x = v) (U : Nat) (hU : (U : Int) = v % 18446744073709551616) :
    ((spanN 14).1 ≤ v ∧ v ≤ (spanN 14).2.1 ∧ v % (spanN 14).2.2 = 0) ∧ W + partsS (dP 14 1 128 32 x) (dP 14 2 32768 32 x) (dP 14 4 1048576 32 x) (dP 14 8 1048576 4096 x) (dB 14 67108864 x) (dB 14 33554432 x) + immP 14 U = x := by
  obtain ⟨d0, d1, d2, d3, d4, d5, d6, d7, d8, d9, d10, d11⟩ := digits c A g B T x hc hA hg hB hT hx
  have hk : c + g * 4096 + T % 32 * 1048576 + T / 128 * 134217728 = W := ((mask_14 c A g B T hc hA hg hB hT).symm.trans (congrArg (fun z => z &&& 4193284223) hx.symm)).trans hm
  have hq : partsT.getD 14 0 = 19 := by decide
  have p1 : dP 14 1 128 32 x = A := by unfold dP; rw [hq]; rw [if_neg (by decide)]; exact d1
  have p2 : dP 14 2 32768 32 x = B := by unfold dP; rw [hq]; rw [if_neg (by decide)]; exact d2
  have p3 : dP 14 4 1048576 32 x = 0 := by unfold dP; rw [hq]; exact if_pos (by decide)
  have p4 : dP 14 8 1048576 4096 x = 0 := by unfold dP; rw [hq]; exact if_pos (by decide)
  have p5 : dB 14 67108864 x = (T / 64 % 2 == 1) := by unfold dB; rw [hq, d5]; rfl
  have p6 : dB 14 33554432 x = (T / 32 % 2 == 1) := by unfold dB; rw [hq, d4]; rfl
  rw [p1, p2, p3, p4, p5, p6]
  clear p1 p2 p3 p4 p5 p6 hm hq
  rw [immD_none 14 x (by decide)] at hv
  clear d0 d1 d2 d3 d4 d5 d6 d7 d8 d9 d10 d11
  have h0 : 0 ≤ v := by rw [← hv]; decide
  have h1 : v ≤ 0 := by rw [← hv]; decide
  have h2 : v % 1 = 0 := by rw [← hv]; decide
  refine ⟨⟨h0, h1, h2⟩, ?_⟩
  have hI := immP_14 U v hU h0 h1 h2
  have ho := order_parts A B (0) (0) (T / 64 % 2 == 1) (T / 32 % 2 == 1)
  rw [bit64 _ (Nat.mod_lt _ (by decide)), bit32 _ (Nat.mod_lt _ (by decide))] at ho
  exact ((combine0 ho hI).trans (sum_14 W c A g B T hT hk)).trans hx.symm
theorem sum_15 (W c A g B T : Nat) (hT : T < 4096) (hm : c + g * 4096 + T / 128 * 134217728 = W)  : W + (A * 128 + B * 32768 + (T % 32) * 1048576 + 0 * 1048576 + T / 64 % 2 * 64 * 1048576 + T / 32 % 2 * 32 * 1048576) = c + A * 128 + g * 4096 + B * 32768 + T * 1048576 := by
  rw [← hm]; omega
theorem wd_15 (W c A g B T : Nat) (hc : c < 128) (hA : A < 32) (hg : g < 8) (hB : B < 32) (hT : T < 4096) (x : Nat) (hx : x = c + A * 128 + g * 4096 + B * 32768 + T * 1048576) (hm : x &&& 4160778367 = W) (v : Int) (hv : immD 15 x = v) (U : Nat) (hU : (U : Int) = v % 18446744073709551616) :
    ((spanN 15).1 ≤ v ∧ v ≤ (spanN 15).2.1 ∧ v % (spanN 15).2.2 = 0) ∧ W + partsS (dP 15 1 128 32 x) (dP 15 2 32768 32 x) (dP 15 4 1048576 32 x) (dP 15 8 1048576 4096 x) (dB 15 67108864 x) (dB 15 33554432 x) + immP 15 U = x := by
  obtain ⟨d0, d1, d2, d3, d4, d5, d6, d7, d8, d9, d10, d11⟩ := digits c A g B T x hc hA hg hB hT hx
  have hk : c + g * 4096 + T / 128 * 134217728 = W := ((mask_15 c A g B T hc hA hg hB hT).symm.trans (congrArg (fun z => z &&& 4160778367) hx.symm)).trans hm
  have hq : partsT.getD 15 0 = 23 := by decide
  have p1 : dP 15 1 128 32 x = A := by unfold dP; rw [hq]; rw [if_neg (by decide)]; exact d1
  have p2 : dP 15 2 32768 32 x = B := by unfold dP; rw [hq]; rw [if_neg (by decide)]; exact d2
  have p3 : dP 15 4 1048576 32 x = T % 32 := by unfold dP; rw [hq]; rw [if_neg (by decide), d3]
  have p4 : dP 15 8 1048576 4096 x = 0 := by unfold dP; rw [hq]; exact if_pos (by decide)
  have p5 : dB 15 67108864 x = (T / 64 % 2 == 1) := by unfold dB; rw [hq, d5]; rfl
  have p6 : dB 15 33554432 x = (T / 32 % 2 == 1) := by unfold dB; rw [hq, d4]; rfl
  rw [p1, p2, p3, p4, p5, p6]
  clear p1 p2 p3 p4 p5 p6 hm hq
  rw [immD_none 15 x (by decide)] at hv
  clear d0 d1 d2 d3 d4 d5 d6 d7 d8 d9 d10 d11
  have h0 : 0 ≤ v := by rw [← hv]; decide
  have h1 : v ≤ 0 := by rw [← hv]; decide
  have h2 : v % 1 = 0 := by rw [← hv]; decide
  refine ⟨⟨h0, h1, h2⟩, ?_⟩
  have hI := immP_15 U v hU h0 h1 h2
  have ho := order_parts A B (T % 32) (0) (T / 64 % 2 == 1) (T / 32 % 2 == 1)
  rw [bit64 _ (Nat.mod_lt _ (by decide)), bit32 _ (Nat.mod_lt _ (by decide))] at ho
  exact ((combine0 ho hI).trans (sum_15 W c A g B T hT hk)).trans hx.symm
theorem sum_16 (W c A g B T : Nat) (hT : T < 4096) (hm : c + A * 128 + g * 4096 + T / 32 * 33554432 = W)  : W + (0 * 128 + B * 32768 + (T % 32) * 1048576 + 0 * 1048576) = c + A * 128 + g * 4096 + B * 32768 + T * 1048576 := by
  rw [← hm]; omega
theorem wd_16 (W c A g B T : Nat) (hc : c < 128) (hA : A < 32) (hg : g < 8) (hB : B < 32) (hT : T < 4096) (x : Nat) (hx : x = c + A * 128 + g * 4096 + B * 32768 + T * 1048576) (hm : x &&& 4261445631 = W) (v : Int) (hv : immD 16 x = v) (U : Nat) (hU : (U : Int) = v % 18446744073709551616) :
    ((spanN 16).1 ≤ v ∧ v ≤ (spanN 16).2.1 ∧ v % (spanN 16).2.2 = 0) ∧ W + partsS (dP 16 1 128 32 x) (dP 16 2 32768 32 x) (dP 16 4 1048576 32 x) (dP 16 8 1048576 4096 x) (dB 16 67108864 x) (dB 16 33554432 x) + immP 16 U = x := by
  obtain ⟨d0, d1, d2, d3, d4, d5, d6, d7, d8, d9, d10, d11⟩ := digits c A g B T x hc hA hg hB hT hx
  have hk : c + A * 128 + g * 4096 + T / 32 * 33554432 = W := ((mask_16 c A g B T hc hA hg hB hT).symm.trans (congrArg (fun z => z &&& 4261445631) hx.symm)).trans hm
  have hq : partsT.getD 16 0 = 6 := by decide
  have p1 : dP 16 1 128 32 x = 0 := by unfold dP; rw [hq]; exact if_pos (by decide)
  have p2 : dP 16 2 32768 32 x = B := by unfold dP; rw [hq]; rw [if_neg (by decide)]; exact d2
  have p3 : dP 16 4 1048576 32 x = T % 32 := by unfold dP; rw [hq]; rw [if_neg (by decide), d3]
  have p4 : dP 16 8 1048576 4096 x = 0 := by unfold dP; rw [hq]; exact if_pos (by decide)
  have p5 : dB 16 67108864 x = false := by unfold dB; rw [hq]; rfl
  have p6 : dB 16 33554432 x = false := by unfold dB; rw [hq]; rfl
  rw [p1, p2, p3, p4, p5, p6]
  clear p1 p2 p3 p4 p5 p6 hm hq
  rw [immD_none 16 x (by decide)] at hv
  clear d0 d1 d2 d3 d4 d5 d6 d7 d8 d9 d10 d11
  have h0 : 0 ≤ v := by rw [← hv]; decide
  have h1 : v ≤ 0 := by rw [← hv]; decide
  have h2 : v % 1 = 0 := by rw [← hv]; decide
  refine ⟨⟨h0, h1, h2⟩, ?_⟩
  have hI := immP_16 U v hU h0 h1 h2
  exact ((combine0 (plain_parts 0 B (T % 32) (0)) hI).trans (sum_16 W c A g B T hT hk)).trans hx.symm
end Go.Proofs.YtooaafbdjnlmfaaGreatDoor

namespace Go.Proofs.YtooaafbdjnlmfaaGreatDoor
open Go.RowKit
set_option linter.unusedVariables false
set_option linter.unusedSimpArgs false
theorem wd_all (f W c A g B T : Nat) (hf : f < 17) (hz : f ≠ 0) (hc : c < 128) (hA : A < 32) (hg : g < 8) (hB : B < 32) (hT : T < 4096) (x : Nat) (hx : x = c + A * 128 + g * 4096 + B * 32768 + T * 1048576) (hm : x &&& fixedT.getD f 0 = W) (v : Int) (hv : immD f x = v) (U : Nat) (hU : (U : Int) = v % 18446744073709551616) :
    ((spanN f).1 ≤ v ∧ v ≤ (spanN f).2.1 ∧ v % (spanN f).2.2 = 0) ∧ W + partsS (dP f 1 128 32 x) (dP f 2 32768 32 x) (dP f 4 1048576 32 x) (dP f 8 1048576 4096 x) (dB f 67108864 x) (dB f 33554432 x) + immP f U = x := by
  have hcs : f = 1 ∨ f = 2 ∨ f = 3 ∨ f = 4 ∨ f = 5 ∨ f = 6 ∨ f = 7 ∨ f = 8 ∨ f = 9 ∨ f = 10 ∨ f = 11 ∨ f = 12 ∨ f = 13 ∨ f = 14 ∨ f = 15 ∨ f = 16 := by
    clear hx hm hU hv hc hA hg hB hT
    omega
  rcases hcs with rfl | rfl | rfl | rfl | rfl | rfl | rfl | rfl | rfl | rfl | rfl | rfl | rfl | rfl | rfl | rfl
  · exact wd_1 W c A g B T hc hA hg hB hT x hx hm v hv U hU
  · exact wd_2 W c A g B T hc hA hg hB hT x hx hm v hv U hU
  · exact wd_3 W c A g B T hc hA hg hB hT x hx hm v hv U hU
  · exact wd_4 W c A g B T hc hA hg hB hT x hx hm v hv U hU
  · exact wd_5 W c A g B T hc hA hg hB hT x hx hm v hv U hU
  · exact wd_6 W c A g B T hc hA hg hB hT x hx hm v hv U hU
  · exact wd_7 W c A g B T hc hA hg hB hT x hx hm v hv U hU
  · exact wd_8 W c A g B T hc hA hg hB hT x hx hm v hv U hU
  · exact wd_9 W c A g B T hc hA hg hB hT x hx hm v hv U hU
  · exact wd_10 W c A g B T hc hA hg hB hT x hx hm v hv U hU
  · exact wd_11 W c A g B T hc hA hg hB hT x hx hm v hv U hU
  · exact wd_12 W c A g B T hc hA hg hB hT x hx hm v hv U hU
  · exact wd_13 W c A g B T hc hA hg hB hT x hx hm v hv U hU
  · exact wd_14 W c A g B T hc hA hg hB hT x hx hm v hv U hU
  · exact wd_15 W c A g B T hc hA hg hB hT x hx hm v hv U hU
  · exact wd_16 W c A g B T hc hA hg hB hT x hx hm v hv U hU
theorem dp_among (f p k m last x : Nat) (hm : m = last + 1) : amongB ((dP f p k m x : Nat) : Int) (mostI f (p : Nat) (last : Nat)) = true := by
  unfold amongB mostI mostN dP
  rw [Int.toNat_natCast]
  subst hm
  have : x / k % (last + 1) < last + 1 := Nat.mod_lt (x / k) (Nat.succ_pos last)
  by_cases hp : partsT.getD f 0 &&& p = 0
  · rw [if_pos hp, if_pos hp]; exact decide_eq_true ⟨Int.le_refl _, Int.le_refl _⟩
  · rw [if_neg hp, if_neg hp]; exact decide_eq_true ⟨by omega, by omega⟩
theorem db_order (f x : Nat) : (decide (partsT.getD f 0 &&& 16 ≠ 0) || (!dB f 67108864 x && !dB f 33554432 x)) = true := by
  unfold dB
  by_cases hp : partsT.getD f 0 &&& 16 = 0
  · rw [decide_eq_false (by simpa using hp)]; rfl
  · rw [decide_eq_true hp]; rfl
theorem span_small : ∀ f, f < 17 → -9223372036854775808 ≤ (spanN f).1 ∧ (spanN f).2.1 < 9223372036854775808 := by decide
/-- what a word is decoded as is right, and its word is that word -/
theorem worded (x o : Nat) (hx : x < 4294967296) (h1 : 1 ≤ o) (h2 : o < 99) (hh : hit x o = true) (v : Int) (hv : immD (formsT.getD o 0) x = v) (U : Nat) (hU : (U : Int) = v % 18446744073709551616) :
    rightB (o : Nat) (dP (formsT.getD o 0) 1 128 32 x : Nat) (dP (formsT.getD o 0) 2 32768 32 x : Nat) (dP (formsT.getD o 0) 4 1048576 32 x : Nat) v (dP (formsT.getD o 0) 8 1048576 4096 x : Nat) (dB (formsT.getD o 0) 67108864 x) (dB (formsT.getD o 0) 33554432 x) = true ∧ (-9223372036854775808 ≤ v ∧ v < 9223372036854775808) ∧
    encS o (dP (formsT.getD o 0) 1 128 32 x) (dP (formsT.getD o 0) 2 32768 32 x) (dP (formsT.getD o 0) 4 1048576 32 x) (dP (formsT.getD o 0) 8 1048576 4096 x) (dB (formsT.getD o 0) 67108864 x) (dB (formsT.getD o 0) 33554432 x) U = x := by
  have hf := forms_lt o h2
  have hz := forms_pos o h2 h1
  have hfo : formI (o : Nat) = formsT.getD o 0 := by unfold formI; rw [if_pos ⟨by omega, by omega⟩, Int.toNat_natCast]
  have hm : x &&& fixedT.getD (formsT.getD o 0) 0 = wordsT.getD o 0 := eq_of_beq hh
  obtain ⟨c, A, g, B, T, hc, hA, hg, hB, hT, hd⟩ := own_digits x hx
  obtain ⟨hr, hs⟩ := wd_all (formsT.getD o 0) (wordsT.getD o 0) c A g B T hf hz hc hA hg hB hT x hd hm v hv U hU
  have hl := span_small _ hf
  refine ⟨?_, ⟨Int.le_trans hl.1 hr.1, Int.lt_of_le_of_lt hr.2.1 hl.2⟩, hs⟩
  unfold rightB partsB immB
  rw [hfo, decide_eq_true hz, decide_eq_true hr, show amongB ((dP (formsT.getD o 0) 1 128 32 x : Nat) : Int) (mostI (formsT.getD o 0) 1 31) = true from dp_among _ 1 128 32 31 x rfl, show amongB ((dP (formsT.getD o 0) 2 32768 32 x : Nat) : Int) (mostI (formsT.getD o 0) 2 31) = true from dp_among _ 2 32768 32 31 x rfl, show amongB ((dP (formsT.getD o 0) 4 1048576 32 x : Nat) : Int) (mostI (formsT.getD o 0) 4 31) = true from dp_among _ 4 1048576 32 31 x rfl, show amongB ((dP (formsT.getD o 0) 8 1048576 4096 x : Nat) : Int) (mostI (formsT.getD o 0) 8 4095) = true from dp_among _ 8 1048576 4096 4095 x rfl, db_order]
  rfl
end Go.Proofs.YtooaafbdjnlmfaaGreatDoor
