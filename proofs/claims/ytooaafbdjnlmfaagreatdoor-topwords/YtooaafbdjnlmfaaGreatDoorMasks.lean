/- Plain numbers: the bits of a word that tell its operation, by its five pieces. -/
import Derived.Test.YtooaafbdjnlmfaaGreatDoorFin
namespace Go.Proofs.YtooaafbdjnlmfaaGreatDoor
open Go.RowKit
set_option linter.unusedVariables false
set_option linter.unusedSimpArgs false
theorem keep (k r m n : Nat) (hk : Sub k m) (hr : Sub r n) (hm : m < 4294967296) (hn : n < 4294967296) (hd : m &&& n = 0) : (k + r) &&& m = k := by
  obtain ⟨e1, s1⟩ := hk.join hr (by omega) (by omega) hd
  rw [← e1, or_and, hk.and, hr.apart (Sub.refl m) (by rw [Nat.and_comm]; exact hd), Nat.or_zero]
theorem s_c (c : Nat) (h : c < 128) : Sub c 0x7f := field_eq (x := c) 7 0 0x7f (by omega) h (by decide)
theorem s_A (A : Nat) (h : A < 32) : Sub (A * 128) 0xf80 := field_eq (x := A) 5 7 0xf80 (by omega) h (by decide)
theorem s_g (g : Nat) (h : g < 8) : Sub (g * 4096) 0x7000 := field_eq (x := g) 3 12 0x7000 (by omega) h (by decide)
theorem s_B (B : Nat) (h : B < 32) : Sub (B * 32768) 0xf8000 := field_eq (x := B) 5 15 0xf8000 (by omega) h (by decide)
theorem s_T (T : Nat) (h : T < 4096) : Sub (T * 1048576) 0xfff00000 := field_eq (x := T) 12 20 0xfff00000 (by omega) h (by decide)
theorem s_T6 (T : Nat) (h : T < 64) : Sub (T * 67108864) 0xfc000000 := field_eq (x := T) 6 26 0xfc000000 (by omega) h (by decide)
theorem s_T7 (T : Nat) (h : T < 128) : Sub (T * 33554432) 0xfe000000 := field_eq (x := T) 7 25 0xfe000000 (by omega) h (by decide)
theorem s_T5 (T : Nat) (h : T < 32) : Sub (T * 134217728) 0xf8000000 := field_eq (x := T) 5 27 0xf8000000 (by omega) h (by decide)
theorem s_l6 (T : Nat) (h : T < 64) : Sub (T * 1048576) 0x3f00000 := field_eq (x := T) 6 20 0x3f00000 (by omega) h (by decide)
theorem s_l5 (T : Nat) (h : T < 32) : Sub (T * 1048576) 0x1f00000 := field_eq (x := T) 5 20 0x1f00000 (by omega) h (by decide)
theorem s_l7 (T : Nat) (h : T < 128) : Sub (T * 1048576) 0x7f00000 := field_eq (x := T) 7 20 0x7f00000 (by omega) h (by decide)
theorem s_m2 (T : Nat) (h : T < 4) : Sub (T * 33554432) 0x6000000 := field_eq (x := T) 2 25 0x6000000 (by omega) h (by decide)
theorem mask_1 (c A g B T : Nat) (hc : c < 128) (hA : A < 32) (hg : g < 8) (hB : B < 32) (hT : T < 4096) : (c + A * 128 + g * 4096 + B * 32768 + T * 1048576) &&& 127 = c := by
  rw [show c + A * 128 + g * 4096 + B * 32768 + T * 1048576 = (c) + (A * 128 + g * 4096 + B * 32768 + T * 1048576) by omega]
  exact keep _ _ 127 4294967168 (s_c c hc) ((((((s_A A hA).join (s_g g hg) (by decide) (by decide) (by decide)).2).join (s_B B hB) (by decide) (by decide) (by decide)).2).join (s_T T hT) (by decide) (by decide) (by decide)).2 (by decide) (by decide) (by decide)
theorem mask_3 (c A g B T : Nat) (hc : c < 128) (hA : A < 32) (hg : g < 8) (hB : B < 32) (hT : T < 4096) : (c + A * 128 + g * 4096 + B * 32768 + T * 1048576) &&& 28799 = c + g * 4096 := by
  rw [show c + A * 128 + g * 4096 + B * 32768 + T * 1048576 = (c + g * 4096) + (A * 128 + B * 32768 + T * 1048576) by omega]
  exact keep _ _ 28799 4294938496 ((s_c c hc).join (s_g g hg) (by decide) (by decide) (by decide)).2 ((((s_A A hA).join (s_B B hB) (by decide) (by decide) (by decide)).2).join (s_T T hT) (by decide) (by decide) (by decide)).2 (by decide) (by decide) (by decide)
theorem mask_7 (c A g B T : Nat) (hc : c < 128) (hA : A < 32) (hg : g < 8) (hB : B < 32) (hT : T < 4096) : (c + A * 128 + g * 4096 + B * 32768 + T * 1048576) &&& 4227887231 = c + g * 4096 + T / 64 * 67108864 := by
  rw [show c + A * 128 + g * 4096 + B * 32768 + T * 1048576 = (c + g * 4096 + T / 64 * 67108864) + (A * 128 + B * 32768 + T % 64 * 1048576) by omega]
  exact keep _ _ 4227887231 67080064 ((((s_c c hc).join (s_g g hg) (by decide) (by decide) (by decide)).2).join (s_T6 (T / 64) (by omega)) (by decide) (by decide) (by decide)).2 ((((s_A A hA).join (s_B B hB) (by decide) (by decide) (by decide)).2).join (s_l6 (T % 64) (by omega)) (by decide) (by decide) (by decide)).2 (by decide) (by decide) (by decide)
theorem mask_8 (c A g B T : Nat) (hc : c < 128) (hA : A < 32) (hg : g < 8) (hB : B < 32) (hT : T < 4096) : (c + A * 128 + g * 4096 + B * 32768 + T * 1048576) &&& 4261441663 = c + g * 4096 + T / 32 * 33554432 := by
  rw [show c + A * 128 + g * 4096 + B * 32768 + T * 1048576 = (c + g * 4096 + T / 32 * 33554432) + (A * 128 + B * 32768 + T % 32 * 1048576) by omega]
  exact keep _ _ 4261441663 33525632 ((((s_c c hc).join (s_g g hg) (by decide) (by decide) (by decide)).2).join (s_T7 (T / 32) (by omega)) (by decide) (by decide) (by decide)).2 ((((s_A A hA).join (s_B B hB) (by decide) (by decide) (by decide)).2).join (s_l5 (T % 32) (by omega)) (by decide) (by decide) (by decide)).2 (by decide) (by decide) (by decide)
theorem mask_15 (c A g B T : Nat) (hc : c < 128) (hA : A < 32) (hg : g < 8) (hB : B < 32) (hT : T < 4096) : (c + A * 128 + g * 4096 + B * 32768 + T * 1048576) &&& 4160778367 = c + g * 4096 + T / 128 * 134217728 := by
  rw [show c + A * 128 + g * 4096 + B * 32768 + T * 1048576 = (c + g * 4096 + T / 128 * 134217728) + (A * 128 + B * 32768 + T % 128 * 1048576) by omega]
  exact keep _ _ 4160778367 134188928 ((((s_c c hc).join (s_g g hg) (by decide) (by decide) (by decide)).2).join (s_T5 (T / 128) (by omega)) (by decide) (by decide) (by decide)).2 ((((s_A A hA).join (s_B B hB) (by decide) (by decide) (by decide)).2).join (s_l7 (T % 128) (by omega)) (by decide) (by decide) (by decide)).2 (by decide) (by decide) (by decide)
theorem mask_14 (c A g B T : Nat) (hc : c < 128) (hA : A < 32) (hg : g < 8) (hB : B < 32) (hT : T < 4096) : (c + A * 128 + g * 4096 + B * 32768 + T * 1048576) &&& 4193284223 = c + g * 4096 + T % 32 * 1048576 + T / 128 * 134217728 := by
  rw [show c + A * 128 + g * 4096 + B * 32768 + T * 1048576 = (c + g * 4096 + T % 32 * 1048576 + T / 128 * 134217728) + (A * 128 + B * 32768 + T / 32 % 4 * 33554432) by omega]
  exact keep _ _ 4193284223 101683072 ((((((s_c c hc).join (s_g g hg) (by decide) (by decide) (by decide)).2).join (s_l5 (T % 32) (by omega)) (by decide) (by decide) (by decide)).2).join (s_T5 (T / 128) (by omega)) (by decide) (by decide) (by decide)).2 ((((s_A A hA).join (s_B B hB) (by decide) (by decide) (by decide)).2).join (s_m2 (T / 32 % 4) (by omega)) (by decide) (by decide) (by decide)).2 (by decide) (by decide) (by decide)
theorem mask_16 (c A g B T : Nat) (hc : c < 128) (hA : A < 32) (hg : g < 8) (hB : B < 32) (hT : T < 4096) : (c + A * 128 + g * 4096 + B * 32768 + T * 1048576) &&& 4261445631 = c + A * 128 + g * 4096 + T / 32 * 33554432 := by
  rw [show c + A * 128 + g * 4096 + B * 32768 + T * 1048576 = (c + A * 128 + g * 4096 + T / 32 * 33554432) + (B * 32768 + T % 32 * 1048576) by omega]
  exact keep _ _ 4261445631 33521664 ((((((s_c c hc).join (s_A A hA) (by decide) (by decide) (by decide)).2).join (s_g g hg) (by decide) (by decide) (by decide)).2).join (s_T7 (T / 32) (by omega)) (by decide) (by decide) (by decide)).2 ((s_B B hB).join (s_l5 (T % 32) (by omega)) (by decide) (by decide) (by decide)).2 (by decide) (by decide) (by decide)
theorem mask_11 (c A g B T : Nat) (hc : c < 128) (hA : A < 32) (hg : g < 8) (hB : B < 32) (hT : T < 4096) : (c + A * 128 + g * 4096 + B * 32768 + T * 1048576) &&& 4294967295 = c + A * 128 + g * 4096 + B * 32768 + T * 1048576 := by
  rw [show (4294967295 : Nat) = 2 ^ 32 - 1 from by decide, Nat.and_two_pow_sub_one_eq_mod]
  exact Nat.mod_eq_of_lt (by omega)
theorem own_digits (x : Nat) (hx : x < 4294967296) : ∃ c A g B T : Nat, c < 128 ∧ A < 32 ∧ g < 8 ∧ B < 32 ∧ T < 4096 ∧ x = c + A * 128 + g * 4096 + B * 32768 + T * 1048576 := ⟨x % 128, x / 128 % 32, x / 4096 % 8, x / 32768 % 32, x / 1048576, by omega, by omega, by omega, by omega, by omega, by omega⟩
end Go.Proofs.YtooaafbdjnlmfaaGreatDoor
