/- Each form: the parts and the number that stand in a word are those that were put there. -/
import Derived.Test.YtooaafbdjnlmfaaGreatDoorBack
namespace Go.Proofs.YtooaafbdjnlmfaaGreatDoor
open Go.RowKit
set_option linter.unusedVariables false
set_option linter.unusedSimpArgs false
/-- a word by its five pieces -/
theorem digits (c A g B T x : Nat) (hc : c < 128) (hA : A < 32) (hg : g < 8) (hB : B < 32) (hT : T < 4096) (hx : x = c + A * 128 + g * 4096 + B * 32768 + T * 1048576) :
    x < 4294967296 ∧ x / 128 % 32 = A ∧ x / 32768 % 32 = B ∧ x / 1048576 = T ∧ x / 33554432 = T / 32 ∧ x / 67108864 = T / 64 ∧ x / 2147483648 = T / 2048 ∧ x / 2097152 = T / 2 ∧ x / 256 % 16 = A / 2 ∧ x / 128 % 2 = A % 2 ∧ x / 4096 % 256 = g + B * 8 ∧ x / 4096 = g + B * 8 + T * 256 := by
  have h1 : x / 1048576 = T := by omega
  have h2 : x / 128 = A + g * 32 + B * 256 + T * 8192 := by omega
  have h3 : x / 32768 = B + T * 32 := by omega
  have h4 : x / 4096 = g + B * 8 + T * 256 := by omega
  have h5 : x / 256 = A / 2 + g * 16 + B * 128 + T * 4096 := by omega
  have h6 : x / 33554432 = x / 1048576 / 32 := by rw [Nat.div_div_eq_div_mul]
  have h7 : x / 67108864 = x / 1048576 / 64 := by rw [Nat.div_div_eq_div_mul]
  have h8 : x / 2147483648 = x / 1048576 / 2048 := by rw [Nat.div_div_eq_div_mul]
  have h9 : x / 2097152 = x / 1048576 / 2 := by rw [Nat.div_div_eq_div_mul]
  refine ⟨by omega, ?_, ?_, h1, by rw [h6, h1], by rw [h7, h1], by rw [h8, h1], by rw [h9, h1], ?_, ?_, ?_, h4⟩
  · rw [h2]; omega
  · rw [h3]; omega
  · rw [h5]; omega
  · rw [h2]; omega
  · rw [h4]; omega
theorem dig_1 (W c g h : Nat) (hW : W = c + g * 4096 + h * 1048576) (hc : c < 128) (hg : g < 8) (hh : h < 4096) (e : g = 0 ∧ h = 0) (a b cc d : Nat) (ha : a ≤ 31) (hb : b ≤ 0) (hcc : cc ≤ 0) (hd : d ≤ 0) (V : Nat) (hV : V < 1048576) (x : Nat) (hx : x = W + (a * 128 + b * 32768 + cc * 1048576 + d * 1048576) + V * 4096) :
    x < 4294967296 ∧ x / 128 % 32 = a ∧ x / 32768 % 32 = V / 8 % 32 ∧ x / 1048576 = V / 256 ∧ x / 33554432 = (V / 256) / 32 ∧ x / 67108864 = (V / 256) / 64 ∧ x / 2147483648 = (V / 256) / 2048 ∧ x / 2097152 = (V / 256) / 2 ∧ x / 256 % 16 = (a) / 2 ∧ x / 128 % 2 = (a) % 2 ∧ x / 4096 % 256 = V % 8 + V / 8 % 32 * 8 ∧ x / 4096 = V % 8 + V / 8 % 32 * 8 + (V / 256) * 256 :=
  digits c (a) (V % 8) (V / 8 % 32) (V / 256) x hc (by omega) (by omega) (by omega) (by omega) (by omega)
theorem dig_2 (W c g h : Nat) (hW : W = c + g * 4096 + h * 1048576) (hc : c < 128) (hg : g < 8) (hh : h < 4096) (e : g = 0 ∧ h = 0) (a b cc d : Nat) (ha : a ≤ 31) (hb : b ≤ 0) (hcc : cc ≤ 0) (hd : d ≤ 0) (p q r s : Nat) (bp : p < 2) (bq : q < 1024) (br : r < 2) (bs : s < 256) (x : Nat) (hx : x = W + (a * 128 + b * 32768 + cc * 1048576 + d * 1048576) + (p * 2147483648 + q * 2097152 + r * 1048576 + s * 4096)) :
    x < 4294967296 ∧ x / 128 % 32 = a ∧ x / 32768 % 32 = s / 8 ∧ x / 1048576 = p * 2048 + q * 2 + r ∧ x / 33554432 = (p * 2048 + q * 2 + r) / 32 ∧ x / 67108864 = (p * 2048 + q * 2 + r) / 64 ∧ x / 2147483648 = (p * 2048 + q * 2 + r) / 2048 ∧ x / 2097152 = (p * 2048 + q * 2 + r) / 2 ∧ x / 256 % 16 = (a) / 2 ∧ x / 128 % 2 = (a) % 2 ∧ x / 4096 % 256 = s % 8 + s / 8 * 8 ∧ x / 4096 = s % 8 + s / 8 * 8 + (p * 2048 + q * 2 + r) * 256 :=
  digits c (a) (s % 8) (s / 8) (p * 2048 + q * 2 + r) x hc (by omega) (by omega) (by omega) (by omega) (by omega)
theorem dig_3 (W c g h : Nat) (hW : W = c + g * 4096 + h * 1048576) (hc : c < 128) (hg : g < 8) (hh : h < 4096) (e : h = 0) (a b cc d : Nat) (ha : a ≤ 31) (hb : b ≤ 31) (hcc : cc ≤ 0) (hd : d ≤ 0) (V : Nat) (hV : V < 4096) (x : Nat) (hx : x = W + (a * 128 + b * 32768 + cc * 1048576 + d * 1048576) + V * 1048576) :
    x < 4294967296 ∧ x / 128 % 32 = a ∧ x / 32768 % 32 = b ∧ x / 1048576 = V ∧ x / 33554432 = (V) / 32 ∧ x / 67108864 = (V) / 64 ∧ x / 2147483648 = (V) / 2048 ∧ x / 2097152 = (V) / 2 ∧ x / 256 % 16 = (a) / 2 ∧ x / 128 % 2 = (a) % 2 ∧ x / 4096 % 256 = g + b * 8 ∧ x / 4096 = g + b * 8 + (V) * 256 :=
  digits c (a) (g) (b) (V) x hc (by omega) (by omega) (by omega) (by omega) (by omega)
theorem dig_4 (W c g h : Nat) (hW : W = c + g * 4096 + h * 1048576) (hc : c < 128) (hg : g < 8) (hh : h < 4096) (e : h = 0) (a b cc d : Nat) (ha : a ≤ 31) (hb : b ≤ 31) (hcc : cc ≤ 0) (hd : d ≤ 0) (V : Nat) (hV : V < 4096) (x : Nat) (hx : x = W + (a * 128 + b * 32768 + cc * 1048576 + d * 1048576) + V * 1048576) :
    x < 4294967296 ∧ x / 128 % 32 = a ∧ x / 32768 % 32 = b ∧ x / 1048576 = V ∧ x / 33554432 = (V) / 32 ∧ x / 67108864 = (V) / 64 ∧ x / 2147483648 = (V) / 2048 ∧ x / 2097152 = (V) / 2 ∧ x / 256 % 16 = (a) / 2 ∧ x / 128 % 2 = (a) % 2 ∧ x / 4096 % 256 = g + b * 8 ∧ x / 4096 = g + b * 8 + (V) * 256 :=
  digits c (a) (g) (b) (V) x hc (by omega) (by omega) (by omega) (by omega) (by omega)
theorem dig_5 (W c g h : Nat) (hW : W = c + g * 4096 + h * 1048576) (hc : c < 128) (hg : g < 8) (hh : h < 4096) (e : h = 0) (a b cc d : Nat) (ha : a ≤ 0) (hb : b ≤ 31) (hcc : cc ≤ 31) (hd : d ≤ 0) (p q r s : Nat) (bp : p < 2) (bq : q < 64) (br : r < 16) (bs : s < 2) (x : Nat) (hx : x = W + (a * 128 + b * 32768 + cc * 1048576 + d * 1048576) + (p * 2147483648 + q * 33554432 + r * 256 + s * 128)) :
    x < 4294967296 ∧ x / 128 % 32 = r * 2 + s ∧ x / 32768 % 32 = b ∧ x / 1048576 = p * 2048 + q * 32 + cc ∧ x / 33554432 = (p * 2048 + q * 32 + cc) / 32 ∧ x / 67108864 = (p * 2048 + q * 32 + cc) / 64 ∧ x / 2147483648 = (p * 2048 + q * 32 + cc) / 2048 ∧ x / 2097152 = (p * 2048 + q * 32 + cc) / 2 ∧ x / 256 % 16 = (r * 2 + s) / 2 ∧ x / 128 % 2 = (r * 2 + s) % 2 ∧ x / 4096 % 256 = g + b * 8 ∧ x / 4096 = g + b * 8 + (p * 2048 + q * 32 + cc) * 256 :=
  digits c (r * 2 + s) (g) (b) (p * 2048 + q * 32 + cc) x hc (by omega) (by omega) (by omega) (by omega) (by omega)
theorem dig_6 (W c g h : Nat) (hW : W = c + g * 4096 + h * 1048576) (hc : c < 128) (hg : g < 8) (hh : h < 4096) (e : h = 0) (a b cc d : Nat) (ha : a ≤ 0) (hb : b ≤ 31) (hcc : cc ≤ 31) (hd : d ≤ 0) (p q : Nat) (bp : p < 128) (bq : q < 32) (x : Nat) (hx : x = W + (a * 128 + b * 32768 + cc * 1048576 + d * 1048576) + (p * 33554432 + q * 128)) :
    x < 4294967296 ∧ x / 128 % 32 = q ∧ x / 32768 % 32 = b ∧ x / 1048576 = p * 32 + cc ∧ x / 33554432 = (p * 32 + cc) / 32 ∧ x / 67108864 = (p * 32 + cc) / 64 ∧ x / 2147483648 = (p * 32 + cc) / 2048 ∧ x / 2097152 = (p * 32 + cc) / 2 ∧ x / 256 % 16 = (q) / 2 ∧ x / 128 % 2 = (q) % 2 ∧ x / 4096 % 256 = g + b * 8 ∧ x / 4096 = g + b * 8 + (p * 32 + cc) * 256 :=
  digits c (q) (g) (b) (p * 32 + cc) x hc (by omega) (by omega) (by omega) (by omega) (by omega)
theorem dig_7 (W c g h : Nat) (hW : W = c + g * 4096 + h * 1048576) (hc : c < 128) (hg : g < 8) (hh : h < 4096) (e : h % 64 = 0) (a b cc d : Nat) (ha : a ≤ 31) (hb : b ≤ 31) (hcc : cc ≤ 0) (hd : d ≤ 0) (V : Nat) (hV : V < 64) (x : Nat) (hx : x = W + (a * 128 + b * 32768 + cc * 1048576 + d * 1048576) + V * 1048576) :
    x < 4294967296 ∧ x / 128 % 32 = a ∧ x / 32768 % 32 = b ∧ x / 1048576 = h + V ∧ x / 33554432 = (h + V) / 32 ∧ x / 67108864 = (h + V) / 64 ∧ x / 2147483648 = (h + V) / 2048 ∧ x / 2097152 = (h + V) / 2 ∧ x / 256 % 16 = (a) / 2 ∧ x / 128 % 2 = (a) % 2 ∧ x / 4096 % 256 = g + b * 8 ∧ x / 4096 = g + b * 8 + (h + V) * 256 :=
  digits c (a) (g) (b) (h + V) x hc (by omega) (by omega) (by omega) (by omega) (by omega)
theorem dig_8 (W c g h : Nat) (hW : W = c + g * 4096 + h * 1048576) (hc : c < 128) (hg : g < 8) (hh : h < 4096) (e : h % 32 = 0) (a b cc d : Nat) (ha : a ≤ 31) (hb : b ≤ 31) (hcc : cc ≤ 0) (hd : d ≤ 0) (V : Nat) (hV : V < 32) (x : Nat) (hx : x = W + (a * 128 + b * 32768 + cc * 1048576 + d * 1048576) + V * 1048576) :
    x < 4294967296 ∧ x / 128 % 32 = a ∧ x / 32768 % 32 = b ∧ x / 1048576 = h + V ∧ x / 33554432 = (h + V) / 32 ∧ x / 67108864 = (h + V) / 64 ∧ x / 2147483648 = (h + V) / 2048 ∧ x / 2097152 = (h + V) / 2 ∧ x / 256 % 16 = (a) / 2 ∧ x / 128 % 2 = (a) % 2 ∧ x / 4096 % 256 = g + b * 8 ∧ x / 4096 = g + b * 8 + (h + V) * 256 :=
  digits c (a) (g) (b) (h + V) x hc (by omega) (by omega) (by omega) (by omega) (by omega)
theorem dig_9 (W c g h : Nat) (hW : W = c + g * 4096 + h * 1048576) (hc : c < 128) (hg : g < 8) (hh : h < 4096) (e : h % 32 = 0) (a b cc d : Nat) (ha : a ≤ 31) (hb : b ≤ 31) (hcc : cc ≤ 31) (hd : d ≤ 0)  (x : Nat) (hx : x = W + (a * 128 + b * 32768 + cc * 1048576 + d * 1048576)) :
    x < 4294967296 ∧ x / 128 % 32 = a ∧ x / 32768 % 32 = b ∧ x / 1048576 = h + cc ∧ x / 33554432 = (h + cc) / 32 ∧ x / 67108864 = (h + cc) / 64 ∧ x / 2147483648 = (h + cc) / 2048 ∧ x / 2097152 = (h + cc) / 2 ∧ x / 256 % 16 = (a) / 2 ∧ x / 128 % 2 = (a) % 2 ∧ x / 4096 % 256 = g + b * 8 ∧ x / 4096 = g + b * 8 + (h + cc) * 256 :=
  digits c (a) (g) (b) (h + cc) x hc (by omega) (by omega) (by omega) (by omega) (by omega)
theorem dig_10 (W c g h : Nat) (hW : W = c + g * 4096 + h * 1048576) (hc : c < 128) (hg : g < 8) (hh : h < 4096) (e : h = 0) (a b cc d : Nat) (ha : a ≤ 31) (hb : b ≤ 31) (hcc : cc ≤ 0) (hd : d ≤ 0) (V : Nat) (hV : V < 4096) (x : Nat) (hx : x = W + (a * 128 + b * 32768 + cc * 1048576 + d * 1048576) + V * 1048576) :
    x < 4294967296 ∧ x / 128 % 32 = a ∧ x / 32768 % 32 = b ∧ x / 1048576 = V ∧ x / 33554432 = (V) / 32 ∧ x / 67108864 = (V) / 64 ∧ x / 2147483648 = (V) / 2048 ∧ x / 2097152 = (V) / 2 ∧ x / 256 % 16 = (a) / 2 ∧ x / 128 % 2 = (a) % 2 ∧ x / 4096 % 256 = g + b * 8 ∧ x / 4096 = g + b * 8 + (V) * 256 :=
  digits c (a) (g) (b) (V) x hc (by omega) (by omega) (by omega) (by omega) (by omega)
theorem dig_11 (W c g h : Nat) (hW : W = c + g * 4096 + h * 1048576) (hc : c < 128) (hg : g < 8) (hh : h < 4096) (e : True) (a b cc d : Nat) (ha : a ≤ 0) (hb : b ≤ 0) (hcc : cc ≤ 0) (hd : d ≤ 0)  (x : Nat) (hx : x = W + (a * 128 + b * 32768 + cc * 1048576 + d * 1048576)) :
    x < 4294967296 ∧ x / 128 % 32 = 0 ∧ x / 32768 % 32 = 0 ∧ x / 1048576 = h ∧ x / 33554432 = (h) / 32 ∧ x / 67108864 = (h) / 64 ∧ x / 2147483648 = (h) / 2048 ∧ x / 2097152 = (h) / 2 ∧ x / 256 % 16 = (0) / 2 ∧ x / 128 % 2 = (0) % 2 ∧ x / 4096 % 256 = g + 0 * 8 ∧ x / 4096 = g + 0 * 8 + (h) * 256 :=
  digits c (0) (g) (0) (h) x hc (by omega) (by omega) (by omega) (by omega) (by omega)
theorem dig_12 (W c g h : Nat) (hW : W = c + g * 4096 + h * 1048576) (hc : c < 128) (hg : g < 8) (hh : h < 4096) (e : h = 0) (a b cc d : Nat) (ha : a ≤ 31) (hb : b ≤ 31) (hcc : cc ≤ 0) (hd : d ≤ 4095)  (x : Nat) (hx : x = W + (a * 128 + b * 32768 + cc * 1048576 + d * 1048576)) :
    x < 4294967296 ∧ x / 128 % 32 = a ∧ x / 32768 % 32 = b ∧ x / 1048576 = d ∧ x / 33554432 = (d) / 32 ∧ x / 67108864 = (d) / 64 ∧ x / 2147483648 = (d) / 2048 ∧ x / 2097152 = (d) / 2 ∧ x / 256 % 16 = (a) / 2 ∧ x / 128 % 2 = (a) % 2 ∧ x / 4096 % 256 = g + b * 8 ∧ x / 4096 = g + b * 8 + (d) * 256 :=
  digits c (a) (g) (b) (d) x hc (by omega) (by omega) (by omega) (by omega) (by omega)
theorem dig_13 (W c g h : Nat) (hW : W = c + g * 4096 + h * 1048576) (hc : c < 128) (hg : g < 8) (hh : h < 4096) (e : h = 0) (a b cc d : Nat) (ha : a ≤ 31) (hb : b ≤ 0) (hcc : cc ≤ 0) (hd : d ≤ 4095) (V : Nat) (hV : V < 32) (x : Nat) (hx : x = W + (a * 128 + b * 32768 + cc * 1048576 + d * 1048576) + V * 32768) :
    x < 4294967296 ∧ x / 128 % 32 = a ∧ x / 32768 % 32 = V ∧ x / 1048576 = d ∧ x / 33554432 = (d) / 32 ∧ x / 67108864 = (d) / 64 ∧ x / 2147483648 = (d) / 2048 ∧ x / 2097152 = (d) / 2 ∧ x / 256 % 16 = (a) / 2 ∧ x / 128 % 2 = (a) % 2 ∧ x / 4096 % 256 = g + V * 8 ∧ x / 4096 = g + V * 8 + (d) * 256 :=
  digits c (a) (g) (V) (d) x hc (by omega) (by omega) (by omega) (by omega) (by omega)
theorem dig_14 (W c g h : Nat) (hW : W = c + g * 4096 + h * 1048576) (hc : c < 128) (hg : g < 8) (hh : h < 4096) (e : h % 128 = 0) (a b cc d : Nat) (ha : a ≤ 31) (hb : b ≤ 31) (hcc : cc ≤ 0) (hd : d ≤ 0) (AQ RL : Nat) (bA : AQ = 0 ∨ AQ = 64) (bR : RL = 0 ∨ RL = 32) (x : Nat) (hx : x = W + (a * 128 + b * 32768 + cc * 1048576 + d * 1048576 + AQ * 1048576 + RL * 1048576)) :
    x < 4294967296 ∧ x / 128 % 32 = a ∧ x / 32768 % 32 = b ∧ x / 1048576 = h + AQ + RL + cc ∧ x / 33554432 = (h + AQ + RL + cc) / 32 ∧ x / 67108864 = (h + AQ + RL + cc) / 64 ∧ x / 2147483648 = (h + AQ + RL + cc) / 2048 ∧ x / 2097152 = (h + AQ + RL + cc) / 2 ∧ x / 256 % 16 = (a) / 2 ∧ x / 128 % 2 = (a) % 2 ∧ x / 4096 % 256 = g + b * 8 ∧ x / 4096 = g + b * 8 + (h + AQ + RL + cc) * 256 :=
  digits c (a) (g) (b) (h + AQ + RL + cc) x hc (by omega) (by omega) (by omega) (by omega) (by omega)
theorem dig_15 (W c g h : Nat) (hW : W = c + g * 4096 + h * 1048576) (hc : c < 128) (hg : g < 8) (hh : h < 4096) (e : h % 128 = 0) (a b cc d : Nat) (ha : a ≤ 31) (hb : b ≤ 31) (hcc : cc ≤ 31) (hd : d ≤ 0) (AQ RL : Nat) (bA : AQ = 0 ∨ AQ = 64) (bR : RL = 0 ∨ RL = 32) (x : Nat) (hx : x = W + (a * 128 + b * 32768 + cc * 1048576 + d * 1048576 + AQ * 1048576 + RL * 1048576)) :
    x < 4294967296 ∧ x / 128 % 32 = a ∧ x / 32768 % 32 = b ∧ x / 1048576 = h + AQ + RL + cc ∧ x / 33554432 = (h + AQ + RL + cc) / 32 ∧ x / 67108864 = (h + AQ + RL + cc) / 64 ∧ x / 2147483648 = (h + AQ + RL + cc) / 2048 ∧ x / 2097152 = (h + AQ + RL + cc) / 2 ∧ x / 256 % 16 = (a) / 2 ∧ x / 128 % 2 = (a) % 2 ∧ x / 4096 % 256 = g + b * 8 ∧ x / 4096 = g + b * 8 + (h + AQ + RL + cc) * 256 :=
  digits c (a) (g) (b) (h + AQ + RL + cc) x hc (by omega) (by omega) (by omega) (by omega) (by omega)
theorem dig_16 (W c g h : Nat) (hW : W = c + g * 4096 + h * 1048576) (hc : c < 128) (hg : g < 8) (hh : h < 4096) (e : h % 32 = 0) (a b cc d : Nat) (ha : a ≤ 0) (hb : b ≤ 31) (hcc : cc ≤ 31) (hd : d ≤ 0)  (x : Nat) (hx : x = W + (a * 128 + b * 32768 + cc * 1048576 + d * 1048576)) :
    x < 4294967296 ∧ x / 128 % 32 = 0 ∧ x / 32768 % 32 = b ∧ x / 1048576 = h + cc ∧ x / 33554432 = (h + cc) / 32 ∧ x / 67108864 = (h + cc) / 64 ∧ x / 2147483648 = (h + cc) / 2048 ∧ x / 2097152 = (h + cc) / 2 ∧ x / 256 % 16 = (0) / 2 ∧ x / 128 % 2 = (0) % 2 ∧ x / 4096 % 256 = g + b * 8 ∧ x / 4096 = g + b * 8 + (h + cc) * 256 :=
  digits c (0) (g) (b) (h + cc) x hc (by omega) (by omega) (by omega) (by omega) (by omega)
end Go.Proofs.YtooaafbdjnlmfaaGreatDoor
