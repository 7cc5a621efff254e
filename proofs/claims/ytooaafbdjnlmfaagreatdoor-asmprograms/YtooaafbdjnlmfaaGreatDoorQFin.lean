/- Each form: what Decode reads of a word that Encode made. -/
import Derived.Test.YtooaafbdjnlmfaaGreatDoorQBack
namespace Go.Proofs.YtooaafbdjnlmfaaGreatDoor
open Go.RowKit
set_option linter.unusedVariables false
set_option linter.unusedSimpArgs false
theorem add_none (n : Nat) : n + (if false = true then 67108864 else 0) + (if false = true then 33554432 else 0) = n := by simp
theorem plain_parts (a b c d : Nat) : partsS a b c d false false = a * 128 + b * 32768 + c * 1048576 + d * 1048576 := by
  unfold partsS
  exact add_none _
theorem combine {W P P' I I' : Nat} (hP : P = P') (hI : I = I') : W + P + I = W + P' + I' := by rw [hP, hI]
theorem combine0 {W P P' I : Nat} (hP : P = P') (hI : I = 0) : W + P + I = W + P' := by rw [hP, hI, Nat.add_zero]
theorem order_aq (aq : Bool) : (if aq then 67108864 else 0 : Nat) = (if aq then 64 else 0) * 1048576 := by cases aq <;> rfl
theorem order_rl (rl : Bool) : (if rl then 33554432 else 0 : Nat) = (if rl then 32 else 0) * 1048576 := by cases rl <;> rfl
theorem order_parts (a b c d : Nat) (aq rl : Bool) : partsS a b c d aq rl = a * 128 + b * 32768 + c * 1048576 + d * 1048576 + (if aq then 64 else 0) * 1048576 + (if rl then 32 else 0) * 1048576 := by
  unfold partsS
  rw [order_aq, order_rl]
theorem val1 (U V : Nat) (imm : Int) (hU : (U : Int) = imm % 18446744073709551616) (h0 : -2147483648 ≤ imm) (h1 : imm ≤ 2147479552) (hV : V * 4096 = U % 4294967296) : (if V * 4096 / 2147483648 % 2 = 1 then ((V * 4096 % 4294967296 : Nat) : Int) - 4294967296 else ((V * 4096 % 4294967296 : Nat) : Int)) = imm := by
  rw [hV]
  split <;> omega
theorem val2 (U y : Nat) (imm : Int) (hU : (U : Int) = imm % 18446744073709551616) (h0 : -1048576 ≤ imm) (h1 : imm ≤ 1048574) (hy : y = U % 2097152) : (if y / 1048576 % 2 = 1 then ((y % 2097152 : Nat) : Int) - 2097152 else ((y % 2097152 : Nat) : Int)) = imm := by
  rw [hy]
  split <;> omega
theorem val3 (U y : Nat) (imm : Int) (hU : (U : Int) = imm % 18446744073709551616) (h0 : -2048 ≤ imm) (h1 : imm ≤ 2047) (hy : y = U % 4096) : (if y / 2048 % 2 = 1 then ((y % 4096 : Nat) : Int) - 4096 else ((y % 4096 : Nat) : Int)) = imm := by
  rw [hy]
  split <;> omega
theorem val5 (U y : Nat) (imm : Int) (hU : (U : Int) = imm % 18446744073709551616) (h0 : -4096 ≤ imm) (h1 : imm ≤ 4094) (hy : y = U % 8192) : (if y / 4096 % 2 = 1 then ((y % 8192 : Nat) : Int) - 8192 else ((y % 8192 : Nat) : Int)) = imm := by
  rw [hy]
  split <;> omega
theorem fin2 (p q r s : Nat) (hp : p < 2) (hq : q < 1024) (hr : r < 2) : (p * 2048 + q * 2 + r) / 2048 % 2 * 1048576 + (p * 2048 + q * 2 + r) / 2 % 1024 * 2 + (p * 2048 + q * 2 + r) % 2 * 2048 + (s % 8 + s / 8 * 8) * 4096 = p * 1048576 + q * 2 + r * 2048 + s * 4096 := by
  rw [show (p * 2048 + q * 2 + r) / 2048 % 2 = p by omega, show (p * 2048 + q * 2 + r) / 2 % 1024 = q by omega, show (p * 2048 + q * 2 + r) % 2 = r by omega, show s % 8 + s / 8 * 8 = s by omega]
theorem fin5 (p q r s cc : Nat) (hp : p < 2) (hq : q < 64) (hs : s < 2) (hc : cc < 32) : (p * 2048 + q * 32 + cc) / 2048 % 2 * 4096 + (p * 2048 + q * 32 + cc) / 32 % 64 * 32 + (r * 2 + s) / 2 * 2 + (r * 2 + s) % 2 * 2048 = p * 4096 + q * 32 + r * 2 + s * 2048 := by
  rw [show (p * 2048 + q * 32 + cc) / 2048 % 2 = p by omega, show (p * 2048 + q * 32 + cc) / 32 % 64 = q by omega, show (r * 2 + s) / 2 = r by omega, show (r * 2 + s) % 2 = s by omega]
theorem fin6 (p q cc : Nat) (hp : p < 128) (hc : cc < 32) : (p * 32 + cc) / 32 % 128 * 32 + q = p * 32 + q := by
  rw [show (p * 32 + cc) / 32 % 128 = p by omega]
theorem cc6 (p cc : Nat) (h : cc ≤ 31) : (p * 32 + cc) % 32 = cc := by omega
theorem bits2 (U : Nat) (h : U % 2 = 0) : U / 1048576 % 2 * 1048576 + U / 2 % 1024 * 2 + U / 2048 % 2 * 2048 + U / 4096 % 256 * 4096 = U % 2097152 := by omega
theorem bits5 (U : Nat) (h : U % 2 = 0) : U / 4096 % 2 * 4096 + U / 32 % 64 * 32 + U / 2 % 16 * 2 + U / 2048 % 2 * 2048 = U % 8192 := by omega
theorem bits6 (U : Nat) : U / 32 % 128 * 32 + U % 32 = U % 4096 := by omega
theorem immP_1 (U : Nat) (imm : Int) (hU : (U : Int) = imm % 18446744073709551616) (h0 : -2147483648 ≤ imm) (h1 : imm ≤ 2147479552) (h2 : imm % 4096 = 0) : immP 1 U = (U % 4294967296 / 4096) * 4096 := by
  simp only [immP]
  omega
theorem dec_1 (W c g h : Nat) (hW : W = c + g * 4096 + h * 1048576) (hc : c < 128) (hg : g < 8) (hh : h < 4096) (e : g = 0 ∧ h = 0) (a b cc d : Nat) (aq rl : Bool) (ha : a ≤ 31) (hb : b ≤ 0) (hcc : cc ≤ 0) (hd : d ≤ 0) (ho : aq = false ∧ rl = false) (imm : Int) (U : Nat) (hU : (U : Int) = imm % 18446744073709551616) (h0 : -2147483648 ≤ imm) (h1 : imm ≤ 2147479552) (h2 : imm % 4096 = 0) (x : Nat) (hx : x = W + partsS a b cc d aq rl + immP 1 U) :
    x < 4294967296 ∧ dP 1 1 128 32 x = a ∧ dP 1 2 32768 32 x = b ∧ dP 1 4 1048576 32 x = cc ∧ dP 1 8 1048576 4096 x = d ∧ dB 1 67108864 x = aq ∧ dB 1 33554432 x = rl ∧ immD 1 x = imm := by
  obtain ⟨rfl, rfl⟩ := ho
  replace hx := hx.trans (combine (plain_parts a b cc d) (immP_1 U imm hU h0 h1 h2))
  obtain ⟨d0, d1, d2, d3, d4, d5, d6, d7, d8, d9, d10, d11⟩ := dig_1 W c g h hW hc hg hh e a b cc d ha hb hcc hd (U % 4294967296 / 4096) (by omega) x hx
  clear hx hW
  unfold dP dB
  rw [show partsT.getD 1 0 = 1 from by decide]
  rw [if_neg (show ¬ (1 &&& 1 = 0) by decide), if_pos (show 1 &&& 2 = 0 by decide), if_pos (show 1 &&& 4 = 0 by decide), if_pos (show 1 &&& 8 = 0 by decide)]
  rw [immD_1 x]
  rw [decide_eq_false (show ¬ (1 &&& 16 ≠ 0) by decide), Bool.false_and, Bool.false_and]
  refine ⟨d0, d1, (Nat.le_zero.1 hb).symm, (Nat.le_zero.1 hcc).symm, (Nat.le_zero.1 hd).symm, rfl, rfl, ?_⟩
  rw [sext32, d11, show (U % 4294967296 / 4096) % 8 + (U % 4294967296 / 4096) / 8 % 32 * 8 + (U % 4294967296 / 4096) / 256 * 256 = U % 4294967296 / 4096 by omega]
  exact val1 U _ imm hU h0 h1 (by omega)
theorem immP_2 (U : Nat) (imm : Int) (hU : (U : Int) = imm % 18446744073709551616) (h0 : -1048576 ≤ imm) (h1 : imm ≤ 1048574) (h2 : imm % 2 = 0) : immP 2 U = ((U / 1048576 % 2) * 2147483648 + (U / 2 % 1024) * 2097152 + (U / 2048 % 2) * 1048576 + (U / 4096 % 256) * 4096) := by
  simp only [immP]
  simp [getI, Nat.div_one]
theorem dec_2 (W c g h : Nat) (hW : W = c + g * 4096 + h * 1048576) (hc : c < 128) (hg : g < 8) (hh : h < 4096) (e : g = 0 ∧ h = 0) (a b cc d : Nat) (aq rl : Bool) (ha : a ≤ 31) (hb : b ≤ 0) (hcc : cc ≤ 0) (hd : d ≤ 0) (ho : aq = false ∧ rl = false) (imm : Int) (U : Nat) (hU : (U : Int) = imm % 18446744073709551616) (h0 : -1048576 ≤ imm) (h1 : imm ≤ 1048574) (h2 : imm % 2 = 0) (x : Nat) (hx : x = W + partsS a b cc d aq rl + immP 2 U) :
    x < 4294967296 ∧ dP 2 1 128 32 x = a ∧ dP 2 2 32768 32 x = b ∧ dP 2 4 1048576 32 x = cc ∧ dP 2 8 1048576 4096 x = d ∧ dB 2 67108864 x = aq ∧ dB 2 33554432 x = rl ∧ immD 2 x = imm := by
  obtain ⟨rfl, rfl⟩ := ho
  replace hx := hx.trans (combine (plain_parts a b cc d) (immP_2 U imm hU h0 h1 h2))
  obtain ⟨d0, d1, d2, d3, d4, d5, d6, d7, d8, d9, d10, d11⟩ := dig_2 W c g h hW hc hg hh e a b cc d ha hb hcc hd (U / 1048576 % 2) (U / 2 % 1024) (U / 2048 % 2) (U / 4096 % 256) (by omega) (by omega) (by omega) (by omega) x hx
  clear hx hW
  unfold dP dB
  rw [show partsT.getD 2 0 = 1 from by decide]
  rw [if_neg (show ¬ (1 &&& 1 = 0) by decide), if_pos (show 1 &&& 2 = 0 by decide), if_pos (show 1 &&& 4 = 0 by decide), if_pos (show 1 &&& 8 = 0 by decide)]
  rw [immD_2 x]
  rw [decide_eq_false (show ¬ (1 &&& 16 ≠ 0) by decide), Bool.false_and, Bool.false_and]
  refine ⟨d0, d1, (Nat.le_zero.1 hb).symm, (Nat.le_zero.1 hcc).symm, (Nat.le_zero.1 hd).symm, rfl, rfl, ?_⟩
  rw [sext21, (getI_num x).1, (getI_num x).2.1, (getI_num x).2.2.1, (getI_num x).2.2.2.1, d6, d7, d3, d10]
  exact val2 U _ imm hU h0 h1 ((fin2 _ _ _ _ (Nat.mod_lt _ (by decide)) (Nat.mod_lt _ (by decide)) (Nat.mod_lt _ (by decide))).trans (bits2 U (by omega)))
theorem immP_3 (U : Nat) (imm : Int) (hU : (U : Int) = imm % 18446744073709551616) (h0 : -2048 ≤ imm) (h1 : imm ≤ 2047) (h2 : imm % 1 = 0) : immP 3 U = (U % 4096) * 1048576 := by
  simp only [immP]
  omega
theorem dec_3 (W c g h : Nat) (hW : W = c + g * 4096 + h * 1048576) (hc : c < 128) (hg : g < 8) (hh : h < 4096) (e : h = 0) (a b cc d : Nat) (aq rl : Bool) (ha : a ≤ 31) (hb : b ≤ 31) (hcc : cc ≤ 0) (hd : d ≤ 0) (ho : aq = false ∧ rl = false) (imm : Int) (U : Nat) (hU : (U : Int) = imm % 18446744073709551616) (h0 : -2048 ≤ imm) (h1 : imm ≤ 2047) (h2 : imm % 1 = 0) (x : Nat) (hx : x = W + partsS a b cc d aq rl + immP 3 U) :
    x < 4294967296 ∧ dP 3 1 128 32 x = a ∧ dP 3 2 32768 32 x = b ∧ dP 3 4 1048576 32 x = cc ∧ dP 3 8 1048576 4096 x = d ∧ dB 3 67108864 x = aq ∧ dB 3 33554432 x = rl ∧ immD 3 x = imm := by
  obtain ⟨rfl, rfl⟩ := ho
  replace hx := hx.trans (combine (plain_parts a b cc d) (immP_3 U imm hU h0 h1 h2))
  obtain ⟨d0, d1, d2, d3, d4, d5, d6, d7, d8, d9, d10, d11⟩ := dig_3 W c g h hW hc hg hh e a b cc d ha hb hcc hd (U % 4096) (by omega) x hx
  clear hx hW
  unfold dP dB
  rw [show partsT.getD 3 0 = 3 from by decide]
  rw [if_neg (show ¬ (3 &&& 1 = 0) by decide), if_neg (show ¬ (3 &&& 2 = 0) by decide), if_pos (show 3 &&& 4 = 0 by decide), if_pos (show 3 &&& 8 = 0 by decide)]
  rw [immD_3 x]
  rw [decide_eq_false (show ¬ (3 &&& 16 ≠ 0) by decide), Bool.false_and, Bool.false_and]
  refine ⟨d0, d1, d2, (Nat.le_zero.1 hcc).symm, (Nat.le_zero.1 hd).symm, rfl, rfl, ?_⟩
  rw [sext12, (getI_num x).2.2.2.2.1, d3]
  exact val3 U _ imm hU h0 h1 (by omega)
theorem immP_4 (U : Nat) (imm : Int) (hU : (U : Int) = imm % 18446744073709551616) (h0 : -2048 ≤ imm) (h1 : imm ≤ 2047) (h2 : imm % 1 = 0) : immP 4 U = (U % 4096) * 1048576 := by
  simp only [immP]
  omega
theorem dec_4 (W c g h : Nat) (hW : W = c + g * 4096 + h * 1048576) (hc : c < 128) (hg : g < 8) (hh : h < 4096) (e : h = 0) (a b cc d : Nat) (aq rl : Bool) (ha : a ≤ 31) (hb : b ≤ 31) (hcc : cc ≤ 0) (hd : d ≤ 0) (ho : aq = false ∧ rl = false) (imm : Int) (U : Nat) (hU : (U : Int) = imm % 18446744073709551616) (h0 : -2048 ≤ imm) (h1 : imm ≤ 2047) (h2 : imm % 1 = 0) (x : Nat) (hx : x = W + partsS a b cc d aq rl + immP 4 U) :
    x < 4294967296 ∧ dP 4 1 128 32 x = a ∧ dP 4 2 32768 32 x = b ∧ dP 4 4 1048576 32 x = cc ∧ dP 4 8 1048576 4096 x = d ∧ dB 4 67108864 x = aq ∧ dB 4 33554432 x = rl ∧ immD 4 x = imm := by
  obtain ⟨rfl, rfl⟩ := ho
  replace hx := hx.trans (combine (plain_parts a b cc d) (immP_4 U imm hU h0 h1 h2))
  obtain ⟨d0, d1, d2, d3, d4, d5, d6, d7, d8, d9, d10, d11⟩ := dig_4 W c g h hW hc hg hh e a b cc d ha hb hcc hd (U % 4096) (by omega) x hx
  clear hx hW
  unfold dP dB
  rw [show partsT.getD 4 0 = 3 from by decide]
  rw [if_neg (show ¬ (3 &&& 1 = 0) by decide), if_neg (show ¬ (3 &&& 2 = 0) by decide), if_pos (show 3 &&& 4 = 0 by decide), if_pos (show 3 &&& 8 = 0 by decide)]
  rw [immD_4 x]
  rw [decide_eq_false (show ¬ (3 &&& 16 ≠ 0) by decide), Bool.false_and, Bool.false_and]
  refine ⟨d0, d1, d2, (Nat.le_zero.1 hcc).symm, (Nat.le_zero.1 hd).symm, rfl, rfl, ?_⟩
  rw [sext12, (getI_num x).2.2.2.2.1, d3]
  exact val3 U _ imm hU h0 h1 (by omega)
theorem immP_5 (U : Nat) (imm : Int) (hU : (U : Int) = imm % 18446744073709551616) (h0 : -4096 ≤ imm) (h1 : imm ≤ 4094) (h2 : imm % 2 = 0) : immP 5 U = ((U / 4096 % 2) * 2147483648 + (U / 32 % 64) * 33554432 + (U / 2 % 16) * 256 + (U / 2048 % 2) * 128) := by
  simp only [immP]
  simp [getI, Nat.div_one]
theorem dec_5 (W c g h : Nat) (hW : W = c + g * 4096 + h * 1048576) (hc : c < 128) (hg : g < 8) (hh : h < 4096) (e : h = 0) (a b cc d : Nat) (aq rl : Bool) (ha : a ≤ 0) (hb : b ≤ 31) (hcc : cc ≤ 31) (hd : d ≤ 0) (ho : aq = false ∧ rl = false) (imm : Int) (U : Nat) (hU : (U : Int) = imm % 18446744073709551616) (h0 : -4096 ≤ imm) (h1 : imm ≤ 4094) (h2 : imm % 2 = 0) (x : Nat) (hx : x = W + partsS a b cc d aq rl + immP 5 U) :
    x < 4294967296 ∧ dP 5 1 128 32 x = a ∧ dP 5 2 32768 32 x = b ∧ dP 5 4 1048576 32 x = cc ∧ dP 5 8 1048576 4096 x = d ∧ dB 5 67108864 x = aq ∧ dB 5 33554432 x = rl ∧ immD 5 x = imm := by
  obtain ⟨rfl, rfl⟩ := ho
  replace hx := hx.trans (combine (plain_parts a b cc d) (immP_5 U imm hU h0 h1 h2))
  obtain ⟨d0, d1, d2, d3, d4, d5, d6, d7, d8, d9, d10, d11⟩ := dig_5 W c g h hW hc hg hh e a b cc d ha hb hcc hd (U / 4096 % 2) (U / 32 % 64) (U / 2 % 16) (U / 2048 % 2) (by omega) (by omega) (by omega) (by omega) x hx
  clear hx hW
  unfold dP dB
  rw [show partsT.getD 5 0 = 6 from by decide]
  rw [if_pos (show 6 &&& 1 = 0 by decide), if_neg (show ¬ (6 &&& 2 = 0) by decide), if_neg (show ¬ (6 &&& 4 = 0) by decide), if_pos (show 6 &&& 8 = 0 by decide)]
  rw [immD_5 x]
  rw [decide_eq_false (show ¬ (6 &&& 16 ≠ 0) by decide), Bool.false_and, Bool.false_and]
  refine ⟨d0, (Nat.le_zero.1 ha).symm, d2, (by rw [d3]; omega), (Nat.le_zero.1 hd).symm, rfl, rfl, ?_⟩
  rw [sext13, (getI_num x).1, (getI_num x).2.2.2.2.2.1, (getI_num x).2.2.2.2.2.2.1, (getI_num x).2.2.2.2.2.2.2.1, d6, d4, d8, d9]
  exact val5 U _ imm hU h0 h1 ((fin5 _ _ _ _ _ (Nat.mod_lt _ (by decide)) (Nat.mod_lt _ (by decide)) (Nat.mod_lt _ (by decide)) (by omega)).trans (bits5 U (by omega)))
theorem immP_6 (U : Nat) (imm : Int) (hU : (U : Int) = imm % 18446744073709551616) (h0 : -2048 ≤ imm) (h1 : imm ≤ 2047) (h2 : imm % 1 = 0) : immP 6 U = ((U / 32 % 128) * 33554432 + (U % 32) * 128) := by
  simp only [immP]
  simp [getI, Nat.div_one]
theorem dec_6 (W c g h : Nat) (hW : W = c + g * 4096 + h * 1048576) (hc : c < 128) (hg : g < 8) (hh : h < 4096) (e : h = 0) (a b cc d : Nat) (aq rl : Bool) (ha : a ≤ 0) (hb : b ≤ 31) (hcc : cc ≤ 31) (hd : d ≤ 0) (ho : aq = false ∧ rl = false) (imm : Int) (U : Nat) (hU : (U : Int) = imm % 18446744073709551616) (h0 : -2048 ≤ imm) (h1 : imm ≤ 2047) (h2 : imm % 1 = 0) (x : Nat) (hx : x = W + partsS a b cc d aq rl + immP 6 U) :
    x < 4294967296 ∧ dP 6 1 128 32 x = a ∧ dP 6 2 32768 32 x = b ∧ dP 6 4 1048576 32 x = cc ∧ dP 6 8 1048576 4096 x = d ∧ dB 6 67108864 x = aq ∧ dB 6 33554432 x = rl ∧ immD 6 x = imm := by
  obtain ⟨rfl, rfl⟩ := ho
  replace hx := hx.trans (combine (plain_parts a b cc d) (immP_6 U imm hU h0 h1 h2))
  obtain ⟨d0, d1, d2, d3, d4, d5, d6, d7, d8, d9, d10, d11⟩ := dig_6 W c g h hW hc hg hh e a b cc d ha hb hcc hd (U / 32 % 128) (U % 32) (by omega) (by omega) x hx
  clear hx hW
  unfold dP dB
  rw [show partsT.getD 6 0 = 6 from by decide]
  rw [if_pos (show 6 &&& 1 = 0 by decide), if_neg (show ¬ (6 &&& 2 = 0) by decide), if_neg (show ¬ (6 &&& 4 = 0) by decide), if_pos (show 6 &&& 8 = 0 by decide)]
  rw [immD_6 x]
  rw [decide_eq_false (show ¬ (6 &&& 16 ≠ 0) by decide), Bool.false_and, Bool.false_and]
  refine ⟨d0, (Nat.le_zero.1 ha).symm, d2, (by rw [d3]; exact cc6 _ _ hcc), (Nat.le_zero.1 hd).symm, rfl, rfl, ?_⟩
  rw [sext12, (getI_num x).2.2.2.2.2.2.2.2.1, (getI_num x).2.2.2.2.2.2.2.2.2.1, d4, d1]
  exact val3 U _ imm hU h0 h1 ((fin6 _ _ _ (Nat.mod_lt _ (by decide)) (by omega)).trans (bits6 U))
theorem immP_7 (U : Nat) (imm : Int) (hU : (U : Int) = imm % 18446744073709551616) (h0 : 0 ≤ imm) (h1 : imm ≤ 63) (h2 : imm % 1 = 0) : immP 7 U = (U) * 1048576 := by
  simp only [immP]
  omega
theorem dec_7 (W c g h : Nat) (hW : W = c + g * 4096 + h * 1048576) (hc : c < 128) (hg : g < 8) (hh : h < 4096) (e : h % 64 = 0) (a b cc d : Nat) (aq rl : Bool) (ha : a ≤ 31) (hb : b ≤ 31) (hcc : cc ≤ 0) (hd : d ≤ 0) (ho : aq = false ∧ rl = false) (imm : Int) (U : Nat) (hU : (U : Int) = imm % 18446744073709551616) (h0 : 0 ≤ imm) (h1 : imm ≤ 63) (h2 : imm % 1 = 0) (x : Nat) (hx : x = W + partsS a b cc d aq rl + immP 7 U) :
    x < 4294967296 ∧ dP 7 1 128 32 x = a ∧ dP 7 2 32768 32 x = b ∧ dP 7 4 1048576 32 x = cc ∧ dP 7 8 1048576 4096 x = d ∧ dB 7 67108864 x = aq ∧ dB 7 33554432 x = rl ∧ immD 7 x = imm := by
  obtain ⟨rfl, rfl⟩ := ho
  replace hx := hx.trans (combine (plain_parts a b cc d) (immP_7 U imm hU h0 h1 h2))
  obtain ⟨d0, d1, d2, d3, d4, d5, d6, d7, d8, d9, d10, d11⟩ := dig_7 W c g h hW hc hg hh e a b cc d ha hb hcc hd (U) (by omega) x hx
  clear hx hW
  unfold dP dB
  rw [show partsT.getD 7 0 = 3 from by decide]
  rw [if_neg (show ¬ (3 &&& 1 = 0) by decide), if_neg (show ¬ (3 &&& 2 = 0) by decide), if_pos (show 3 &&& 4 = 0 by decide), if_pos (show 3 &&& 8 = 0 by decide)]
  rw [immD_7 x]
  rw [decide_eq_false (show ¬ (3 &&& 16 ≠ 0) by decide), Bool.false_and, Bool.false_and]
  refine ⟨d0, d1, d2, (Nat.le_zero.1 hcc).symm, (Nat.le_zero.1 hd).symm, rfl, rfl, ?_⟩
  rw [(getI_num x).2.2.2.2.2.2.2.2.2.2.1, d3]
  omega
theorem immP_8 (U : Nat) (imm : Int) (hU : (U : Int) = imm % 18446744073709551616) (h0 : 0 ≤ imm) (h1 : imm ≤ 31) (h2 : imm % 1 = 0) : immP 8 U = (U) * 1048576 := by
  simp only [immP]
  omega
theorem dec_8 (W c g h : Nat) (hW : W = c + g * 4096 + h * 1048576) (hc : c < 128) (hg : g < 8) (hh : h < 4096) (e : h % 32 = 0) (a b cc d : Nat) (aq rl : Bool) (ha : a ≤ 31) (hb : b ≤ 31) (hcc : cc ≤ 0) (hd : d ≤ 0) (ho : aq = false ∧ rl = false) (imm : Int) (U : Nat) (hU : (U : Int) = imm % 18446744073709551616) (h0 : 0 ≤ imm) (h1 : imm ≤ 31) (h2 : imm % 1 = 0) (x : Nat) (hx : x = W + partsS a b cc d aq rl + immP 8 U) :
    x < 4294967296 ∧ dP 8 1 128 32 x = a ∧ dP 8 2 32768 32 x = b ∧ dP 8 4 1048576 32 x = cc ∧ dP 8 8 1048576 4096 x = d ∧ dB 8 67108864 x = aq ∧ dB 8 33554432 x = rl ∧ immD 8 x = imm := by
  obtain ⟨rfl, rfl⟩ := ho
  replace hx := hx.trans (combine (plain_parts a b cc d) (immP_8 U imm hU h0 h1 h2))
  obtain ⟨d0, d1, d2, d3, d4, d5, d6, d7, d8, d9, d10, d11⟩ := dig_8 W c g h hW hc hg hh e a b cc d ha hb hcc hd (U) (by omega) x hx
  clear hx hW
  unfold dP dB
  rw [show partsT.getD 8 0 = 3 from by decide]
  rw [if_neg (show ¬ (3 &&& 1 = 0) by decide), if_neg (show ¬ (3 &&& 2 = 0) by decide), if_pos (show 3 &&& 4 = 0 by decide), if_pos (show 3 &&& 8 = 0 by decide)]
  rw [immD_8 x]
  rw [decide_eq_false (show ¬ (3 &&& 16 ≠ 0) by decide), Bool.false_and, Bool.false_and]
  refine ⟨d0, d1, d2, (Nat.le_zero.1 hcc).symm, (Nat.le_zero.1 hd).symm, rfl, rfl, ?_⟩
  rw [(getI_num x).2.2.2.2.2.2.2.2.2.2.2.1, d3]
  omega
theorem immP_9 (U : Nat) (imm : Int) (hU : (U : Int) = imm % 18446744073709551616) (h0 : 0 ≤ imm) (h1 : imm ≤ 0) (h2 : imm % 1 = 0) : immP 9 U = 0 := by
  simp only [immP]
  omega
theorem dec_9 (W c g h : Nat) (hW : W = c + g * 4096 + h * 1048576) (hc : c < 128) (hg : g < 8) (hh : h < 4096) (e : h % 32 = 0) (a b cc d : Nat) (aq rl : Bool) (ha : a ≤ 31) (hb : b ≤ 31) (hcc : cc ≤ 31) (hd : d ≤ 0) (ho : aq = false ∧ rl = false) (imm : Int) (U : Nat) (hU : (U : Int) = imm % 18446744073709551616) (h0 : 0 ≤ imm) (h1 : imm ≤ 0) (h2 : imm % 1 = 0) (x : Nat) (hx : x = W + partsS a b cc d aq rl + immP 9 U) :
    x < 4294967296 ∧ dP 9 1 128 32 x = a ∧ dP 9 2 32768 32 x = b ∧ dP 9 4 1048576 32 x = cc ∧ dP 9 8 1048576 4096 x = d ∧ dB 9 67108864 x = aq ∧ dB 9 33554432 x = rl ∧ immD 9 x = imm := by
  obtain ⟨rfl, rfl⟩ := ho
  replace hx := hx.trans (combine0 (plain_parts a b cc d) (immP_9 U imm hU h0 h1 h2))
  obtain ⟨d0, d1, d2, d3, d4, d5, d6, d7, d8, d9, d10, d11⟩ := dig_9 W c g h hW hc hg hh e a b cc d ha hb hcc hd  x hx
  clear hx hW
  unfold dP dB
  rw [show partsT.getD 9 0 = 7 from by decide]
  rw [if_neg (show ¬ (7 &&& 1 = 0) by decide), if_neg (show ¬ (7 &&& 2 = 0) by decide), if_neg (show ¬ (7 &&& 4 = 0) by decide), if_pos (show 7 &&& 8 = 0 by decide)]
  rw [immD_none 9 x (by decide)]
  rw [decide_eq_false (show ¬ (7 &&& 16 ≠ 0) by decide), Bool.false_and, Bool.false_and]
  refine ⟨d0, d1, d2, (by rw [d3]; omega), (Nat.le_zero.1 hd).symm, rfl, rfl, ?_⟩
  omega
theorem immP_10 (U : Nat) (imm : Int) (hU : (U : Int) = imm % 18446744073709551616) (h0 : 0 ≤ imm) (h1 : imm ≤ 4095) (h2 : imm % 1 = 0) : immP 10 U = (U % 4096) * 1048576 := by
  simp only [immP]
  omega
theorem dec_10 (W c g h : Nat) (hW : W = c + g * 4096 + h * 1048576) (hc : c < 128) (hg : g < 8) (hh : h < 4096) (e : h = 0) (a b cc d : Nat) (aq rl : Bool) (ha : a ≤ 31) (hb : b ≤ 31) (hcc : cc ≤ 0) (hd : d ≤ 0) (ho : aq = false ∧ rl = false) (imm : Int) (U : Nat) (hU : (U : Int) = imm % 18446744073709551616) (h0 : 0 ≤ imm) (h1 : imm ≤ 4095) (h2 : imm % 1 = 0) (x : Nat) (hx : x = W + partsS a b cc d aq rl + immP 10 U) :
    x < 4294967296 ∧ dP 10 1 128 32 x = a ∧ dP 10 2 32768 32 x = b ∧ dP 10 4 1048576 32 x = cc ∧ dP 10 8 1048576 4096 x = d ∧ dB 10 67108864 x = aq ∧ dB 10 33554432 x = rl ∧ immD 10 x = imm := by
  obtain ⟨rfl, rfl⟩ := ho
  replace hx := hx.trans (combine (plain_parts a b cc d) (immP_10 U imm hU h0 h1 h2))
  obtain ⟨d0, d1, d2, d3, d4, d5, d6, d7, d8, d9, d10, d11⟩ := dig_10 W c g h hW hc hg hh e a b cc d ha hb hcc hd (U % 4096) (by omega) x hx
  clear hx hW
  unfold dP dB
  rw [show partsT.getD 10 0 = 3 from by decide]
  rw [if_neg (show ¬ (3 &&& 1 = 0) by decide), if_neg (show ¬ (3 &&& 2 = 0) by decide), if_pos (show 3 &&& 4 = 0 by decide), if_pos (show 3 &&& 8 = 0 by decide)]
  rw [immD_10 x]
  rw [decide_eq_false (show ¬ (3 &&& 16 ≠ 0) by decide), Bool.false_and, Bool.false_and]
  refine ⟨d0, d1, d2, (Nat.le_zero.1 hcc).symm, (Nat.le_zero.1 hd).symm, rfl, rfl, ?_⟩
  rw [(getI_num x).2.2.2.2.1, d3]
  omega
theorem immP_11 (U : Nat) (imm : Int) (hU : (U : Int) = imm % 18446744073709551616) (h0 : 0 ≤ imm) (h1 : imm ≤ 0) (h2 : imm % 1 = 0) : immP 11 U = 0 := by
  simp only [immP]
  omega
theorem dec_11 (W c g h : Nat) (hW : W = c + g * 4096 + h * 1048576) (hc : c < 128) (hg : g < 8) (hh : h < 4096) (e : True) (a b cc d : Nat) (aq rl : Bool) (ha : a ≤ 0) (hb : b ≤ 0) (hcc : cc ≤ 0) (hd : d ≤ 0) (ho : aq = false ∧ rl = false) (imm : Int) (U : Nat) (hU : (U : Int) = imm % 18446744073709551616) (h0 : 0 ≤ imm) (h1 : imm ≤ 0) (h2 : imm % 1 = 0) (x : Nat) (hx : x = W + partsS a b cc d aq rl + immP 11 U) :
    x < 4294967296 ∧ dP 11 1 128 32 x = a ∧ dP 11 2 32768 32 x = b ∧ dP 11 4 1048576 32 x = cc ∧ dP 11 8 1048576 4096 x = d ∧ dB 11 67108864 x = aq ∧ dB 11 33554432 x = rl ∧ immD 11 x = imm := by
  obtain ⟨rfl, rfl⟩ := ho
  replace hx := hx.trans (combine0 (plain_parts a b cc d) (immP_11 U imm hU h0 h1 h2))
  obtain ⟨d0, d1, d2, d3, d4, d5, d6, d7, d8, d9, d10, d11⟩ := dig_11 W c g h hW hc hg hh e a b cc d ha hb hcc hd  x hx
  clear hx hW
  unfold dP dB
  rw [show partsT.getD 11 0 = 0 from by decide]
  rw [if_pos (show 0 &&& 1 = 0 by decide), if_pos (show 0 &&& 2 = 0 by decide), if_pos (show 0 &&& 4 = 0 by decide), if_pos (show 0 &&& 8 = 0 by decide)]
  rw [immD_none 11 x (by decide)]
  rw [decide_eq_false (show ¬ (0 &&& 16 ≠ 0) by decide), Bool.false_and, Bool.false_and]
  refine ⟨d0, (Nat.le_zero.1 ha).symm, (Nat.le_zero.1 hb).symm, (Nat.le_zero.1 hcc).symm, (Nat.le_zero.1 hd).symm, rfl, rfl, ?_⟩
  omega
theorem immP_12 (U : Nat) (imm : Int) (hU : (U : Int) = imm % 18446744073709551616) (h0 : 0 ≤ imm) (h1 : imm ≤ 0) (h2 : imm % 1 = 0) : immP 12 U = 0 := by
  simp only [immP]
  omega
theorem dec_12 (W c g h : Nat) (hW : W = c + g * 4096 + h * 1048576) (hc : c < 128) (hg : g < 8) (hh : h < 4096) (e : h = 0) (a b cc d : Nat) (aq rl : Bool) (ha : a ≤ 31) (hb : b ≤ 31) (hcc : cc ≤ 0) (hd : d ≤ 4095) (ho : aq = false ∧ rl = false) (imm : Int) (U : Nat) (hU : (U : Int) = imm % 18446744073709551616) (h0 : 0 ≤ imm) (h1 : imm ≤ 0) (h2 : imm % 1 = 0) (x : Nat) (hx : x = W + partsS a b cc d aq rl + immP 12 U) :
    x < 4294967296 ∧ dP 12 1 128 32 x = a ∧ dP 12 2 32768 32 x = b ∧ dP 12 4 1048576 32 x = cc ∧ dP 12 8 1048576 4096 x = d ∧ dB 12 67108864 x = aq ∧ dB 12 33554432 x = rl ∧ immD 12 x = imm := by
  obtain ⟨rfl, rfl⟩ := ho
  replace hx := hx.trans (combine0 (plain_parts a b cc d) (immP_12 U imm hU h0 h1 h2))
  obtain ⟨d0, d1, d2, d3, d4, d5, d6, d7, d8, d9, d10, d11⟩ := dig_12 W c g h hW hc hg hh e a b cc d ha hb hcc hd  x hx
  clear hx hW
  unfold dP dB
  rw [show partsT.getD 12 0 = 11 from by decide]
  rw [if_neg (show ¬ (11 &&& 1 = 0) by decide), if_neg (show ¬ (11 &&& 2 = 0) by decide), if_pos (show 11 &&& 4 = 0 by decide), if_neg (show ¬ (11 &&& 8 = 0) by decide)]
  rw [immD_none 12 x (by decide)]
  rw [decide_eq_false (show ¬ (11 &&& 16 ≠ 0) by decide), Bool.false_and, Bool.false_and]
  refine ⟨d0, d1, d2, (Nat.le_zero.1 hcc).symm, (by rw [d3]; omega), rfl, rfl, ?_⟩
  omega
theorem immP_13 (U : Nat) (imm : Int) (hU : (U : Int) = imm % 18446744073709551616) (h0 : 0 ≤ imm) (h1 : imm ≤ 31) (h2 : imm % 1 = 0) : immP 13 U = (U) * 32768 := by
  simp only [immP]
  omega
theorem dec_13 (W c g h : Nat) (hW : W = c + g * 4096 + h * 1048576) (hc : c < 128) (hg : g < 8) (hh : h < 4096) (e : h = 0) (a b cc d : Nat) (aq rl : Bool) (ha : a ≤ 31) (hb : b ≤ 0) (hcc : cc ≤ 0) (hd : d ≤ 4095) (ho : aq = false ∧ rl = false) (imm : Int) (U : Nat) (hU : (U : Int) = imm % 18446744073709551616) (h0 : 0 ≤ imm) (h1 : imm ≤ 31) (h2 : imm % 1 = 0) (x : Nat) (hx : x = W + partsS a b cc d aq rl + immP 13 U) :
    x < 4294967296 ∧ dP 13 1 128 32 x = a ∧ dP 13 2 32768 32 x = b ∧ dP 13 4 1048576 32 x = cc ∧ dP 13 8 1048576 4096 x = d ∧ dB 13 67108864 x = aq ∧ dB 13 33554432 x = rl ∧ immD 13 x = imm := by
  obtain ⟨rfl, rfl⟩ := ho
  replace hx := hx.trans (combine (plain_parts a b cc d) (immP_13 U imm hU h0 h1 h2))
  obtain ⟨d0, d1, d2, d3, d4, d5, d6, d7, d8, d9, d10, d11⟩ := dig_13 W c g h hW hc hg hh e a b cc d ha hb hcc hd (U) (by omega) x hx
  clear hx hW
  unfold dP dB
  rw [show partsT.getD 13 0 = 9 from by decide]
  rw [if_neg (show ¬ (9 &&& 1 = 0) by decide), if_pos (show 9 &&& 2 = 0 by decide), if_pos (show 9 &&& 4 = 0 by decide), if_neg (show ¬ (9 &&& 8 = 0) by decide)]
  rw [immD_13 x]
  rw [decide_eq_false (show ¬ (9 &&& 16 ≠ 0) by decide), Bool.false_and, Bool.false_and]
  refine ⟨d0, d1, (Nat.le_zero.1 hb).symm, (Nat.le_zero.1 hcc).symm, (by rw [d3]; omega), rfl, rfl, ?_⟩
  rw [(getI_num x).2.2.2.2.2.2.2.2.2.2.2.2, d2]
  omega
theorem immP_14 (U : Nat) (imm : Int) (hU : (U : Int) = imm % 18446744073709551616) (h0 : 0 ≤ imm) (h1 : imm ≤ 0) (h2 : imm % 1 = 0) : immP 14 U = 0 := by
  simp only [immP]
  omega
theorem dec_14 (W c g h : Nat) (hW : W = c + g * 4096 + h * 1048576) (hc : c < 128) (hg : g < 8) (hh : h < 4096) (e : h % 128 = 0) (a b cc d : Nat) (aq rl : Bool) (ha : a ≤ 31) (hb : b ≤ 31) (hcc : cc ≤ 0) (hd : d ≤ 0)  (imm : Int) (U : Nat) (hU : (U : Int) = imm % 18446744073709551616) (h0 : 0 ≤ imm) (h1 : imm ≤ 0) (h2 : imm % 1 = 0) (x : Nat) (hx : x = W + partsS a b cc d aq rl + immP 14 U) :
    x < 4294967296 ∧ dP 14 1 128 32 x = a ∧ dP 14 2 32768 32 x = b ∧ dP 14 4 1048576 32 x = cc ∧ dP 14 8 1048576 4096 x = d ∧ dB 14 67108864 x = aq ∧ dB 14 33554432 x = rl ∧ immD 14 x = imm := by
  replace hx := hx.trans (combine0 (order_parts a b cc d aq rl) (immP_14 U imm hU h0 h1 h2))
  obtain ⟨d0, d1, d2, d3, d4, d5, d6, d7, d8, d9, d10, d11⟩ := dig_14 W c g h hW hc hg hh e a b cc d ha hb hcc hd (if aq then 64 else 0) (if rl then 32 else 0) (by cases aq <;> simp) (by cases rl <;> simp) x hx
  clear hx hW
  unfold dP dB
  rw [show partsT.getD 14 0 = 19 from by decide]
  rw [if_neg (show ¬ (19 &&& 1 = 0) by decide), if_neg (show ¬ (19 &&& 2 = 0) by decide), if_pos (show 19 &&& 4 = 0 by decide), if_pos (show 19 &&& 8 = 0 by decide)]
  rw [immD_none 14 x (by decide), decide_eq_true (show 19 &&& 16 ≠ 0 by decide), Bool.true_and, Bool.true_and, d5, d4]
  clear d4 d5 d6 d7 d8 d9 d10 d11
  cases aq <;> cases rl <;> simp only [Bool.false_eq_true, if_false, if_true] at d3 ⊢ <;>
  refine ⟨d0, d1, d2, (Nat.le_zero.1 hcc).symm, (Nat.le_zero.1 hd).symm, ?_, ?_, by omega⟩ <;> simp <;> omega
theorem immP_15 (U : Nat) (imm : Int) (hU : (U : Int) = imm % 18446744073709551616) (h0 : 0 ≤ imm) (h1 : imm ≤ 0) (h2 : imm % 1 = 0) : immP 15 U = 0 := by
  simp only [immP]
  omega
theorem dec_15 (W c g h : Nat) (hW : W = c + g * 4096 + h * 1048576) (hc : c < 128) (hg : g < 8) (hh : h < 4096) (e : h % 128 = 0) (a b cc d : Nat) (aq rl : Bool) (ha : a ≤ 31) (hb : b ≤ 31) (hcc : cc ≤ 31) (hd : d ≤ 0)  (imm : Int) (U : Nat) (hU : (U : Int) = imm % 18446744073709551616) (h0 : 0 ≤ imm) (h1 : imm ≤ 0) (h2 : imm % 1 = 0) (x : Nat) (hx : x = W + partsS a b cc d aq rl + immP 15 U) :
    x < 4294967296 ∧ dP 15 1 128 32 x = a ∧ dP 15 2 32768 32 x = b ∧ dP 15 4 1048576 32 x = cc ∧ dP 15 8 1048576 4096 x = d ∧ dB 15 67108864 x = aq ∧ dB 15 33554432 x = rl ∧ immD 15 x = imm := by
  replace hx := hx.trans (combine0 (order_parts a b cc d aq rl) (immP_15 U imm hU h0 h1 h2))
  obtain ⟨d0, d1, d2, d3, d4, d5, d6, d7, d8, d9, d10, d11⟩ := dig_15 W c g h hW hc hg hh e a b cc d ha hb hcc hd (if aq then 64 else 0) (if rl then 32 else 0) (by cases aq <;> simp) (by cases rl <;> simp) x hx
  clear hx hW
  unfold dP dB
  rw [show partsT.getD 15 0 = 23 from by decide]
  rw [if_neg (show ¬ (23 &&& 1 = 0) by decide), if_neg (show ¬ (23 &&& 2 = 0) by decide), if_neg (show ¬ (23 &&& 4 = 0) by decide), if_pos (show 23 &&& 8 = 0 by decide)]
  rw [immD_none 15 x (by decide), decide_eq_true (show 23 &&& 16 ≠ 0 by decide), Bool.true_and, Bool.true_and, d5, d4]
  clear d4 d5 d6 d7 d8 d9 d10 d11
  cases aq <;> cases rl <;> simp only [Bool.false_eq_true, if_false, if_true] at d3 ⊢ <;>
  refine ⟨d0, d1, d2, (by rw [d3]; omega), (Nat.le_zero.1 hd).symm, ?_, ?_, by omega⟩ <;> simp <;> omega
theorem immP_16 (U : Nat) (imm : Int) (hU : (U : Int) = imm % 18446744073709551616) (h0 : 0 ≤ imm) (h1 : imm ≤ 0) (h2 : imm % 1 = 0) : immP 16 U = 0 := by
  simp only [immP]
  omega
theorem dec_16 (W c g h : Nat) (hW : W = c + g * 4096 + h * 1048576) (hc : c < 128) (hg : g < 8) (hh : h < 4096) (e : h % 32 = 0) (a b cc d : Nat) (aq rl : Bool) (ha : a ≤ 0) (hb : b ≤ 31) (hcc : cc ≤ 31) (hd : d ≤ 0) (ho : aq = false ∧ rl = false) (imm : Int) (U : Nat) (hU : (U : Int) = imm % 18446744073709551616) (h0 : 0 ≤ imm) (h1 : imm ≤ 0) (h2 : imm % 1 = 0) (x : Nat) (hx : x = W + partsS a b cc d aq rl + immP 16 U) :
    x < 4294967296 ∧ dP 16 1 128 32 x = a ∧ dP 16 2 32768 32 x = b ∧ dP 16 4 1048576 32 x = cc ∧ dP 16 8 1048576 4096 x = d ∧ dB 16 67108864 x = aq ∧ dB 16 33554432 x = rl ∧ immD 16 x = imm := by
  obtain ⟨rfl, rfl⟩ := ho
  replace hx := hx.trans (combine0 (plain_parts a b cc d) (immP_16 U imm hU h0 h1 h2))
  obtain ⟨d0, d1, d2, d3, d4, d5, d6, d7, d8, d9, d10, d11⟩ := dig_16 W c g h hW hc hg hh e a b cc d ha hb hcc hd  x hx
  clear hx hW
  unfold dP dB
  rw [show partsT.getD 16 0 = 6 from by decide]
  rw [if_pos (show 6 &&& 1 = 0 by decide), if_neg (show ¬ (6 &&& 2 = 0) by decide), if_neg (show ¬ (6 &&& 4 = 0) by decide), if_pos (show 6 &&& 8 = 0 by decide)]
  rw [immD_none 16 x (by decide)]
  rw [decide_eq_false (show ¬ (6 &&& 16 ≠ 0) by decide), Bool.false_and, Bool.false_and]
  refine ⟨d0, (Nat.le_zero.1 ha).symm, d2, (by rw [d3]; omega), (Nat.le_zero.1 hd).symm, rfl, rfl, ?_⟩
  omega
end Go.Proofs.YtooaafbdjnlmfaaGreatDoor
