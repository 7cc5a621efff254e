/- Plain numbers: what Encode made Decode reads. -/
import Derived.Test.YtooaafbdjnlmfaaGreatDoorQOut
namespace Go.Proofs.YtooaafbdjnlmfaaGreatDoor
open Go.RowKit
set_option linter.unusedVariables false
set_option linter.unusedSimpArgs false
theorem or_and (a b m : Nat) : (a ||| b) &&& m = (a &&& m) ||| (b &&& m) := by
  apply Nat.eq_of_testBit_eq
  intro i
  simp only [Nat.testBit_and, Nat.testBit_or]
  cases a.testBit i <;> cases b.testBit i <;> cases m.testBit i <;> rfl
theorem Sub.refl (m : Nat) : Sub m m := fun _ h => h
/-- the fixed bits of a joined word -/
theorem fixed_of (W P I m j i : Nat) (hW : Sub W m) (hP : Sub P j) (hI : Sub I i) (hm : m < 4294967296) (hj : j < 4294967296) (hi : i < 4294967296) (h1 : m &&& j = 0) (h2 : (m ||| j) &&& i = 0) (h3 : (m ||| j) < 4294967296) : (W + P + I) &&& m = W := by
  obtain ⟨e1, s1⟩ := hW.join hP (by omega) (by omega) h1
  obtain ⟨e2, s2⟩ := s1.join hI (by omega) (by omega) h2
  have d2 : i &&& m = 0 := by
    exact (Sub.refl i).apart (show Sub m (m ||| j) from fun k hk => by rw [Nat.testBit_or, hk]; rfl) (by rw [Nat.and_comm]; exact h2)
  have d1 : j &&& m = 0 := by rw [Nat.and_comm]; exact h1
  rw [← e2, ← e1, or_and, or_and, hW.and, hP.apart (Sub.refl m) d1, hI.apart (Sub.refl m) d2, Nat.or_zero, Nat.or_zero]
/-- two operations are told apart by bits that both fix -/
theorem told_all : ((List.range 99).all fun i => (List.range 99).all fun j => i == 0 || (j == 0 || (i == j || (wordsT.getD i 0 &&& fixedT.getD (formsT.getD j 0) 0 != wordsT.getD j 0 &&& fixedT.getD (formsT.getD i 0) 0)))) = true := by decide +kernel
theorem told_apart (i : Nat) (hi : i < 99) (j : Nat) (hj : j < 99) (h1 : 1 ≤ i) (h2 : 1 ≤ j) (hne : i ≠ j) : wordsT.getD i 0 &&& fixedT.getD (formsT.getD j 0) 0 ≠ wordsT.getD j 0 &&& fixedT.getD (formsT.getD i 0) 0 := by
  have h := List.all_eq_true.1 (List.all_eq_true.1 told_all i (by simpa using hi)) j (by simpa using hj)
  rw [show (i == 0) = false by simp; omega, show (j == 0) = false by simp; omega, show (i == j) = false by simpa using hne] at h
  simpa using h
theorem hit_one (x i j : Nat) (hi : i < 99) (hj : j < 99) (h1 : 1 ≤ i) (h2 : 1 ≤ j) (hx : hit x i = true) (hy : hit x j = true) : i = j := by
  refine Classical.byContradiction fun hne => told_apart i hi j hj h1 h2 hne ?_
  unfold hit at hx hy
  have ex := eq_of_beq hx
  have ey := eq_of_beq hy
  rw [← ex, ← ey, Nat.and_assoc, Nat.and_assoc, Nat.and_comm (fixedT.getD (formsT.getD i 0) 0)]
theorem wfactsA : ∀ i, i < 99 → 1 ≤ i → wordsT.getD i 0 = wordsT.getD i 0 % 128 + wordsT.getD i 0 / 4096 % 8 * 4096 + wordsT.getD i 0 / 1048576 * 1048576 ∧ wordsT.getD i 0 < 4294967296 := by decide +kernel
theorem wfactsB : ∀ i, i < 99 → 1 ≤ i → (formsT.getD i 0 = 1 ∨ formsT.getD i 0 = 2 → wordsT.getD i 0 < 128) := by decide +kernel
theorem wfactsC : ∀ i, i < 99 → 1 ≤ i → (formsT.getD i 0 = 3 ∨ formsT.getD i 0 = 4 ∨ formsT.getD i 0 = 5 ∨ formsT.getD i 0 = 6 ∨ formsT.getD i 0 = 10 ∨ formsT.getD i 0 = 12 ∨ formsT.getD i 0 = 13 → wordsT.getD i 0 < 32768) := by decide +kernel
theorem wfactsD : ∀ i, i < 99 → 1 ≤ i → (formsT.getD i 0 = 7 → wordsT.getD i 0 / 1048576 % 64 = 0) ∧ (formsT.getD i 0 = 8 ∨ formsT.getD i 0 = 9 ∨ formsT.getD i 0 = 16 → wordsT.getD i 0 / 1048576 % 32 = 0) ∧ (formsT.getD i 0 = 14 ∨ formsT.getD i 0 = 15 → wordsT.getD i 0 / 1048576 % 128 = 0) := by decide +kernel
/-- what is known of an operation's own bits -/
theorem words_split (i : Nat) (h : i < 99) (h1 : 1 ≤ i) : ∃ c g h' : Nat, wordsT.getD i 0 = c + g * 4096 + h' * 1048576 ∧ c < 128 ∧ g < 8 ∧ h' < 4096 ∧ (formsT.getD i 0 = 1 ∨ formsT.getD i 0 = 2 → g = 0 ∧ h' = 0) ∧ (formsT.getD i 0 = 3 ∨ formsT.getD i 0 = 4 ∨ formsT.getD i 0 = 5 ∨ formsT.getD i 0 = 6 ∨ formsT.getD i 0 = 10 ∨ formsT.getD i 0 = 12 ∨ formsT.getD i 0 = 13 → h' = 0) ∧ (formsT.getD i 0 = 7 → h' % 64 = 0) ∧ (formsT.getD i 0 = 8 ∨ formsT.getD i 0 = 9 ∨ formsT.getD i 0 = 16 → h' % 32 = 0) ∧ (formsT.getD i 0 = 14 ∨ formsT.getD i 0 = 15 → h' % 128 = 0) := by
  obtain ⟨a1, a2⟩ := wfactsA i h h1
  have b := wfactsB i h h1
  have c := wfactsC i h h1
  have d := wfactsD i h h1
  generalize wordsT.getD i 0 = W at *
  generalize formsT.getD i 0 = f at *
  refine ⟨W % 128, W / 4096 % 8, W / 1048576, a1, by omega, by omega, by omega, fun hf => ?_, fun hf => ?_, d.1, d.2.1, d.2.2⟩
  · have := b hf; omega
  · have := c hf; omega
theorem getI_num (x : Nat) : getI x 31 1 = x / 2147483648 % 2 ∧ getI x 21 10 = x / 2097152 % 1024 ∧ getI x 20 1 = x / 1048576 % 2 ∧ getI x 12 8 = x / 4096 % 256 ∧ getI x 20 12 = x / 1048576 % 4096 ∧ getI x 25 6 = x / 33554432 % 64 ∧ getI x 8 4 = x / 256 % 16 ∧ getI x 7 1 = x / 128 % 2 ∧ getI x 25 7 = x / 33554432 % 128 ∧ getI x 7 5 = x / 128 % 32 ∧ getI x 20 6 = x / 1048576 % 64 ∧ getI x 20 5 = x / 1048576 % 32 ∧ getI x 15 5 = x / 32768 % 32 := by simp [getI]
theorem getI_imm (U : Nat) : getI U 20 1 = U / 1048576 % 2 ∧ getI U 1 10 = U / 2 % 1024 ∧ getI U 11 1 = U / 2048 % 2 ∧ getI U 12 8 = U / 4096 % 256 ∧ getI U 12 1 = U / 4096 % 2 ∧ getI U 5 6 = U / 32 % 64 ∧ getI U 1 4 = U / 2 % 16 ∧ getI U 5 7 = U / 32 % 128 ∧ getI U 0 5 = U % 32 := by simp [getI, Nat.div_one]
theorem sext_at (y n : Nat) (h1 : 1 ≤ n) (h2 : n ≤ 63) : sextA y n = if y / 2 ^ (n - 1) % 2 = 1 then 2 ^ n * (2 ^ (64 - n) - 1) + y % 2 ^ n else y % 2 ^ n := by
  rw [sextA_in y n h1 h2]
  unfold sextN
  rw [Nat.testBit_eq_decide_div_mod_eq]
  simp
theorem sext12 (y : Nat) : wrap64 (sextA y 12 : Nat) = if y / 2048 % 2 = 1 then ((y % 4096 : Nat) : Int) - 4096 else ((y % 4096 : Nat) : Int) := by
  have := sext_at y 12 (by decide) (by decide)
  rw [show ((12 : Nat) : Int) = 12 from rfl] at this
  simp only [Nat.reducePow, Nat.reduceSub, Nat.reduceMul] at this
  rw [this]
  unfold wrap64
  split <;> omega
theorem sext13 (y : Nat) : wrap64 (sextA y 13 : Nat) = if y / 4096 % 2 = 1 then ((y % 8192 : Nat) : Int) - 8192 else ((y % 8192 : Nat) : Int) := by
  have := sext_at y 13 (by decide) (by decide)
  rw [show ((13 : Nat) : Int) = 13 from rfl] at this
  simp only [Nat.reducePow, Nat.reduceSub, Nat.reduceMul] at this
  rw [this]
  unfold wrap64
  split <;> omega
theorem sext21 (y : Nat) : wrap64 (sextA y 21 : Nat) = if y / 1048576 % 2 = 1 then ((y % 2097152 : Nat) : Int) - 2097152 else ((y % 2097152 : Nat) : Int) := by
  have := sext_at y 21 (by decide) (by decide)
  rw [show ((21 : Nat) : Int) = 21 from rfl] at this
  simp only [Nat.reducePow, Nat.reduceSub, Nat.reduceMul] at this
  rw [this]
  unfold wrap64
  split <;> omega
theorem sext32 (y : Nat) : wrap64 (sextA y 32 : Nat) = if y / 2147483648 % 2 = 1 then ((y % 4294967296 : Nat) : Int) - 4294967296 else ((y % 4294967296 : Nat) : Int) := by
  have := sext_at y 32 (by decide) (by decide)
  rw [show ((32 : Nat) : Int) = 32 from rfl] at this
  simp only [Nat.reducePow, Nat.reduceSub, Nat.reduceMul] at this
  rw [this]
  unfold wrap64
  split <;> omega
end Go.Proofs.YtooaafbdjnlmfaaGreatDoor

namespace Go.Proofs.YtooaafbdjnlmfaaGreatDoor
open Go.RowKit
set_option linter.unusedVariables false
set_option linter.unusedSimpArgs false
/-- a word by its five pieces -/
theorem digits (c A g B T x : Nat) (hc : c < 128) (hA : A < 32) (hg : g < 8) (hB : B < 32) (hT : T < 4096) (hx : x = c + A * 128 + g * 4096 + B * 32768 + T * 1048576) :
    x < 4294967296 ∧ x / 128 % 32 = A ∧ x / 32768 % 32 = B ∧ x / 1048576 = T ∧ x / 33554432 = T / 32 ∧ x / 67108864 = T / 64 ∧ x / 2147483648 = T / 2048 ∧ x / 2097152 = T / 2 ∧ x / 256 % 16 = A / 2 ∧ x / 128 % 2 = A % 2 ∧ x / 4096 % 256 = g + B * 8 ∧ x / 4096 = g + B * 8 + T * 256 := by
  have h1 : x / 1048576 = T := by omega
  have h2 : x / 128 = A + g * 32 + B * 256 + T * 8192 := by omega
  have h3 : x / 32768 = B + T * 32 := by omega
  have h4 : x / 4096 = g + B * 8 + T * 256 := by omega
  have h5 : x / 256 = A / 2 + g * 16 + B * 128 + T * 4096 := by omega
  have h6 : x / 33554432 = x / 1048576 / 32 := by rw [Nat.div_div_eq_div_mul]
  have h7 : x / 67108864 = x / 1048576 / 64 := by rw [Nat.div_div_eq_div_mul]
  have h8 : x / 2147483648 = x / 1048576 / 2048 := by rw [Nat.div_div_eq_div_mul]
  have h9 : x / 2097152 = x / 1048576 / 2 := by rw [Nat.div_div_eq_div_mul]
  refine ⟨by omega, ?_, ?_, h1, by rw [h6, h1], by rw [h7, h1], by rw [h8, h1], by rw [h9, h1], ?_, ?_, ?_, h4⟩
  · rw [h2]; omega
  · rw [h3]; omega
  · rw [h5]; omega
  · rw [h2]; omega
  · rw [h4]; omega
theorem dig_1 (W c g h : Nat) (hW : W = c + g * 4096 + h * 1048576) (hc : c < 128) (hg : g < 8) (hh : h < 4096) (e : g = 0 ∧ h = 0) (a b cc d : Nat) (ha : a ≤ 31) (hb : b ≤ 0) (hcc : cc ≤ 0) (hd : d ≤ 0) (V : Nat) (hV : V < 1048576) (x : Nat) (hx : x = W + (a * 128 + b * 32768 + cc * 1048576 + d * 1048576) + V * 4096) :
    x < 4294967296 ∧ x / 128 % 32 = a ∧ x / 32768 % 32 = V / 8 % 32 ∧ x / 1048576 = V / 256 ∧ x / 33554432 = (V / 256) / 32 ∧ x / 67108864 = (V / 256) / 64 ∧ x / 2147483648 = (V / 256) / 2048 ∧ x / 2097152 = (V / 256) / 2 ∧ x / 256 % 16 = (a) / 2 ∧ x / 128 % 2 = (a) % 2 ∧ x / 4096 % 256 = V % 8 + V / 8 % 32 * 8 ∧ x / 4096 = V % 8 + V / 8 % 32 * 8 + (V / 256) * 256 :=
  digits c (a) (V % 8) (V / 8 % 32) (V / 256) x hc (by omega) (by omega) (by omega) (by omega) (by omega)
theorem dig_2 (W c g h : Nat) (hW : W = c + g * 4096 + h * 1048576) (hc : c < 128) (hg : g < 8) (hh : h < 4096) (e : g = 0 ∧ h = 0) (a b cc d : Nat) (ha : a ≤ 31) (hb : b ≤ 0) (hcc : cc ≤ 0) (hd : d ≤ 0) (p q r s : Nat) (bp : p < 2) (bq : q < 1024) (br : r < 2) (bs : s < 256) (x : Nat) (hx : x = W + (a * 128 + b * 32768 + cc * 1048576 + d * 1048576) + (p * 2147483648 + q * 2097152 + r * 1048576 + s * 4096)) :
    x < 4294967296 ∧ x / 128 % 32 = a ∧ x / 32768 % 32 = s / 8 ∧ x / 1048576 = p * 2048 + q * 2 + r ∧ x / 33554432 = (p * 2048 + q * 2 + r) / 32 ∧ x / 67108864 = (p * 2048 + q * 2 + r) / 64 ∧ x / 2147483648 = (p * 2048 + q * 2 + r) / 2048 ∧ x / 2097152 = (p * 2048 + q * 2 + r) / 2 ∧ x / 256 % 16 = (a) / 2 ∧ x / 128 % 2 = (a) % 2 ∧ x / 4096 % 256 = s % 8 + s / 8 * 8 ∧ x / 4096 = s % 8 + s / 8 * 8 + (p * 2048 + q * 2 + r) * 256 :=
  digits c (a) (s % 8) (s / 8) (p * 2048 + q * 2 + r) x hc (by omega) (by omega) (by omega) (by omega) (by omega)
theorem dig_3 (W c g h : Nat) (hW : W = c + g * 4096 + h * 1048576) (hc : c < 128) (hg : g < 8) (hh : h < 4096) (e : h = 0) (a b cc d : Nat) (ha : a ≤ 31) (hb : b ≤ 31) (hcc : cc ≤ 0) (hd : d ≤ 0) (V : Nat) (hV : V < 4096) (x : Nat) (hx : x = W + (a * 128 + b * 32768 + cc * 1048576 + d * 1048576) + V * 1048576) :
    x < 4294967296 ∧ x / 128 % 32 = a ∧ x / 32768 % 32 = b ∧ x / 1048576 = V ∧ x / 33554432 = (V) / 32 ∧ x / 67108864 = (V) / 64 ∧ x / 2147483648 = (V) / 2048 ∧ x / 2097152 = (V) / 2 ∧ x / 256 % 16 = (a) / 2 ∧ x / 128 % 2 = (a) % 2 ∧ x / 4096 % 256 = g + b * 8 ∧ x / 4096 = g + b * 8 + (V) * 256 :=
  digits c (a) (g) (b) (V) x hc (by omega) (by omega) (by omega) (by omega) (by omega)
theorem dig_4 (W c g h : Nat) (hW : W = c + g * 4096 + h * 1048576) (hc : c < 128) (hg : g < 8) (hh : h < 4096) (e : h = 0) (a b cc d : Nat) (ha : a ≤ 31) (hb : b ≤ 31) (hcc : cc ≤ 0) (hd : d ≤ 0) (V : Nat) (hV : V < 4096) (x : Nat) (hx : x = W + (a * 128 + b * 32768 + cc * 1048576 + d * 1048576) + V * 1048576) :
    x < 4294967296 ∧ x / 128 % 32 = a ∧ x / 32768 % 32 = b ∧ x / 1048576 = V ∧ x / 33554432 = (V) / 32 ∧ x / 67108864 = (V) / 64 ∧ x / 2147483648 = (V) / 2048 ∧ x / 2097152 = (V) / 2 ∧ x / 256 % 16 = (a) / 2 ∧ x / 128 % 2 = (a) % 2 ∧ x / 4096 % 256 = g + b * 8 ∧ x / 4096 = g + b * 8 + (V) * 256 :=
  digits c (a) (g) (b) (V) x hc (by omega) (by omega) (by omega) (by omega) (by omega)
theorem dig_5 (W c g h : Nat) (hW : W = c + g * 4096 + h * 1048576) (hc : c < 128) (hg : g < 8) (hh : h < 4096) (e : h = 0) (a b cc d : Nat) (ha : a ≤ 0) (hb : b ≤ 31) (hcc : cc ≤ 31) (hd : d ≤ 0) (p q r s : Nat) (bp : p < 2) (bq : q < 64) (br : r < 16) (bs : s < 2) (x : Nat) (hx : x = W + (a * 128 + b * 32768 + cc * 1048576 + d * 1048576) + (p * 2147483648 + q * 33554432 + r * 256 + s * 128)) :
    x < 4294967296 ∧ x / 128 % 32 = r * 2 + s ∧ x / 32768 % 32 = b ∧ x / 1048576 = p * 2048 + q * 32 + cc ∧ x / 33554432 = (p * 2048 + q * 32 + cc) / 32 ∧ x / 67108864 = (p * 2048 + q * 32 + cc) / 64 ∧ x / 2147483648 = (p * 2048 + q * 32 + cc) / 2048 ∧ x / 2097152 = (p * 2048 + q * 32 + cc) / 2 ∧ x / 256 % 16 = (r * 2 + s) / 2 ∧ x / 128 % 2 = (r * 2 + s) % 2 ∧ x / 4096 % 256 = g + b * 8 ∧ x / 4096 = g + b * 8 + (p * 2048 + q * 32 + cc) * 256 :=
  digits c (r * 2 + s) (g) (b) (p * 2048 + q * 32 + cc) x hc (by omega) (by omega) (by omega) (by omega) (by omega)
theorem dig_6 (W c g h : Nat) (hW : W = c + g * 4096 + h * 1048576) (hc : c < 128) (hg : g < 8) (hh : h < 4096) (e : h = 0) (a b cc d : Nat) (ha : a ≤ 0) (hb : b ≤ 31) (hcc : cc ≤ 31) (hd : d ≤ 0) (p q : Nat) (bp : p < 128) (bq : q < 32) (x : Nat) (hx : x = W + (a * 128 + b * 32768 + cc * 1048576 + d * 1048576) + (p * 33554432 + q * 128)) :
    x < 4294967296 ∧ x / 128 % 32 = q ∧ x / 32768 % 32 = b ∧ x / 1048576 = p * 32 + cc ∧ x / 33554432 = (p * 32 + cc) / 32 ∧ x / 67108864 = (p * 32 + cc) / 64 ∧ x / 2147483648 = (p * 32 + cc) / 2048 ∧ x / 2097152 = (p * 32 + cc) / 2 ∧ x / 256 % 16 = (q) / 2 ∧ x / 128 % 2 = (q) % 2 ∧ x / 4096 % 256 = g + b * 8 ∧ x / 4096 = g + b * 8 + (p * 32 + cc) * 256 :=
  digits c (q) (g) (b) (p * 32 + cc) x hc (by omega) (by omega) (by omega) (by omega) (by omega)
theorem dig_7 (W c g h : Nat) (hW : W = c + g * 4096 + h * 1048576) (hc : c < 128) (hg : g < 8) (hh : h < 4096) (e : h % 64 = 0) (a b cc d : Nat) (ha : a ≤ 31) (hb : b ≤ 31) (hcc : cc ≤ 0) (hd : d ≤ 0) (V : Nat) (hV : V < 64) (x : Nat) (hx : x = W + (a * 128 + b * 32768 + cc * 1048576 + d * 1048576) + V * 1048576) :
    x < 4294967296 ∧ x / 128 % 32 = a ∧ x / 32768 % 32 = b ∧ x / 1048576 = h + V ∧ x / 33554432 = (h + V) / 32 ∧ x / 67108864 = (h + V) / 64 ∧ x / 2147483648 = (h + V) / 2048 ∧ x / 2097152 = (h + V) / 2 ∧ x / 256 % 16 = (a) / 2 ∧ x / 128 % 2 = (a) % 2 ∧ x / 4096 % 256 = g + b * 8 ∧ x / 4096 = g + b * 8 + (h + V) * 256 :=
  digits c (a) (g) (b) (h + V) x hc (by omega) (by omega) (by omega) (by omega) (by omega)
theorem dig_8 (W c g h : Nat) (hW : W = c + g * 4096 + h * 1048576) (hc : c < 128) (hg : g < 8) (hh : h < 4096) (e : h % 32 = 0) (a b cc d : Nat) (ha : a ≤ 31) (hb : b ≤ 31) (hcc : cc ≤ 0) (hd : d ≤ 0) (V : Nat) (hV : V < 32) (x : Nat) (hx : x = W + (a * 128 + b * 32768 + cc * 1048576 + d * 1048576) + V * 1048576) :
    x < 4294967296 ∧ x / 128 % 32 = a ∧ x / 32768 % 32 = b ∧ x / 1048576 = h + V ∧ x / 33554432 = (h + V) / 32 ∧ x / 67108864 = (h + V) / 64 ∧ x / 2147483648 = (h + V) / 2048 ∧ x / 2097152 = (h + V) / 2 ∧ x / 256 % 16 = (a) / 2 ∧ x / 128 % 2 = (a) % 2 ∧ x / 4096 % 256 = g + b * 8 ∧ x / 4096 = g + b * 8 + (h + V) * 256 :=
  digits c (a) (g) (b) (h + V) x hc (by omega) (by omega) (by omega) (by omega) (by omega)
theorem dig_9 (W c g h : Nat) (hW : W = c + g * 4096 + h * 1048576) (hc : c < 128) (hg : g < 8) (hh : h < 4096) (e : h % 32 = 0) (a b cc d : Nat) (ha : a ≤ 31) (hb : b ≤ 31) (hcc : cc ≤ 31) (hd : d ≤ 0)  (x : Nat) (hx : x = W + (a * 128 + b * 32768 + cc * 1048576 + d * 1048576)) :
    x < 4294967296 ∧ x / 128 % 32 = a ∧ x / 32768 % 32 = b ∧ x / 1048576 = h + cc ∧ x / 33554432 = (h + cc) / 32 ∧ x / 67108864 = (h + cc) / 64 ∧ x / 2147483648 = (h + cc) / 2048 ∧ x / 2097152 = (h + cc) / 2 ∧ x / 256 % 16 = (a) / 2 ∧ x / 128 % 2 = (a) % 2 ∧ x / 4096 % 256 = g + b * 8 ∧ x / 4096 = g + b * 8 + (h + cc) * 256 :=
  digits c (a) (g) (b) (h + cc) x hc (by omega) (by omega) (by omega) (by omega) (by omega)
theorem dig_10 (W c g h : Nat) (hW : W = c + g * 4096 + h * 1048576) (hc : c < 128) (hg : g < 8) (hh : h < 4096) (e : h = 0) (a b cc d : Nat) (ha : a ≤ 31) (hb : b ≤ 31) (hcc : cc ≤ 0) (hd : d ≤ 0) (V : Nat) (hV : V < 4096) (x : Nat) (hx : x = W + (a * 128 + b * 32768 + cc * 1048576 + d * 1048576) + V * 1048576) :
    x < 4294967296 ∧ x / 128 % 32 = a ∧ x / 32768 % 32 = b ∧ x / 1048576 = V ∧ x / 33554432 = (V) / 32 ∧ x / 67108864 = (V) / 64 ∧ x / 2147483648 = (V) / 2048 ∧ x / 2097152 = (V) / 2 ∧ x / 256 % 16 = (a) / 2 ∧ x / 128 % 2 = (a) % 2 ∧ x / 4096 % 256 = g + b * 8 ∧ x / 4096 = g + b * 8 + (V) * 256 :=
  digits c (a) (g) (b) (V) x hc (by omega) (by omega) (by omega) (by omega) (by omega)
theorem dig_11 (W c g h : Nat) (hW : W = c + g * 4096 + h * 1048576) (hc : c < 128) (hg : g < 8) (hh : h < 4096) (e : True) (a b cc d : Nat) (ha : a ≤ 0) (hb : b ≤ 0) (hcc : cc ≤ 0) (hd : d ≤ 0)  (x : Nat) (hx : x = W + (a * 128 + b * 32768 + cc * 1048576 + d * 1048576)) :
    x < 4294967296 ∧ x / 128 % 32 = 0 ∧ x / 32768 % 32 = 0 ∧ x / 1048576 = h ∧ x / 33554432 = (h) / 32 ∧ x / 67108864 = (h) / 64 ∧ x / 2147483648 = (h) / 2048 ∧ x / 2097152 = (h) / 2 ∧ x / 256 % 16 = (0) / 2 ∧ x / 128 % 2 = (0) % 2 ∧ x / 4096 % 256 = g + 0 * 8 ∧ x / 4096 = g + 0 * 8 + (h) * 256 :=
  digits c (0) (g) (0) (h) x hc (by omega) (by omega) (by omega) (by omega) (by omega)
theorem dig_12 (W c g h : Nat) (hW : W = c + g * 4096 + h * 1048576) (hc : c < 128) (hg : g < 8) (hh : h < 4096) (e : h = 0) (a b cc d : Nat) (ha : a ≤ 31) (hb : b ≤ 31) (hcc : cc ≤ 0) (hd : d ≤ 4095)  (x : Nat) (hx : x = W + (a * 128 + b * 32768 + cc * 1048576 + d * 1048576)) :
    x < 4294967296 ∧ x / 128 % 32 = a ∧ x / 32768 % 32 = b ∧ x / 1048576 = d ∧ x / 33554432 = (d) / 32 ∧ x / 67108864 = (d) / 64 ∧ x / 2147483648 = (d) / 2048 ∧ x / 2097152 = (d) / 2 ∧ x / 256 % 16 = (a) / 2 ∧ x / 128 % 2 = (a) % 2 ∧ x / 4096 % 256 = g + b * 8 ∧ x / 4096 = g + b * 8 + (d) * 256 :=
  digits c (a) (g) (b) (d) x hc (by omega) (by omega) (by omega) (by omega) (by omega)
theorem dig_13 (W c g h : Nat) (hW : W = c + g * 4096 + h * 1048576) (hc : c < 128) (hg : g < 8) (hh : h < 4096) (e : h = 0) (a b cc d : Nat) (ha : a ≤ 31) (hb : b ≤ 0) (hcc : cc ≤ 0) (hd : d ≤ 4095) (V : Nat) (hV : V < 32) (x : Nat) (hx : x = W + (a * 128 + b * 32768 + cc * 1048576 + d * 1048576) + V * 32768) :
    x < 4294967296 ∧ x / 128 % 32 = a ∧ x / 32768 % 32 = V ∧ x / 1048576 = d ∧ x / 33554432 = (d) / 32 ∧ x / 67108864 = (d) / 64 ∧ x / 2147483648 = (d) / 2048 ∧ x / 2097152 = (d) / 2 ∧ x / 256 % 16 = (a) / 2 ∧ x / 128 % 2 = (a) % 2 ∧ x / 4096 % 256 = g + V * 8 ∧ x / 4096 = g + V * 8 + (d) * 256 :=
  digits c (a) (g) (V) (d) x hc (by omega) (by omega) (by omega) (by omega) (by omega)
theorem dig_14 (W c g h : Nat) (hW : W = c + g * 4096 + h * 1048576) (hc : c < 128) (hg : g < 8) (hh : h < 4096) (e : h % 128 = 0) (a b cc d : Nat) (ha : a ≤ 31) (hb : b ≤ 31) (hcc : cc ≤ 0) (hd : d ≤ 0) (AQ RL : Nat) (bA : AQ = 0 ∨ AQ = 64) (bR : RL = 0 ∨ RL = 32) (x : Nat) (hx : x = W + (a * 128 + b * 32768 + cc * 1048576 + d * 1048576 + AQ * 1048576 + RL * 1048576)) :
    x < 4294967296 ∧ x / 128 % 32 = a ∧ x / 32768 % 32 = b ∧ x / 1048576 = h + AQ + RL + cc ∧ x / 33554432 = (h + AQ + RL + cc) / 32 ∧ x / 67108864 = (h + AQ + RL + cc) / 64 ∧ x / 2147483648 = (h + AQ + RL + cc) / 2048 ∧ x / 2097152 = (h + AQ + RL + cc) / 2 ∧ x / 256 % 16 = (a) / 2 ∧ x / 128 % 2 = (a) % 2 ∧ x / 4096 % 256 = g + b * 8 ∧ x / 4096 = g + b * 8 + (h + AQ + RL + cc) * 256 :=
  digits c (a) (g) (b) (h + AQ + RL + cc) x hc (by omega) (by omega) (by omega) (by omega) (by omega)
theorem dig_15 (W c g h : Nat) (hW : W = c + g * 4096 + h * 1048576) (hc : c < 128) (hg : g < 8) (hh : h < 4096) (e : h % 128 = 0) (a b cc d : Nat) (ha : a ≤ 31) (hb : b ≤ 31) (hcc : cc ≤ 31) (hd : d ≤ 0) (AQ RL : Nat) (bA : AQ = 0 ∨ AQ = 64) (bR : RL = 0 ∨ RL = 32) (x : Nat) (hx : x = W + (a * 128 + b * 32768 + cc * 1048576 + d * 1048576 + AQ * 1048576 + RL * 1048576)) :
    x < 4294967296 ∧ x / 128 % 32 = a ∧ x / 32768 % 32 = b ∧ x / 1048576 = h + AQ + RL + cc ∧ x / 33554432 = (h + AQ + RL + cc) / 32 ∧ x / 67108864 = (h + AQ + RL + cc) / 64 ∧ x / 2147483648 = (h + AQ + RL + cc) / 2048 ∧ x / 2097152 = (h + AQ + RL + cc) / 2 ∧ x / 256 % 16 = (a) / 2 ∧ x / 128 % 2 = (a) % 2 ∧ x / 4096 % 256 = g + b * 8 ∧ x / 4096 = g + b * 8 + (h + AQ + RL + cc) * 256 :=
  digits c (a) (g) (b) (h + AQ + RL + cc) x hc (by omega) (by omega) (by omega) (by omega) (by omega)
theorem dig_16 (W c g h : Nat) (hW : W = c + g * 4096 + h * 1048576) (hc : c < 128) (hg : g < 8) (hh : h < 4096) (e : h % 32 = 0) (a b cc d : Nat) (ha : a ≤ 0) (hb : b ≤ 31) (hcc : cc ≤ 31) (hd : d ≤ 0)  (x : Nat) (hx : x = W + (a * 128 + b * 32768 + cc * 1048576 + d * 1048576)) :
    x < 4294967296 ∧ x / 128 % 32 = 0 ∧ x / 32768 % 32 = b ∧ x / 1048576 = h + cc ∧ x / 33554432 = (h + cc) / 32 ∧ x / 67108864 = (h + cc) / 64 ∧ x / 2147483648 = (h + cc) / 2048 ∧ x / 2097152 = (h + cc) / 2 ∧ x / 256 % 16 = (0) / 2 ∧ x / 128 % 2 = (0) % 2 ∧ x / 4096 % 256 = g + b * 8 ∧ x / 4096 = g + b * 8 + (h + cc) * 256 :=
  digits c (0) (g) (b) (h + cc) x hc (by omega) (by omega) (by omega) (by omega) (by omega)
end Go.Proofs.YtooaafbdjnlmfaaGreatDoor

namespace Go.Proofs.YtooaafbdjnlmfaaGreatDoor
open Go.RowKit
set_option linter.unusedVariables false
set_option linter.unusedSimpArgs false
theorem add_none (n : Nat) : n + (if false = true then 67108864 else 0) + (if false = true then 33554432 else 0) = n := by simp
theorem plain_parts (a b c d : Nat) : partsS a b c d false false = a * 128 + b * 32768 + c * 1048576 + d * 1048576 := by
  unfold partsS
  exact add_none _
theorem combine {W P P' I I' : Nat} (hP : P = P') (hI : I = I') : W + P + I = W + P' + I' := by rw [hP, hI]
theorem combine0 {W P P' I : Nat} (hP : P = P') (hI : I = 0) : W + P + I = W + P' := by rw [hP, hI, Nat.add_zero]
theorem order_aq (aq : Bool) : (if aq then 67108864 else 0 : Nat) = (if aq then 64 else 0) * 1048576 := by cases aq <;> rfl
theorem order_rl (rl : Bool) : (if rl then 33554432 else 0 : Nat) = (if rl then 32 else 0) * 1048576 := by cases rl <;> rfl
theorem order_parts (a b c d : Nat) (aq rl : Bool) : partsS a b c d aq rl = a * 128 + b * 32768 + c * 1048576 + d * 1048576 + (if aq then 64 else 0) * 1048576 + (if rl then 32 else 0) * 1048576 := by
  unfold partsS
  rw [order_aq, order_rl]
theorem val1 (U V : Nat) (imm : Int) (hU : (U : Int) = imm % 18446744073709551616) (h0 : -2147483648 ≤ imm) (h1 : imm ≤ 2147479552) (hV : V * 4096 = U % 4294967296) : (if V * 4096 / 2147483648 % 2 = 1 then ((V * 4096 % 4294967296 : Nat) : Int) - 4294967296 else ((V * 4096 % 4294967296 : Nat) : Int)) = imm := by
  rw [hV]
  split <;> omega
theorem val2 (U y : Nat) (imm : Int) (hU : (U : Int) = imm % 18446744073709551616) (h0 : -1048576 ≤ imm) (h1 : imm ≤ 1048574) (hy : y = U % 2097152) : (if y / 1048576 % 2 = 1 then ((y % 2097152 : Nat) : Int) - 2097152 else ((y % 2097152 : Nat) : Int)) = imm := by
  rw [hy]
  split <;> omega
theorem val3 (U y : Nat) (imm : Int) (hU : (U : Int) = imm % 18446744073709551616) (h0 : -2048 ≤ imm) (h1 : imm ≤ 2047) (hy : y = U % 4096) : (if y / 2048 % 2 = 1 then ((y % 4096 : Nat) : Int) - 4096 else ((y % 4096 : Nat) : Int)) = imm := by
  rw [hy]
  split <;> omega
theorem val5 (U y : Nat) (imm : Int) (hU : (U : Int) = imm % 18446744073709551616) (h0 : -4096 ≤ imm) (h1 : imm ≤ 4094) (hy : y = U % 8192) : (if y / 4096 % 2 = 1 then ((y % 8192 : Nat) : Int) - 8192 else ((y % 8192 : Nat) : Int)) = imm := by
  rw [hy]
  split <;> omega
theorem fin2 (p q r s : Nat) (hp : p < 2) (hq : q < 1024) (hr : r < 2) : (p * 2048 + q * 2 + r) / 2048 % 2 * 1048576 + (p * 2048 + q * 2 + r) / 2 % 1024 * 2 + (p * 2048 + q * 2 + r) % 2 * 2048 + (s % 8 + s / 8 * 8) * 4096 = p * 1048576 + q * 2 + r * 2048 + s * 4096 := by
  rw [show (p * 2048 + q * 2 + r) / 2048 % 2 = p by omega, show (p * 2048 + q * 2 + r) / 2 % 1024 = q by omega, show (p * 2048 + q * 2 + r) % 2 = r by omega, show s % 8 + s / 8 * 8 = s by omega]
theorem fin5 (p q r s cc : Nat) (hp : p < 2) (hq : q < 64) (hs : s < 2) (hc : cc < 32) : (p * 2048 + q * 32 + cc) / 2048 % 2 * 4096 + (p * 2048 + q * 32 + cc) / 32 % 64 * 32 + (r * 2 + s) / 2 * 2 + (r * 2 + s) % 2 * 2048 = p * 4096 + q * 32 + r * 2 + s * 2048 := by
  rw [show (p * 2048 + q * 32 + cc) / 2048 % 2 = p by omega, show (p * 2048 + q * 32 + cc) / 32 % 64 = q by omega, show (r * 2 + s) / 2 = r by omega, show (r * 2 + s) % 2 = s by omega]
theorem fin6 (p q cc : Nat) (hp : p < 128) (hc : cc < 32) : (p * 32 + cc) / 32 % 128 * 32 + q = p * 32 + q := by
  rw [show (p * 32 + cc) / 32 % 128 = p by omega]
theorem cc6 (p cc : Nat) (h : cc ≤ 31) : (p * 32 + cc) % 32 = cc := by omega
theorem bits2 (U : Nat) (h : U % 2 = 0) : U / 1048576 % 2 * 1048576 + U / 2 % 1024 * 2 + U / 2048 % 2 * 2048 + U / 4096 % 256 * 4096 = U % 2097152 := by omega
theorem bits5 (U : Nat) (h : U % 2 = 0) : U / 4096 % 2 * 4096 + U / 32 % 64 * 32 + U / 2 % 16 * 2 + U / 2048 % 2 * 2048 = U % 8192 := by omega
theorem bits6 (U : Nat) : U / 32 % 128 * 32 + U % 32 = U % 4096 := by omega
theorem immP_1 (U : Nat) (imm : Int) (hU : (U : Int) = imm % 18446744073709551616) (h0 : -2147483648 ≤ imm) (h1 : imm ≤ 2147479552) (h2 : imm % 4096 = 0) : immP 1 U = (U % 4294967296 / 4096) * 4096 := by
  simp only [immP]
  omega
theorem dec_1 (W c g h : Nat) (hW : W = c + g * 4096 + h * 1048576) (hc : c < 128) (hg : g < 8) (hh : h < 4096) (e : g = 0 ∧ h = 0) (a b cc d : Nat) (aq rl : Bool) (ha : a ≤ 31) (hb : b ≤ 0) (hcc : cc ≤ 0) (hd : d ≤ 0) (ho : aq = false ∧ rl = false) (imm : Int) (U : Nat) (hU : (U : Int) = imm % 18446744073709551616) (h0 : -2147483648 ≤ imm) (h1 : imm ≤ 2147479552) (h2 : imm % 4096 = 0) (x : Nat) (hx : x = W + partsS a b cc d aq rl + immP 1 U) :
    x < 4294967296 ∧ dP 1 1 128 32 x = a ∧ dP 1 2 32768 32 x = b ∧ dP 1 4 1048576 32 x = cc ∧ dP 1 8 1048576 4096 x = d ∧ dB 1 67108864 x = aq ∧ dB 1 33554432 x = rl ∧ immD 1 x = imm := by
  obtain ⟨rfl, rfl⟩ := ho
  replace hx := hx.trans (combine (plain_parts a b cc d) (immP_1 U imm hU h0 h1 h2))
  obtain ⟨d0, d1, d2, d3, d4, d5, d6, d7, d8, d9, d10, d11⟩ := dig_1 W c g h hW hc hg hh e a b cc d ha hb hcc hd (U % 4294967296 / 4096) (by omega) x hx
  clear hx hW
  unfold dP dB
  rw [show partsT.getD 1 0 = 1 from by decide]
  rw [if_neg (show ¬ (1 &&& 1 = 0) by decide), if_pos (show 1 &&& 2 = 0 by decide), if_pos (show 1 &&& 4 = 0 by decide), if_pos (show 1 &&& 8 = 0 by decide)]
  rw [immD_1 x]
  rw [decide_eq_false (show ¬ (1 &&& 16 ≠ 0) by decide), Bool.false_and, Bool.false_and]
  refine ⟨d0, d1, (Nat.le_zero.1 hb).symm, (Nat.le_zero.1 hcc).symm, (Nat.le_zero.1 hd).symm, rfl, rfl, ?_⟩
  rw [sext32, d11, show (U % 4294967296 / 4096) % 8 + (U % 4294967296 / 4096) / 8 % 32 * 8 + (U % 4294967296 / 4096) / 256 * 256 = U % 4294967296 / 4096 by omega]
  exact val1 U _ imm hU h0 h1 (by omega)
theorem immP_2 (U : Nat) (imm : Int) (hU : (U : Int) = imm % 18446744073709551616) (h0 : -1048576 ≤ imm) (h1 : imm ≤ 1048574) (h2 : imm % 2 = 0) : immP 2 U = ((U / 1048576 % 2) * 2147483648 + (U / 2 % 1024) * 2097152 + (U / 2048 % 2) * 1048576 + (U / 4096 % 256) * 4096) := by
  simp only [immP]
  simp [getI, Nat.div_one]
theorem dec_2 (W c g h : Nat) (hW : W = c + g * 4096 + h * 1048576) (hc : c < 128) (hg : g < 8) (hh : h < 4096) (e : g = 0 ∧ h = 0) (a b cc d : Nat) (aq rl : Bool) (ha : a ≤ 31) (hb : b ≤ 0) (hcc : cc ≤ 0) (hd : d ≤ 0) (ho : aq = false ∧ rl = false) (imm : Int) (U : Nat) (hU : (U : Int) = imm % 18446744073709551616) (h0 : -1048576 ≤ imm) (h1 : imm ≤ 1048574) (h2 : imm % 2 = 0) (x : Nat) (hx : x = W + partsS a b cc d aq rl + immP 2 U) :
    x < 4294967296 ∧ dP 2 1 128 32 x = a ∧ dP 2 2 32768 32 x = b ∧ dP 2 4 1048576 32 x = cc ∧ dP 2 8 1048576 4096 x = d ∧ dB 2 67108864 x = aq ∧ dB 2 33554432 x = rl ∧ immD 2 x = imm := by
  obtain ⟨rfl, rfl⟩ := ho
  replace hx := hx.trans (combine (plain_parts a b cc d) (immP_2 U imm hU h0 h1 h2))
  obtain ⟨d0, d1, d2, d3, d4, d5, d6, d7, d8, d9, d10, d11⟩ := dig_2 W c g h hW hc hg hh e a b cc d ha hb hcc hd (U / 1048576 % 2) (U / 2 % 1024) (U / 2048 % 2) (U / 4096 % 256) (by omega) (by omega) (by omega) (by omega) x hx
  clear hx hW
  unfold dP dB
  rw [show partsT.getD 2 0 = 1 from by decide]
  rw [if_neg (show ¬ (1 &&& 1 = 0) by decide), if_pos (show 1 &&& 2 = 0 by decide), if_pos (show 1 &&& 4 = 0 by decide), if_pos (show 1 &&& 8 = 0 by decide)]
  rw [immD_2 x]
  rw [decide_eq_false (show ¬ (1 &&& 16 ≠ 0) by decide), Bool.false_and, Bool.false_and]
  refine ⟨d0, d1, (Nat.le_zero.1 hb).symm, (Nat.le_zero.1 hcc).symm, (Nat.le_zero.1 hd).symm, rfl, rfl, ?_⟩
  rw [sext21, (getI_num x).1, (getI_num x).2.1, (getI_num x).2.2.1, (getI_num x).2.2.2.1, d6, d7, d3, d10]
  exact val2 U _ imm hU h0 h1 ((fin2 _ _ _ _ (Nat.mod_lt _ (by decide)) (Nat.mod_lt _ (by decide)) (Nat.mod_lt _ (by decide))).trans (bits2 U (by omega)))
theorem immP_3 (U : Nat) (imm : Int) (hU : (U : Int) = imm % 18446744073709551616) (h0 : -2048 ≤ imm) (h1 : imm ≤ 2047) (h2 : imm % 1 = 0) : immP 3 U = (U % 4096) * 1048576 := by
  simp only [immP]
  omega
theorem dec_3 (W c g h : Nat) (hW : W = c + g * 4096 + h * 1048576) (hc : c < 128) (hg : g < 8) (hh : h < 4096) (e : h = 0) (a b cc d : Nat) (aq rl : Bool) (ha : a ≤ 31) (hb : b ≤ 31) (hcc : cc ≤ 0) (hd : d ≤ 0) (ho : aq = false ∧ rl = false) (imm : Int) (U : Nat) (hU : (U : Int) = imm % 18446744073709551616) (h0 : -2048 ≤ imm) (h1 : imm ≤ 2047) (h2 : imm % 1 = 0) (x : Nat) (hx : x = W + partsS a b cc d aq rl + immP 3 U) :
    x < 4294967296 ∧ dP 3 1 128 32 x = a ∧ dP 3 2 32768 32 x = b ∧ dP 3 4 1048576 32 x = cc ∧ dP 3 8 1048576 4096 x = d ∧ dB 3 67108864 x = aq ∧ dB 3 33554432 x = rl ∧ immD 3 x = imm := by
  obtain ⟨rfl, rfl⟩ := ho
  replace hx := hx.trans (combine (plain_parts a b cc d) (immP_3 U imm hU h0 h1 h2))
  obtain ⟨d0, d1, d2, d3, d4, d5, d6, d7, d8, d9, d10, d11⟩ := dig_3 W c g h hW hc hg hh e a b cc d ha hb hcc hd (U % 4096) (by omega) x hx
  clear hx hW
  unfold dP dB
  rw [show partsT.getD 3 0 = 3 from by decide]
  rw [if_neg (show ¬ (3 &&& 1 = 0) by decide), if_neg (show ¬ (3 &&& 2 = 0) by decide), if_pos (show 3 &&& 4 = 0 by decide), if_pos (show 3 &&& 8 = 0 by decide)]
  rw [immD_3 x]
  rw [decide_eq_false (show ¬ (3 &&& 16 ≠ 0) by decide), Bool.false_and, Bool.false_and]
  refine ⟨d0, d1, d2, (Nat.le_zero.1 hcc).symm, (Nat.le_zero.1 hd).symm, rfl, rfl, ?_⟩
  rw [sext12, (getI_num x).2.2.2.2.1, d3]
  exact val3 U _ imm hU h0 h1 (by omega)
theorem immP_4 (U : Nat) (imm : Int) (hU : (U : Int) = imm % 18446744073709551616) (h0 : -2048 ≤ imm) (h1 : imm ≤ 2047) (h2 : imm % 1 = 0) : immP 4 U = (U % 4096) * 1048576 := by
  simp only [immP]
  omega
theorem dec_4 (W c g h : Nat) (hW : W = c + g * 4096 + h * 1048576) (hc : c < 128) (hg : g < 8) (hh : h < 4096) (e : h = 0) (a b cc d : Nat) (aq rl : Bool) (ha : a ≤ 31) (hb : b ≤ 31) (hcc : cc ≤ 0) (hd : d ≤ 0) (ho : aq = false ∧ rl = false) (imm : Int) (U : Nat) (hU : (U : Int) = imm % 18446744073709551616) (h0 : -2048 ≤ imm) (h1 : imm ≤ 2047) (h2 : imm % 1 = 0) (x : Nat) (hx : x = W + partsS a b cc d aq rl + immP 4 U) :
    x < 4294967296 ∧ dP 4 1 128 32 x = a ∧ dP 4 2 32768 32 x = b ∧ dP 4 4 1048576 32 x = cc ∧ dP 4 8 1048576 4096 x = d ∧ dB 4 67108864 x = aq ∧ dB 4 33554432 x = rl ∧ immD 4 x = imm := by
  obtain ⟨rfl, rfl⟩ := ho
  replace hx := hx.trans (combine (plain_parts a b cc d) (immP_4 U imm hU h0 h1 h2))
  obtain ⟨d0, d1, d2, d3, d4, d5, d6, d7, d8, d9, d10, d11⟩ := dig_4 W c g h hW hc hg hh e a b cc d ha hb hcc hd (U % 4096) (by omega) x hx
  clear hx hW
  unfold dP dB
  rw [show partsT.getD 4 0 = 3 from by decide]
  rw [if_neg (show ¬ (3 &&& 1 = 0) by decide), if_neg (show ¬ (3 &&& 2 = 0) by decide), if_pos (show 3 &&& 4 = 0 by decide), if_pos (show 3 &&& 8 = 0 by decide)]
  rw [immD_4 x]
  rw [decide_eq_false (show ¬ (3 &&& 16 ≠ 0) by decide), Bool.false_and, Bool.false_and]
  refine ⟨d0, d1, d2, (Nat.le_zero.1 hcc).symm, (Nat.le_zero.1 hd).symm, rfl, rfl, ?_⟩
  rw [sext12, (getI_num x).2.2.2.2.1, d3]
  exact val3 U _ imm hU h0 h1 (by omega)
theorem immP_5 (U : Nat) (imm : Int) (hU : (U : Int) = imm % 18446744073709551616) (h0 : -4096 ≤ imm) (h1 : imm ≤ 4094) (h2 : imm % 2 = 0) : immP 5 U = ((U / 4096 % 2) * 2147483648 + (U / 32 % 64) * 33554432 + (U / 2 % 16) * 256 + (U / 2048 % 2) * 128) := by
  simp only [immP]
  simp [getI, Nat.div_one]
theorem dec_5 (W c g h : Nat) (hW : W = c + g * 4096 + h * 1048576) (hc : c < 128) (hg : g < 8) (hh : h < 4096) (e : h = 0) (a b cc d : Nat) (aq rl : Bool) (ha : a ≤ 0) (hb : b ≤ 31) (hcc : cc ≤ 31) (hd : d ≤ 0) (ho : aq = false ∧ rl = false) (imm : Int) (U : Nat) (hU : (U : Int) = imm % 18446744073709551616) (h0 : -4096 ≤ imm) (h1 : imm ≤ 4094) (h2 : imm % 2 = 0) (x : Nat) (hx : x = W + partsS a b cc d aq rl + immP 5 U) :
    x < 4294967296 ∧ dP 5 1 128 32 x = a ∧ dP 5 2 32768 32 x = b ∧ dP 5 4 1048576 32 x = cc ∧ dP 5 8 1048576 4096 x = d ∧ dB 5 67108864 x = aq ∧ dB 5 33554432 x = rl ∧ immD 5 x = imm := by
  obtain ⟨rfl, rfl⟩ := ho
  replace hx := hx.trans (combine (plain_parts a b cc d) (immP_5 U imm hU h0 h1 h2))
  obtain ⟨d0, d1, d2, d3, d4, d5, d6, d7, d8, d9, d10, d11⟩ := dig_5 W c g h hW hc hg hh e a b cc d ha hb hcc hd (U / 4096 % 2) (U / 32 % 64) (U / 2 % 16) (U / 2048 % 2) (by omega) (by omega) (by omega) (by omega) x hx
  clear hx hW
  unfold dP dB
  rw [show partsT.getD 5 0 = 6 from by decide]
  rw [if_pos (show 6 &&& 1 = 0 by decide), if_neg (show ¬ (6 &&& 2 = 0) by decide), if_neg (show ¬ (6 &&& 4 = 0) by decide), if_pos (show 6 &&& 8 = 0 by decide)]
  rw [immD_5 x]
  rw [decide_eq_false (show ¬ (6 &&& 16 ≠ 0) by decide), Bool.false_and, Bool.false_and]
  refine ⟨d0, (Nat.le_zero.1 ha).symm, d2, (by rw [d3]; omega), (Nat.le_zero.1 hd).symm, rfl, rfl, ?_⟩
  rw [sext13, (getI_num x).1, (getI_num x).2.2.2.2.2.1, (getI_num x).2.2.2.2.2.2.1, (getI_num x).2.2.2.2.2.2.2.1, d6, d4, d8, d9]
  exact val5 U _ imm hU h0 h1 ((fin5 _ _ _ _ _ (Nat.mod_lt _ (by decide)) (Nat.mod_lt _ (by decide)) (Nat.mod_lt _ (by decide)) (by omega)).trans (bits5 U (by omega)))
theorem immP_6 (U : Nat) (imm : Int) (hU : (U : Int) = imm % 18446744073709551616) (h0 : -2048 ≤ imm) (h1 : imm ≤ 2047) (h2 : imm % 1 = 0) : immP 6 U = ((U / 32 % 128) * 33554432 + (U % 32) * 128) := by
  simp only [immP]
  simp [getI, Nat.div_one]
theorem dec_6 (W c g h : Nat) (hW : W = c + g * 4096 + h * 1048576) (hc : c < 128) (hg : g < 8) (hh : h < 4096) (e : h = 0) (a b cc d : Nat) (aq rl : Bool) (ha : a ≤ 0) (hb : b ≤ 31) (hcc : cc ≤ 31) (hd : d ≤ 0) (ho : aq = false ∧ rl = false) (imm : Int) (U : Nat) (hU : (U : Int) = imm % 18446744073709551616) (h0 : -2048 ≤ imm) (h1 : imm ≤ 2047) (h2 : imm % 1 = 0) (x : Nat) (hx : x = W + partsS a b cc d aq rl + immP 6 U) :
    x < 4294967296 ∧ dP 6 1 128 32 x = a ∧ dP 6 2 32768 32 x = b ∧ dP 6 4 1048576 32 x = cc ∧ dP 6 8 1048576 4096 x = d ∧ dB 6 67108864 x = aq ∧ dB 6 33554432 x = rl ∧ immD 6 x = imm := by
  obtain ⟨rfl, rfl⟩ := ho
  replace hx := hx.trans (combine (plain_parts a b cc d) (immP_6 U imm hU h0 h1 h2))
  obtain ⟨d0, d1, d2, d3, d4, d5, d6, d7, d8, d9, d10, d11⟩ := dig_6 W c g h hW hc hg hh e a b cc d ha hb hcc hd (U / 32 % 128) (U % 32) (by omega) (by omega) x hx
  clear hx hW
  unfold dP dB
  rw [show partsT.getD 6 0 = 6 from by decide]
  rw [if_pos (show 6 &&& 1 = 0 by decide), if_neg (show ¬ (6 &&& 2 = 0) by decide), if_neg (show ¬ (6 &&& 4 = 0) by decide), if_pos (show 6 &&& 8 = 0 by decide)]
  rw [immD_6 x]
  rw [decide_eq_false (show ¬ (6 &&& 16 ≠ 0) by decide), Bool.false_and, Bool.false_and]
  refine ⟨d0, (Nat.le_zero.1 ha).symm, d2, (by rw [d3]; exact cc6 _ _ hcc), (Nat.le_zero.1 hd).symm, rfl, rfl, ?_⟩
  rw [sext12, (getI_num x).2.2.2.2.2.2.2.2.1, (getI_num x).2.2.2.2.2.2.2.2.2.1, d4, d1]
  exact val3 U _ imm hU h0 h1 ((fin6 _ _ _ (Nat.mod_lt _ (by decide)) (by omega)).trans (bits6 U))
theorem immP_7 (U : Nat) (imm : Int) (hU : (U : Int) = imm % 18446744073709551616) (h0 : 0 ≤ imm) (h1 : imm ≤ 63) (h2 : imm % 1 = 0) : immP 7 U = (U) * 1048576 := by
  simp only [immP]
  omega
theorem dec_7 (W c g h : Nat) (hW : W = c + g * 4096 + h * 1048576) (hc : c < 128) (hg : g < 8) (hh : h < 4096) (e : h % 64 = 0) (a b cc d : Nat) (aq rl : Bool) (ha : a ≤ 31) (hb : b ≤ 31) (hcc : cc ≤ 0) (hd : d ≤ 0) (ho : aq = false ∧ rl = false) (imm : Int) (U : Nat) (hU : (U : Int) = imm % 18446744073709551616) (h0 : 0 ≤ imm) (h1 : imm ≤ 63) (h2 : imm % 1 = 0) (x : Nat) (hx : x = W + partsS a b cc d aq rl + immP 7 U) :
    x < 4294967296 ∧ dP 7 1 128 32 x = a ∧ dP 7 2 32768 32 x = b ∧ dP 7 4 1048576 32 x = cc ∧ dP 7 8 1048576 4096 x = d ∧ dB 7 67108864 x = aq ∧ dB 7 33554432 x = rl ∧ immD 7 x = imm := by
  obtain ⟨rfl, rfl⟩ := ho
  replace hx := hx.trans (combine (plain_parts a b cc d) (immP_7 U imm hU h0 h1 h2))
  obtain ⟨d0, d1, d2, d3, d4, d5, d6, d7, d8, d9, d10, d11⟩ := dig_7 W c g h hW hc hg hh e a b cc d ha hb hcc hd (U) (by omega) x hx
  clear hx hW
  unfold dP dB
  rw [show partsT.getD 7 0 = 3 from by decide]
  rw [if_neg (show ¬ (3 &&& 1 = 0) by decide), if_neg (show ¬ (3 &&& 2 = 0) by decide), if_pos (show 3 &&& 4 = 0 by decide), if_pos (show 3 &&& 8 = 0 by decide)]
  rw [immD_7 x]
  rw [decide_eq_false (show ¬ (3 &&& 16 ≠ 0) by decide), Bool.false_and, Bool.false_and]
  refine ⟨d0, d1, d2, (Nat.le_zero.1 hcc).symm, (Nat.le_zero.1 hd).symm, rfl, rfl, ?_⟩
  rw [(getI_num x).2.2.2.2.2.2.2.2.2.2.1, d3]
  omega
theorem immP_8 (U : Nat) (imm : Int) (hU : (U : Int) = imm % 18446744073709551616) (h0 : 0 ≤ imm) (h1 : imm ≤ 31) (h2 : imm % 1 = 0) : immP 8 U = (U) * 1048576 := by
  simp only [immP]
  omega
theorem dec_8 (W c g h : Nat) (hW : W = c + g * 4096 + h * 1048576) (hc : c < 128) (hg : g < 8) (hh : h < 4096) (e : h % 32 = 0) (a b cc d : Nat) (aq rl : Bool) (ha : a ≤ 31) (hb : b ≤ 31) (hcc : cc ≤ 0) (hd : d ≤ 0) (ho : aq = false ∧ rl = false) (imm : Int) (U : Nat) (hU : (U : Int) = imm % 18446744073709551616) (h0 : 0 ≤ imm) (h1 : imm ≤ 31) (h2 : imm % 1 = 0) (x : Nat) (hx : x = W + partsS a b cc d aq rl + immP 8 U) :
    x < 4294967296 ∧ dP 8 1 128 32 x = a ∧ dP 8 2 32768 32 x = b ∧ dP 8 4 1048576 32 x = cc ∧ dP 8 8 1048576 4096 x = d ∧ dB 8 67108864 x = aq ∧ dB 8 33554432 x = rl ∧ immD 8 x = imm := by
  obtain ⟨rfl, rfl⟩ := ho
  replace hx := hx.trans (combine (plain_parts a b cc d) (immP_8 U imm hU h0 h1 h2))
  obtain ⟨d0, d1, d2, d3, d4, d5, d6, d7, d8, d9, d10, d11⟩ := dig_8 W c g h hW hc hg hh e a b cc d ha hb hcc hd (U) (by omega) x hx
  clear hx hW
  unfold dP dB
  rw [show partsT.getD 8 0 = 3 from by decide]
  rw [if_neg (show ¬ (3 &&& 1 = 0) by decide), if_neg (show ¬ (3 &&& 2 = 0) by decide), if_pos (show 3 &&& 4 = 0 by decide), if_pos (show 3 &&& 8 = 0 by decide)]
  rw [immD_8 x]
  rw [decide_eq_false (show ¬ (3 &&& 16 ≠ 0) by decide), Bool.false_and, Bool.false_and]
  refine ⟨d0, d1, d2, (Nat.le_zero.1 hcc).symm, (Nat.le_zero.1 hd).symm, rfl, rfl, ?_⟩
  rw [(getI_num x).2.2.2.2.2.2.2.2.2.2.2.1, d3]
  omega
theorem immP_9 (U : Nat) (imm : Int) (hU : (U : Int) = imm % 18446744073709551616) (h0 : 0 ≤ imm) (h1 : imm ≤ 0) (h2 : imm % 1 = 0) : immP 9 U = 0 := by
  simp only [immP]
  omega
theorem dec_9 (W c g h : Nat) (hW : W = c + g * 4096 + h * 1048576) (hc : c < 128) (hg : g < 8) (hh : h < 4096) (e : h % 32 = 0) (a b cc d : Nat) (aq rl : Bool) (ha : a ≤ 31) (hb : b ≤ 31) (hcc : cc ≤ 31) (hd : d ≤ 0) (ho : aq = false ∧ rl = false) (imm : Int) (U : Nat) (hU : (U : Int) = imm % 18446744073709551616) (h0 : 0 ≤ imm) (h1 : imm ≤ 0) (h2 : imm % 1 = 0) (x : Nat) (hx : x = W + partsS a b cc d aq rl + immP 9 U) :
    x < 4294967296 ∧ dP 9 1 128 32 x = a ∧ dP 9 2 32768 32 x = b ∧ dP 9 4 1048576 32 x = cc ∧ dP 9 8 1048576 4096 x = d ∧ dB 9 67108864 x = aq ∧ dB 9 33554432 x = rl ∧ immD 9 x = imm := by
  obtain ⟨rfl, rfl⟩ := ho
  replace hx := hx.trans (combine0 (plain_parts a b cc d) (immP_9 U imm hU h0 h1 h2))
  obtain ⟨d0, d1, d2, d3, d4, d5, d6, d7, d8, d9, d10, d11⟩ := dig_9 W c g h hW hc hg hh e a b cc d ha hb hcc hd  x hx
  clear hx hW
  unfold dP dB
  rw [show partsT.getD 9 0 = 7 from by decide]
  rw [if_neg (show ¬ (7 &&& 1 = 0) by decide), if_neg (show ¬ (7 &&& 2 = 0) by decide), if_neg (show ¬ (7 &&& 4 = 0) by decide), if_pos (show 7 &&& 8 = 0 by decide)]
  rw [immD_none 9 x (by decide)]
  rw [decide_eq_false (show ¬ (7 &&& 16 ≠ 0) by decide), Bool.false_and, Bool.false_and]
  refine ⟨d0, d1, d2, (by rw [d3]; omega), (Nat.le_zero.1 hd).symm, rfl, rfl, ?_⟩
  omega
theorem immP_10 (U : Nat) (imm : Int) (hU : (U : Int) = imm % 18446744073709551616) (h0 : 0 ≤ imm) (h1 : imm ≤ 4095) (h2 : imm % 1 = 0) : immP 10 U = (U % 4096) * 1048576 := by
  simp only [immP]
  omega
theorem dec_10 (W c g h : Nat) (hW : W = c + g * 4096 + h * 1048576) (hc : c < 128) (hg : g < 8) (hh : h < 4096) (e : h = 0) (a b cc d : Nat) (aq rl : Bool) (ha : a ≤ 31) (hb : b ≤ 31) (hcc : cc ≤ 0) (hd : d ≤ 0) (ho : aq = false ∧ rl = false) (imm : Int) (U : Nat) (hU : (U : Int) = imm % 18446744073709551616) (h0 : 0 ≤ imm) (h1 : imm ≤ 4095) (h2 : imm % 1 = 0) (x : Nat) (hx : x = W + partsS a b cc d aq rl + immP 10 U) :
    x < 4294967296 ∧ dP 10 1 128 32 x = a ∧ dP 10 2 32768 32 x = b ∧ dP 10 4 1048576 32 x = cc ∧ dP 10 8 1048576 4096 x = d ∧ dB 10 67108864 x = aq ∧ dB 10 33554432 x = rl ∧ immD 10 x = imm := by
  obtain ⟨rfl, rfl⟩ := ho
  replace hx := hx.trans (combine (plain_parts a b cc d) (immP_10 U imm hU h0 h1 h2))
  obtain ⟨d0, d1, d2, d3, d4, d5, d6, d7, d8, d9, d10, d11⟩ := dig_10 W c g h hW hc hg hh e a b cc d ha hb hcc hd (U % 4096) (by omega) x hx
  clear hx hW
  unfold dP dB
  rw [show partsT.getD 10 0 = 3 from by decide]
  rw [if_neg (show ¬ (3 &&& 1 = 0) by decide), if_neg (show ¬ (3 &&& 2 = 0) by decide), if_pos (show 3 &&& 4 = 0 by decide), if_pos (show 3 &&& 8 = 0 by decide)]
  rw [immD_10 x]
  rw [decide_eq_false (show ¬ (3 &&& 16 ≠ 0) by decide), Bool.false_and, Bool.false_and]
  refine ⟨d0, d1, d2, (Nat.le_zero.1 hcc).symm, (Nat.le_zero.1 hd).symm, rfl, rfl, ?_⟩
  rw [(getI_num x).2.2.2.2.1, d3]
  omega
theorem immP_11 (U : Nat) (imm : Int) (hU : (U : Int) = imm % 18446744073709551616) (h0 : 0 ≤ imm) (h1 : imm ≤ 0) (h2 : imm % 1 = 0) : immP 11 U = 0 := by
  simp only [immP]
  omega
theorem dec_11 (W c g h : Nat) (hW : W = c + g * 4096 + h * 1048576) (hc : c < 128) (hg : g < 8) (hh : h < 4096) (e : True) (a b cc d : Nat) (aq rl : Bool) (ha : a ≤ 0) (hb : b ≤ 0) (hcc : cc ≤ 0) (hd : d ≤ 0) (ho : aq = false ∧ rl = false) (imm : Int) (U : Nat) (hU : (U : Int) = imm % 18446744073709551616) (h0 : 0 ≤ imm) (h1 : imm ≤ 0) (h2 : imm % 1 = 0) (x : Nat) (hx : x = W + partsS a b cc d aq rl + immP 11 U) :
    x < 4294967296 ∧ dP 11 1 128 32 x = a ∧ dP 11 2 32768 32 x = b ∧ dP 11 4 1048576 32 x = cc ∧ dP 11 8 1048576 4096 x = d ∧ dB 11 67108864 x = aq ∧ dB 11 33554432 x = rl ∧ immD 11 x = imm := by
  obtain ⟨rfl, rfl⟩ := ho
  replace hx := hx.trans (combine0 (plain_parts a b cc d) (immP_11 U imm hU h0 h1 h2))
  obtain ⟨d0, d1, d2, d3, d4, d5, d6, d7, d8, d9, d10, d11⟩ := dig_11 W c g h hW hc hg hh e a b cc d ha hb hcc hd  x hx
  clear hx hW
  unfold dP dB
  rw [show partsT.getD 11 0 = 0 from by decide]
  rw [if_pos (show 0 &&& 1 = 0 by decide), if_pos (show 0 &&& 2 = 0 by decide), if_pos (show 0 &&& 4 = 0 by decide), if_pos (show 0 &&& 8 = 0 by decide)]
  rw [immD_none 11 x (by decide)]
  rw [decide_eq_false (show ¬ (0 &&& 16 ≠ 0) by decide), Bool.false_and, Bool.false_and]
  refine ⟨d0, (Nat.le_zero.1 ha).symm, (Nat.le_zero.1 hb).symm, (Nat.le_zero.1 hcc).symm, (Nat.le_zero.1 hd).symm, rfl, rfl, ?_⟩
  omega
theorem immP_12 (U : Nat) (imm : Int) (hU : (U : Int) = imm % 18446744073709551616) (h0 : 0 ≤ imm) (h1 : imm ≤ 0) (h2 : imm % 1 = 0) : immP 12 U = 0 := by
  simp only [immP]
  omega
theorem dec_12 (W c g h : Nat) (hW : W = c + g * 4096 + h * 1048576) (hc : c < 128) (hg : g < 8) (hh : h < 4096) (e : h = 0) (a b cc d : Nat) (aq rl : Bool) (ha : a ≤ 31) (hb : b ≤ 31) (hcc : cc ≤ 0) (hd : d ≤ 4095) (ho : aq = false ∧ rl = false) (imm : Int) (U : Nat) (hU : (U : Int) = imm % 18446744073709551616) (h0 : 0 ≤ imm) (h1 : imm ≤ 0) (h2 : imm % 1 = 0) (x : Nat) (hx : x = W + partsS a b cc d aq rl + immP 12 U) :
    x < 4294967296 ∧ dP 12 1 128 32 x = a ∧ dP 12 2 32768 32 x = b ∧ dP 12 4 1048576 32 x = cc ∧ dP 12 8 1048576 4096 x = d ∧ dB 12 67108864 x = aq ∧ dB 12 33554432 x = rl ∧ immD 12 x = imm := by
  obtain ⟨rfl, rfl⟩ := ho
  replace hx := hx.trans (combine0 (plain_parts a b cc d) (immP_12 U imm hU h0 h1 h2))
  obtain ⟨d0, d1, d2, d3, d4, d5, d6, d7, d8, d9, d10, d11⟩ := dig_12 W c g h hW hc hg hh e a b cc d ha hb hcc hd  x hx
  clear hx hW
  unfold dP dB
  rw [show partsT.getD 12 0 = 11 from by decide]
  rw [if_neg (show ¬ (11 &&& 1 = 0) by decide), if_neg (show ¬ (11 &&& 2 = 0) by decide), if_pos (show 11 &&& 4 = 0 by decide), if_neg (show ¬ (11 &&& 8 = 0) by decide)]
  rw [immD_none 12 x (by decide)]
  rw [decide_eq_false (show ¬ (11 &&& 16 ≠ 0) by decide), Bool.false_and, Bool.false_and]
  refine ⟨d0, d1, d2, (Nat.le_zero.1 hcc).symm, (by rw [d3]; omega), rfl, rfl, ?_⟩
  omega
theorem immP_13 (U : Nat) (imm : Int) (hU : (U : Int) = imm % 18446744073709551616) (h0 : 0 ≤ imm) (h1 : imm ≤ 31) (h2 : imm % 1 = 0) : immP 13 U = (U) * 32768 := by
  simp only [immP]
  omega
theorem dec_13 (W c g h : Nat) (hW : W = c + g * 4096 + h * 1048576) (hc : c < 128) (hg : g < 8) (hh : h < 4096) (e : h = 0) (a b cc d : Nat) (aq rl : Bool) (ha : a ≤ 31) (hb : b ≤ 0) (hcc : cc ≤ 0) (hd : d ≤ 4095) (ho : aq = false ∧ rl = false) (imm : Int) (U : Nat) (hU : (U : Int) = imm % 18446744073709551616) (h0 : 0 ≤ imm) (h1 : imm ≤ 31) (h2 : imm % 1 = 0) (x : Nat) (hx : x = W + partsS a b cc d aq rl + immP 13 U) :
    x < 4294967296 ∧ dP 13 1 128 32 x = a ∧ dP 13 2 32768 32 x = b ∧ dP 13 4 1048576 32 x = cc ∧ dP 13 8 1048576 4096 x = d ∧ dB 13 67108864 x = aq ∧ dB 13 33554432 x = rl ∧ immD 13 x = imm := by
  obtain ⟨rfl, rfl⟩ := ho
  replace hx := hx.trans (combine (plain_parts a b cc d) (immP_13 U imm hU h0 h1 h2))
  obtain ⟨d0, d1, d2, d3, d4, d5, d6, d7, d8, d9, d10, d11⟩ := dig_13 W c g h hW hc hg hh e a b cc d ha hb hcc hd (U) (by omega) x hx
  clear hx hW
  unfold dP dB
  rw [show partsT.getD 13 0 = 9 from by decide]
  rw [if_neg (show ¬ (9 &&& 1 = 0) by decide), if_pos (show 9 &&& 2 = 0 by decide), if_pos (show 9 &&& 4 = 0 by decide), if_neg (show ¬ (9 &&& 8 = 0) by decide)]
  rw [immD_13 x]
  rw [decide_eq_false (show ¬ (9 &&& 16 ≠ 0) by decide), Bool.false_and, Bool.false_and]
  refine ⟨d0, d1, (Nat.le_zero.1 hb).symm, (Nat.le_zero.1 hcc).symm, (by rw [d3]; omega), rfl, rfl, ?_⟩
  rw [(getI_num x).2.2.2.2.2.2.2.2.2.2.2.2, d2]
  omega
theorem immP_14 (U : Nat) (imm : Int) (hU : (U : Int) = imm % 18446744073709551616) (h0 : 0 ≤ imm) (h1 : imm ≤ 0) (h2 : imm % 1 = 0) : immP 14 U = 0 := by
  simp only [immP]
  omega
theorem dec_14 (W c g h : Nat) (hW : W = c + g * 4096 + h * 1048576) (hc : c < 128) (hg : g < 8) (hh : h < 4096) (e : h % 128 = 0) (a b cc d : Nat) (aq rl : Bool) (ha : a ≤ 31) (hb : b ≤ 31) (hcc : cc ≤ 0) (hd : d ≤ 0)  (imm : Int) (U : Nat) (hU : (U : Int) = imm % 18446744073709551616) (h0 : 0 ≤ imm) (h1 : imm ≤ 0) (h2 : imm % 1 = 0) (x : Nat) (hx : x = W + partsS a b cc d aq rl + immP 14 U) :
    x < 4294967296 ∧ dP 14 1 128 32 x = a ∧ dP 14 2 32768 32 x = b ∧ dP 14 4 1048576 32 x = cc ∧ dP 14 8 1048576 4096 x = d ∧ dB 14 67108864 x = aq ∧ dB 14 33554432 x = rl ∧ immD 14 x = imm := by
  replace hx := hx.trans (combine0 (order_parts a b cc d aq rl) (immP_14 U imm hU h0 h1 h2))
  obtain ⟨d0, d1, d2, d3, d4, d5, d6, d7, d8, d9, d10, d11⟩ := dig_14 W c g h hW hc hg hh e a b cc d ha hb hcc hd (if aq then 64 else 0) (if rl then 32 else 0) (by cases aq <;> simp) (by cases rl <;> simp) x hx
  clear hx hW
  unfold dP dB
  rw [show partsT.getD 14 0 = 19 from by decide]
  rw [if_neg (show ¬ (19 &&& 1 = 0) by decide), if_neg (show ¬ (19 &&& 2 = 0) by decide), if_pos (show 19 &&& 4 = 0 by decide), if_pos (show 19 &&& 8 = 0 by decide)]
  rw [immD_none 14 x (by decide), decide_eq_true (show 19 &&& 16 ≠ 0 by decide), Bool.true_and, Bool.true_and, d5, d4]
  clear d4 d5 d6 d7 d8 d9 d10 d11
  cases aq <;> cases rl <;> simp only [Bool.false_eq_true, if_false, if_true] at d3 ⊢ <;>
  refine ⟨d0, d1, d2, (Nat.le_zero.1 hcc).symm, (Nat.le_zero.1 hd).symm, ?_, ?_, by omega⟩ <;> simp <;> omega
theorem immP_15 (U : Nat) (imm : Int) (hU : (U : Int) = imm % 18446744073709551616) (h0 : 0 ≤ imm) (h1 : imm ≤ 0) (h2 : imm % 1 = 0) : immP 15 U = 0 := by
  simp only [immP]
  omega
theorem dec_15 (W c g h : Nat) (hW : W = c + g * 4096 + h * 1048576) (hc : c < 128) (hg : g < 8) (hh : h < 4096) (e : h % 128 = 0) (a b cc d : Nat) (aq rl : Bool) (ha : a ≤ 31) (hb : b ≤ 31) (hcc : cc ≤ 31) (hd : d ≤ 0)  (imm : Int) (U : Nat) (hU : (U : Int) = imm % 18446744073709551616) (h0 : 0 ≤ imm) (h1 : imm ≤ 0) (h2 : imm % 1 = 0) (x : Nat) (hx : x = W + partsS a b cc d aq rl + immP 15 U) :
    x < 4294967296 ∧ dP 15 1 128 32 x = a ∧ dP 15 2 32768 32 x = b ∧ dP 15 4 1048576 32 x = cc ∧ dP 15 8 1048576 4096 x = d ∧ dB 15 67108864 x = aq ∧ dB 15 33554432 x = rl ∧ immD 15 x = imm := by
  replace hx := hx.trans (combine0 (order_parts a b cc d aq rl) (immP_15 U imm hU h0 h1 h2))
  obtain ⟨d0, d1, d2, d3, d4, d5, d6, d7, d8, d9, d10, d11⟩ := dig_15 W c g h hW hc hg hh e a b cc d ha hb hcc hd (if aq then 64 else 0) (if rl then 32 else 0) (by cases aq <;> simp) (by cases rl <;> simp) x hx
  clear hx hW
  unfold dP dB
  rw [show partsT.getD 15 0 = 23 from by decide]
  rw [if_neg (show ¬ (23 &&& 1 = 0) by decide), if_neg (show ¬ (23 &&& 2 = 0) by decide), if_neg (show ¬ (23 &&& 4 = 0) by decide), if_pos (show 23 &&& 8 = 0 by decide)]
  rw [immD_none 15 x (by decide), decide_eq_true (show 23 &&& 16 ≠ 0 by decide), Bool.true_and, Bool.true_and, d5, d4]
  clear d4 d5 d6 d7 d8 d9 d10 d11
  cases aq <;> cases rl <;> simp only [Bool.false_eq_true, if_false, if_true] at d3 ⊢ <;>
  refine ⟨d0, d1, d2, (by rw [d3]; omega), (Nat.le_zero.1 hd).symm, ?_, ?_, by omega⟩ <;> simp <;> omega
theorem immP_16 (U : Nat) (imm : Int) (hU : (U : Int) = imm % 18446744073709551616) (h0 : 0 ≤ imm) (h1 : imm ≤ 0) (h2 : imm % 1 = 0) : immP 16 U = 0 := by
  simp only [immP]
  omega
theorem dec_16 (W c g h : Nat) (hW : W = c + g * 4096 + h * 1048576) (hc : c < 128) (hg : g < 8) (hh : h < 4096) (e : h % 32 = 0) (a b cc d : Nat) (aq rl : Bool) (ha : a ≤ 0) (hb : b ≤ 31) (hcc : cc ≤ 31) (hd : d ≤ 0) (ho : aq = false ∧ rl = false) (imm : Int) (U : Nat) (hU : (U : Int) = imm % 18446744073709551616) (h0 : 0 ≤ imm) (h1 : imm ≤ 0) (h2 : imm % 1 = 0) (x : Nat) (hx : x = W + partsS a b cc d aq rl + immP 16 U) :
    x < 4294967296 ∧ dP 16 1 128 32 x = a ∧ dP 16 2 32768 32 x = b ∧ dP 16 4 1048576 32 x = cc ∧ dP 16 8 1048576 4096 x = d ∧ dB 16 67108864 x = aq ∧ dB 16 33554432 x = rl ∧ immD 16 x = imm := by
  obtain ⟨rfl, rfl⟩ := ho
  replace hx := hx.trans (combine0 (plain_parts a b cc d) (immP_16 U imm hU h0 h1 h2))
  obtain ⟨d0, d1, d2, d3, d4, d5, d6, d7, d8, d9, d10, d11⟩ := dig_16 W c g h hW hc hg hh e a b cc d ha hb hcc hd  x hx
  clear hx hW
  unfold dP dB
  rw [show partsT.getD 16 0 = 6 from by decide]
  rw [if_pos (show 6 &&& 1 = 0 by decide), if_neg (show ¬ (6 &&& 2 = 0) by decide), if_neg (show ¬ (6 &&& 4 = 0) by decide), if_pos (show 6 &&& 8 = 0 by decide)]
  rw [immD_none 16 x (by decide)]
  rw [decide_eq_false (show ¬ (6 &&& 16 ≠ 0) by decide), Bool.false_and, Bool.false_and]
  refine ⟨d0, (Nat.le_zero.1 ha).symm, d2, (by rw [d3]; omega), (Nat.le_zero.1 hd).symm, rfl, rfl, ?_⟩
  omega
end Go.Proofs.YtooaafbdjnlmfaaGreatDoor

namespace Go.Proofs.YtooaafbdjnlmfaaGreatDoor
open Go.RowKit
set_option linter.unusedVariables false
set_option linter.unusedSimpArgs false
theorem keep (k r m n : Nat) (hk : Sub k m) (hr : Sub r n) (hm : m < 4294967296) (hn : n < 4294967296) (hd : m &&& n = 0) : (k + r) &&& m = k := by
  obtain ⟨e1, s1⟩ := hk.join hr (by omega) (by omega) hd
  rw [← e1, or_and, hk.and, hr.apart (Sub.refl m) (by rw [Nat.and_comm]; exact hd), Nat.or_zero]
theorem s_c (c : Nat) (h : c < 128) : Sub c 0x7f := field_eq (x := c) 7 0 0x7f (by omega) h (by decide)
theorem s_A (A : Nat) (h : A < 32) : Sub (A * 128) 0xf80 := field_eq (x := A) 5 7 0xf80 (by omega) h (by decide)
theorem s_g (g : Nat) (h : g < 8) : Sub (g * 4096) 0x7000 := field_eq (x := g) 3 12 0x7000 (by omega) h (by decide)
theorem s_B (B : Nat) (h : B < 32) : Sub (B * 32768) 0xf8000 := field_eq (x := B) 5 15 0xf8000 (by omega) h (by decide)
theorem s_T (T : Nat) (h : T < 4096) : Sub (T * 1048576) 0xfff00000 := field_eq (x := T) 12 20 0xfff00000 (by omega) h (by decide)
theorem s_T6 (T : Nat) (h : T < 64) : Sub (T * 67108864) 0xfc000000 := field_eq (x := T) 6 26 0xfc000000 (by omega) h (by decide)
theorem s_T7 (T : Nat) (h : T < 128) : Sub (T * 33554432) 0xfe000000 := field_eq (x := T) 7 25 0xfe000000 (by omega) h (by decide)
theorem s_T5 (T : Nat) (h : T < 32) : Sub (T * 134217728) 0xf8000000 := field_eq (x := T) 5 27 0xf8000000 (by omega) h (by decide)
theorem s_l6 (T : Nat) (h : T < 64) : Sub (T * 1048576) 0x3f00000 := field_eq (x := T) 6 20 0x3f00000 (by omega) h (by decide)
theorem s_l5 (T : Nat) (h : T < 32) : Sub (T * 1048576) 0x1f00000 := field_eq (x := T) 5 20 0x1f00000 (by omega) h (by decide)
theorem s_l7 (T : Nat) (h : T < 128) : Sub (T * 1048576) 0x7f00000 := field_eq (x := T) 7 20 0x7f00000 (by omega) h (by decide)
theorem s_m2 (T : Nat) (h : T < 4) : Sub (T * 33554432) 0x6000000 := field_eq (x := T) 2 25 0x6000000 (by omega) h (by decide)
theorem mask_1 (c A g B T : Nat) (hc : c < 128) (hA : A < 32) (hg : g < 8) (hB : B < 32) (hT : T < 4096) : (c + A * 128 + g * 4096 + B * 32768 + T * 1048576) &&& 127 = c := by
  rw [show c + A * 128 + g * 4096 + B * 32768 + T * 1048576 = (c) + (A * 128 + g * 4096 + B * 32768 + T * 1048576) by omega]
  exact keep _ _ 127 4294967168 (s_c c hc) ((((((s_A A hA).join (s_g g hg) (by decide) (by decide) (by decide)).2).join (s_B B hB) (by decide) (by decide) (by decide)).2).join (s_T T hT) (by decide) (by decide) (by decide)).2 (by decide) (by decide) (by decide)
theorem mask_3 (c A g B T : Nat) (hc : c < 128) (hA : A < 32) (hg : g < 8) (hB : B < 32) (hT : T < 4096) : (c + A * 128 + g * 4096 + B * 32768 + T * 1048576) &&& 28799 = c + g * 4096 := by
  rw [show c + A * 128 + g * 4096 + B * 32768 + T * 1048576 = (c + g * 4096) + (A * 128 + B * 32768 + T * 1048576) by omega]
  exact keep _ _ 28799 4294938496 ((s_c c hc).join (s_g g hg) (by decide) (by decide) (by decide)).2 ((((s_A A hA).join (s_B B hB) (by decide) (by decide) (by decide)).2).join (s_T T hT) (by decide) (by decide) (by decide)).2 (by decide) (by decide) (by decide)
theorem mask_7 (c A g B T : Nat) (hc : c < 128) (hA : A < 32) (hg : g < 8) (hB : B < 32) (hT : T < 4096) : (c + A * 128 + g * 4096 + B * 32768 + T * 1048576) &&& 4227887231 = c + g * 4096 + T / 64 * 67108864 := by
  rw [show c + A * 128 + g * 4096 + B * 32768 + T * 1048576 = (c + g * 4096 + T / 64 * 67108864) + (A * 128 + B * 32768 + T % 64 * 1048576) by omega]
  exact keep _ _ 4227887231 67080064 ((((s_c c hc).join (s_g g hg) (by decide) (by decide) (by decide)).2).join (s_T6 (T / 64) (by omega)) (by decide) (by decide) (by decide)).2 ((((s_A A hA).join (s_B B hB) (by decide) (by decide) (by decide)).2).join (s_l6 (T % 64) (by omega)) (by decide) (by decide) (by decide)).2 (by decide) (by decide) (by decide)
theorem mask_8 (c A g B T : Nat) (hc : c < 128) (hA : A < 32) (hg : g < 8) (hB : B < 32) (hT : T < 4096) : (c + A * 128 + g * 4096 + B * 32768 + T * 1048576) &&& 4261441663 = c + g * 4096 + T / 32 * 33554432 := by
  rw [show c + A * 128 + g * 4096 + B * 32768 + T * 1048576 = (c + g * 4096 + T / 32 * 33554432) + (A * 128 + B * 32768 + T % 32 * 1048576) by omega]
  exact keep _ _ 4261441663 33525632 ((((s_c c hc).join (s_g g hg) (by decide) (by decide) (by decide)).2).join (s_T7 (T / 32) (by omega)) (by decide) (by decide) (by decide)).2 ((((s_A A hA).join (s_B B hB) (by decide) (by decide) (by decide)).2).join (s_l5 (T % 32) (by omega)) (by decide) (by decide) (by decide)).2 (by decide) (by decide) (by decide)
theorem mask_15 (c A g B T : Nat) (hc : c < 128) (hA : A < 32) (hg : g < 8) (hB : B < 32) (hT : T < 4096) : (c + A * 128 + g * 4096 + B * 32768 + T * 1048576) &&& 4160778367 = c + g * 4096 + T / 128 * 134217728 := by
  rw [show c + A * 128 + g * 4096 + B * 32768 + T * 1048576 = (c + g * 4096 + T / 128 * 134217728) + (A * 128 + B * 32768 + T % 128 * 1048576) by omega]
  exact keep _ _ 4160778367 134188928 ((((s_c c hc).join (s_g g hg) (by decide) (by decide) (by decide)).2).join (s_T5 (T / 128) (by omega)) (by decide) (by decide) (by decide)).2 ((((s_A A hA).join (s_B B hB) (by decide) (by decide) (by decide)).2).join (s_l7 (T % 128) (by omega)) (by decide) (by decide) (by decide)).2 (by decide) (by decide) (by decide)
theorem mask_14 (c A g B T : Nat) (hc : c < 128) (hA : A < 32) (hg : g < 8) (hB : B < 32) (hT : T < 4096) : (c + A * 128 + g * 4096 + B * 32768 + T * 1048576) &&& 4193284223 = c + g * 4096 + T % 32 * 1048576 + T / 128 * 134217728 := by
  rw [show c + A * 128 + g * 4096 + B * 32768 + T * 1048576 = (c + g * 4096 + T % 32 * 1048576 + T / 128 * 134217728) + (A * 128 + B * 32768 + T / 32 % 4 * 33554432) by omega]
  exact keep _ _ 4193284223 101683072 ((((((s_c c hc).join (s_g g hg) (by decide) (by decide) (by decide)).2).join (s_l5 (T % 32) (by omega)) (by decide) (by decide) (by decide)).2).join (s_T5 (T / 128) (by omega)) (by decide) (by decide) (by decide)).2 ((((s_A A hA).join (s_B B hB) (by decide) (by decide) (by decide)).2).join (s_m2 (T / 32 % 4) (by omega)) (by decide) (by decide) (by decide)).2 (by decide) (by decide) (by decide)
theorem mask_16 (c A g B T : Nat) (hc : c < 128) (hA : A < 32) (hg : g < 8) (hB : B < 32) (hT : T < 4096) : (c + A * 128 + g * 4096 + B * 32768 + T * 1048576) &&& 4261445631 = c + A * 128 + g * 4096 + T / 32 * 33554432 := by
  rw [show c + A * 128 + g * 4096 + B * 32768 + T * 1048576 = (c + A * 128 + g * 4096 + T / 32 * 33554432) + (B * 32768 + T % 32 * 1048576) by omega]
  exact keep _ _ 4261445631 33521664 ((((((s_c c hc).join (s_A A hA) (by decide) (by decide) (by decide)).2).join (s_g g hg) (by decide) (by decide) (by decide)).2).join (s_T7 (T / 32) (by omega)) (by decide) (by decide) (by decide)).2 ((s_B B hB).join (s_l5 (T % 32) (by omega)) (by decide) (by decide) (by decide)).2 (by decide) (by decide) (by decide)
theorem mask_11 (c A g B T : Nat) (hc : c < 128) (hA : A < 32) (hg : g < 8) (hB : B < 32) (hT : T < 4096) : (c + A * 128 + g * 4096 + B * 32768 + T * 1048576) &&& 4294967295 = c + A * 128 + g * 4096 + B * 32768 + T * 1048576 := by
  rw [show (4294967295 : Nat) = 2 ^ 32 - 1 from by decide, Nat.and_two_pow_sub_one_eq_mod]
  exact Nat.mod_eq_of_lt (by omega)
theorem own_digits (x : Nat) (hx : x < 4294967296) : ∃ c A g B T : Nat, c < 128 ∧ A < 32 ∧ g < 8 ∧ B < 32 ∧ T < 4096 ∧ x = c + A * 128 + g * 4096 + B * 32768 + T * 1048576 := ⟨x % 128, x / 128 % 32, x / 4096 % 8, x / 32768 % 32, x / 1048576, by omega, by omega, by omega, by omega, by omega, by omega⟩
end Go.Proofs.YtooaafbdjnlmfaaGreatDoor

namespace Go.Proofs.YtooaafbdjnlmfaaGreatDoor
open Go.RowKit
set_option linter.unusedVariables false
set_option linter.unusedSimpArgs false
theorem v12 (y : Nat) (v : Int) (U : Nat) (hv : v = if y / 2048 % 2 = 1 then ((y % 4096 : Nat) : Int) - 4096 else ((y % 4096 : Nat) : Int)) (hU : (U : Int) = v % 18446744073709551616) : -2048 ≤ v ∧ v ≤ 2047 ∧ U % 4096 = y % 4096 := by
  rw [hv] at hU ⊢
  clear hv
  split at hU <;> (refine ⟨?_, ?_, ?_⟩ <;> omega)
theorem v13 (y : Nat) (v : Int) (U : Nat) (h2 : y % 2 = 0) (hv : v = if y / 4096 % 2 = 1 then ((y % 8192 : Nat) : Int) - 8192 else ((y % 8192 : Nat) : Int)) (hU : (U : Int) = v % 18446744073709551616) : -4096 ≤ v ∧ v ≤ 4094 ∧ v % 2 = 0 ∧ U % 8192 = y % 8192 := by
  rw [hv] at hU ⊢
  clear hv
  split at hU <;> (refine ⟨?_, ?_, ?_, ?_⟩ <;> omega)
theorem v21 (y : Nat) (v : Int) (U : Nat) (h2 : y % 2 = 0) (hv : v = if y / 1048576 % 2 = 1 then ((y % 2097152 : Nat) : Int) - 2097152 else ((y % 2097152 : Nat) : Int)) (hU : (U : Int) = v % 18446744073709551616) : -1048576 ≤ v ∧ v ≤ 1048574 ∧ v % 2 = 0 ∧ U % 2097152 = y % 2097152 := by
  rw [hv] at hU ⊢
  clear hv
  split at hU <;> (refine ⟨?_, ?_, ?_, ?_⟩ <;> omega)
theorem v32 (y : Nat) (v : Int) (U : Nat) (h2 : y % 4096 = 0) (hv : v = if y / 2147483648 % 2 = 1 then ((y % 4294967296 : Nat) : Int) - 4294967296 else ((y % 4294967296 : Nat) : Int)) (hU : (U : Int) = v % 18446744073709551616) : -2147483648 ≤ v ∧ v ≤ 2147479552 ∧ v % 4096 = 0 ∧ U % 4294967296 = y % 4294967296 := by
  rw [hv] at hU ⊢
  clear hv
  split at hU <;> (refine ⟨?_, ?_, ?_, ?_⟩ <;> omega)
theorem back2 (U p q r s : Nat) (hp : p < 2) (hq : q < 1024) (hr : r < 2) (hs : s < 256) (h : U % 2097152 = p * 1048576 + q * 2 + r * 2048 + s * 4096) : U / 1048576 % 2 = p ∧ U / 2 % 1024 = q ∧ U / 2048 % 2 = r ∧ U / 4096 % 256 = s := by refine ⟨?_, ?_, ?_, ?_⟩ <;> omega
theorem back5 (U p q r s : Nat) (hp : p < 2) (hq : q < 64) (hr : r < 16) (hs : s < 2) (h : U % 8192 = p * 4096 + q * 32 + r * 2 + s * 2048) : U / 4096 % 2 = p ∧ U / 32 % 64 = q ∧ U / 2 % 16 = r ∧ U / 2048 % 2 = s := by refine ⟨?_, ?_, ?_, ?_⟩ <;> omega
theorem back6 (U p q : Nat) (hp : p < 128) (hq : q < 32) (h : U % 4096 = p * 32 + q) : U / 32 % 128 = p ∧ U % 32 = q := by refine ⟨?_, ?_⟩ <;> omega
theorem even5 (p q r s : Nat) : (p * 4096 + q * 32 + r * 2 + s * 2048) % 2 = 0 := by omega
theorem even2 (p q r s : Nat) : (p * 1048576 + q * 2 + r * 2048 + s * 4096) % 2 = 0 := by omega
theorem half_lt (A : Nat) (h : A < 32) : A / 2 < 16 := by omega
theorem gb_lt (g B : Nat) (h : g < 8) (h2 : B < 32) : g + B * 8 < 256 := by omega
theorem bit64 (t : Nat) (h : t < 2) : (if (t == 1) = true then 64 else 0 : Nat) = t * 64 := by
  have : t = 0 ∨ t = 1 := by omega
  rcases this with rfl | rfl <;> rfl
theorem bit32 (t : Nat) (h : t < 2) : (if (t == 1) = true then 32 else 0 : Nat) = t * 32 := by
  have : t = 0 ∨ t = 1 := by omega
  rcases this with rfl | rfl <;> rfl
theorem sum_1 (W c A g B T : Nat) (hT : T < 4096) (hm : c = W)  : W + (A * 128 + 0 * 32768 + 0 * 1048576 + 0 * 1048576) + (g + B * 8 + T * 256) * 4096 = c + A * 128 + g * 4096 + B * 32768 + T * 1048576 := by
  rw [← hm]; omega
theorem wd_1 (W c A g B T : Nat) (hc : c < 128) (hA : A < 32) (hg : g < 8) (hB : B < 32) (hT : T < 4096) (x : Nat) (hx : x = c + A * 128 + g * 4096 + B * 32768 + T * 1048576) (hm : x &&& 127 = W) (v : Int) (hv : immD 1 x = v) (U : Nat) (hU : (U : Int) = v % 18446744073709551616) :
    ((spanN 1).1 ≤ v ∧ v ≤ (spanN 1).2.1 ∧ v % (spanN 1).2.2 = 0) ∧ W + partsS (dP 1 1 128 32 x) (dP 1 2 32768 32 x) (dP 1 4 1048576 32 x) (dP 1 8 1048576 4096 x) (dB 1 67108864 x) (dB 1 33554432 x) + immP 1 U = x := by
  obtain ⟨d0, d1, d2, d3, d4, d5, d6, d7, d8, d9, d10, d11⟩ := digits c A g B T x hc hA hg hB hT hx
  have hk : c = W := ((mask_1 c A g B T hc hA hg hB hT).symm.trans (congrArg (fun z => z &&& 127) hx.symm)).trans hm
  have hq : partsT.getD 1 0 = 1 := by decide
  have p1 : dP 1 1 128 32 x = A := by unfold dP; rw [hq]; rw [if_neg (by decide)]; exact d1
  have p2 : dP 1 2 32768 32 x = 0 := by unfold dP; rw [hq]; exact if_pos (by decide)
  have p3 : dP 1 4 1048576 32 x = 0 := by unfold dP; rw [hq]; exact if_pos (by decide)
  have p4 : dP 1 8 1048576 4096 x = 0 := by unfold dP; rw [hq]; exact if_pos (by decide)
  have p5 : dB 1 67108864 x = false := by unfold dB; rw [hq]; rfl
  have p6 : dB 1 33554432 x = false := by unfold dB; rw [hq]; rfl
  rw [p1, p2, p3, p4, p5, p6]
  clear p1 p2 p3 p4 p5 p6 hm hq
  rw [immD_1, sext32, d11] at hv
  obtain ⟨h0, h1, h2, h3⟩ := v32 _ v U (Nat.mul_mod_left _ _) hv.symm hU
  refine ⟨⟨h0, h1, h2⟩, ?_⟩
  have hI := immP_1 U v hU h0 h1 h2
  have hJ : U % 4294967296 / 4096 * 4096 = (g + B * 8 + T * 256) * 4096 := by rw [h3]; clear d0 d1 d2 d3 d4 d5 d6 d7 d8 d9 d10 d11 hx hk hI h3 hv hU h0 h1 h2; omega
  exact ((combine (plain_parts A 0 (0) (0)) (hI.trans hJ)).trans (sum_1 W c A g B T hT hk)).trans hx.symm
theorem sum_2 (W c A g B T : Nat) (hT : T < 4096) (hm : c = W)  : W + (A * 128 + 0 * 32768 + 0 * 1048576 + 0 * 1048576) + (T / 2048 % 2 * 2147483648 + T / 2 % 1024 * 2097152 + T % 2 * 1048576 + (g + B * 8) * 4096) = c + A * 128 + g * 4096 + B * 32768 + T * 1048576 := by
  rw [← hm]; omega
theorem wd_2 (W c A g B T : Nat) (hc : c < 128) (hA : A < 32) (hg : g < 8) (hB : B < 32) (hT : T < 4096) (x : Nat) (hx : x = c + A * 128 + g * 4096 + B * 32768 + T * 1048576) (hm : x &&& 127 = W) (v : Int) (hv : immD 2 x = v) (U : Nat) (hU : (U : Int) = v % 18446744073709551616) :
    ((spanN 2).1 ≤ v ∧ v ≤ (spanN 2).2.1 ∧ v % (spanN 2).2.2 = 0) ∧ W + partsS (dP 2 1 128 32 x) (dP 2 2 32768 32 x) (dP 2 4 1048576 32 x) (dP 2 8 1048576 4096 x) (dB 2 67108864 x) (dB 2 33554432 x) + immP 2 U = x := by
  obtain ⟨d0, d1, d2, d3, d4, d5, d6, d7, d8, d9, d10, d11⟩ := digits c A g B T x hc hA hg hB hT hx
  have hk : c = W := ((mask_1 c A g B T hc hA hg hB hT).symm.trans (congrArg (fun z => z &&& 127) hx.symm)).trans hm
  have hq : partsT.getD 2 0 = 1 := by decide
  have p1 : dP 2 1 128 32 x = A := by unfold dP; rw [hq]; rw [if_neg (by decide)]; exact d1
  have p2 : dP 2 2 32768 32 x = 0 := by unfold dP; rw [hq]; exact if_pos (by decide)
  have p3 : dP 2 4 1048576 32 x = 0 := by unfold dP; rw [hq]; exact if_pos (by decide)
  have p4 : dP 2 8 1048576 4096 x = 0 := by unfold dP; rw [hq]; exact if_pos (by decide)
  have p5 : dB 2 67108864 x = false := by unfold dB; rw [hq]; rfl
  have p6 : dB 2 33554432 x = false := by unfold dB; rw [hq]; rfl
  rw [p1, p2, p3, p4, p5, p6]
  clear p1 p2 p3 p4 p5 p6 hm hq
  rw [immD_2, sext21, (getI_num x).1, (getI_num x).2.1, (getI_num x).2.2.1, (getI_num x).2.2.2.1, d6, d7, d3, d10] at hv
  obtain ⟨h0, h1, h2, h3⟩ := v21 _ v U (even2 _ _ _ _) hv.symm hU
  refine ⟨⟨h0, h1, h2⟩, ?_⟩
  have hI := immP_2 U v hU h0 h1 h2
  obtain ⟨k1, k2, k3, k4⟩ := back2 U (T / 2048 % 2) (T / 2 % 1024) (T % 2) (g + B * 8) (Nat.mod_lt _ (by decide)) (Nat.mod_lt _ (by decide)) (Nat.mod_lt _ (by decide)) (gb_lt g B hg hB) (by rw [h3]; clear d0 d1 d2 d3 d4 d5 d6 d7 d8 d9 d10 d11 hx hk hI h3 hv hU h0 h1 h2; omega)
  rw [k1, k2, k3, k4] at hI
  exact ((combine (plain_parts A 0 (0) (0)) hI).trans (sum_2 W c A g B T hT hk)).trans hx.symm
theorem sum_3 (W c A g B T : Nat) (hT : T < 4096) (hm : c + g * 4096 = W)  : W + (A * 128 + B * 32768 + 0 * 1048576 + 0 * 1048576) + T % 4096 * 1048576 = c + A * 128 + g * 4096 + B * 32768 + T * 1048576 := by
  rw [← hm]; omega
theorem wd_3 (W c A g B T : Nat) (hc : c < 128) (hA : A < 32) (hg : g < 8) (hB : B < 32) (hT : T < 4096) (x : Nat) (hx : x = c + A * 128 + g * 4096 + B * 32768 + T * 1048576) (hm : x &&& 28799 = W) (v : Int) (hv : immD 3 x = v) (U : Nat) (hU : (U : Int) = v % 18446744073709551616) :
    ((spanN 3).1 ≤ v ∧ v ≤ (spanN 3).2.1 ∧ v % (spanN 3).2.2 = 0) ∧ W + partsS (dP 3 1 128 32 x) (dP 3 2 32768 32 x) (dP 3 4 1048576 32 x) (dP 3 8 1048576 4096 x) (dB 3 67108864 x) (dB 3 33554432 x) + immP 3 U = x := by
  obtain ⟨d0, d1, d2, d3, d4, d5, d6, d7, d8, d9, d10, d11⟩ := digits c A g B T x hc hA hg hB hT hx
  have hk : c + g * 4096 = W := ((mask_3 c A g B T hc hA hg hB hT).symm.trans (congrArg (fun z => z &&& 28799) hx.symm)).trans hm
  have hq : partsT.getD 3 0 = 3 := by decide
  have p1 : dP 3 1 128 32 x = A := by unfold dP; rw [hq]; rw [if_neg (by decide)]; exact d1
  have p2 : dP 3 2 32768 32 x = B := by unfold dP; rw [hq]; rw [if_neg (by decide)]; exact d2
  have p3 : dP 3 4 1048576 32 x = 0 := by unfold dP; rw [hq]; exact if_pos (by decide)
  have p4 : dP 3 8 1048576 4096 x = 0 := by unfold dP; rw [hq]; exact if_pos (by decide)
  have p5 : dB 3 67108864 x = false := by unfold dB; rw [hq]; rfl
  have p6 : dB 3 33554432 x = false := by unfold dB; rw [hq]; rfl
  rw [p1, p2, p3, p4, p5, p6]
  clear p1 p2 p3 p4 p5 p6 hm hq
  rw [immD_3, sext12, (getI_num x).2.2.2.2.1, d3] at hv
  obtain ⟨h0, h1, h3⟩ := v12 _ v U hv.symm hU
  have h2 : v % 1 = 0 := Int.emod_one v
  refine ⟨⟨h0, h1, h2⟩, ?_⟩
  have hI := immP_3 U v hU h0 h1 h2
  replace hI := hI.trans (congrArg (fun z => z * 1048576) (h3.trans (Nat.mod_mod _ _)))
  exact ((combine (plain_parts A B (0) (0)) hI).trans (sum_3 W c A g B T hT hk)).trans hx.symm
theorem sum_4 (W c A g B T : Nat) (hT : T < 4096) (hm : c + g * 4096 = W)  : W + (A * 128 + B * 32768 + 0 * 1048576 + 0 * 1048576) + T % 4096 * 1048576 = c + A * 128 + g * 4096 + B * 32768 + T * 1048576 := by
  rw [← hm]; omega
theorem wd_4 (W c A g B T : Nat) (hc : c < 128) (hA : A < 32) (hg : g < 8) (hB : B < 32) (hT : T < 4096) (x : Nat) (hx : x = c + A * 128 + g * 4096 + B * 32768 + T * 1048576) (hm : x &&& 28799 = W) (v : Int) (hv : immD 4 x = v) (U : Nat) (hU : (U : Int) = v % 18446744073709551616) :
    ((spanN 4).1 ≤ v ∧ v ≤ (spanN 4).2.1 ∧ v % (spanN 4).2.2 = 0) ∧ W + partsS (dP 4 1 128 32 x) (dP 4 2 32768 32 x) (dP 4 4 1048576 32 x) (dP 4 8 1048576 4096 x) (dB 4 67108864 x) (dB 4 33554432 x) + immP 4 U = x := by
  obtain ⟨d0, d1, d2, d3, d4, d5, d6, d7, d8, d9, d10, d11⟩ := digits c A g B T x hc hA hg hB hT hx
  have hk : c + g * 4096 = W := ((mask_3 c A g B T hc hA hg hB hT).symm.trans (congrArg (fun z => z &&& 28799) hx.symm)).trans hm
  have hq : partsT.getD 4 0 = 3 := by decide
  have p1 : dP 4 1 128 32 x = A := by unfold dP; rw [hq]; rw [if_neg (by decide)]; exact d1
  have p2 : dP 4 2 32768 32 x = B := by unfold dP; rw [hq]; rw [if_neg (by decide)]; exact d2
  have p3 : dP 4 4 1048576 32 x = 0 := by unfold dP; rw [hq]; exact if_pos (by decide)
  have p4 : dP 4 8 1048576 4096 x = 0 := by unfold dP; rw [hq]; exact if_pos (by decide)
  have p5 : dB 4 67108864 x = false := by unfold dB; rw [hq]; rfl
  have p6 : dB 4 33554432 x = false := by unfold dB; rw [hq]; rfl
  rw [p1, p2, p3, p4, p5, p6]
  clear p1 p2 p3 p4 p5 p6 hm hq
  rw [immD_4, sext12, (getI_num x).2.2.2.2.1, d3] at hv
  obtain ⟨h0, h1, h3⟩ := v12 _ v U hv.symm hU
  have h2 : v % 1 = 0 := Int.emod_one v
  refine ⟨⟨h0, h1, h2⟩, ?_⟩
  have hI := immP_4 U v hU h0 h1 h2
  replace hI := hI.trans (congrArg (fun z => z * 1048576) (h3.trans (Nat.mod_mod _ _)))
  exact ((combine (plain_parts A B (0) (0)) hI).trans (sum_4 W c A g B T hT hk)).trans hx.symm
theorem sum_5 (W c A g B T : Nat) (hT : T < 4096) (hm : c + g * 4096 = W)  : W + (0 * 128 + B * 32768 + (T % 32) * 1048576 + 0 * 1048576) + (T / 2048 % 2 * 2147483648 + T / 32 % 64 * 33554432 + A / 2 * 256 + A % 2 * 128) = c + A * 128 + g * 4096 + B * 32768 + T * 1048576 := by
  rw [← hm]; omega
theorem wd_5 (W c A g B T : Nat) (hc : c < 128) (hA : A < 32) (hg : g < 8) (hB : B < 32) (hT : T < 4096) (x : Nat) (hx : x = c + A * 128 + g * 4096 + B * 32768 + T * 1048576) (hm : x &&& 28799 = W) (v : Int) (hv : immD 5 x = v) (U : Nat) (hU : (U : Int) = v % 18446744073709551616) :
    ((spanN 5).1 ≤ v ∧ v ≤ (spanN 5).2.1 ∧ v % (spanN 5).2.2 = 0) ∧ W + partsS (dP 5 1 128 32 x) (dP 5 2 32768 32 x) (dP 5 4 1048576 32 x) (dP 5 8 1048576 4096 x) (dB 5 67108864 x) (dB 5 33554432 x) + immP 5 U = x := by
  obtain ⟨d0, d1, d2, d3, d4, d5, d6, d7, d8, d9, d10, d11⟩ := digits c A g B T x hc hA hg hB hT hx
  have hk : c + g * 4096 = W := ((mask_3 c A g B T hc hA hg hB hT).symm.trans (congrArg (fun z => z &&& 28799) hx.symm)).trans hm
  have hq : partsT.getD 5 0 = 6 := by decide
  have p1 : dP 5 1 128 32 x = 0 := by unfold dP; rw [hq]; exact if_pos (by decide)
  have p2 : dP 5 2 32768 32 x = B := by unfold dP; rw [hq]; rw [if_neg (by decide)]; exact d2
  have p3 : dP 5 4 1048576 32 x = T % 32 := by unfold dP; rw [hq]; rw [if_neg (by decide), d3]
  have p4 : dP 5 8 1048576 4096 x = 0 := by unfold dP; rw [hq]; exact if_pos (by decide)
  have p5 : dB 5 67108864 x = false := by unfold dB; rw [hq]; rfl
  have p6 : dB 5 33554432 x = false := by unfold dB; rw [hq]; rfl
  rw [p1, p2, p3, p4, p5, p6]
  clear p1 p2 p3 p4 p5 p6 hm hq
  rw [immD_5, sext13, (getI_num x).1, (getI_num x).2.2.2.2.2.1, (getI_num x).2.2.2.2.2.2.1, (getI_num x).2.2.2.2.2.2.2.1, d6, d4, d8, d9] at hv
  obtain ⟨h0, h1, h2, h3⟩ := v13 _ v U (even5 _ _ _ _) hv.symm hU
  refine ⟨⟨h0, h1, h2⟩, ?_⟩
  have hI := immP_5 U v hU h0 h1 h2
  obtain ⟨k1, k2, k3, k4⟩ := back5 U (T / 2048 % 2) (T / 32 % 64) (A / 2) (A % 2) (Nat.mod_lt _ (by decide)) (Nat.mod_lt _ (by decide)) (half_lt A hA) (Nat.mod_lt _ (by decide)) (by rw [h3]; clear d0 d1 d2 d3 d4 d5 d6 d7 d8 d9 d10 d11 hx hk hI h3 hv hU h0 h1 h2; omega)
  rw [k1, k2, k3, k4] at hI
  exact ((combine (plain_parts 0 B (T % 32) (0)) hI).trans (sum_5 W c A g B T hT hk)).trans hx.symm
theorem sum_6 (W c A g B T : Nat) (hT : T < 4096) (hm : c + g * 4096 = W)  : W + (0 * 128 + B * 32768 + (T % 32) * 1048576 + 0 * 1048576) + (T / 32 % 128 * 33554432 + A * 128) = c + A * 128 + g * 4096 + B * 32768 + T * 1048576 := by
  rw [← hm]; omega
theorem wd_6 (W c A g B T : Nat) (hc : c < 128) (hA : A < 32) (hg : g < 8) (hB : B < 32) (hT : T < 4096) (x : Nat) (hx : x = c + A * 128 + g * 4096 + B * 32768 + T * 1048576) (hm : x &&& 28799 = W) (v : Int) (hv : immD 6 x = v) (U : Nat) (hU : (U : Int) = v % 18446744073709551616) :
    ((spanN 6).1 ≤ v ∧ v ≤ (spanN 6).2.1 ∧ v % (spanN 6).2.2 = 0) ∧ W + partsS (dP 6 1 128 32 x) (dP 6 2 32768 32 x) (dP 6 4 1048576 32 x) (dP 6 8 1048576 4096 x) (dB 6 67108864 x) (dB 6 33554432 x) + immP 6 U = x := by
  obtain ⟨d0, d1, d2, d3, d4, d5, d6, d7, d8, d9, d10, d11⟩ := digits c A g B T x hc hA hg hB hT hx
  have hk : c + g * 4096 = W := ((mask_3 c A g B T hc hA hg hB hT).symm.trans (congrArg (fun z => z &&& 28799) hx.symm)).trans hm
  have hq : partsT.getD 6 0 = 6 := by decide
  have p1 : dP 6 1 128 32 x = 0 := by unfold dP; rw [hq]; exact if_pos (by decide)
  have p2 : dP 6 2 32768 32 x = B := by unfold dP; rw [hq]; rw [if_neg (by decide)]; exact d2
  have p3 : dP 6 4 1048576 32 x = T % 32 := by unfold dP; rw [hq]; rw [if_neg (by decide), d3]
  have p4 : dP 6 8 1048576 4096 x = 0 := by unfold dP; rw [hq]; exact if_pos (by decide)
  have p5 : dB 6 67108864 x = false := by unfold dB; rw [hq]; rfl
  have p6 : dB 6 33554432 x = false := by unfold dB; rw [hq]; rfl
  rw [p1, p2, p3, p4, p5, p6]
  clear p1 p2 p3 p4 p5 p6 hm hq
  rw [immD_6, sext12, (getI_num x).2.2.2.2.2.2.2.2.1, (getI_num x).2.2.2.2.2.2.2.2.2.1, d4, d1] at hv
  obtain ⟨h0, h1, h3⟩ := v12 _ v U hv.symm hU
  have h2 : v % 1 = 0 := Int.emod_one v
  refine ⟨⟨h0, h1, h2⟩, ?_⟩
  have hI := immP_6 U v hU h0 h1 h2
  obtain ⟨k1, k2⟩ := back6 U (T / 32 % 128) A (Nat.mod_lt _ (by decide)) hA (by rw [h3]; clear d0 d1 d2 d3 d4 d5 d6 d7 d8 d9 d10 d11 hx hk hI h3 hv hU h0 h1 h2; omega)
  rw [k1, k2] at hI
  exact ((combine (plain_parts 0 B (T % 32) (0)) hI).trans (sum_6 W c A g B T hT hk)).trans hx.symm
theorem sum_7 (W c A g B T : Nat) (hT : T < 4096) (hm : c + g * 4096 + T / 64 * 67108864 = W)  : W + (A * 128 + B * 32768 + 0 * 1048576 + 0 * 1048576) + T % 64 * 1048576 = c + A * 128 + g * 4096 + B * 32768 + T * 1048576 := by
  rw [← hm]; omega
theorem wd_7 (W c A g B T : Nat) (hc : c < 128) (hA : A < 32) (hg : g < 8) (hB : B < 32) (hT : T < 4096) (x : Nat) (hx : x = c + A * 128 + g * 4096 + B * 32768 + T * 1048576) (hm : x &&& 4227887231 = W) (v : Int) (hv : immD 7 x = v) (U : Nat) (hU : (U : Int) = v % 18446744073709551616) :
    ((spanN 7).1 ≤ v ∧ v ≤ (spanN 7).2.1 ∧ v % (spanN 7).2.2 = 0) ∧ W + partsS (dP 7 1 128 32 x) (dP 7 2 32768 32 x) (dP 7 4 1048576 32 x) (dP 7 8 1048576 4096 x) (dB 7 67108864 x) (dB 7 33554432 x) + immP 7 U = x := by
  obtain ⟨d0, d1, d2, d3, d4, d5, d6, d7, d8, d9, d10, d11⟩ := digits c A g B T x hc hA hg hB hT hx
  have hk : c + g * 4096 + T / 64 * 67108864 = W := ((mask_7 c A g B T hc hA hg hB hT).symm.trans (congrArg (fun z => z &&& 4227887231) hx.symm)).trans hm
  have hq : partsT.getD 7 0 = 3 := by decide
  have p1 : dP 7 1 128 32 x = A := by unfold dP; rw [hq]; rw [if_neg (by decide)]; exact d1
  have p2 : dP 7 2 32768 32 x = B := by unfold dP; rw [hq]; rw [if_neg (by decide)]; exact d2
  have p3 : dP 7 4 1048576 32 x = 0 := by unfold dP; rw [hq]; exact if_pos (by decide)
  have p4 : dP 7 8 1048576 4096 x = 0 := by unfold dP; rw [hq]; exact if_pos (by decide)
  have p5 : dB 7 67108864 x = false := by unfold dB; rw [hq]; rfl
  have p6 : dB 7 33554432 x = false := by unfold dB; rw [hq]; rfl
  rw [p1, p2, p3, p4, p5, p6]
  clear p1 p2 p3 p4 p5 p6 hm hq
  rw [immD_7, (getI_num x).2.2.2.2.2.2.2.2.2.2.1, d3] at hv
  clear d0 d1 d2 d3 d4 d5 d6 d7 d8 d9 d10 d11
  have HX : Hid (_ ∧ _) := ⟨hx, hk⟩
  clear hx hk
  have h0 : 0 ≤ v := by omega
  have h1 : v ≤ 63 := by omega
  have h2 : v % 1 = 0 := Int.emod_one v
  have h3 : U = T % 64 := by omega
  refine ⟨⟨h0, h1, h2⟩, ?_⟩
  have hI := immP_7 U v hU h0 h1 h2
  replace hI := hI.trans (congrArg (fun z => z * 1048576) h3)
  exact ((combine (plain_parts A B (0) (0)) hI).trans (sum_7 W c A g B T hT HX.out.2)).trans HX.out.1.symm
theorem sum_8 (W c A g B T : Nat) (hT : T < 4096) (hm : c + g * 4096 + T / 32 * 33554432 = W)  : W + (A * 128 + B * 32768 + 0 * 1048576 + 0 * 1048576) + T % 32 * 1048576 = c + A * 128 + g * 4096 + B * 32768 + T * 1048576 := by
  rw [← hm]; omega
theorem wd_8 (W c A g B T : Nat) (hc : c < 128) (hA : A < 32) (hg : g < 8) (hB : B < 32) (hT : T < 4096) (x : Nat) (hx : x = c + A * 128 + g * 4096 + B * 32768 + T * 1048576) (hm : x &&& 4261441663 = W) (v : Int) (hv : immD 8 x = v) (U : Nat) (hU : (U : Int) = v % 18446744073709551616) :
    ((spanN 8).1 ≤ v ∧ v ≤ (spanN 8).2.1 ∧ v % (spanN 8).2.2 = 0) ∧ W + partsS (dP 8 1 128 32 x) (dP 8 2 32768 32 x) (dP 8 4 1048576 32 x) (dP 8 8 1048576 4096 x) (dB 8 67108864 x) (dB 8 33554432 x) + immP 8 U = x := by
  obtain ⟨d0, d1, d2, d3, d4, d5, d6, d7, d8, d9, d10, d11⟩ := digits c A g B T x hc hA hg hB hT hx
  have hk : c + g * 4096 + T / 32 * 33554432 = W := ((mask_8 c A g B T hc hA hg hB hT).symm.trans (congrArg (fun z => z &&& 4261441663) hx.symm)).trans hm
  have hq : partsT.getD 8 0 = 3 := by decide
  have p1 : dP 8 1 128 32 x = A := by unfold dP; rw [hq]; rw [if_neg (by decide)]; exact d1
  have p2 : dP 8 2 32768 32 x = B := by unfold dP; rw [hq]; rw [if_neg (by decide)]; exact d2
  have p3 : dP 8 4 1048576 32 x = 0 := by unfold dP; rw [hq]; exact if_pos (by decide)
  have p4 : dP 8 8 1048576 4096 x = 0 := by unfold dP; rw [hq]; exact if_pos (by decide)
  have p5 : dB 8 67108864 x = false := by unfold dB; rw [hq]; rfl
  have p6 : dB 8 33554432 x = false := by unfold dB; rw [hq]; rfl
  rw [p1, p2, p3, p4, p5, p6]
  clear p1 p2 p3 p4 p5 p6 hm hq
  rw [immD_8, (getI_num x).2.2.2.2.2.2.2.2.2.2.2.1, d3] at hv
  clear d0 d1 d2 d3 d4 d5 d6 d7 d8 d9 d10 d11
  have HX : Hid (_ ∧ _) := ⟨hx, hk⟩
  clear hx hk
  have h0 : 0 ≤ v := by omega
  have h1 : v ≤ 31 := by omega
  have h2 : v % 1 = 0 := Int.emod_one v
  have h3 : U = T % 32 := by omega
  refine ⟨⟨h0, h1, h2⟩, ?_⟩
  have hI := immP_8 U v hU h0 h1 h2
  replace hI := hI.trans (congrArg (fun z => z * 1048576) h3)
  exact ((combine (plain_parts A B (0) (0)) hI).trans (sum_8 W c A g B T hT HX.out.2)).trans HX.out.1.symm
theorem sum_9 (W c A g B T : Nat) (hT : T < 4096) (hm : c + g * 4096 + T / 32 * 33554432 = W)  : W + (A * 128 + B * 32768 + (T % 32) * 1048576 + 0 * 1048576) = c + A * 128 + g * 4096 + B * 32768 + T * 1048576 := by
  rw [← hm]; omega
theorem wd_9 (W c A g B T : Nat) (hc : c < 128) (hA : A < 32) (hg : g < 8) (hB : B < 32) (hT : T < 4096) (x : Nat) (hx : x = c + A * 128 + g * 4096 + B * 32768 + T * 1048576) (hm : x &&& 4261441663 = W) (v : Int) (hv : immD 9 x = v) (U : Nat) (hU : (U : Int) = v % 18446744073709551616) :
    ((spanN 9).1 ≤ v ∧ v ≤ (spanN 9).2.1 ∧ v % (spanN 9).2.2 = 0) ∧ W + partsS (dP 9 1 128 32 x) (dP 9 2 32768 32 x) (dP 9 4 1048576 32 x) (dP 9 8 1048576 4096 x) (dB 9 67108864 x) (dB 9 33554432 x) + immP 9 U = x := by
  obtain ⟨d0, d1, d2, d3, d4, d5, d6, d7, d8, d9, d10, d11⟩ := digits c A g B T x hc hA hg hB hT hx
  have hk : c + g * 4096 + T / 32 * 33554432 = W := ((mask_8 c A g B T hc hA hg hB hT).symm.trans (congrArg (fun z => z &&& 4261441663) hx.symm)).trans hm
  have hq : partsT.getD 9 0 = 7 := by decide
  have p1 : dP 9 1 128 32 x = A := by unfold dP; rw [hq]; rw [if_neg (by decide)]; exact d1
  have p2 : dP 9 2 32768 32 x = B := by unfold dP; rw [hq]; rw [if_neg (by decide)]; exact d2
  have p3 : dP 9 4 1048576 32 x = T % 32 := by unfold dP; rw [hq]; rw [if_neg (by decide), d3]
  have p4 : dP 9 8 1048576 4096 x = 0 := by unfold dP; rw [hq]; exact if_pos (by decide)
  have p5 : dB 9 67108864 x = false := by unfold dB; rw [hq]; rfl
  have p6 : dB 9 33554432 x = false := by unfold dB; rw [hq]; rfl
  rw [p1, p2, p3, p4, p5, p6]
  clear p1 p2 p3 p4 p5 p6 hm hq
  rw [immD_none 9 x (by decide)] at hv
  clear d0 d1 d2 d3 d4 d5 d6 d7 d8 d9 d10 d11
  have h0 : 0 ≤ v := by rw [← hv]; decide
  have h1 : v ≤ 0 := by rw [← hv]; decide
  have h2 : v % 1 = 0 := by rw [← hv]; decide
  refine ⟨⟨h0, h1, h2⟩, ?_⟩
  have hI := immP_9 U v hU h0 h1 h2
  exact ((combine0 (plain_parts A B (T % 32) (0)) hI).trans (sum_9 W c A g B T hT hk)).trans hx.symm
theorem sum_10 (W c A g B T : Nat) (hT : T < 4096) (hm : c + g * 4096 = W)  : W + (A * 128 + B * 32768 + 0 * 1048576 + 0 * 1048576) + T % 4096 * 1048576 = c + A * 128 + g * 4096 + B * 32768 + T * 1048576 := by
  rw [← hm]; omega
theorem wd_10 (W c A g B T : Nat) (hc : c < 128) (hA : A < 32) (hg : g < 8) (hB : B < 32) (hT : T < 4096) (x : Nat) (hx : x = c + A * 128 + g * 4096 + B * 32768 + T * 1048576) (hm : x &&& 28799 = W) (v : Int) (hv : immD 10 x = v) (U : Nat) (hU : (U : Int) = v % 18446744073709551616) :
    ((spanN 10).1 ≤ v ∧ v ≤ (spanN 10).2.1 ∧ v % (spanN 10).2.2 = 0) ∧ W + partsS (dP 10 1 128 32 x) (dP 10 2 32768 32 x) (dP 10 4 1048576 32 x) (dP 10 8 1048576 4096 x) (dB 10 67108864 x) (dB 10 33554432 x) + immP 10 U = x := by
  obtain ⟨d0, d1, d2, d3, d4, d5, d6, d7, d8, d9, d10, d11⟩ := digits c A g B T x hc hA hg hB hT hx
  have hk : c + g * 4096 = W := ((mask_3 c A g B T hc hA hg hB hT).symm.trans (congrArg (fun z => z &&& 28799) hx.symm)).trans hm
  have hq : partsT.getD 10 0 = 3 := by decide
  have p1 : dP 10 1 128 32 x = A := by unfold dP; rw [hq]; rw [if_neg (by decide)]; exact d1
  have p2 : dP 10 2 32768 32 x = B := by unfold dP; rw [hq]; rw [if_neg (by decide)]; exact d2
  have p3 : dP 10 4 1048576 32 x = 0 := by unfold dP; rw [hq]; exact if_pos (by decide)
  have p4 : dP 10 8 1048576 4096 x = 0 := by unfold dP; rw [hq]; exact if_pos (by decide)
  have p5 : dB 10 67108864 x = false := by unfold dB; rw [hq]; rfl
  have p6 : dB 10 33554432 x = false := by unfold dB; rw [hq]; rfl
  rw [p1, p2, p3, p4, p5, p6]
  clear p1 p2 p3 p4 p5 p6 hm hq
  rw [immD_10, (getI_num x).2.2.2.2.1, d3] at hv
  clear d0 d1 d2 d3 d4 d5 d6 d7 d8 d9 d10 d11
  have HX : Hid (_ ∧ _) := ⟨hx, hk⟩
  clear hx hk
  have h0 : 0 ≤ v := by omega
  have h1 : v ≤ 4095 := by omega
  have h2 : v % 1 = 0 := Int.emod_one v
  have h3 : U = T % 4096 := by omega
  refine ⟨⟨h0, h1, h2⟩, ?_⟩
  have hI := immP_10 U v hU h0 h1 h2
  replace hI := hI.trans (congrArg (fun z => z % 4096 * 1048576) h3)
  replace hI := hI.trans (congrArg (fun z => z * 1048576) (Nat.mod_mod _ _))
  exact ((combine (plain_parts A B (0) (0)) hI).trans (sum_10 W c A g B T hT HX.out.2)).trans HX.out.1.symm
theorem sum_11 (W c A g B T : Nat) (hT : T < 4096) (hm : c + A * 128 + g * 4096 + B * 32768 + T * 1048576 = W)  : W + (0 * 128 + 0 * 32768 + 0 * 1048576 + 0 * 1048576) = c + A * 128 + g * 4096 + B * 32768 + T * 1048576 := by
  rw [← hm]; omega
theorem wd_11 (W c A g B T : Nat) (hc : c < 128) (hA : A < 32) (hg : g < 8) (hB : B < 32) (hT : T < 4096) (x : Nat) (hx : x = c + A * 128 + g * 4096 + B * 32768 + T * 1048576) (hm : x &&& 4294967295 = W) (v : Int) (hv : immD 11 x = v) (U : Nat) (hU : (U : Int) = v % 18446744073709551616) :
    ((spanN 11).1 ≤ v ∧ v ≤ (spanN 11).2.1 ∧ v % (spanN 11).2.2 = 0) ∧ W + partsS (dP 11 1 128 32 x) (dP 11 2 32768 32 x) (dP 11 4 1048576 32 x) (dP 11 8 1048576 4096 x) (dB 11 67108864 x) (dB 11 33554432 x) + immP 11 U = x := by
  obtain ⟨d0, d1, d2, d3, d4, d5, d6, d7, d8, d9, d10, d11⟩ := digits c A g B T x hc hA hg hB hT hx
  have hk : c + A * 128 + g * 4096 + B * 32768 + T * 1048576 = W := ((mask_11 c A g B T hc hA hg hB hT).symm.trans (congrArg (fun z => z &&& 4294967295) hx.symm)).trans hm
  have hq : partsT.getD 11 0 = 0 := by decide
  have p1 : dP 11 1 128 32 x = 0 := by unfold dP; rw [hq]; exact if_pos (by decide)
  have p2 : dP 11 2 32768 32 x = 0 := by unfold dP; rw [hq]; exact if_pos (by decide)
  have p3 : dP 11 4 1048576 32 x = 0 := by unfold dP; rw [hq]; exact if_pos (by decide)
  have p4 : dP 11 8 1048576 4096 x = 0 := by unfold dP; rw [hq]; exact if_pos (by decide)
  have p5 : dB 11 67108864 x = false := by unfold dB; rw [hq]; rfl
  have p6 : dB 11 33554432 x = false := by unfold dB; rw [hq]; rfl
  rw [p1, p2, p3, p4, p5, p6]
  clear p1 p2 p3 p4 p5 p6 hm hq
  rw [immD_none 11 x (by decide)] at hv
  clear d0 d1 d2 d3 d4 d5 d6 d7 d8 d9 d10 d11
  have h0 : 0 ≤ v := by rw [← hv]; decide
  have h1 : v ≤ 0 := by rw [← hv]; decide
  have h2 : v % 1 = 0 := by rw [← hv]; decide
  refine ⟨⟨h0, h1, h2⟩, ?_⟩
  have hI := immP_11 U v hU h0 h1 h2
  exact ((combine0 (plain_parts 0 0 (0) (0)) hI).trans (sum_11 W c A g B T hT hk)).trans hx.symm
theorem sum_12 (W c A g B T : Nat) (hT : T < 4096) (hm : c + g * 4096 = W)  : W + (A * 128 + B * 32768 + 0 * 1048576 + (T % 4096) * 1048576) = c + A * 128 + g * 4096 + B * 32768 + T * 1048576 := by
  rw [← hm]; omega
theorem wd_12 (W c A g B T : Nat) (hc : c < 128) (hA : A < 32) (hg : g < 8) (hB : B < 32) (hT : T < 4096) (x : Nat) (hx : x = c + A * 128 + g * 4096 + B * 32768 + T * 1048576) (hm : x &&& 28799 = W) (v : Int) (hv : immD 12 x = v) (U : Nat) (hU : (U : Int) = v % 18446744073709551616) :
    ((spanN 12).1 ≤ v ∧ v ≤ (spanN 12).2.1 ∧ v % (spanN 12).2.2 = 0) ∧ W + partsS (dP 12 1 128 32 x) (dP 12 2 32768 32 x) (dP 12 4 1048576 32 x) (dP 12 8 1048576 4096 x) (dB 12 67108864 x) (dB 12 33554432 x) + immP 12 U = x := by
  obtain ⟨d0, d1, d2, d3, d4, d5, d6, d7, d8, d9, d10, d11⟩ := digits c A g B T x hc hA hg hB hT hx
  have hk : c + g * 4096 = W := ((mask_3 c A g B T hc hA hg hB hT).symm.trans (congrArg (fun z => z &&& 28799) hx.symm)).trans hm
  have hq : partsT.getD 12 0 = 11 := by decide
  have p1 : dP 12 1 128 32 x = A := by unfold dP; rw [hq]; rw [if_neg (by decide)]; exact d1
  have p2 : dP 12 2 32768 32 x = B := by unfold dP; rw [hq]; rw [if_neg (by decide)]; exact d2
  have p3 : dP 12 4 1048576 32 x = 0 := by unfold dP; rw [hq]; exact if_pos (by decide)
  have p4 : dP 12 8 1048576 4096 x = T % 4096 := by unfold dP; rw [hq]; rw [if_neg (by decide), d3]
  have p5 : dB 12 67108864 x = false := by unfold dB; rw [hq]; rfl
  have p6 : dB 12 33554432 x = false := by unfold dB; rw [hq]; rfl
  rw [p1, p2, p3, p4, p5, p6]
  clear p1 p2 p3 p4 p5 p6 hm hq
  rw [immD_none 12 x (by decide)] at hv
  clear d0 d1 d2 d3 d4 d5 d6 d7 d8 d9 d10 d11
  have h0 : 0 ≤ v := by rw [← hv]; decide
  have h1 : v ≤ 0 := by rw [← hv]; decide
  have h2 : v % 1 = 0 := by rw [← hv]; decide
  refine ⟨⟨h0, h1, h2⟩, ?_⟩
  have hI := immP_12 U v hU h0 h1 h2
  exact ((combine0 (plain_parts A B (0) (T % 4096)) hI).trans (sum_12 W c A g B T hT hk)).trans hx.symm
theorem sum_13 (W c A g B T : Nat) (hT : T < 4096) (hm : c + g * 4096 = W)  : W + (A * 128 + 0 * 32768 + 0 * 1048576 + (T % 4096) * 1048576) + B * 32768 = c + A * 128 + g * 4096 + B * 32768 + T * 1048576 := by
  rw [← hm]; omega
theorem wd_13 (W c A g B T : Nat) (hc : c < 128) (hA : A < 32) (hg : g < 8) (hB : B < 32) (hT : T < 4096) (x : Nat) (hx : x = c + A * 128 + g * 4096 + B * 32768 + T * 1048576) (hm : x &&& 28799 = W) (v : Int) (hv : immD 13 x = v) (U : Nat) (hU : (U : Int) = v % 18446744073709551616) :
    ((spanN 13).1 ≤ v ∧ v ≤ (spanN 13).2.1 ∧ v % (spanN 13).2.2 = 0) ∧ W + partsS (dP 13 1 128 32 x) (dP 13 2 32768 32 x) (dP 13 4 1048576 32 x) (dP 13 8 1048576 4096 x) (dB 13 67108864 x) (dB 13 33554432 x) + immP 13 U = x := by
  obtain ⟨d0, d1, d2, d3, d4, d5, d6, d7, d8, d9, d10, d11⟩ := digits c A g B T x hc hA hg hB hT hx
  have hk : c + g * 4096 = W := ((mask_3 c A g B T hc hA hg hB hT).symm.trans (congrArg (fun z => z &&& 28799) hx.symm)).trans hm
  have hq : partsT.getD 13 0 = 9 := by decide
  have p1 : dP 13 1 128 32 x = A := by unfold dP; rw [hq]; rw [if_neg (by decide)]; exact d1
  have p2 : dP 13 2 32768 32 x = 0 := by unfold dP; rw [hq]; exact if_pos (by decide)
  have p3 : dP 13 4 1048576 32 x = 0 := by unfold dP; rw [hq]; exact if_pos (by decide)
  have p4 : dP 13 8 1048576 4096 x = T % 4096 := by unfold dP; rw [hq]; rw [if_neg (by decide), d3]
  have p5 : dB 13 67108864 x = false := by unfold dB; rw [hq]; rfl
  have p6 : dB 13 33554432 x = false := by unfold dB; rw [hq]; rfl
  rw [p1, p2, p3, p4, p5, p6]
  clear p1 p2 p3 p4 p5 p6 hm hq
  rw [immD_13, (getI_num x).2.2.2.2.2.2.2.2.2.2.2.2, d2] at hv
  clear d0 d1 d2 d3 d4 d5 d6 d7 d8 d9 d10 d11
  have HX : Hid (_ ∧ _) := ⟨hx, hk⟩
  clear hx hk
  have h0 : 0 ≤ v := by omega
  have h1 : v ≤ 31 := by omega
  have h2 : v % 1 = 0 := Int.emod_one v
  have h3 : U = B := by omega
  refine ⟨⟨h0, h1, h2⟩, ?_⟩
  have hI := immP_13 U v hU h0 h1 h2
  replace hI := hI.trans (congrArg (fun z => z * 32768) h3)
  exact ((combine (plain_parts A 0 (0) (T % 4096)) hI).trans (sum_13 W c A g B T hT HX.out.2)).trans HX.out.1.symm
theorem sum_14 (W c A g B T : Nat) (hT : T < 4096) (hm : c + g * 4096 + T % 32 * 1048576 + T / 128 * 134217728 = W)  : W + (A * 128 + B * 32768 + 0 * 1048576 + 0 * 1048576 + T / 64 % 2 * 64 * 1048576 + T / 32 % 2 * 32 * 1048576) = c + A * 128 + g * 4096 + B * 32768 + T * 1048576 := by
  rw [← hm]; omega
theorem wd_14 (W c A g B T : Nat) (hc : c < 128) (hA : A < 32) (hg : g < 8) (hB : B < 32) (hT : T < 4096) (x : Nat) (hx : x = c + A * 128 + g * 4096 + B * 32768 + T * 1048576) (hm : x &&& 4193284223 = W) (v : Int) (hv : immD 14 x = v) (U : Nat) (hU : (U : Int) = v % 18446744073709551616) :
    ((spanN 14).1 ≤ v ∧ v ≤ (spanN 14).2.1 ∧ v % (spanN 14).2.2 = 0) ∧ W + partsS (dP 14 1 128 32 x) (dP 14 2 32768 32 x) (dP 14 4 1048576 32 x) (dP 14 8 1048576 4096 x) (dB 14 67108864 x) (dB 14 33554432 x) + immP 14 U = x := by
  obtain ⟨d0, d1, d2, d3, d4, d5, d6, d7, d8, d9, d10, d11⟩ := digits c A g B T x hc hA hg hB hT hx
  have hk : c + g * 4096 + T % 32 * 1048576 + T / 128 * 134217728 = W := ((mask_14 c A g B T hc hA hg hB hT).symm.trans (congrArg (fun z => z &&& 4193284223) hx.symm)).trans hm
  have hq : partsT.getD 14 0 = 19 := by decide
  have p1 : dP 14 1 128 32 x = A := by unfold dP; rw [hq]; rw [if_neg (by decide)]; exact d1
  have p2 : dP 14 2 32768 32 x = B := by unfold dP; rw [hq]; rw [if_neg (by decide)]; exact d2
  have p3 : dP 14 4 1048576 32 x = 0 := by unfold dP; rw [hq]; exact if_pos (by decide)
  have p4 : dP 14 8 1048576 4096 x = 0 := by unfold dP; rw [hq]; exact if_pos (by decide)
  have p5 : dB 14 67108864 x = (T / 64 % 2 == 1) := by unfold dB; rw [hq, d5]; rfl
  have p6 : dB 14 33554432 x = (T / 32 % 2 == 1) := by unfold dB; rw [hq, d4]; rfl
  rw [p1, p2, p3, p4, p5, p6]
  clear p1 p2 p3 p4 p5 p6 hm hq
  rw [immD_none 14 x (by decide)] at hv
  clear d0 d1 d2 d3 d4 d5 d6 d7 d8 d9 d10 d11
  have h0 : 0 ≤ v := by rw [← hv]; decide
  have h1 : v ≤ 0 := by rw [← hv]; decide
  have h2 : v % 1 = 0 := by rw [← hv]; decide
  refine ⟨⟨h0, h1, h2⟩, ?_⟩
  have hI := immP_14 U v hU h0 h1 h2
  have ho := order_parts A B (0) (0) (T / 64 % 2 == 1) (T / 32 % 2 == 1)
  rw [bit64 _ (Nat.mod_lt _ (by decide)), bit32 _ (Nat.mod_lt _ (by decide))] at ho
  exact ((combine0 ho hI).trans (sum_14 W c A g B T hT hk)).trans hx.symm
theorem sum_15 (W c A g B T : Nat) (hT : T < 4096) (hm : c + g * 4096 + T / 128 * 134217728 = W)  : W + (A * 128 + B * 32768 + (T % 32) * 1048576 + 0 * 1048576 + T / 64 % 2 * 64 * 1048576 + T / 32 % 2 * 32 * 1048576) = c + A * 128 + g * 4096 + B * 32768 + T * 1048576 := by
  rw [← hm]; omega
theorem wd_15 (W c A g B T : Nat) (hc : c < 128) (hA : A < 32) (hg : g < 8) (hB : B < 32) (hT : T < 4096) (x : Nat) (hx : x = c + A * 128 + g * 4096 + B * 32768 + T * 1048576) (hm : x &&& 4160778367 = W) (v : Int) (hv : immD 15 x = v) (U : Nat) (hU : (U : Int) = v % 18446744073709551616) :
    ((spanN 15).1 ≤ v ∧ v ≤ (spanN 15).2.1 ∧ v % (spanN 15).2.2 = 0) ∧ W + partsS (dP 15 1 128 32 x) (dP 15 2 32768 32 x) (dP 15 4 1048576 32 x) (dP 15 8 1048576 4096 x) (dB 15 67108864 x) (dB 15 33554432 x) + immP 15 U = x := by
  obtain ⟨d0, d1, d2, d3, d4, d5, d6, d7, d8, d9, d10, d11⟩ := digits c A g B T x hc hA hg hB hT hx
  have hk : c + g * 4096 + T / 128 * 134217728 = W := ((mask_15 c A g B T hc hA hg hB hT).symm.trans (congrArg (fun z => z &&& 4160778367) hx.symm)).trans hm
  have hq : partsT.getD 15 0 = 23 := by decide
  have p1 : dP 15 1 128 32 x = A := by unfold dP; rw [hq]; rw [if_neg (by decide)]; exact d1
  have p2 : dP 15 2 32768 32 x = B := by unfold dP; rw [hq]; rw [if_neg (by decide)]; exact d2
  have p3 : dP 15 4 1048576 32 x = T % 32 := by unfold dP; rw [hq]; rw [if_neg (by decide), d3]
  have p4 : dP 15 8 1048576 4096 x = 0 := by unfold dP; rw [hq]; exact if_pos (by decide)
  have p5 : dB 15 67108864 x = (T / 64 % 2 == 1) := by unfold dB; rw [hq, d5]; rfl
  have p6 : dB 15 33554432 x = (T / 32 % 2 == 1) := by unfold dB; rw [hq, d4]; rfl
  rw [p1, p2, p3, p4, p5, p6]
  clear p1 p2 p3 p4 p5 p6 hm hq
  rw [immD_none 15 x (by decide)] at hv
  clear d0 d1 d2 d3 d4 d5 d6 d7 d8 d9 d10 d11
  have h0 : 0 ≤ v := by rw [← hv]; decide
  have h1 : v ≤ 0 := by rw [← hv]; decide
  have h2 : v % 1 = 0 := by rw [← hv]; decide
  refine ⟨⟨h0, h1, h2⟩, ?_⟩
  have hI := immP_15 U v hU h0 h1 h2
  have ho := order_parts A B (T % 32) (0) (T / 64 % 2 == 1) (T / 32 % 2 == 1)
  rw [bit64 _ (Nat.mod_lt _ (by decide)), bit32 _ (Nat.mod_lt _ (by decide))] at ho
  exact ((combine0 ho hI).trans (sum_15 W c A g B T hT hk)).trans hx.symm
theorem sum_16 (W c A g B T : Nat) (hT : T < 4096) (hm : c + A * 128 + g * 4096 + T / 32 * 33554432 = W)  : W + (0 * 128 + B * 32768 + (T % 32) * 1048576 + 0 * 1048576) = c + A * 128 + g * 4096 + B * 32768 + T * 1048576 := by
  rw [← hm]; omega
theorem wd_16 (W c A g B T : Nat) (hc : c < 128) (hA : A < 32) (hg : g < 8) (hB : B < 32) (hT : T < 4096) (x : Nat) (hx : x = c + A * 128 + g * 4096 + B * 32768 + T * 1048576) (hm : x &&& 4261445631 = W) (v : Int) (hv : immD 16 x = v) (U : Nat) (hU : (U : Int) = v % 18446744073709551616) :
    ((spanN 16).1 ≤ v ∧ v ≤ (spanN 16).2.1 ∧ v % (spanN 16).2.2 = 0) ∧ W + partsS (dP 16 1 128 32 x) (dP 16 2 32768 32 x) (dP 16 4 1048576 32 x) (dP 16 8 1048576 4096 x) (dB 16 67108864 x) (dB 16 33554432 x) + immP 16 U = x := by
  obtain ⟨d0, d1, d2, d3, d4, d5, d6, d7, d8, d9, d10, d11⟩ := digits c A g B T x hc hA hg hB hT hx
  have hk : c + A * 128 + g * 4096 + T / 32 * 33554432 = W := ((mask_16 c A g B T hc hA hg hB hT).symm.trans (congrArg (fun z => z &&& 4261445631) hx.symm)).trans hm
  have hq : partsT.getD 16 0 = 6 := by decide
  have p1 : dP 16 1 128 32 x = 0 := by unfold dP; rw [hq]; exact if_pos (by decide)
  have p2 : dP 16 2 32768 32 x = B := by unfold dP; rw [hq]; rw [if_neg (by decide)]; exact d2
  have p3 : dP 16 4 1048576 32 x = T % 32 := by unfold dP; rw [hq]; rw [if_neg (by decide), d3]
  have p4 : dP 16 8 1048576 4096 x = 0 := by unfold dP; rw [hq]; exact if_pos (by decide)
  have p5 : dB 16 67108864 x = false := by unfold dB; rw [hq]; rfl
  have p6 : dB 16 33554432 x = false := by unfold dB; rw [hq]; rfl
  rw [p1, p2, p3, p4, p5, p6]
  clear p1 p2 p3 p4 p5 p6 hm hq
  rw [immD_none 16 x (by decide)] at hv
  clear d0 d1 d2 d3 d4 d5 d6 d7 d8 d9 d10 d11
  have h0 : 0 ≤ v := by rw [← hv]; decide
  have h1 : v ≤ 0 := by rw [← hv]; decide
  have h2 : v % 1 = 0 := by rw [← hv]; decide
  refine ⟨⟨h0, h1, h2⟩, ?_⟩
  have hI := immP_16 U v hU h0 h1 h2
  exact ((combine0 (plain_parts 0 B (T % 32) (0)) hI).trans (sum_16 W c A g B T hT hk)).trans hx.symm
end Go.Proofs.YtooaafbdjnlmfaaGreatDoor

namespace Go.Proofs.YtooaafbdjnlmfaaGreatDoor
open Go.RowKit
set_option linter.unusedVariables false
set_option linter.unusedSimpArgs false
theorem wd_all (f W c A g B T : Nat) (hf : f < 17) (hz : f ≠ 0) (hc : c < 128) (hA : A < 32) (hg : g < 8) (hB : B < 32) (hT : T < 4096) (x : Nat) (hx : x = c + A * 128 + g * 4096 + B * 32768 + T * 1048576) (hm : x &&& fixedT.getD f 0 = W) (v : Int) (hv : immD f x = v) (U : Nat) (hU : (U : Int) = v % 18446744073709551616) :
    ((spanN f).1 ≤ v ∧ v ≤ (spanN f).2.1 ∧ v % (spanN f).2.2 = 0) ∧ W + partsS (dP f 1 128 32 x) (dP f 2 32768 32 x) (dP f 4 1048576 32 x) (dP f 8 1048576 4096 x) (dB f 67108864 x) (dB f 33554432 x) + immP f U = x := by
  have hcs : f = 1 ∨ f = 2 ∨ f = 3 ∨ f = 4 ∨ f = 5 ∨ f = 6 ∨ f = 7 ∨ f = 8 ∨ f = 9 ∨ f = 10 ∨ f = 11 ∨ f = 12 ∨ f = 13 ∨ f = 14 ∨ f = 15 ∨ f = 16 := by
    clear hx hm hU hv hc hA hg hB hT
    omega
  rcases hcs with rfl | rfl | rfl | rfl | rfl | rfl | rfl | rfl | rfl | rfl | rfl | rfl | rfl | rfl | rfl | rfl
  · exact wd_1 W c A g B T hc hA hg hB hT x hx hm v hv U hU
  · exact wd_2 W c A g B T hc hA hg hB hT x hx hm v hv U hU
  · exact wd_3 W c A g B T hc hA hg hB hT x hx hm v hv U hU
  · exact wd_4 W c A g B T hc hA hg hB hT x hx hm v hv U hU
  · exact wd_5 W c A g B T hc hA hg hB hT x hx hm v hv U hU
  · exact wd_6 W c A g B T hc hA hg hB hT x hx hm v hv U hU
  · exact wd_7 W c A g B T hc hA hg hB hT x hx hm v hv U hU
  · exact wd_8 W c A g B T hc hA hg hB hT x hx hm v hv U hU
  · exact wd_9 W c A g B T hc hA hg hB hT x hx hm v hv U hU
  · exact wd_10 W c A g B T hc hA hg hB hT x hx hm v hv U hU
  · exact wd_11 W c A g B T hc hA hg hB hT x hx hm v hv U hU
  · exact wd_12 W c A g B T hc hA hg hB hT x hx hm v hv U hU
  · exact wd_13 W c A g B T hc hA hg hB hT x hx hm v hv U hU
  · exact wd_14 W c A g B T hc hA hg hB hT x hx hm v hv U hU
  · exact wd_15 W c A g B T hc hA hg hB hT x hx hm v hv U hU
  · exact wd_16 W c A g B T hc hA hg hB hT x hx hm v hv U hU
theorem dp_among (f p k m last x : Nat) (hm : m = last + 1) : amongB ((dP f p k m x : Nat) : Int) (mostI f (p : Nat) (last : Nat)) = true := by
  unfold amongB mostI mostN dP
  rw [Int.toNat_natCast]
  subst hm
  have : x / k % (last + 1) < last + 1 := Nat.mod_lt (x / k) (Nat.succ_pos last)
  by_cases hp : partsT.getD f 0 &&& p = 0
  · rw [if_pos hp, if_pos hp]; exact decide_eq_true ⟨Int.le_refl _, Int.le_refl _⟩
  · rw [if_neg hp, if_neg hp]; exact decide_eq_true ⟨by omega, by omega⟩
theorem db_order (f x : Nat) : (decide (partsT.getD f 0 &&& 16 ≠ 0) || (!dB f 67108864 x && !dB f 33554432 x)) = true := by
  unfold dB
  by_cases hp : partsT.getD f 0 &&& 16 = 0
  · rw [decide_eq_false (by simpa using hp)]; rfl
  · rw [decide_eq_true hp]; rfl
theorem span_small : ∀ f, f < 17 → -9223372036854775808 ≤ (spanN f).1 ∧ (spanN f).2.1 < 9223372036854775808 := by decide
/-- what a word is decoded as is right, and its word is that word -/
theorem worded (x o : Nat) (hx : x < 4294967296) (h1 : 1 ≤ o) (h2 : o < 99) (hh : hit x o = true) (v : Int) (hv : immD (formsT.getD o 0) x = v) (U : Nat) (hU : (U : Int) = v % 18446744073709551616) :
    rightB (o : Nat) (dP (formsT.getD o 0) 1 128 32 x : Nat) (dP (formsT.getD o 0) 2 32768 32 x : Nat) (dP (formsT.getD o 0) 4 1048576 32 x : Nat) v (dP (formsT.getD o 0) 8 1048576 4096 x : Nat) (dB (formsT.getD o 0) 67108864 x) (dB (formsT.getD o 0) 33554432 x) = true ∧ (-9223372036854775808 ≤ v ∧ v < 9223372036854775808) ∧
    encS o (dP (formsT.getD o 0) 1 128 32 x) (dP (formsT.getD o 0) 2 32768 32 x) (dP (formsT.getD o 0) 4 1048576 32 x) (dP (formsT.getD o 0) 8 1048576 4096 x) (dB (formsT.getD o 0) 67108864 x) (dB (formsT.getD o 0) 33554432 x) U = x := by
  have hf := forms_lt o h2
  have hz := forms_pos o h2 h1
  have hfo : formI (o : Nat) = formsT.getD o 0 := by unfold formI; rw [if_pos ⟨by omega, by omega⟩, Int.toNat_natCast]
  have hm : x &&& fixedT.getD (formsT.getD o 0) 0 = wordsT.getD o 0 := eq_of_beq hh
  obtain ⟨c, A, g, B, T, hc, hA, hg, hB, hT, hd⟩ := own_digits x hx
  obtain ⟨hr, hs⟩ := wd_all (formsT.getD o 0) (wordsT.getD o 0) c A g B T hf hz hc hA hg hB hT x hd hm v hv U hU
  have hl := span_small _ hf
  refine ⟨?_, ⟨Int.le_trans hl.1 hr.1, Int.lt_of_le_of_lt hr.2.1 hl.2⟩, hs⟩
  unfold rightB partsB immB
  rw [hfo, decide_eq_true hz, decide_eq_true hr, show amongB ((dP (formsT.getD o 0) 1 128 32 x : Nat) : Int) (mostI (formsT.getD o 0) 1 31) = true from dp_among _ 1 128 32 31 x rfl, show amongB ((dP (formsT.getD o 0) 2 32768 32 x : Nat) : Int) (mostI (formsT.getD o 0) 2 31) = true from dp_among _ 2 32768 32 31 x rfl, show amongB ((dP (formsT.getD o 0) 4 1048576 32 x : Nat) : Int) (mostI (formsT.getD o 0) 4 31) = true from dp_among _ 4 1048576 32 31 x rfl, show amongB ((dP (formsT.getD o 0) 8 1048576 4096 x : Nat) : Int) (mostI (formsT.getD o 0) 8 4095) = true from dp_among _ 8 1048576 4096 4095 x rfl, db_order]
  rfl
end Go.Proofs.YtooaafbdjnlmfaaGreatDoor

namespace Go.Proofs.YtooaafbdjnlmfaaGreatDoor
open Go.RowKit
set_option linter.unusedVariables false
set_option linter.unusedSimpArgs false
theorem dec_all (f W c g h : Nat) (hf : f < 17) (hz : f ≠ 0) (hW : W = c + g * 4096 + h * 1048576) (hc : c < 128) (hg : g < 8) (hh : h < 4096) (e1 : f = 1 ∨ f = 2 → g = 0 ∧ h = 0) (e2 : f = 3 ∨ f = 4 ∨ f = 5 ∨ f = 6 ∨ f = 10 ∨ f = 12 ∨ f = 13 → h = 0) (e3 : f = 7 → h % 64 = 0) (e4 : f = 8 ∨ f = 9 ∨ f = 16 → h % 32 = 0) (e5 : f = 14 ∨ f = 15 → h % 128 = 0)
    (a b cc d : Nat) (aq rl : Bool) (la : a ≤ if partsT.getD f 0 &&& 1 = 0 then 0 else 31) (lb : b ≤ if partsT.getD f 0 &&& 2 = 0 then 0 else 31) (lc : cc ≤ if partsT.getD f 0 &&& 4 = 0 then 0 else 31) (ld : d ≤ if partsT.getD f 0 &&& 8 = 0 then 0 else 4095) (lo : partsT.getD f 0 &&& 16 = 0 → aq = false ∧ rl = false)
    (imm : Int) (U : Nat) (hU : (U : Int) = imm % 18446744073709551616) (hi : (spanN f).1 ≤ imm ∧ imm ≤ (spanN f).2.1 ∧ imm % (spanN f).2.2 = 0) (x : Nat) (hx : x = W + partsS a b cc d aq rl + immP f U) :
    x < 4294967296 ∧ dP f 1 128 32 x = a ∧ dP f 2 32768 32 x = b ∧ dP f 4 1048576 32 x = cc ∧ dP f 8 1048576 4096 x = d ∧ dB f 67108864 x = aq ∧ dB f 33554432 x = rl ∧ immD f x = imm := by
  have hcs : f = 1 ∨ f = 2 ∨ f = 3 ∨ f = 4 ∨ f = 5 ∨ f = 6 ∨ f = 7 ∨ f = 8 ∨ f = 9 ∨ f = 10 ∨ f = 11 ∨ f = 12 ∨ f = 13 ∨ f = 14 ∨ f = 15 ∨ f = 16 := by
    clear hx hW hU hi la lb lc ld lo e1 e2 e3 e4 e5
    omega
  rcases hcs with rfl | rfl | rfl | rfl | rfl | rfl | rfl | rfl | rfl | rfl | rfl | rfl | rfl | rfl | rfl | rfl
  · exact dec_1 W c g h hW hc hg hh (e1 (.inl rfl)) a b cc d aq rl la lb lc ld (lo (by decide)) imm U hU hi.1 hi.2.1 hi.2.2 x hx
  · exact dec_2 W c g h hW hc hg hh (e1 (.inr rfl)) a b cc d aq rl la lb lc ld (lo (by decide)) imm U hU hi.1 hi.2.1 hi.2.2 x hx
  · exact dec_3 W c g h hW hc hg hh (e2 (.inl rfl)) a b cc d aq rl la lb lc ld (lo (by decide)) imm U hU hi.1 hi.2.1 hi.2.2 x hx
  · exact dec_4 W c g h hW hc hg hh (e2 (.inr (.inl rfl))) a b cc d aq rl la lb lc ld (lo (by decide)) imm U hU hi.1 hi.2.1 hi.2.2 x hx
  · exact dec_5 W c g h hW hc hg hh (e2 (.inr (.inr (.inl rfl)))) a b cc d aq rl la lb lc ld (lo (by decide)) imm U hU hi.1 hi.2.1 hi.2.2 x hx
  · exact dec_6 W c g h hW hc hg hh (e2 (.inr (.inr (.inr (.inl rfl))))) a b cc d aq rl la lb lc ld (lo (by decide)) imm U hU hi.1 hi.2.1 hi.2.2 x hx
  · exact dec_7 W c g h hW hc hg hh (e3 rfl) a b cc d aq rl la lb lc ld (lo (by decide)) imm U hU hi.1 hi.2.1 hi.2.2 x hx
  · exact dec_8 W c g h hW hc hg hh (e4 (.inl rfl)) a b cc d aq rl la lb lc ld (lo (by decide)) imm U hU hi.1 hi.2.1 hi.2.2 x hx
  · exact dec_9 W c g h hW hc hg hh (e4 (.inr (.inl rfl))) a b cc d aq rl la lb lc ld (lo (by decide)) imm U hU hi.1 hi.2.1 hi.2.2 x hx
  · exact dec_10 W c g h hW hc hg hh (e2 (.inr (.inr (.inr (.inr (.inl rfl)))))) a b cc d aq rl la lb lc ld (lo (by decide)) imm U hU hi.1 hi.2.1 hi.2.2 x hx
  · exact dec_11 W c g h hW hc hg hh trivial a b cc d aq rl la lb lc ld (lo (by decide)) imm U hU hi.1 hi.2.1 hi.2.2 x hx
  · exact dec_12 W c g h hW hc hg hh (e2 (.inr (.inr (.inr (.inr (.inr (.inl rfl))))))) a b cc d aq rl la lb lc ld (lo (by decide)) imm U hU hi.1 hi.2.1 hi.2.2 x hx
  · exact dec_13 W c g h hW hc hg hh (e2 (.inr (.inr (.inr (.inr (.inr (.inr rfl))))))) a b cc d aq rl la lb lc ld (lo (by decide)) imm U hU hi.1 hi.2.1 hi.2.2 x hx
  · exact dec_14 W c g h hW hc hg hh (e5 (.inl rfl)) a b cc d aq rl la lb lc ld imm U hU hi.1 hi.2.1 hi.2.2 x hx
  · exact dec_15 W c g h hW hc hg hh (e5 (.inr rfl)) a b cc d aq rl la lb lc ld imm U hU hi.1 hi.2.1 hi.2.2 x hx
  · exact dec_16 W c g h hW hc hg hh (e4 (.inr (.inr rfl))) a b cc d aq rl la lb lc ld (lo (by decide)) imm U hU hi.1 hi.2.1 hi.2.2 x hx
theorem part_le (f p last : Nat) (a : Nat) (h : amongB a (mostI f p last) = true) : a ≤ if partsT.getD f 0 &&& p = 0 then 0 else last := by
  have h2 := of_decide_eq_true h
  unfold mostI mostN at h2
  rw [Int.toNat_natCast] at h2
  by_cases hp : partsT.getD f 0 &&& p = 0
  · rw [if_pos hp] at h2 ⊢; omega
  · rw [if_neg hp] at h2 ⊢; omega
/-- what Encode made Decode reads -/
theorem decoded (o a b c d : Nat) (imm : Int) (aq rl : Bool) (U : Nat) (hU : (U : Int) = imm % 18446744073709551616) (h1 : 1 ≤ o) (h2 : o < 99) (hp : partsB (formsT.getD o 0) a b c d aq rl = true) (hi : immB (formsT.getD o 0) imm = true) :
    encS o a b c d aq rl U < 4294967296 ∧ hit (encS o a b c d aq rl U) o = true ∧ decC (encS o a b c d aq rl U) o = instrC (o : Nat) (a : Nat) (b : Nat) (c : Nat) imm (d : Nat) aq rl := by
  have hf := forms_lt o h2
  have hz := forms_pos o h2 h1
  obtain ⟨sw, sp, si, ep, eo⟩ := enc_parts o a b c d imm aq rl U hU h1 h2 hp hi
  obtain ⟨d5, d6, d7⟩ := masksB _ hf hz
  obtain ⟨c1, c2, c3, c4, c5⟩ := masksD _ hf
  obtain ⟨m1, m2, m3⟩ := masksE _ hf
  have hfix := fixed_of _ _ _ _ _ _ sw sp si m1 c5 m3 d6 d7 m2
  obtain ⟨w0, g, h', hW, hc, hg, hh, e1, e2, e3, e4, e5⟩ := words_split o h2 h1
  have hp2 := hp
  unfold partsB at hp2
  simp only [Bool.and_eq_true] at hp2
  obtain ⟨g0, g1, g2, g3, g4⟩ := hp2
  have lo : partsT.getD (formsT.getD o 0) 0 &&& 16 = 0 → aq = false ∧ rl = false := by
    intro hq
    rw [decide_eq_false (by simpa using hq)] at g4
    cases aq <;> cases rl <;> simp at g4
    exact ⟨rfl, rfl⟩
  obtain ⟨r0, r1, r2, r3, r4, r5, r6, r7⟩ := dec_all (formsT.getD o 0) (wordsT.getD o 0) w0 g h' hf hz hW hc hg hh e1 e2 e3 e4 e5 a b c d aq rl (part_le _ 1 31 a g0) (part_le _ 2 31 b g1) (part_le _ 4 31 c g2) (part_le _ 8 4095 d g3) lo imm U hU (of_decide_eq_true hi) (encS o a b c d aq rl U) rfl
  refine ⟨r0, ?_, ?_⟩
  · unfold hit
    exact beq_iff_eq.2 hfix
  · unfold decC
    rw [r1, r2, r3, r4, r5, r6, r7]
end Go.Proofs.YtooaafbdjnlmfaaGreatDoor
