/- Plain numbers: what Encode made Decode reads. -/
import Derived.Test.YtooaafbdjnlmfaaGreatDoorQOut
namespace Go.Proofs.YtooaafbdjnlmfaaGreatDoor
open Go.RowKit
set_option linter.unusedVariables false
set_option linter.unusedSimpArgs false
theorem or_and (a b m : Nat) : (a ||| b) &&& m = (a &&& m) ||| (b &&& m) := by
  apply Nat.eq_of_testBit_eq
  intro i
  simp only [Nat.testBit_and, Nat.testBit_or]
  cases a.testBit i <;> cases b.testBit i <;> cases m.testBit i <;> rfl
theorem Sub.refl (m : Nat) : Sub m m := fun _ h => h
/-- the fixed bits of a joined word -/
theorem fixed_of (W P I m j i : Nat) (hW : Sub W m) (hP : Sub P j) (hI : Sub I i) (hm : m < 4294967296) (hj : j < 4294967296) (hi : i < 4294967296) (h1 : m &&& j = 0) (h2 : (m ||| j) &&& i = 0) (h3 : (m ||| j) < 4294967296) : (W + P + I) &&& m = W := by
  obtain ⟨e1, s1⟩ := hW.join hP (by omega) (by omega) h1
  obtain ⟨e2, s2⟩ := s1.join hI (by omega) (by omega) h2
  have d2 : i &&& m = 0 := by
    exact (Sub.refl i).apart (show Sub m (m ||| j) from fun k hk => by rw [Nat.testBit_or, hk]; rfl) (by rw [Nat.and_comm]; exact h2)
  have d1 : j &&& m = 0 := by rw [Nat.and_comm]; exact h1
  rw [← e2, ← e1, or_and, or_and, hW.and, hP.apart (Sub.refl m) d1, hI.apart (Sub.refl m) d2, Nat.or_zero, Nat.or_zero]
/-- two operations are told apart by bits that both fix -/
theorem told_all : ((List.range 99).all fun i => (List.range 99).all fun j => i == 0 || (j == 0 || (i == j || (wordsT.getD i 0 &&& fixedT.getD (formsT.getD j 0) 0 != wordsT.getD j 0 &&& fixedT.getD (formsT.getD i 0) 0)))) = true := by decide +kernel
theorem told_apart (i : Nat) (hi : i < 99) (j : Nat) (hj : j < 99) (h1 : 1 ≤ i) (h2 : 1 ≤ j) (hne : i ≠ j) : wordsT.getD i 0 &&& fixedT.getD (formsT.getD j 0) 0 ≠ wordsT.getD j 0 &&& fixedT.getD (formsT.getD i 0) 0 := by
  have h := List.all_eq_true.1 (List.all_eq_true.1 told_all i (by simpa using hi)) j (by simpa using hj)
  rw [show (i == 0) = false by simp; omega, show (j == 0) = false by simp; omega, show (i == j) = false by simpa using hne] at h
  simpa using h
theorem hit_one (x i j : Nat) (hi : i < 99) (hj : j < 99) (h1 : 1 ≤ i) (h2 : 1 ≤ j) (hx : hit x i = true) (hy : hit x j = true) : i = j := by
  refine Classical.byContradiction fun hne => told_apart i hi j hj h1 h2 hne ?_
  unfold hit at hx hy
  have ex := eq_of_beq hx
  have ey := eq_of_beq hy
  rw [← ex, ← ey, Nat.and_assoc, Nat.and_assoc, Nat.and_comm (fixedT.getD (formsT.getD i 0) 0)]
theorem wfactsA : ∀ i, i < 99 → 1 ≤ i → wordsT.getD i 0 = wordsT.getD i 0 % 128 + wordsT.getD i 0 / 4096 % 8 * 4096 + wordsT.getD i 0 / 1048576 * 1048576 ∧ wordsT.getD i 0 < 4294967296 := by decide +kernel
theorem wfactsB : ∀ i, i < 99 → 1 ≤ i → (formsT.getD i 0 = 1 ∨ formsT.getD i 0 = 2 → wordsT.getD i 0 < 128) := by decide +kernel
theorem wfactsC : ∀ i, i < 99 → 1 ≤ i → (formsT.getD i 0 = 3 ∨ formsT.getD i 0 = 4 ∨ formsT.getD i 0 = 5 ∨ formsT.getD i 0 = 6 ∨ formsT.getD i 0 = 10 ∨ formsT.getD i 0 = 12 ∨ formsT.getD i 0 = 13 → wordsT.getD i 0 < 32768) := by decide +kernel
theorem wfactsD : ∀ i, i < 99 → 1 ≤ i → (formsT.getD i 0 = 7 → wordsT.getD i 0 / 1048576 % 64 = 0) ∧ (formsT.getD i 0 = 8 ∨ formsT.getD i 0 = 9 ∨ formsT.getD i 0 = 16 → wordsT.getD i 0 / 1048576 % 32 = 0) ∧ (formsT.getD i 0 = 14 ∨ formsT.getD i 0 = 15 → wordsT.getD i 0 / 1048576 % 128 = 0) := by decide +kernel
/-- what is known of an operation's own bits -/
theorem words_split (i : Nat) (h : i < 99) (h1 : 1 ≤ i) : ∃ c g h' : Nat, wordsT.getD i 0 = c + g * 4096 + h' * 1048576 ∧ c < 128 ∧ g < 8 ∧ h' < 4096 ∧ (formsT.getD i 0 = 1 ∨ formsT.getD i 0 = 2 → g = 0 ∧ h' = 0) ∧ (formsT.getD i 0 = 3 ∨ formsT.getD i 0 = 4 ∨ formsT.getD i 0 = 5 ∨ formsT.getD i 0 = 6 ∨ formsT.getD i 0 = 10 ∨ formsT.getD i 0 = 12 ∨ formsT.getD i 0 = 13 → h' = 0) ∧ (formsT.getD i 0 = 7 → h' % 64 = 0) ∧ (formsT.getD i 0 = 8 ∨ formsT.getD i 0 = 9 ∨ formsT.getD i 0 = 16 → h' % 32 = 0) ∧ (formsT.getD i 0 = 14 ∨ formsT.getD i 0 = 15 → h' % 128 = 0) := by
  obtain ⟨a1, a2⟩ := wfactsA i h h1
  have b := wfactsB i h h1
  have c := wfactsC i h h1
  have d := wfactsD i h h1
  generalize wordsT.getD i 0 = W at *
  generalize formsT.getD i 0 = f at *
  refine ⟨W % 128, W / 4096 % 8, W / 1048576, a1, by omega, by omega, by omega, fun hf => ?_, fun hf => ?_, d.1, d.2.1, d.2.2⟩
  · have := b hf; omega
  · have := c hf; omega
theorem getI_num (x : Nat) : getI x 31 1 = x / 2147483648 % 2 ∧ getI x 21 10 = x / 2097152 % 1024 ∧ getI x 20 1 = x / 1048576 % 2 ∧ getI x 12 8 = x / 4096 % 256 ∧ getI x 20 12 = x / 1048576 % 4096 ∧ getI x 25 6 = x / 33554432 % 64 ∧ getI x 8 4 = x / 256 % 16 ∧ getI x 7 1 = x / 128 % 2 ∧ getI x 25 7 = x / 33554432 % 128 ∧ getI x 7 5 = x / 128 % 32 ∧ getI x 20 6 = x / 1048576 % 64 ∧ getI x 20 5 = x / 1048576 % 32 ∧ getI x 15 5 = x / 32768 % 32 := by simp [getI]
theorem getI_imm (U : Nat) : getI U 20 1 = U / 1048576 % 2 ∧ getI U 1 10 = U / 2 % 1024 ∧ getI U 11 1 = U / 2048 % 2 ∧ getI U 12 8 = U / 4096 % 256 ∧ getI U 12 1 = U / 4096 % 2 ∧ getI U 5 6 = U / 32 % 64 ∧ getI U 1 4 = U / 2 % 16 ∧ getI U 5 7 = U / 32 % 128 ∧ getI U 0 5 = U % 32 := by simp [getI, Nat.div_one]
theorem sext_at (y n : Nat) (h1 : 1 ≤ n) (h2 : n ≤ 63) : sextA y n = if y / 2 ^ (n - 1) % 2 = 1 then 2 ^ n * (2 ^ (64 - n) - 1) + y % 2 ^ n else y % 2 ^ n := by
  rw [sextA_in y n h1 h2]
  unfold sextN
  rw [Nat.testBit_eq_decide_div_mod_eq]
  simp
theorem sext12 (y : Nat) : wrap64 (sextA y 12 : Nat) = if y / 2048 % 2 = 1 then ((y % 4096 : Nat) : Int) - 4096 else ((y % 4096 : Nat) : Int) := by
  have := sext_at y 12 (by decide) (by decide)
  rw [show ((12 : Nat) : Int) = 12 from rfl] at this
  simp only [Nat.reducePow, Nat.reduceSub, Nat.reduceMul] at this
  rw [this]
  unfold wrap64
  split <;> omega
theorem sext13 (y : Nat) : wrap64 (sextA y 13 : Nat) = if y / 4096 % 2 = 1 then ((y % 8192 : Nat) : Int) - 8192 else ((y % 8192 : Nat) : Int) := by
  have := sext_at y 13 (by decide) (by decide)
  rw [show ((13 : Nat) : Int) = 13 from rfl] at this
  simp only [Nat.reducePow, Nat.reduceSub, Nat.reduceMul] at this
  rw [this]
  unfold wrap64
  split <;> omega
theorem sext21 (y : Nat) : wrap64 (sextA y 21 : Nat) = if y / 1048576 % 2 = 1 then ((y % 2097152 : Nat) : Int) - 2097152 else ((y % 2097152 : Nat) : Int) := by
  have := sext_at y 21 (by decide) (by decide)
  rw [show ((21 : Nat) : Int) = 21 from rfl] at this
  simp only [Nat.reducePow, Nat.reduceSub, Nat.reduceMul] at this
  rw [this]
  unfold wrap64
  split <;> omega
theorem sext32 (y : Nat) : wrap64 (sextA y 32 : Nat) = if y / 2147483648 % 2 = 1 then ((y % 4294967296 : Nat) : Int) - 4294967296 else ((y % 4294967296 : Nat) : Int) := by
  have := sext_at y 32 (by decide) (by decide)
  rw [show ((32 : Nat) : Int) = 32 from rfl] at this
  simp only [Nat.reducePow, Nat.reduceSub, Nat.reduceMul] at this
  rw [this]
  unfold wrap64
  split <;> omega
end Go.Proofs.YtooaafbdjnlmfaaGreatDoor

namespace Go.Proofs.YtooaafbdjnlmfaaGreatDoor
open Go.RowKit
set_option linter.unusedVariables false
set_option linter.unusedSimpArgs false
/-- a word by its five pieces -/
theorem digits (c A g B T x : Nat) (hc : c < 128) (hA : A < 32) (hg : g < 8) (hB : B < 32) (hT : T < 4096) (hx : x = c + A * 128 + g * 4096 + B * 32768 + T * 1048576) :
    x < 4294967296 ∧ x / 128 % 32 = A ∧ x / 32768 % 32 = B ∧ x / 1048576 = T ∧ x / 33554432 = T / 32 ∧ x / 67108864 = T / 64 ∧ x / 2147483648 = T / 2048 ∧ x / 2097152 = T / 2 ∧ x / 256 % 16 = A / 2 ∧ x / 128 % 2 = A % 2 ∧ x / 4096 % 256 = g + B * 8 ∧ x / 4096 = g + B * 8 + T * 256 := by
  have h1 : x / 1048576 = T := by omega
  have h2 : x / 128 = A + g * 32 + B * 256 + T * 8192 := by omega
  have h3 : x / 32768 = B + T * 32 := by omega
  have h4 : x / 4096 = g + B * 8 + T * 256 := by omega
  have h5 : x / 256 = A / 2 + g * 16 + B * 128 + T * 4096 := by omega
  have h6 : x / 33554432 = x / 1048576 / 32 := by rw [Nat.div_div_eq_div_mul]
  have h7 : x / 67108864 = x / 1048576 / 64 := by rw [Nat.div_div_eq_div_mul]
  have h8 : x / 2147483648 = x / 1048576 / 2048 := by rw [Nat.div_div_eq_div_mul]
  have h9 : x / 2097152 = x / 1048576 / 2 := by rw [Nat.div_div_eq_div_mul]
  refine ⟨by omega, ?_, ?_, h1, by rw [h6, h1], by rw [h7, h1], by rw [h8, h1], by rw [h9, h1], ?_, ?_, ?_, h4⟩
  · rw [h2]; omega
  · rw [h3]; omega
  · rw [h5]; omega
  · rw [h2]; omega
  · rw [h4]; omega
theorem dig_1 (W c g h : Nat) (hW : W = c + g * 4096 + h * 1048576) (hc : c < 128) (hg : g < 8) (hh : h < 4096) (e : g = 0 ∧ h = 0) (a b cc d : Nat) (ha : a ≤ 31) (hb : b ≤ 0) (hcc : cc ≤ 0) (hd : d ≤ 0) (V : Nat) (hV : V < 1048576) (x : Nat) (hx : x = W + (a * 128 + b * 32768 + cc * 1048576 + d * 1048576) + V * 4096) :
    x < 4294967296 ∧ x / 128 % 32 = a ∧ x / 32768 % 32 = V / 8 % 32 ∧ x / 1048576 = V / 256 ∧ x / 33554432 = (V / 256) / 32 ∧ x / 67108864 = (V / 256) / 64 ∧ x / 2147483648 = (V / 256) / 2048 ∧ x / 2097152 = (V / 256) / 2 ∧ x / 256 % 16 = (a) / 2 ∧ x / 128 % 2 = (a) % 2 ∧ x / 4096 % 256 = V % 8 + V / 8 % 32 * 8 ∧ x / 4096 = V % 8 + V / 8 % 32 * 8 + (V / 256) * 256 :=
  digits c (a) (V % 8) (V / 8 % 32) (V / 256) x hc (by omega) (by omega) (by omega) (by omega) (by omega)
theorem dig_2 (W c g h : Nat) (hW : W = c + g * 4096 + h * 1048576) (hc : c < 128) (hg : g < 8) (hh : h < 4096) (e : g = 0 ∧ h = 0) (a b cc d : Nat) (ha : a ≤ 31) (hb : b ≤ 0) (hcc : cc ≤ 0) (hd : d ≤ 0) (p q r s : Nat) (bp : p < 2) (bq : q < 1024) (br : r < 2) (bs : s < 256) (x : Nat) (hx : x = W + (a * 128 + b * 32768 + cc * 1048576 + d * 1048576) + (p * 2147483648 + q * 2097152 + r * 1048576 + s * 4096)) :
    x < 4294967296 ∧ x / 128 % 32 = a ∧ x / 32768 % 32 = s / 8 ∧ x / 1048576 = p * 2048 + q * 2 + r ∧ x / 33554432 = (p * 2048 + q * 2 + r) / 32 ∧ x / 67108864 = (p * 2048 + q * 2 + r) / 64 ∧ x / 2147483648 = (p * 2048 + q * 2 + r) / 2048 ∧ x / 2097152 = (p * 2048 + q * 2 + r) / 2 ∧ x / 256 % 16 = (a) / 2 ∧ x / 128 % 2 = (a) % 2 ∧ x / 4096 % 256 = s % 8 + s / 8 * 8 ∧ x / 4096 = s % 8 + s / 8 * 8 + (p * 2048 + q * 2 + r) * 256 :=
  digits c (a) (s % 8) (s / 8) (p * 2048 + q * 2 + r) x hc (by omega) (by omega) (by omega) (by omega) (by omega)
theorem dig_3 (W c g h : Nat) (hW : W = c + g * 4096 + h * 1048576) (hc : c < 128) (hg : g < 8) (hh : h < 4096) (e : h = 0) (a b cc d : Nat) (ha : a ≤ 31) (hb : b ≤ 31) (hcc : cc ≤ 0) (hd : d ≤ 0) (V : Nat) (hV : V < 4096) (x : Nat) (hx : x = W + (a * 128 + b * 32768 + cc * 1048576 + d * 1048576) + V * 1048576) :
    x < 4294967296 ∧ x / 128 % 32 = a ∧ x / 32768 % 32 = b ∧ x / 1048576 = V ∧ x / 33554432 = (V) / 32 ∧ x / 67108864 = (V) / 64 ∧ x / 2147483648 = (V) / 2048 ∧ x / 2097152 = (V) / 2 ∧ x / 256 % 16 = (a) / 2 ∧ x / 128 % 2 = (a) % 2 ∧ x / 4096 % 256 = g + b * 8 ∧ x / 4096 = g + b * 8 + (V) * 256 :=
  digits c (a) (g) (b) (V) x hc (by omega) (by omega) (by omega) (by omega) (by omega)
theorem dig_4 (W c g h : Nat) (hW : W = c + g * 4096 + h * 1048576) (hc : c < 128) (hg : g < 8) (hh : h < 4096) (e : h = 0) (a b cc d : Nat) (ha : a ≤ 31) (hb : b ≤ 31) (hcc : cc ≤ 0) (hd : d ≤ 0) (V : Nat) (hV : V < 4096) (x : Nat) (hx : x = W + (a * 128 + b * 32768 + cc * 1048576 + d * 1048576) + V * 1048576) :
    x < 4294967296 ∧ x / 128 % 32 = a ∧ x / 32768 % 32 = b ∧ x / 1048576 = V ∧ x / 33554432 = (V) / 32 ∧ x / 67108864 = (V) / 64 ∧ x / 2147483648 = (V) / 2048 ∧ x / 2097152 = (V) / 2 ∧ x / 256 % 16 = (a) / 2 ∧ x / 128 % 2 = (a) % 2 ∧ x / 4096 % 256 = g + b * 8 ∧ x / 4096 = g + b * 8 + (V) * 256 :=
  digits c (a) (g) (b) (V) x hc (by omega) (by omega) (by omega) (by omega) (by omega)
theorem dig_5 (W c g h : Nat) (hW : W = c + g * 4096 + h * 1048576) (hc : c < 128) (hg : g < 8) (hh : h < 4096) (e : h = 0) (a b cc d : Nat) (ha : a ≤ 0) (hb : b ≤ 31) (hcc : cc ≤ 31) (hd : d ≤ 0) (p q r s : Nat) (bp : p < 2) (bq : q < 64) (br : r < 16) (bs : s < 2) (x : Nat) (hx : x = W + (a * 128 + b * 32768 + cc * 1048576 + d * 1048576) + (p * 2147483648 + q * 33554432 + r * 256 + s * 128)) :
    x < 4294967296 ∧ x / 128 % 32 = r * 2 + s ∧ x / 32768 % 32 = b ∧ x / 1048576 = p * 2048 + q * 32 + cc ∧ x / 33554432 = (p * 2048 + q * 32 + cc) / 32 ∧ x / 67108864 = (p * 2048 + q * 32 + cc) / 64 ∧ x / 2147483648 = (p * 2048 + q * 32 + cc) / 2048 ∧ x / 2097152 = (p * 2048 + q * 32 + cc) / 2 ∧ x / 256 % 16 = (r * 2 + s) / 2 ∧ x / 128 % 2 = (r * 2 + s) % 2 ∧ x / 4096 % 256 = g + b * 8 ∧ x / 4096 = g + b * 8 + (p * 2048 + q * 32 + cc) * 256 :=
  digits c (r * 2 + s) (g) (b) (p * 2048 + q * 32 + cc) x hc (by omega) (by omega) (by omega) (by omega) (by omega)
theorem dig_6 (W c g h : Nat) (hW : W = c + g * 4096 + h * 1048576) (hc : c < 128) (hg : g < 8) (hh : h < 4096) (e : h = 0) (a b cc d : Nat) (ha : a ≤ 0) (hb : b ≤ 31) (hcc : cc ≤ 31) (hd : d ≤ 0) (p q : Nat) (bp : p < 128) (bq : q < 32) (x : Nat) (hx : x = W + (a * 128 + b * 32768 + cc * 1048576 + d * 1048576) + (p * 33554432 + q * 128)) :
    x < 4294967296 ∧ x / 128 % 32 = q ∧ x / 32768 % 32 = b ∧ x / 1048576 = p * 32 + cc ∧ x / 33554432 = (p * 32 + cc) / 32 ∧ x / 67108864 = (p * 32 + cc) / 64 ∧ x / 2147483648 = (p * 32 + cc) / 2048 ∧ x / 2097152 = (p * 32 + cc) / 2 ∧ x / 256 % 16 = (q) / 2 ∧ x / 128 % 2 = (q) % 2 ∧ x / 4096 % 256 = g + b * 8 ∧ x / 4096 = g + b * 8 + (p * 32 + cc) * 256 :=
  digits c (q) (g) (b) (p * 32 + cc) x hc (by omega) (by omega) (by omega) (by omega) (by omega)
theorem dig_7 (W c g h : Nat) (hW : W = c + g * 4096 + h * 1048576) (hc : c < 128) (hg : g < 8) (hh : h < 4096) (e : h % 64 = 0) (a b cc d : Nat) (ha : a ≤ 31) (hb : b ≤ 31) (hcc : cc ≤ 0) (hd : d ≤ 0) (V : Nat) (hV : V < 64) (x : Nat) (hx : x = W + (a * 128 + b * 32768 + cc * 1048576 + d * 1048576) + V * 1048576) :
    x < 4294967296 ∧ x / 128 % 32 = a ∧ x / 32768 % 32 = b ∧ x / 1048576 = h + V ∧ x / 33554432 = (h + V) / 32 ∧ x / 67108864 = (h + V) / 64 ∧ x / 2147483648 = (h + V) / 2048 ∧ x / 2097152 = (h + V) / 2 ∧ x / 256 % 16 = (a) / 2 ∧ x / 128 % 2 = (a) % 2 ∧ x / 4096 % 256 = g + b * 8 ∧ x / 4096 = g + b * 8 + (h + V) * 256 :=
  digits c (a) (g) (b) (h + V) x hc (by omega) (by omega) (by omega) (by omega) (by omega)
theorem dig_8 (W c g h : Nat) (hW : W = c + g * 4096 + h * 1048576) (hc : c < 128) (hg : g < 8) (hh : h < 4096) (e : h % 32 = 0) (a b cc d : Nat) (ha : a ≤ 31) (hb : b ≤ 31) (hcc : cc ≤ 0) (hd : d ≤ 0) (V : Nat) (hV : V < 32) (x : Nat) (hx : x = W + (a * 128 + b * 32768 + cc * 1048576 + d * 1048576) + V * 1048576) :
    x < 4294967296 ∧ x / 128 % 32 = a ∧ x / 32768 % 32 = b ∧ x / 1048576 = h + V ∧ x / 33554432 = (h + V) / 32 ∧ x / 67108864 = (h + V) / 64 ∧ x / 2147483648 = (h + V) / 2048 ∧ x / 2097152 = (h + V) / 2 ∧ x / 256 % 16 = (a) / 2 ∧ x / 128 % 2 = (a) % 2 ∧ x / 4096 % 256 = g + b * 8 ∧ x / 4096 = g + b * 8 + (h + V) * 256 :=
  digits c (a) (g) (b) (h + V) x hc (by omega) (by omega) (by omega) (by omega) (by omega)
theorem dig_9 (W c g h : Nat) (hW : W = c + g * 4096 + h * 1048576) (hc : c < 128) (hg : g < 8) (hh : h < 4096) (e : h % 32 = 0) (a b cc d : Nat) (ha : a ≤ 31) (hb : b ≤ 31) (hcc : cc ≤ 31) (hd : d ≤ 0)  (x : Nat) (hx : x = W + (a * 128 + b * 32768 + cc * 1048576 + d * 1048576)) :
    x < 4294967296 ∧ x / 128 % 32 = a ∧ x / 32768 % 32 = b ∧ x / 1048576 = h + cc ∧ x / 33554432 = (h + cc) / 32 ∧ x / 67108864 = (h + cc) / 64 ∧ x / 2147483648 = (h + cc) / 2048 ∧ x / 2097152 = (h + cc) / 2 ∧ x / 256 % 16 = (a) / 2 ∧ x / 128 % 2 = (a) % 2 ∧ x / 4096 % 256 = g + b * 8 ∧ x / 4096 = g + b * 8 + (h + cc) * 256 :=
  digits c (a) (g) (b) (h + cc) x hc (by omega) (by omega) (by omega) (by omega) (by omega)
theorem dig_10 (W c g h : Nat) (hW : W = c + g * 4096 + h * 1048576) (hc : c < 128) (hg : g < 8) (hh : h < 4096) (e : h = 0) (a b cc d : Nat) (ha : a ≤ 31) (hb : b ≤ 31) (hcc : cc ≤ 0) (hd : d ≤ 0) (V : Nat) (hV : V < 4096) (x : Nat) (hx : x = W + (a * 128 + b * 32768 + cc * 1048576 + d * 1048576) + V * 1048576) :
    x < 4294967296 ∧ x / 128 % 32 = a ∧ x / 32768 % 32 = b ∧ x / 1048576 = V ∧ x / 33554432 = (V) / 32 ∧ x / 67108864 = (V) / 64 ∧ x / 2147483648 = (V) / 2048 ∧ x / 2097152 = (V) / 2 ∧ x / 256 % 16 = (a) / 2 ∧ x / 128 % 2 = (a) % 2 ∧ x / 4096 % 256 = g + b * 8 ∧ x / 4096 = g + b * 8 + (V) * 256 :=
  digits c (a) (g) (b) (V) x hc (by omega) (by omega) (by omega) (by omega) (by omega)
theorem dig_11 (W c g h : Nat) (hW : W = c + g * 4096 + h * 1048576) (hc : c < 128) (hg : g < 8) (hh : h < 4096) (e : True) (a b cc d : Nat) (ha : a ≤ 0) (hb : b ≤ 0) (hcc : cc ≤ 0) (hd : d ≤ 0)  (x : Nat) (hx : x = W + (a * 128 + b * 32768 + cc * 1048576 + d * 1048576)) :
    x < 4294967296 ∧ x / 128 % 32 = 0 ∧ x / 32768 % 32 = 0 ∧ x / 1048576 = h ∧ x / 33554432 = (h) / 32 ∧ x / 67108864 = (h) / 64 ∧ x / 2147483648 = (h) / 2048 ∧ x / 2097152 = (h) / 2 ∧ x / 256 % 16 = (0) / 2 ∧ x / 128 % 2 = (0) % 2 ∧ x / 4096 % 256 = g + 0 * 8 ∧ x / 4096 = g + 0 * 8 + (h) * 256 :=
  digits c (0) (g) (0) (h) x hc (by omega) (by omega) (by omega) (by omega) (by omega)
theorem dig_12 (W c g h : Nat) (hW : W = c + g * 4096 + h * 1048576) (hc : c < 128) (hg : g < 8) (hh : h < 4096) (e : h = 0) (a b cc d : Nat) (ha : a ≤ 31) (hb : b ≤ 31) (hcc : cc ≤ 0) (hd : d ≤ 4095)  (x : Nat) (hx : x = W + (a * 128 + b * 32768 + cc * 1048576 + d * 1048576)) :
    x < 4294967296 ∧ x / 128 % 32 = a ∧ x / 32768 % 32 = b ∧ x / 1048576 = d ∧ x / 33554432 = (d) / 32 ∧ x / 67108864 = (d) / 64 ∧ x / 2147483648 = (d) / 2048 ∧ x / 2097152 = (d) / 2 ∧ x / 256 % 16 = (a) / 2 ∧ x / 128 % 2 = (a) % 2 ∧ x / 4096 % 256 = g + b * 8 ∧ x / 4096 = g + b * 8 + (d) * 256 :=
  digits c (a) (g) (b) (d) x hc (by omega) (by omega) (by omega) (by omega) (by omega)
theorem dig_13 (W c g h : Nat) (hW : W = c + g * 4096 + h * 1048576) (hc : c < 128) (hg : g < 8) (hh : h < 4096) (e : h = 0) (a b cc d : Nat) (ha : a ≤ 31) (hb : b ≤ 0) (hcc : cc ≤ 0) (hd : d ≤ 4095) (V : Nat) (hV : V < 32) (x : Nat) (hx : x = W + (a * 128 + b * 32768 + cc * 1048576 + d * 1048576) + V * 32768) :
    x < 4294967296 ∧ x / 128 % 32 = a ∧ x / 32768 % 32 = V ∧ x / 1048576 = d ∧ x / 33554432 = (d) / 32 ∧ x / 67108864 = (d) / 64 ∧ x / 2147483648 = (d) / 2048 ∧ x / 2097152 = (d) / 2 ∧ x / 256 % 16 = (a) / 2 ∧ x / 128 % 2 = (a) % 2 ∧ x / 4096 % 256 = g + V * 8 ∧ x / 4096 = g + V * 8 + (d) * 256 :=
  digits c (a) (g) (V) (d) x hc (by omega) (by omega) (by omega) (by omega) (by omega)
theorem dig_14 (W c g h : Nat) (hW : W = c + g * 4096 + h * 1048576) (hc : c < 128) (hg : g < 8) (hh : h < 4096) (e : h % 128 = 0) (a b cc d : Nat) (ha : a ≤ 31) (hb : b ≤ 31) (hcc : cc ≤ 0) (hd : d ≤ 0) (AQ RL : Nat) (bA : AQ = 0 ∨ AQ = 64) (bR : RL = 0 ∨ RL = 32) (x : Nat) (hx : x = W + (a * 128 + b * 32768 + cc * 1048576 + d * 1048576 + AQ * 1048576 + RL * 1048576)) :
    x < 4294967296 ∧ x / 128 % 32 = a ∧ x / 32768 % 32 = b ∧ x / 1048576 = h + AQ + RL + cc ∧ x / 33554432 = (h + AQ + RL + cc) / 32 ∧ x / 67108864 = (h + AQ + RL + cc) / 64 ∧ x / 2147483648 = (h + AQ + RL + cc) / 2048 ∧ x / 2097152 = (h + AQ + RL + cc) / 2 ∧ x / 256 % 16 = (a) / 2 ∧ x / 128 % 2 = (a) % 2 ∧ x / 4096 % 256 = g + b * 8 ∧ x / 4096 = g + b * 8 + (h + AQ + RL + cc) * 256 :=
  digits c (a) (g) (b) (h + AQ + RL + cc) x hc (by omega) (by omega) (by omega) (by omega) (by omega)
theorem dig_15 (W c g h : Nat) (hW : W = c + g * 4096 + h * 1048576) (hc : c < 128) (hg : g < 8) (hh : h < 4096) (e : h % 128 = 0) (a b cc d : Nat) (ha : a ≤ 31) (hb : b ≤ 31) (hcc : cc ≤ 31) (hd : d ≤ 0) (AQ RL : Nat) (bA : AQ = 0 ∨ AQ = 64) (bR : RL = 0 ∨ RL = 32) (x : Nat) (hx : x = W + (a * 128 + b * 32768 + cc * 1048576 + d * 1048576 + AQ * 1048576 + RL * 1048576)) :
    x < 4294967296 ∧ x / 128 % 32 = a ∧ x / 32768 % 32 = b ∧ x / 1048576 = h + AQ + RL + cc ∧ x / 33554432 = (h + AQ + RL + cc) / 32 ∧ x / 67108864 = (h + AQ + RL + cc) / 64 ∧ x / 2147483648 = (h + AQ + RL + cc) / 2048 ∧ x / 2097152 = (h + AQ + RL + cc) / 2 ∧ x / 256 % 16 = (a) / 2 ∧ x / 128 % 2 = (a) % 2 ∧ x / 4096 % 256 = g + b * 8 ∧ x / 4096 = g + b * 8 + (h + AQ + RL + cc) * 256 :=
  digits c (a) (g) (b) (h + AQ + RL + cc) x hc (by omega) (by omega) (by omega) (by omega) (by omega)
theorem dig_16 (W c g h : Nat) (hW : W = c + g * 4096 + h * 1048576) (hc : c < 128) (hg : g < 8) (hh : h < 4096) (e : h % 32 = 0) (a b cc d : Nat) (ha : a ≤ 0) (hb : b ≤ 31) (hcc : cc ≤ 31) (hd : d ≤ 0)  (x : Nat) (hx : x = W + (a * 128 + b * 32768 + cc * 1048576 + d * 1048576)) :
    x < 4294967296 ∧ x / 128 % 32 = 0 ∧ x / 32768 % 32 = b ∧ x / 1048576 = h + cc ∧ x / 33554432 = (h + cc) / 32 ∧ x / 67108864 = (h + cc) / 64 ∧ x / 2147483648 = (h + cc) / 2048 ∧ x / 2097152 = (h + cc) / 2 ∧ x / 256 % 16 = (0) / 2 ∧ x / 128 % 2 = (0) % 2 ∧ x / 4096 % 256 = g + b * 8 ∧ x / 4096 = g + b * 8 + (h + cc) * 256 :=
  digits c (0) (g) (b) (h + cc) x hc (by omega) (by omega) (by omega) (by omega) (by omega)
end Go.Proofs.YtooaafbdjnlmfaaGreatDoor
