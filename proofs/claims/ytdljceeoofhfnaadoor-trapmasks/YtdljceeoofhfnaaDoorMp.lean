/- Numbers for TrapMasks. -/
import Derived.Test.YtdljceeoofhfnaaDoorLn
namespace Go.Proofs.YtdljceeoofhfnaaDoor
open Go.RowKit Go.Maps
set_option linter.unusedVariables false
set_option linter.unusedSimpArgs false
set_option maxRecDepth 100000
theorem bs (K : Nat → Nat) (j i : Int) (b : Bool) (hj : 0 ≤ j ∧ j < 64) (hi : 0 ≤ i ∧ i < 64) : isB (setK K j b) i = if i = j then b else isB K i := by
  obtain ⟨j, rfl⟩ : ∃ n : Nat, j = n := ⟨j.toNat, by omega⟩
  obtain ⟨i, rfl⟩ : ∃ n : Nat, i = n := ⟨i.toNat, by omega⟩
  rw [isB_set K j i b (by omega) (by omega)]
  by_cases h : i = j
  · rw [if_pos h, if_pos (by omega)]
  · rw [if_neg h, if_neg (by omega)]
theorem bk (K : Nat → Nat) (v : Nat) (i : Int) (hi : 0 ≤ i ∧ i < 64 ∧ (i < 11 ∨ 12 < i)) : isB (keepK K v) i = isB K i := by
  obtain ⟨i, rfl⟩ : ∃ n : Nat, i = n := ⟨i.toNat, by omega⟩
  exact isB_keep K v i (by omega) (by omega)
theorem off_S (L : Nat → Nat) (m : Int) : isB (markS L m) 1 = false := by simp [markS, bs]
theorem off_M (L : Nat → Nat) (m : Nat) : isB (markM L m) 3 = false := by simp [markM, bs, bk]
theorem bitB_test (s i : Nat) (hi : i < 64) : bitB s i = s.testBit i := by
  rw [bitB_at s i hi, ← bitAt_one]
  cases h : decide (bitAt s i = 1) <;> simp_all
theorem bit_not (s i : Nat) (hs : s < 18446744073709551616) : (18446744073709551615 - s).testBit i = (decide (i < 64) && !s.testBit i) := by
  rw [show 18446744073709551615 - s = 2 ^ 64 - (s + 1) from by omega, Nat.testBit_two_pow_sub_succ (show s < 2 ^ 64 from hs)]
theorem first_and (x y : Nat) (h : firstN (x &&& y) ≠ 0) : x.testBit (firstN (x &&& y)) = true ∧ y.testBit (firstN (x &&& y)) = true := by
  have hb := first_bit _ h
  rw [bitB_test _ _ (first_lt _)] at hb
  generalize firstN (x &&& y) = n at *
  rw [Nat.testBit_and] at hb
  simpa using hb
theorem next_lt (m : Int) (K : Nat → Nat) : nextN m K < 64 := by
  unfold nextN ownN othN
  split
  · exact first_lt _
  · split
    · exact first_lt _
    · omega
theorem next_bits (m : Int) (K : Nat → Nat) (h : nextN m K ≠ 0) : (K 1 ||| K 2).testBit (nextN m K) = true ∧ (K 5).testBit (nextN m K) = true := by
  have key : ∀ y, firstN (rdyN K &&& y) ≠ 0 → (K 1 ||| K 2).testBit (firstN (rdyN K &&& y)) = true ∧ (K 5).testBit (firstN (rdyN K &&& y)) = true := fun y hy => by
    have := (first_and _ _ hy).1
    generalize firstN (rdyN K &&& y) = n at *
    unfold rdyN at this
    rw [Nat.testBit_and] at this
    simpa using this
  unfold nextN ownN othN at h ⊢
  split at h
  · rename_i hc; rw [if_pos hc]; exact key _ h
  · rename_i hc; rw [if_neg hc]
    split at h
    · rename_i hd; rw [if_pos hd]; exact key _ h
    · exact absurd rfl h
theorem next_mie (K : Nat → Nat) (h : nextN 3 K ≠ 0) : isB K 3 = true := by
  unfold nextN mayO mayS at h
  cases hi : isB K 3
  · simp [hi] at h
  · rfl
theorem next_mach (K : Nat → Nat) (h : isB K 3 = false) : nextN 3 K = 0 := by
  unfold nextN mayO mayS
  simp [h]
theorem next_own (K : Nat → Nat) (hK : Ok K) (h1 : isB K 1 = false) (h : nextN 1 K ≠ 0) : bitB (K 4) (nextN 1 K : Nat) = false := by
  rw [bitB_test _ _ (next_lt _ _)]
  have e : nextN 1 K = ownN K := by
    unfold nextN mayO mayS at h ⊢
    by_cases hc : ownN K = 0
    · simp [hc, h1] at h
    · simp [hc]
  rw [e] at h ⊢
  unfold ownN at h ⊢
  have hb := (first_and _ _ h).2
  have hl := first_lt (rdyN K &&& (18446744073709551615 - K 4))
  generalize firstN (rdyN K &&& (18446744073709551615 - K 4)) = n at *
  rw [bit_not _ _ (hK _)] at hb
  simp at hb
  exact hb.2
theorem shr_bit (x n : Nat) (h : x.testBit n = true) : x / 2 ^ n % 2 = 1 := by
  rw [Nat.testBit_eq_decide_div_mod_eq] at h
  simpa using h
section
variable {w : World} {ops : Array Oper} {rest : List Oper} {o : Oper} {a : Act} {Q : Exit → Act → World → Prop}
theorem wpList_load_trapG (hw : Region.wanted o (yielded ops a.tmps) = true) (x : Operand) (ho : o.op = .load 36 x) (b c v : Nat) (i : Bool) (hx : a.eval x = .pointer (some ⟨b, 0, none⟩)) (hb : Box 36 w b (trapC c v i))
    (h : wpList Tryd.prog ops Q rest (a.put o.dst (.agg (trapC c v i))) w) : wpList Tryd.prog ops Q (o :: rest) a w :=
  wpList_want hw fun KK hKK => wp_load_row 36 x ho b hx 36 _ (0, 0) _ hb Tryd.underlying36 rfl info36 (hKK _ _ h)
end
theorem shr_and (x n : Nat) (hx : x < 18446744073709551616) (hn : n < 64) (h : x.testBit n = true) : bits .and .u64 ((x : Int) / 2 ^ n) 1 = 1 := by
  have e : ((x : Int) / 2 ^ n) = ((x / 2 ^ n : Nat) : Int) := by simp
  rw [e]
  have := bits_and_u64_nat (x / 2 ^ n) 1 (Nat.lt_of_le_of_lt (Nat.div_le_self _ _) hx) (by decide)
  rw [show x / 2 ^ n &&& 1 = 1 from by rw [Nat.and_one_is_mod]; exact shr_bit x n h] at this
  exact this
theorem min_n (n : Nat) (h : n < 64) : min n 64 = n := by omega
end Go.Proofs.YtdljceeoofhfnaaDoor
