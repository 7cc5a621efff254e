/- What CsrTwice needs of numbers. -/
import Derived.Test.YtebdlefdkadhnaaDoorWr
import Derived.Test.YtebdlefdkadhnaaDoorRd
import Derived.Test.YtebdlefdkadhnaaDoorDWr
namespace Go.Proofs.YtebdlefdkadhnaaDoor
open Go.RowKit Go.Maps
set_option linter.unusedVariables false
set_option linter.unusedSimpArgs false
set_option maxRecDepth 100000
theorem upd_upd (K : Nat → Nat) (p a b : Nat) : upd (upd K p a) p b = upd K p b := by
  funext j; unfold upd; split <;> rfl
theorem bit_not (s i : Nat) (hs : s < 18446744073709551616) : (18446744073709551615 - s).testBit i = (decide (i < 64) && !s.testBit i) := by
  rw [show 18446744073709551615 - s = 2 ^ 64 - (s + 1) from by omega, Nat.testBit_two_pow_sub_succ (show s < 2 ^ 64 from hs)]
theorem bit_high (o i : Nat) (ho : o < 18446744073709551616) (h : ¬ i < 64) : o.testBit i = false := Nat.testBit_lt_two_pow (Nat.lt_of_lt_of_le (show o < 2 ^ 64 from ho) (Nat.pow_le_pow_right (by omega) (by omega)))
theorem mix_bit (o x s i : Nat) (ho : o < 18446744073709551616) (hs : s < 18446744073709551616) : (mixN o x s).testBit i = (if s.testBit i then x.testBit i else o.testBit i) := by
  unfold mixN
  rw [Nat.testBit_or, Nat.testBit_and, Nat.testBit_and, bit_not s i hs]
  by_cases h : i < 64
  · cases s.testBit i <;> simp [h]
  · rw [bit_high o i ho h, bit_high s i hs h]; simp
theorem mix_mix (o x s : Nat) (ho : o < 18446744073709551616) (hx : x < 18446744073709551616) (hs : s < 18446744073709551616) : mixN (mixN o x s) x s = mixN o x s := by
  apply Nat.eq_of_testBit_eq
  intro i
  rw [mix_bit _ _ _ _ (mixN_lt _ _ _ ho hx) hs, mix_bit _ _ _ _ ho hs]
  cases s.testBit i <;> simp
theorem mix_same (o r s : Nat) (ho : o < 18446744073709551616) (hs : s < 18446744073709551616) (h : r &&& s = o &&& s) : mixN o r s = o := by
  apply Nat.eq_of_testBit_eq
  intro i
  rw [mix_bit _ _ _ _ ho hs]
  have hb := congrArg (fun z => z.testBit i) h
  simp only [Nat.testBit_and] at hb
  cases hsi : s.testBit i
  · simp
  · rw [hsi] at hb; simpa using hb
theorem or_and_off (o f s : Nat) (h : f &&& s = 0) : (o ||| f) &&& s = o &&& s := by
  apply Nat.eq_of_testBit_eq
  intro i
  have hb := congrArg (fun z => z.testBit i) h
  simp only [Nat.testBit_and, Nat.zero_testBit] at hb
  rw [Nat.testBit_and, Nat.testBit_or, Nat.testBit_and]
  cases hs : s.testBit i
  · simp
  · rw [hs] at hb; simp at hb; simp [hb]
theorem and_and (v c : Nat) : v &&& c &&& c = v &&& c := by rw [Nat.and_assoc, Nat.and_self]
theorem and_two (a k : Nat) : a &&& k &&& (k &&& 2) = a &&& (k &&& 2) := by
  apply Nat.eq_of_testBit_eq
  intro i
  simp only [Nat.testBit_and]
  cases a.testBit i <;> cases k.testBit i <;> simp
theorem off_two (z k : Nat) : (z &&& 18446744073709551069) &&& (k &&& 2) = 0 := by
  rw [Nat.and_comm k 2, ← Nat.and_assoc, Nat.and_assoc z, show 18446744073709551069 &&& 2 = 0 from by decide, Nat.and_zero, Nat.zero_and]
theorem off_546 (z : Nat) : (z &&& 18446744073709551069) &&& 546 = 0 := by
  rw [Nat.and_assoc, show 18446744073709551069 &&& 546 = 0 from by decide, Nat.and_zero]
theorem vec_self (o : Nat) : vecN o o = o := by unfold vecN; split <;> rfl
theorem vec_vec (o x : Nat) : vecN (vecN o x) x = vecN o x := by
  unfold vecN
  split
  · rfl
  · rfl
theorem tab_self (o : Nat) : tabN o o = o := by unfold tabN; split <;> rfl
theorem tab_tab (o x : Nat) : tabN (tabN o x) x = tabN o x := by
  unfold tabN
  split <;> rfl
theorem smask_off (x : Nat) : 42949672960 &&& smask x = 0 := by unfold smask; split <;> decide
theorem readN_lt (K : Nat → Nat) (n : Int) (hK : Ok K) : readN K n < 18446744073709551616 := by
  unfold readN
  by_cases h768 : n = 768
  · rw [if_pos h768]; exact or_lt _ _ (hK _) (by decide)
  rw [if_neg h768]
  by_cases h256 : n = 256
  · rw [if_pos h256]; exact or_lt _ _ (and_lt _ _ (hK _)) (by decide)
  rw [if_neg h256]
  by_cases h769 : n = 769
  · rw [if_pos h769]; exact by decide
  rw [if_neg h769]
  by_cases h770 : n = 770
  · rw [if_pos h770]; exact hK _
  rw [if_neg h770]
  by_cases h771 : n = 771
  · rw [if_pos h771]; exact hK _
  rw [if_neg h771]
  by_cases h772 : n = 772
  · rw [if_pos h772]; exact hK _
  rw [if_neg h772]
  by_cases h260 : n = 260
  · rw [if_pos h260]; exact and_lt _ _ (hK _)
  rw [if_neg h260]
  by_cases h836 : n = 836
  · rw [if_pos h836]; exact or_lt _ _ (hK _) (hK _)
  rw [if_neg h836]
  by_cases h324 : n = 324
  · rw [if_pos h324]; exact and_lt _ _ (or_lt _ _ (hK _) (hK _))
  rw [if_neg h324]
  by_cases h773 : n = 773
  · rw [if_pos h773]; exact hK _
  rw [if_neg h773]
  by_cases h261 : n = 261
  · rw [if_pos h261]; exact hK _
  rw [if_neg h261]
  by_cases h774 : n = 774
  · rw [if_pos h774]; exact hK _
  rw [if_neg h774]
  by_cases h262 : n = 262
  · rw [if_pos h262]; exact hK _
  rw [if_neg h262]
  by_cases h832 : n = 832
  · rw [if_pos h832]; exact hK _
  rw [if_neg h832]
  by_cases h320 : n = 320
  · rw [if_pos h320]; exact hK _
  rw [if_neg h320]
  by_cases h834 : n = 834
  · rw [if_pos h834]; exact hK _
  rw [if_neg h834]
  by_cases h322 : n = 322
  · rw [if_pos h322]; exact hK _
  rw [if_neg h322]
  by_cases h835 : n = 835
  · rw [if_pos h835]; exact hK _
  rw [if_neg h835]
  by_cases h323 : n = 323
  · rw [if_pos h323]; exact hK _
  rw [if_neg h323]
  by_cases h833 : n = 833
  · rw [if_pos h833]; exact hK _
  rw [if_neg h833]
  by_cases h321 : n = 321
  · rw [if_pos h321]; exact hK _
  rw [if_neg h321]
  by_cases h384 : n = 384
  · rw [if_pos h384]; exact hK _
  rw [if_neg h384]
  by_cases h2816 : n = 2816
  · rw [if_pos h2816]; exact hK _
  rw [if_neg h2816]
  by_cases h3072 : n = 3072
  · rw [if_pos h3072]; exact hK _
  rw [if_neg h3072]
  by_cases h2818 : n = 2818
  · rw [if_pos h2818]; exact hK _
  rw [if_neg h2818]
  by_cases h3074 : n = 3074
  · rw [if_pos h3074]; exact hK _
  rw [if_neg h3074]
  by_cases h3073 : n = 3073
  · rw [if_pos h3073]; exact hK _
  rw [if_neg h3073]
  decide
theorem write_not (K : Nat → Nat) (n : Int) (x : Nat) (h : n ∉ ([768, 256, 770, 771, 772, 260, 836, 324, 773, 261, 774, 262, 832, 320, 834, 322, 835, 323, 833, 321, 384, 2816, 2818] : List Int)) : writeK K n x = K := by
  simp at h
  unfold writeK
  simp [h]
theorem twice_1 (K : Nat → Nat) (n : Int) (x : Nat) (hK : Ok K) (hx : x < 18446744073709551616) : writeK (writeK K n x) n x = writeK K n x := by
  by_cases h768 : n = 768
  · subst h768
    show upd (upd K 0 (mixN (K 0) x (smask x))) 0 _ = upd K 0 (mixN (K 0) x (smask x))
    rw [upd_upd]
    exact congrArg (upd K 0) (mix_mix _ _ _ (hK _) hx (smask_lt x))
  by_cases h256 : n = 256
  · subst h256
    show upd (upd K 0 (mixN (K 0) x 786722)) 0 _ = upd K 0 (mixN (K 0) x 786722)
    rw [upd_upd]
    exact congrArg (upd K 0) (mix_mix _ _ 786722 (hK _) hx (by decide))
  by_cases h770 : n = 770
  · subst h770
    show upd (upd K 3 (x &&& 46079)) 3 _ = upd K 3 (x &&& 46079)
    rw [upd_upd]
  by_cases h771 : n = 771
  · subst h771
    show upd (upd K 4 (x &&& 546)) 4 _ = upd K 4 (x &&& 546)
    rw [upd_upd]
  by_cases h772 : n = 772
  · subst h772
    show upd (upd K 5 (x &&& 2730)) 5 _ = upd K 5 (x &&& 2730)
    rw [upd_upd]
  by_cases h260 : n = 260
  · subst h260
    show upd (upd K 5 (mixN (K 5) x (K 4))) 5 _ = upd K 5 (mixN (K 5) x (K 4))
    rw [upd_upd]
    exact congrArg (upd K 5) (mix_mix _ _ _ (hK _) hx (hK _))
  by_cases h836 : n = 836
  · subst h836
    show upd (upd K 1 (x &&& 546)) 1 _ = upd K 1 (x &&& 546)
    rw [upd_upd]
  by_cases h324 : n = 324
  · subst h324
    show upd (upd K 1 (mixN (K 1) x (K 4 &&& 2))) 1 _ = upd K 1 (mixN (K 1) x (K 4 &&& 2))
    rw [upd_upd]
    exact congrArg (upd K 1) (mix_mix _ _ _ (hK _) hx (and_lt _ _ (hK _)))
  by_cases h773 : n = 773
  · subst h773
    show upd (upd K 6 (vecN (K 6) x)) 6 _ = upd K 6 (vecN (K 6) x)
    rw [upd_upd]
    exact congrArg (upd K 6) (vec_vec _ _)
  by_cases h261 : n = 261
  · subst h261
    show upd (upd K 12 (vecN (K 12) x)) 12 _ = upd K 12 (vecN (K 12) x)
    rw [upd_upd]
    exact congrArg (upd K 12) (vec_vec _ _)
  by_cases h774 : n = 774
  · subst h774
    show upd (upd K 7 (x &&& 7)) 7 _ = upd K 7 (x &&& 7)
    rw [upd_upd]
  by_cases h262 : n = 262
  · subst h262
    show upd (upd K 13 (x &&& 7)) 13 _ = upd K 13 (x &&& 7)
    rw [upd_upd]
  by_cases h832 : n = 832
  · subst h832
    show upd (upd K 8 (x)) 8 _ = upd K 8 (x)
    rw [upd_upd]
  by_cases h320 : n = 320
  · subst h320
    show upd (upd K 14 (x)) 14 _ = upd K 14 (x)
    rw [upd_upd]
  by_cases h834 : n = 834
  · subst h834
    show upd (upd K 10 (x)) 10 _ = upd K 10 (x)
    rw [upd_upd]
  by_cases h322 : n = 322
  · subst h322
    show upd (upd K 16 (x)) 16 _ = upd K 16 (x)
    rw [upd_upd]
  by_cases h835 : n = 835
  · subst h835
    show upd (upd K 11 (x)) 11 _ = upd K 11 (x)
    rw [upd_upd]
  by_cases h323 : n = 323
  · subst h323
    show upd (upd K 17 (x)) 17 _ = upd K 17 (x)
    rw [upd_upd]
  by_cases h833 : n = 833
  · subst h833
    show upd (upd K 9 (x &&& 18446744073709551612)) 9 _ = upd K 9 (x &&& 18446744073709551612)
    rw [upd_upd]
  by_cases h321 : n = 321
  · subst h321
    show upd (upd K 15 (x &&& 18446744073709551612)) 15 _ = upd K 15 (x &&& 18446744073709551612)
    rw [upd_upd]
  by_cases h384 : n = 384
  · subst h384
    show upd (upd K 18 (tabN (K 18) x)) 18 _ = upd K 18 (tabN (K 18) x)
    rw [upd_upd]
    exact congrArg (upd K 18) (tab_tab _ _)
  by_cases h2816 : n = 2816
  · subst h2816
    show upd (upd K 19 (x)) 19 _ = upd K 19 (x)
    rw [upd_upd]
  by_cases h2818 : n = 2818
  · subst h2818
    show upd (upd K 20 (x)) 20 _ = upd K 20 (x)
    rw [upd_upd]
  have hn : n ∉ ([768, 256, 770, 771, 772, 260, 836, 324, 773, 261, 774, 262, 832, 320, 834, 322, 835, 323, 833, 321, 384, 2816, 2818] : List Int) := by simp; omega
  rw [write_not K n x hn, write_not K n x hn]
theorem twice_2 (K : Nat → Nat) (n : Int) (x : Nat) (L : Nat → Nat) (hL : Ok L) (hLe : writeK K n x = L) : readN (writeK L n (readN (upd L 2 (L 2 &&& 18446744073709551069)) n)) n = readN L n := by
  by_cases h768 : n = 768
  · subst h768
    have e : mixN (L 0) (L 0 ||| 42949672960) (smask (L 0 ||| 42949672960)) = L 0 := mix_same _ _ _ (hL _) (smask_lt _) (or_and_off _ _ _ (smask_off _))
    show mixN (L 0) (L 0 ||| 42949672960) (smask (L 0 ||| 42949672960)) ||| 42949672960 = L 0 ||| 42949672960
    rw [e]
  by_cases h256 : n = 256
  · subst h256
    have e : mixN (L 0) ((L 0 &&& 786722) ||| 8589934592) 786722 = L 0 := mix_same _ _ 786722 (hL _) (by decide) (by rw [or_and_off _ _ 786722 (by decide), and_and])
    show (mixN (L 0) ((L 0 &&& 786722) ||| 8589934592) 786722 &&& 786722) ||| 8589934592 = (L 0 &&& 786722) ||| 8589934592
    rw [e]
  by_cases h770 : n = 770
  · subst h770
    show L 3 &&& 46079 = L 3
    rw [← hLe]
    show x &&& 46079 &&& 46079 = x &&& 46079
    exact and_and _ _
  by_cases h771 : n = 771
  · subst h771
    show L 4 &&& 546 = L 4
    rw [← hLe]
    show x &&& 546 &&& 546 = x &&& 546
    exact and_and _ _
  by_cases h772 : n = 772
  · subst h772
    show L 5 &&& 2730 = L 5
    rw [← hLe]
    show x &&& 2730 &&& 2730 = x &&& 2730
    exact and_and _ _
  by_cases h260 : n = 260
  · subst h260
    have e : mixN (L 5) (L 5 &&& L 4) (L 4) = L 5 := mix_same _ _ _ (hL _) (hL _) (and_and _ _)
    show mixN (L 5) (L 5 &&& L 4) (L 4) &&& L 4 = L 5 &&& L 4
    rw [e]
  by_cases h836 : n = 836
  · subst h836
    have e : (L 1 ||| (L 2 &&& 18446744073709551069)) &&& 546 = L 1 := by
      rw [or_and_off _ _ _ (off_546 _), ← hLe]
      show x &&& 546 &&& 546 = x &&& 546
      exact and_and _ _
    show ((L 1 ||| (L 2 &&& 18446744073709551069)) &&& 546) ||| L 2 = L 1 ||| L 2
    rw [e]
  by_cases h324 : n = 324
  · subst h324
    have e : mixN (L 1) ((L 1 ||| (L 2 &&& 18446744073709551069)) &&& L 4) (L 4 &&& 2) = L 1 := mix_same _ _ _ (hL _) (and_lt _ _ (hL _)) (by rw [and_two, or_and_off _ _ _ (off_two _ _)])
    show (mixN (L 1) ((L 1 ||| (L 2 &&& 18446744073709551069)) &&& L 4) (L 4 &&& 2) ||| L 2) &&& L 4 = (L 1 ||| L 2) &&& L 4
    rw [e]
  by_cases h773 : n = 773
  · subst h773
    show vecN (L 6) (L 6) = L 6
    exact vec_self _
  by_cases h261 : n = 261
  · subst h261
    show vecN (L 12) (L 12) = L 12
    exact vec_self _
  by_cases h774 : n = 774
  · subst h774
    show L 7 &&& 7 = L 7
    rw [← hLe]
    show x &&& 7 &&& 7 = x &&& 7
    exact and_and _ _
  by_cases h262 : n = 262
  · subst h262
    show L 13 &&& 7 = L 13
    rw [← hLe]
    show x &&& 7 &&& 7 = x &&& 7
    exact and_and _ _
  by_cases h832 : n = 832
  · subst h832
    rfl
  by_cases h320 : n = 320
  · subst h320
    rfl
  by_cases h834 : n = 834
  · subst h834
    rfl
  by_cases h322 : n = 322
  · subst h322
    rfl
  by_cases h835 : n = 835
  · subst h835
    rfl
  by_cases h323 : n = 323
  · subst h323
    rfl
  by_cases h833 : n = 833
  · subst h833
    show L 9 &&& 18446744073709551612 = L 9
    rw [← hLe]
    show x &&& 18446744073709551612 &&& 18446744073709551612 = x &&& 18446744073709551612
    exact and_and _ _
  by_cases h321 : n = 321
  · subst h321
    show L 15 &&& 18446744073709551612 = L 15
    rw [← hLe]
    show x &&& 18446744073709551612 &&& 18446744073709551612 = x &&& 18446744073709551612
    exact and_and _ _
  by_cases h384 : n = 384
  · subst h384
    show tabN (L 18) (L 18) = L 18
    exact tab_self _
  by_cases h2816 : n = 2816
  · subst h2816
    rfl
  by_cases h2818 : n = 2818
  · subst h2818
    rfl
  have hn : n ∉ ([768, 256, 770, 771, 772, 260, 836, 324, 773, 261, 774, 262, 832, 320, 834, 322, 835, 323, 833, 321, 384, 2816, 2818] : List Int) := by simp; omega
  rw [write_not L n _ hn]
end Go.Proofs.YtebdlefdkadhnaaDoor
