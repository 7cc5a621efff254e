/- The statement on words: what a word is decoded as is encoded as that word. -/
import Derived.Test.YtooaafbdjnlmfaaGreatDoorWd
namespace Go.Proofs.YtooaafbdjnlmfaaGreatDoor
open Go.RowKit
set_option linter.unusedVariables false
set_option linter.unusedSimpArgs false
theorem wd_all (f W c A g B T : Nat) (hf : f < 17) (hz : f ≠ 0) (hc : c < 128) (hA : A < 32) (hg : g < 8) (hB : B < 32) (hT : T < 4096) (x : Nat) (hx : x = c + A * 128 + g * 4096 + B * 32768 + T * 1048576) (hm : x &&& fixedT.getD f 0 = W) (v : Int) (hv : immD f x = v) (U : Nat) (hU : (U : Int) = v % 18446744073709551616) :
    ((spanN f).1 ≤ v ∧ v ≤ (spanN f).2.1 ∧ v % (spanN f).2.2 = 0) ∧ W + partsS (dP f 1 128 32 x) (dP f 2 32768 32 x) (dP f 4 1048576 32 x) (dP f 8 1048576 4096 x) (dB f 67108864 x) (dB f 33554432 x) + immP f U = x := by
  have hcs : f = 1 ∨ f = 2 ∨ f = 3 ∨ f = 4 ∨ f = 5 ∨ f = 6 ∨ f = 7 ∨ f = 8 ∨ f = 9 ∨ f = 10 ∨ f = 11 ∨ f = 12 ∨ f = 13 ∨ f = 14 ∨ f = 15 ∨ f = 16 := by
    clear hx hm hU hv hc hA hg hB hT
    omega
  rcases hcs with rfl | rfl | rfl | rfl | rfl | rfl | rfl | rfl | rfl | rfl | rfl | rfl | rfl | rfl | rfl | rfl
  · exact wd_1 W c A g B T hc hA hg hB hT x hx hm v hv U hU
  · exact wd_2 W c A g B T hc hA hg hB hT x hx hm v hv U hU
  · exact wd_3 W c A g B T hc hA hg hB hT x hx hm v hv U hU
  · exact wd_4 W c A g B T hc hA hg hB hT x hx hm v hv U hU
  · exact wd_5 W c A g B T hc hA hg hB hT x hx hm v hv U hU
  · exact wd_6 W c A g B T hc hA hg hB hT x hx hm v hv U hU
  · exact wd_7 W c A g B T hc hA hg hB hT x hx hm v hv U hU
  · exact wd_8 W c A g B T hc hA hg hB hT x hx hm v hv U hU
  · exact wd_9 W c A g B T hc hA hg hB hT x hx hm v hv U hU
  · exact wd_10 W c A g B T hc hA hg hB hT x hx hm v hv U hU
  · exact wd_11 W c A g B T hc hA hg hB hT x hx hm v hv U hU
  · exact wd_12 W c A g B T hc hA hg hB hT x hx hm v hv U hU
  · exact wd_13 W c A g B T hc hA hg hB hT x hx hm v hv U hU
  · exact wd_14 W c A g B T hc hA hg hB hT x hx hm v hv U hU
  · exact wd_15 W c A g B T hc hA hg hB hT x hx hm v hv U hU
  · exact wd_16 W c A g B T hc hA hg hB hT x hx hm v hv U hU
theorem dp_among (f p k m last x : Nat) (hm : m = last + 1) : amongB ((dP f p k m x : Nat) : Int) (mostI f (p : Nat) (last : Nat)) = true := by
  unfold amongB mostI mostN dP
  rw [Int.toNat_natCast]
  subst hm
  have : x / k % (last + 1) < last + 1 := Nat.mod_lt (x / k) (Nat.succ_pos last)
  by_cases hp : partsT.getD f 0 &&& p = 0
  · rw [if_pos hp, if_pos hp]; exact decide_eq_true ⟨Int.le_refl _, Int.le_refl _⟩
  · rw [if_neg hp, if_neg hp]; exact decide_eq_true ⟨by omega, by omega⟩
theorem db_order (f x : Nat) : (decide (partsT.getD f 0 &&& 16 ≠ 0) || (!dB f 67108864 x && !dB f 33554432 x)) = true := by
  unfold dB
  by_cases hp : partsT.getD f 0 &&& 16 = 0
  · rw [decide_eq_false (by simpa using hp)]; rfl
  · rw [decide_eq_true hp]; rfl
theorem span_small : ∀ f, f < 17 → -9223372036854775808 ≤ (spanN f).1 ∧ (spanN f).2.1 < 9223372036854775808 := by decide
/-- what a word is decoded as is right, and its word is that word -/
theorem worded (x o : Nat) (hx : x < 4294967296) (h1 : 1 ≤ o) (h2 : o < 99) (hh : hit x o = true) (v : Int) (hv : immD (formsT.getD o 0) x = v) (U : Nat) (hU : (U : Int) = v % 18446744073709551616) :
    rightB (o : Nat) (dP (formsT.getD o 0) 1 128 32 x : Nat) (dP (formsT.getD o 0) 2 32768 32 x : Nat) (dP (formsT.getD o 0) 4 1048576 32 x : Nat) v (dP (formsT.getD o 0) 8 1048576 4096 x : Nat) (dB (formsT.getD o 0) 67108864 x) (dB (formsT.getD o 0) 33554432 x) = true ∧ (-9223372036854775808 ≤ v ∧ v < 9223372036854775808) ∧
    encS o (dP (formsT.getD o 0) 1 128 32 x) (dP (formsT.getD o 0) 2 32768 32 x) (dP (formsT.getD o 0) 4 1048576 32 x) (dP (formsT.getD o 0) 8 1048576 4096 x) (dB (formsT.getD o 0) 67108864 x) (dB (formsT.getD o 0) 33554432 x) U = x := by
  have hf := forms_lt o h2
  have hz := forms_pos o h2 h1
  have hfo : formI (o : Nat) = formsT.getD o 0 := by unfold formI; rw [if_pos ⟨by omega, by omega⟩, Int.toNat_natCast]
  have hm : x &&& fixedT.getD (formsT.getD o 0) 0 = wordsT.getD o 0 := eq_of_beq hh
  obtain ⟨c, A, g, B, T, hc, hA, hg, hB, hT, hd⟩ := own_digits x hx
  obtain ⟨hr, hs⟩ := wd_all (formsT.getD o 0) (wordsT.getD o 0) c A g B T hf hz hc hA hg hB hT x hd hm v hv U hU
  have hl := span_small _ hf
  refine ⟨?_, ⟨Int.le_trans hl.1 hr.1, Int.lt_of_le_of_lt hr.2.1 hl.2⟩, hs⟩
  unfold rightB partsB immB
  rw [hfo, decide_eq_true hz, decide_eq_true hr, show amongB ((dP (formsT.getD o 0) 1 128 32 x : Nat) : Int) (mostI (formsT.getD o 0) 1 31) = true from dp_among _ 1 128 32 31 x rfl, show amongB ((dP (formsT.getD o 0) 2 32768 32 x : Nat) : Int) (mostI (formsT.getD o 0) 2 31) = true from dp_among _ 2 32768 32 31 x rfl, show amongB ((dP (formsT.getD o 0) 4 1048576 32 x : Nat) : Int) (mostI (formsT.getD o 0) 4 31) = true from dp_among _ 4 1048576 32 31 x rfl, show amongB ((dP (formsT.getD o 0) 8 1048576 4096 x : Nat) : Int) (mostI (formsT.getD o 0) 8 4095) = true from dp_among _ 8 1048576 4096 4095 x rfl, db_order]
  rfl
end Go.Proofs.YtooaafbdjnlmfaaGreatDoor
