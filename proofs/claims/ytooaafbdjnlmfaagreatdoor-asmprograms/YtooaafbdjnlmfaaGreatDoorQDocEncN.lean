/- The document's Word of layer 3, against the program's Encode. -/
import Derived.Test.YtooaafbdjnlmfaaGreatDoorQDocWord
namespace Go.Proofs.YtooaafbdjnlmfaaGreatDoor
open Go.RowKit
set_option linter.unusedVariables false
set_option linter.unusedSimpArgs false
theorem dR4_eq (g : Nat) (imm : Int) : dR4 g imm = decide ((docSpan g).1.1 ≤ imm ∧ imm ≤ (docSpan g).1.2.1 ∧ imm % (docSpan g).1.2.2 = 0) := rfl
theorem regroup (c A B C D t n s q r : Nat) : c + A + B + C + D + t + n + s + q + r = (c + t + s) + (A + B + C + D + q + r) + n := by omega
/-- the sum of the document is the program's -/
theorem sum_eq (o a b c d : Nat) (aq rl : Bool) (n U : Nat) (h1 : 1 ≤ o) (h2 : o < 99) (hn : n = immP (formsT.getD o 0) U) : dSum (dForm o) (dCode o) a b c d (dF3 o) n (dF7 o) aq rl = encS o a b c d aq rl U := by
  unfold dSum encS partsS
  rw [rows_words o h2 h1, ← hn]
  exact regroup _ _ _ _ _ _ _ _ _ _
theorem getI_0 (U : Nat) (n : Int) : getI U 0 n = U % 2 ^ n.toNat := by unfold getI; simp
theorem nums (U : Nat) : getI U 12 20 = U / 4096 % 1048576 ∧ getI U 20 1 = U / 1048576 % 2 ∧ getI U 1 10 = U / 2 % 1024 ∧ getI U 11 1 = U / 2048 % 2 ∧ getI U 12 8 = U / 4096 % 256 ∧ getI U 12 1 = U / 4096 % 2 ∧ getI U 5 6 = U / 32 % 64 ∧ getI U 1 4 = U / 2 % 16 ∧ getI U 5 7 = U / 32 % 128 := ⟨rfl, rfl, rfl, rfl, rfl, rfl, rfl, rfl, rfl⟩
theorem nums0 (U : Nat) : getI U 0 5 = U % 32 ∧ getI U 0 12 = U % 4096 ∧ getI U 0 6 = U % 64 := ⟨getI_0 U 5, getI_0 U 12, getI_0 U 6⟩
theorem same_mul {a b : Nat} (k : Nat) (h : a = b) : a * k = b * k := by rw [h]
theorem numP_1 (U : Nat) (imm : Int) (hU : (U : Int) = imm % 18446744073709551616) (h0 : -2147483648 ≤ imm) (h1 : imm ≤ 2147479552) (h2 : imm % 4096 = 0) : dNumI 1 U = immP 1 U := by
  rw [immP_1 U imm hU h0 h1 h2]
  unfold dNumI
  rw [if_pos (show (docSpan 1).2 = true by decide), dNum_1, (nums U).1]
  exact same_mul 4096 (by omega)
theorem numP_2 (U : Nat) (imm : Int) (hU : (U : Int) = imm % 18446744073709551616) (h0 : -1048576 ≤ imm) (h1 : imm ≤ 1048574) (h2 : imm % 2 = 0) : dNumI 2 U = immP 2 U := by
  rw [immP_2 U imm hU h0 h1 h2]
  unfold dNumI
  rw [if_pos (show (docSpan 2).2 = true by decide), dNum_2, (nums U).2.1, (nums U).2.2.1, (nums U).2.2.2.1, (nums U).2.2.2.2.1]
theorem numP_3 (U : Nat) (imm : Int) (hU : (U : Int) = imm % 18446744073709551616) (h0 : -2048 ≤ imm) (h1 : imm ≤ 2047) (h2 : imm % 1 = 0) : dNumI 3 U = immP 3 U := by
  rw [immP_3 U imm hU h0 h1 h2]
  unfold dNumI
  rw [if_pos (show (docSpan 3).2 = true by decide), dNum_3, (nums0 U).2.1]
theorem numP_4 (U : Nat) (imm : Int) (hU : (U : Int) = imm % 18446744073709551616) (h0 : -2048 ≤ imm) (h1 : imm ≤ 2047) (h2 : imm % 1 = 0) : dNumI 5 U = immP 4 U := by
  rw [immP_4 U imm hU h0 h1 h2]
  unfold dNumI
  rw [if_pos (show (docSpan 5).2 = true by decide), dNum_5, (nums0 U).2.1]
theorem numP_5 (U : Nat) (imm : Int) (hU : (U : Int) = imm % 18446744073709551616) (h0 : -4096 ≤ imm) (h1 : imm ≤ 4094) (h2 : imm % 2 = 0) : dNumI 4 U = immP 5 U := by
  rw [immP_5 U imm hU h0 h1 h2]
  unfold dNumI
  rw [if_pos (show (docSpan 4).2 = true by decide), dNum_4, (nums U).2.2.2.2.2.1, (nums U).2.2.2.2.2.2.1, (nums U).2.2.2.2.2.2.2.1, (nums U).2.2.2.1]
theorem numP_6 (U : Nat) (imm : Int) (hU : (U : Int) = imm % 18446744073709551616) (h0 : -2048 ≤ imm) (h1 : imm ≤ 2047) (h2 : imm % 1 = 0) : dNumI 6 U = immP 6 U := by
  rw [immP_6 U imm hU h0 h1 h2]
  unfold dNumI
  rw [if_pos (show (docSpan 6).2 = true by decide), dNum_6, (nums U).2.2.2.2.2.2.2.2, (nums0 U).1]
theorem numP_7 (U : Nat) (imm : Int) (hU : (U : Int) = imm % 18446744073709551616) (h0 : 0 ≤ imm) (h1 : imm ≤ 63) (h2 : imm % 1 = 0) : dNumI 7 U = immP 7 U := by
  rw [immP_7 U imm hU h0 h1 h2]
  unfold dNumI
  rw [if_pos (show (docSpan 7).2 = true by decide), dNum_7, (nums0 U).2.2]
  exact same_mul 1048576 (by omega)
theorem numP_8 (U : Nat) (imm : Int) (hU : (U : Int) = imm % 18446744073709551616) (h0 : 0 ≤ imm) (h1 : imm ≤ 31) (h2 : imm % 1 = 0) : dNumI 8 U = immP 8 U := by
  rw [immP_8 U imm hU h0 h1 h2]
  unfold dNumI
  rw [if_pos (show (docSpan 8).2 = true by decide), dNum_8, (nums0 U).2.2]
  exact same_mul 1048576 (by omega)
theorem numP_9 (U : Nat) (imm : Int) (hU : (U : Int) = imm % 18446744073709551616) (h0 : 0 ≤ imm) (h1 : imm ≤ 0) (h2 : imm % 1 = 0) : dNumI 9 U = immP 9 U := by
  rw [immP_9 U imm hU h0 h1 h2]
  unfold dNumI
  rw [if_neg (show ¬ (docSpan 9).2 = true by decide)]
theorem numP_10 (U : Nat) (imm : Int) (hU : (U : Int) = imm % 18446744073709551616) (h0 : 0 ≤ imm) (h1 : imm ≤ 4095) (h2 : imm % 1 = 0) : dNumI 10 U = immP 10 U := by
  rw [immP_10 U imm hU h0 h1 h2]
  unfold dNumI
  rw [if_pos (show (docSpan 10).2 = true by decide), dNum_10, (nums0 U).2.1]
theorem numP_11 (U : Nat) (imm : Int) (hU : (U : Int) = imm % 18446744073709551616) (h0 : 0 ≤ imm) (h1 : imm ≤ 0) (h2 : imm % 1 = 0) : dNumI 11 U = immP 11 U := by
  rw [immP_11 U imm hU h0 h1 h2]
  unfold dNumI
  rw [if_neg (show ¬ (docSpan 11).2 = true by decide)]
theorem numP_12 (U : Nat) (imm : Int) (hU : (U : Int) = imm % 18446744073709551616) (h0 : 0 ≤ imm) (h1 : imm ≤ 0) (h2 : imm % 1 = 0) : dNumI 12 U = immP 12 U := by
  rw [immP_12 U imm hU h0 h1 h2]
  unfold dNumI
  rw [if_neg (show ¬ (docSpan 12).2 = true by decide)]
theorem numP_13 (U : Nat) (imm : Int) (hU : (U : Int) = imm % 18446744073709551616) (h0 : 0 ≤ imm) (h1 : imm ≤ 31) (h2 : imm % 1 = 0) : dNumI 13 U = immP 13 U := by
  rw [immP_13 U imm hU h0 h1 h2]
  unfold dNumI
  rw [if_pos (show (docSpan 13).2 = true by decide), dNum_13, (nums0 U).1]
  exact same_mul 32768 (by omega)
theorem numP_14 (U : Nat) (imm : Int) (hU : (U : Int) = imm % 18446744073709551616) (h0 : 0 ≤ imm) (h1 : imm ≤ 0) (h2 : imm % 1 = 0) : dNumI 14 U = immP 14 U := by
  rw [immP_14 U imm hU h0 h1 h2]
  unfold dNumI
  rw [if_neg (show ¬ (docSpan 14).2 = true by decide)]
theorem numP_15 (U : Nat) (imm : Int) (hU : (U : Int) = imm % 18446744073709551616) (h0 : 0 ≤ imm) (h1 : imm ≤ 0) (h2 : imm % 1 = 0) : dNumI 15 U = immP 15 U := by
  rw [immP_15 U imm hU h0 h1 h2]
  unfold dNumI
  rw [if_neg (show ¬ (docSpan 15).2 = true by decide)]
theorem numP_16 (U : Nat) (imm : Int) (hU : (U : Int) = imm % 18446744073709551616) (h0 : 0 ≤ imm) (h1 : imm ≤ 0) (h2 : imm % 1 = 0) : dNumI 16 U = immP 16 U := by
  rw [immP_16 U imm hU h0 h1 h2]
  unfold dNumI
  rw [if_neg (show ¬ (docSpan 16).2 = true by decide)]
theorem num_eq (f : Nat) (hf : f < 17) (hz : f ≠ 0) (imm : Int) (U : Nat) (hU : (U : Int) = imm % 18446744073709551616) (hi : immB f imm = true) : dNumI (dF f) U = immP f U := by
  have hi := of_decide_eq_true hi
  have hcs : f = 1 ∨ f = 2 ∨ f = 3 ∨ f = 4 ∨ f = 5 ∨ f = 6 ∨ f = 7 ∨ f = 8 ∨ f = 9 ∨ f = 10 ∨ f = 11 ∨ f = 12 ∨ f = 13 ∨ f = 14 ∨ f = 15 ∨ f = 16 := by
    clear hU hi
    omega
  rcases hcs with rfl | rfl | rfl | rfl | rfl | rfl | rfl | rfl | rfl | rfl | rfl | rfl | rfl | rfl | rfl | rfl
  · exact numP_1 U imm hU hi.1 hi.2.1 hi.2.2
  · exact numP_2 U imm hU hi.1 hi.2.1 hi.2.2
  · exact numP_3 U imm hU hi.1 hi.2.1 hi.2.2
  · exact numP_4 U imm hU hi.1 hi.2.1 hi.2.2
  · exact numP_5 U imm hU hi.1 hi.2.1 hi.2.2
  · exact numP_6 U imm hU hi.1 hi.2.1 hi.2.2
  · exact numP_7 U imm hU hi.1 hi.2.1 hi.2.2
  · exact numP_8 U imm hU hi.1 hi.2.1 hi.2.2
  · exact numP_9 U imm hU hi.1 hi.2.1 hi.2.2
  · exact numP_10 U imm hU hi.1 hi.2.1 hi.2.2
  · exact numP_11 U imm hU hi.1 hi.2.1 hi.2.2
  · exact numP_12 U imm hU hi.1 hi.2.1 hi.2.2
  · exact numP_13 U imm hU hi.1 hi.2.1 hi.2.2
  · exact numP_14 U imm hU hi.1 hi.2.1 hi.2.2
  · exact numP_15 U imm hU hi.1 hi.2.1 hi.2.2
  · exact numP_16 U imm hU hi.1 hi.2.1 hi.2.2
/-- a right instruction's parts are small, and Aq and Rl are false but of atomic ones -/
theorem right_small (f a b c d : Nat) (aq rl : Bool) (hf : f < 17) (hz : f ≠ 0) (hp : partsB f a b c d aq rl = true) : a ≤ 31 ∧ b ≤ 31 ∧ c ≤ 31 ∧ d ≤ 4095 ∧ (hasO (dF f : Nat) = false → aq = false ∧ rl = false) := by
  rw [parts_eq f hf hz] at hp
  simp only [Bool.and_eq_true] at hp
  have h1 := of_decide_eq_true hp.1
  refine ⟨by omega, by omega, by omega, by omega, fun ho => ?_⟩
  have h3 := hp.2.2
  unfold dR3 at h3
  rw [ho] at h3
  cases aq <;> cases rl <;> simp at h3 <;> exact ⟨rfl, rfl⟩
theorem num_le (o a b c d : Nat) (aq rl : Bool) (U : Nat) (h : encS o a b c d aq rl U < 4294967296) : immP (formsT.getD o 0) U < 4294967296 := by
  unfold encS at h
  exact Nat.lt_of_le_of_lt (Nat.le_add_left _ _) h
/-- the document's Word is the program's Encode -/
theorem dword_any (o a b c d : Nat) (imm : Int) (aq rl : Bool) (U : Nat) (hU : (U : Int) = imm % 18446744073709551616) (h1 : 1 ≤ o) (h2 : o < 99) (hp : partsB (formsT.getD o 0) a b c d aq rl = true) (hi : immB (formsT.getD o 0) imm = true) (w : World) :
    Calls Tryz.prog 16 #[.agg (instrC (o : Nat) (a : Nat) (b : Nat) (c : Nat) imm (d : Nat) aq rl)] w fun e w' => e = .returned (.int .i64 (encS o a b c d aq rl U : Nat)) ∧ Below w.heap.size w w' := by
  have hf := forms_lt o h2
  have hz := forms_pos o h2 h1
  obtain ⟨la, lb, lc, ld, lo⟩ := right_small _ a b c d aq rl hf hz hp
  have hx := (decoded o a b c d imm aq rl U hU h1 h2 hp hi).1
  have hnl := num_le o a b c d aq rl U hx
  have hne := num_eq _ hf hz imm U hU hi
  rw [← hne] at hnl
  rw [← rows_forms o h2 h1] at hne hnl lo
  have hs := sum_eq o a b c d aq rl (dNumI (dForm o) U) U h1 h2 hne
  rw [← hs]
  clear hs hx hne hp hi
  have hUw : IntKind.u64.wrap imm = (U : Int) := by rw [wrap_u64]; omega
  have hU64 : U < 18446744073709551616 := by omega
  obtain ⟨k0, k1, k2, k3⟩ := rows_small o h2
  have kp := rows_pos o h2 h1
  have hO := fun w => of_op o h1 h2 w
  have hcs : dForm o = 1 ∨ dForm o = 2 ∨ dForm o = 3 ∨ dForm o = 4 ∨ dForm o = 5 ∨ dForm o = 6 ∨ dForm o = 7 ∨ dForm o = 8 ∨ dForm o = 9 ∨ dForm o = 10 ∨ dForm o = 11 ∨ dForm o = 12 ∨ dForm o = 13 ∨ dForm o = 14 ∨ dForm o = 15 ∨ dForm o = 16 := by omega
  generalize dForm o = g at *
  generalize dCode o = cc at *
  generalize dF3 o = f3 at *
  generalize dF7 o = f7 at *
  rcases hcs with rfl | rfl | rfl | rfl | rfl | rfl | rfl | rfl | rfl | rfl | rfl | rfl | rfl | rfl | rfl | rfl
  · rw [show dNumI 1 U = dNum 1 U from if_pos (by decide)] at hnl ⊢
    obtain ⟨rfl, rfl⟩ := lo (by decide)
    exact word_1 o a b c d cc f3 f7 (dNum 1 U) imm (dName (o - 1)) la lb lc ld k1 k2 k3 hnl w hO (fun w => num_any 1 (by decide) imm U hUw hU64 w)
  · rw [show dNumI 2 U = dNum 2 U from if_pos (by decide)] at hnl ⊢
    obtain ⟨rfl, rfl⟩ := lo (by decide)
    exact word_2 o a b c d cc f3 f7 (dNum 2 U) imm (dName (o - 1)) la lb lc ld k1 k2 k3 hnl w hO (fun w => num_any 2 (by decide) imm U hUw hU64 w)
  · rw [show dNumI 3 U = dNum 3 U from if_pos (by decide)] at hnl ⊢
    obtain ⟨rfl, rfl⟩ := lo (by decide)
    exact word_3 o a b c d cc f3 f7 (dNum 3 U) imm (dName (o - 1)) la lb lc ld k1 k2 k3 hnl w hO (fun w => num_any 3 (by decide) imm U hUw hU64 w)
  · rw [show dNumI 4 U = dNum 4 U from if_pos (by decide)] at hnl ⊢
    obtain ⟨rfl, rfl⟩ := lo (by decide)
    exact word_4 o a b c d cc f3 f7 (dNum 4 U) imm (dName (o - 1)) la lb lc ld k1 k2 k3 hnl w hO (fun w => num_any 4 (by decide) imm U hUw hU64 w)
  · rw [show dNumI 5 U = dNum 5 U from if_pos (by decide)] at hnl ⊢
    obtain ⟨rfl, rfl⟩ := lo (by decide)
    exact word_5 o a b c d cc f3 f7 (dNum 5 U) imm (dName (o - 1)) la lb lc ld k1 k2 k3 hnl w hO (fun w => num_any 5 (by decide) imm U hUw hU64 w)
  · rw [show dNumI 6 U = dNum 6 U from if_pos (by decide)] at hnl ⊢
    obtain ⟨rfl, rfl⟩ := lo (by decide)
    exact word_6 o a b c d cc f3 f7 (dNum 6 U) imm (dName (o - 1)) la lb lc ld k1 k2 k3 hnl w hO (fun w => num_any 6 (by decide) imm U hUw hU64 w)
  · rw [show dNumI 7 U = dNum 7 U from if_pos (by decide)] at hnl ⊢
    obtain ⟨rfl, rfl⟩ := lo (by decide)
    exact word_7 o a b c d cc f3 f7 (dNum 7 U) imm (dName (o - 1)) la lb lc ld k1 k2 k3 hnl w hO (fun w => num_any 7 (by decide) imm U hUw hU64 w)
  · rw [show dNumI 8 U = dNum 8 U from if_pos (by decide)] at hnl ⊢
    obtain ⟨rfl, rfl⟩ := lo (by decide)
    exact word_8 o a b c d cc f3 f7 (dNum 8 U) imm (dName (o - 1)) la lb lc ld k1 k2 k3 hnl w hO (fun w => num_any 8 (by decide) imm U hUw hU64 w)
  · rw [show dNumI 9 U = 0 from if_neg (by decide)] at hnl ⊢
    obtain ⟨rfl, rfl⟩ := lo (by decide)
    exact word_9 o a b c d cc f3 f7 0 imm (dName (o - 1)) la lb lc ld k1 k2 k3 hnl w hO
  · rw [show dNumI 10 U = dNum 10 U from if_pos (by decide)] at hnl ⊢
    obtain ⟨rfl, rfl⟩ := lo (by decide)
    exact word_10 o a b c d cc f3 f7 (dNum 10 U) imm (dName (o - 1)) la lb lc ld k1 k2 k3 hnl w hO (fun w => num_any 10 (by decide) imm U hUw hU64 w)
  · rw [show dNumI 11 U = 0 from if_neg (by decide)] at hnl ⊢
    obtain ⟨rfl, rfl⟩ := lo (by decide)
    exact word_11 o a b c d cc f3 f7 0 imm (dName (o - 1)) la lb lc ld k1 k2 k3 hnl w hO
  · rw [show dNumI 12 U = 0 from if_neg (by decide)] at hnl ⊢
    obtain ⟨rfl, rfl⟩ := lo (by decide)
    exact word_12 o a b c d cc f3 f7 0 imm (dName (o - 1)) la lb lc ld k1 k2 k3 hnl w hO
  · rw [show dNumI 13 U = dNum 13 U from if_pos (by decide)] at hnl ⊢
    obtain ⟨rfl, rfl⟩ := lo (by decide)
    exact word_13 o a b c d cc f3 f7 (dNum 13 U) imm (dName (o - 1)) la lb lc ld k1 k2 k3 hnl w hO (fun w => num_any 13 (by decide) imm U hUw hU64 w)
  · rw [show dNumI 14 U = 0 from if_neg (by decide)] at hnl ⊢
    cases aq <;> cases rl
    · exact word_14_ff o a b c d cc f3 f7 0 imm (dName (o - 1)) la lb lc ld k1 k2 k3 hnl w hO
    · exact word_14_ft o a b c d cc f3 f7 0 imm (dName (o - 1)) la lb lc ld k1 k2 k3 hnl w hO
    · exact word_14_tf o a b c d cc f3 f7 0 imm (dName (o - 1)) la lb lc ld k1 k2 k3 hnl w hO
    · exact word_14_tt o a b c d cc f3 f7 0 imm (dName (o - 1)) la lb lc ld k1 k2 k3 hnl w hO
  · rw [show dNumI 15 U = 0 from if_neg (by decide)] at hnl ⊢
    cases aq <;> cases rl
    · exact word_15_ff o a b c d cc f3 f7 0 imm (dName (o - 1)) la lb lc ld k1 k2 k3 hnl w hO
    · exact word_15_ft o a b c d cc f3 f7 0 imm (dName (o - 1)) la lb lc ld k1 k2 k3 hnl w hO
    · exact word_15_tf o a b c d cc f3 f7 0 imm (dName (o - 1)) la lb lc ld k1 k2 k3 hnl w hO
    · exact word_15_tt o a b c d cc f3 f7 0 imm (dName (o - 1)) la lb lc ld k1 k2 k3 hnl w hO
  · rw [show dNumI 16 U = 0 from if_neg (by decide)] at hnl ⊢
    obtain ⟨rfl, rfl⟩ := lo (by decide)
    exact word_16 o a b c d cc f3 f7 0 imm (dName (o - 1)) la lb lc ld k1 k2 k3 hnl w hO
end Go.Proofs.YtooaafbdjnlmfaaGreatDoor
