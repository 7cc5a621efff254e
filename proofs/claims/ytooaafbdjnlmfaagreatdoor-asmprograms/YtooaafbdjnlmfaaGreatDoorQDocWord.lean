/- The document's call Word of layer 3, all forms. -/
import Derived.Test.YtooaafbdjnlmfaaGreatDoorQDocWord2
import Derived.Test.YtooaafbdjnlmfaaGreatDoorQDocWord3
import Derived.Test.YtooaafbdjnlmfaaGreatDoorQDocWord0
import Derived.Test.YtooaafbdjnlmfaaGreatDoorQFin


namespace Go.Proofs.YtooaafbdjnlmfaaGreatDoor
open Go.RowKit
set_option linter.unusedVariables false
set_option linter.unusedSimpArgs false
theorem dec_all (f W c g h : Nat) (hf : f < 17) (hz : f ≠ 0) (hW : W = c + g * 4096 + h * 1048576) (hc : c < 128) (hg : g < 8) (hh : h < 4096) (e1 : f = 1 ∨ f = 2 → g = 0 ∧ h = 0) (e2 : f = 3 ∨ f = 4 ∨ f = 5 ∨ f = 6 ∨ f = 10 ∨ f = 12 ∨ f = 13 → h = 0) (e3 : f = 7 → h % 64 = 0) (e4 : f = 8 ∨ f = 9 ∨ f = 16 → h % 32 = 0) (e5 : f = 14 ∨ f = 15 → h % 128 = 0)
    (a b cc d : Nat) (aq rl : Bool) (la : a ≤ if partsT.getD f 0 &&& 1 = 0 then 0 else 31) (lb : b ≤ if partsT.getD f 0 &&& 2 = 0 then 0 else 31) (lc : cc ≤ if partsT.getD f 0 &&& 4 = 0 then 0 else 31) (ld : d ≤ if partsT.getD f 0 &&& 8 = 0 then 0 else 4095) (lo : partsT.getD f 0 &&& 16 = 0 → aq = false ∧ rl = false)
    (imm : Int) (U : Nat) (hU : (U : Int) = imm % 18446744073709551616) (hi : (spanN f).1 ≤ imm ∧ imm ≤ (spanN f).2.1 ∧ imm % (spanN f).2.2 = 0) (x : Nat) (hx : x = W + partsS a b cc d aq rl + immP f U) :
    x < 4294967296 ∧ dP f 1 128 32 x = a ∧ dP f 2 32768 32 x = b ∧ dP f 4 1048576 32 x = cc ∧ dP f 8 1048576 4096 x = d ∧ dB f 67108864 x = aq ∧ dB f 33554432 x = rl ∧ immD f x = imm := by
  have hcs : f = 1 ∨ f = 2 ∨ f = 3 ∨ f = 4 ∨ f = 5 ∨ f = 6 ∨ f = 7 ∨ f = 8 ∨ f = 9 ∨ f = 10 ∨ f = 11 ∨ f = 12 ∨ f = 13 ∨ f = 14 ∨ f = 15 ∨ f = 16 := by
    clear hx hW hU hi la lb lc ld lo e1 e2 e3 e4 e5
    omega
  rcases hcs with rfl | rfl | rfl | rfl | rfl | rfl | rfl | rfl | rfl | rfl | rfl | rfl | rfl | rfl | rfl | rfl
  · exact dec_1 W c g h hW hc hg hh (e1 (.inl rfl)) a b cc d aq rl la lb lc ld (lo (by decide)) imm U hU hi.1 hi.2.1 hi.2.2 x hx
  · exact dec_2 W c g h hW hc hg hh (e1 (.inr rfl)) a b cc d aq rl la lb lc ld (lo (by decide)) imm U hU hi.1 hi.2.1 hi.2.2 x hx
  · exact dec_3 W c g h hW hc hg hh (e2 (.inl rfl)) a b cc d aq rl la lb lc ld (lo (by decide)) imm U hU hi.1 hi.2.1 hi.2.2 x hx
  · exact dec_4 W c g h hW hc hg hh (e2 (.inr (.inl rfl))) a b cc d aq rl la lb lc ld (lo (by decide)) imm U hU hi.1 hi.2.1 hi.2.2 x hx
  · exact dec_5 W c g h hW hc hg hh (e2 (.inr (.inr (.inl rfl)))) a b cc d aq rl la lb lc ld (lo (by decide)) imm U hU hi.1 hi.2.1 hi.2.2 x hx
  · exact dec_6 W c g h hW hc hg hh (e2 (.inr (.inr (.inr (.inl rfl))))) a b cc d aq rl la lb lc ld (lo (by decide)) imm U hU hi.1 hi.2.1 hi.2.2 x hx
  · exact dec_7 W c g h hW hc hg hh (e3 rfl) a b cc d aq rl la lb lc ld (lo (by decide)) imm U hU hi.1 hi.2.1 hi.2.2 x hx
  · exact dec_8 W c g h hW hc hg hh (e4 (.inl rfl)) a b cc d aq rl la lb lc ld (lo (by decide)) imm U hU hi.1 hi.2.1 hi.2.2 x hx
  · exact dec_9 W c g h hW hc hg hh (e4 (.inr (.inl rfl))) a b cc d aq rl la lb lc ld (lo (by decide)) imm U hU hi.1 hi.2.1 hi.2.2 x hx
  · exact dec_10 W c g h hW hc hg hh (e2 (.inr (.inr (.inr (.inr (.inl rfl)))))) a b cc d aq rl la lb lc ld (lo (by decide)) imm U hU hi.1 hi.2.1 hi.2.2 x hx
  · exact dec_11 W c g h hW hc hg hh trivial a b cc d aq rl la lb lc ld (lo (by decide)) imm U hU hi.1 hi.2.1 hi.2.2 x hx
  · exact dec_12 W c g h hW hc hg hh (e2 (.inr (.inr (.inr (.inr (.inr (.inl rfl))))))) a b cc d aq rl la lb lc ld (lo (by decide)) imm U hU hi.1 hi.2.1 hi.2.2 x hx
  · exact dec_13 W c g h hW hc hg hh (e2 (.inr (.inr (.inr (.inr (.inr (.inr rfl))))))) a b cc d aq rl la lb lc ld (lo (by decide)) imm U hU hi.1 hi.2.1 hi.2.2 x hx
  · exact dec_14 W c g h hW hc hg hh (e5 (.inl rfl)) a b cc d aq rl la lb lc ld imm U hU hi.1 hi.2.1 hi.2.2 x hx
  · exact dec_15 W c g h hW hc hg hh (e5 (.inr rfl)) a b cc d aq rl la lb lc ld imm U hU hi.1 hi.2.1 hi.2.2 x hx
  · exact dec_16 W c g h hW hc hg hh (e4 (.inr (.inr rfl))) a b cc d aq rl la lb lc ld (lo (by decide)) imm U hU hi.1 hi.2.1 hi.2.2 x hx
theorem part_le (f p last : Nat) (a : Nat) (h : amongB a (mostI f p last) = true) : a ≤ if partsT.getD f 0 &&& p = 0 then 0 else last := by
  have h2 := of_decide_eq_true h
  unfold mostI mostN at h2
  rw [Int.toNat_natCast] at h2
  by_cases hp : partsT.getD f 0 &&& p = 0
  · rw [if_pos hp] at h2 ⊢; omega
  · rw [if_neg hp] at h2 ⊢; omega
/-- what Encode made Decode reads -/
theorem decoded (o a b c d : Nat) (imm : Int) (aq rl : Bool) (U : Nat) (hU : (U : Int) = imm % 18446744073709551616) (h1 : 1 ≤ o) (h2 : o < 99) (hp : partsB (formsT.getD o 0) a b c d aq rl = true) (hi : immB (formsT.getD o 0) imm = true) :
    encS o a b c d aq rl U < 4294967296 ∧ hit (encS o a b c d aq rl U) o = true ∧ decC (encS o a b c d aq rl U) o = instrC (o : Nat) (a : Nat) (b : Nat) (c : Nat) imm (d : Nat) aq rl := by
  have hf := forms_lt o h2
  have hz := forms_pos o h2 h1
  obtain ⟨sw, sp, si, ep, eo⟩ := enc_parts o a b c d imm aq rl U hU h1 h2 hp hi
  obtain ⟨d5, d6, d7⟩ := masksB _ hf hz
  obtain ⟨c1, c2, c3, c4, c5⟩ := masksD _ hf
  obtain ⟨m1, m2, m3⟩ := masksE _ hf
  have hfix := fixed_of _ _ _ _ _ _ sw sp si m1 c5 m3 d6 d7 m2
  obtain ⟨w0, g, h', hW, hc, hg, hh, e1, e2, e3, e4, e5⟩ := words_split o h2 h1
  have hp2 := hp
  unfold partsB at hp2
  simp only [Bool.and_eq_true] at hp2
  obtain ⟨g0, g1, g2, g3, g4⟩ := hp2
  have lo : partsT.getD (formsT.getD o 0) 0 &&& 16 = 0 → aq = false ∧ rl = false := by
    intro hq
    rw [decide_eq_false (by simpa using hq)] at g4
    cases aq <;> cases rl <;> simp at g4
    exact ⟨rfl, rfl⟩
  obtain ⟨r0, r1, r2, r3, r4, r5, r6, r7⟩ := dec_all (formsT.getD o 0) (wordsT.getD o 0) w0 g h' hf hz hW hc hg hh e1 e2 e3 e4 e5 a b c d aq rl (part_le _ 1 31 a g0) (part_le _ 2 31 b g1) (part_le _ 4 31 c g2) (part_le _ 8 4095 d g3) lo imm U hU (of_decide_eq_true hi) (encS o a b c d aq rl U) rfl
  refine ⟨r0, ?_, ?_⟩
  · unfold hit
    exact beq_iff_eq.2 hfix
  · unfold decC
    rw [r1, r2, r3, r4, r5, r6, r7]
end Go.Proofs.YtooaafbdjnlmfaaGreatDoor
