/- The statement on words: what a word is decoded as is encoded as that word. -/
import Derived.Test.YtnedhfdejfjfiaaDoorWd
import Derived.Test.YtnedhfdejfjfiaaDoorBackW
namespace Go.Proofs.YtnedhfdejfjfiaaDoor
open Go.RowKit
set_option linter.unusedVariables false
set_option linter.unusedSimpArgs false
theorem wd_all (f W c A g B T : Nat) (hf : f < 17) (hz : f ≠ 0) (hc : c < 128) (hA : A < 32) (hg : g < 8) (hB : B < 32) (hT : T < 4096) (x : Nat) (hx : x = c + A * 128 + g * 4096 + B * 32768 + T * 1048576) (hm : x &&& fixedT.getD f 0 = W) (v : Int) (hv : immD f x = v) (U : Nat) (hU : (U : Int) = v % 18446744073709551616) :
    ((spanN f).1 ≤ v ∧ v ≤ (spanN f).2.1 ∧ v % (spanN f).2.2 = 0) ∧ W + partsS (dP f 1 128 32 x) (dP f 2 32768 32 x) (dP f 4 1048576 32 x) (dP f 8 1048576 4096 x) (dB f 67108864 x) (dB f 33554432 x) + immP f U = x := by
  have hcs : f = 1 ∨ f = 2 ∨ f = 3 ∨ f = 4 ∨ f = 5 ∨ f = 6 ∨ f = 7 ∨ f = 8 ∨ f = 9 ∨ f = 10 ∨ f = 11 ∨ f = 12 ∨ f = 13 ∨ f = 14 ∨ f = 15 ∨ f = 16 := by
    clear hx hm hU hv hc hA hg hB hT
    omega
  rcases hcs with rfl | rfl | rfl | rfl | rfl | rfl | rfl | rfl | rfl | rfl | rfl | rfl | rfl | rfl | rfl | rfl
  · exact wd_1 W c A g B T hc hA hg hB hT x hx hm v hv U hU
  · exact wd_2 W c A g B T hc hA hg hB hT x hx hm v hv U hU
  · exact wd_3 W c A g B T hc hA hg hB hT x hx hm v hv U hU
  · exact wd_4 W c A g B T hc hA hg hB hT x hx hm v hv U hU
  · exact wd_5 W c A g B T hc hA hg hB hT x hx hm v hv U hU
  · exact wd_6 W c A g B T hc hA hg hB hT x hx hm v hv U hU
  · exact wd_7 W c A g B T hc hA hg hB hT x hx hm v hv U hU
  · exact wd_8 W c A g B T hc hA hg hB hT x hx hm v hv U hU
  · exact wd_9 W c A g B T hc hA hg hB hT x hx hm v hv U hU
  · exact wd_10 W c A g B T hc hA hg hB hT x hx hm v hv U hU
  · exact wd_11 W c A g B T hc hA hg hB hT x hx hm v hv U hU
  · exact wd_12 W c A g B T hc hA hg hB hT x hx hm v hv U hU
  · exact wd_13 W c A g B T hc hA hg hB hT x hx hm v hv U hU
  · exact wd_14 W c A g B T hc hA hg hB hT x hx hm v hv U hU
  · exact wd_15 W c A g B T hc hA hg hB hT x hx hm v hv U hU
  · exact wd_16 W c A g B T hc hA hg hB hT x hx hm v hv U hU
theorem dp_among (f p k m last x : Nat) (hm : m = last + 1) : amongB ((dP f p k m x : Nat) : Int) (mostI f (p : Nat) (last : Nat)) = true := by
  unfold amongB mostI mostN dP
  rw [Int.toNat_natCast]
  subst hm
  have : x / k % (last + 1) < last + 1 := Nat.mod_lt (x / k) (Nat.succ_pos last)
  by_cases hp : partsT.getD f 0 &&& p = 0
  · rw [if_pos hp, if_pos hp]; exact decide_eq_true ⟨Int.le_refl _, Int.le_refl _⟩
  · rw [if_neg hp, if_neg hp]; exact decide_eq_true ⟨by omega, by omega⟩
theorem db_order (f x : Nat) : (decide (partsT.getD f 0 &&& 16 ≠ 0) || (!dB f 67108864 x && !dB f 33554432 x)) = true := by
  unfold dB
  by_cases hp : partsT.getD f 0 &&& 16 = 0
  · rw [decide_eq_false (by simpa using hp)]; rfl
  · rw [decide_eq_true hp]; rfl
theorem span_small : ∀ f, f < 17 → -9223372036854775808 ≤ (spanN f).1 ∧ (spanN f).2.1 < 9223372036854775808 := by decide
/-- what a word is decoded as is right, and its word is that word -/
theorem worded (x o : Nat) (hx : x < 4294967296) (h1 : 1 ≤ o) (h2 : o < 99) (hh : hit x o = true) (v : Int) (hv : immD (formsT.getD o 0) x = v) (U : Nat) (hU : (U : Int) = v % 18446744073709551616) :
    rightB (o : Nat) (dP (formsT.getD o 0) 1 128 32 x : Nat) (dP (formsT.getD o 0) 2 32768 32 x : Nat) (dP (formsT.getD o 0) 4 1048576 32 x : Nat) v (dP (formsT.getD o 0) 8 1048576 4096 x : Nat) (dB (formsT.getD o 0) 67108864 x) (dB (formsT.getD o 0) 33554432 x) = true ∧ (-9223372036854775808 ≤ v ∧ v < 9223372036854775808) ∧
    encS o (dP (formsT.getD o 0) 1 128 32 x) (dP (formsT.getD o 0) 2 32768 32 x) (dP (formsT.getD o 0) 4 1048576 32 x) (dP (formsT.getD o 0) 8 1048576 4096 x) (dB (formsT.getD o 0) 67108864 x) (dB (formsT.getD o 0) 33554432 x) U = x := by
  have hf := forms_lt o h2
  have hz := forms_pos o h2 h1
  have hfo : formI (o : Nat) = formsT.getD o 0 := by unfold formI; rw [if_pos ⟨by omega, by omega⟩, Int.toNat_natCast]
  have hm : x &&& fixedT.getD (formsT.getD o 0) 0 = wordsT.getD o 0 := eq_of_beq hh
  obtain ⟨c, A, g, B, T, hc, hA, hg, hB, hT, hd⟩ := own_digits x hx
  obtain ⟨hr, hs⟩ := wd_all (formsT.getD o 0) (wordsT.getD o 0) c A g B T hf hz hc hA hg hB hT x hd hm v hv U hU
  have hl := span_small _ hf
  refine ⟨?_, ⟨Int.le_trans hl.1 hr.1, Int.lt_of_le_of_lt hr.2.1 hl.2⟩, hs⟩
  unfold rightB partsB immB
  rw [hfo, decide_eq_true hz, decide_eq_true hr, show amongB ((dP (formsT.getD o 0) 1 128 32 x : Nat) : Int) (mostI (formsT.getD o 0) 1 31) = true from dp_among _ 1 128 32 31 x rfl, show amongB ((dP (formsT.getD o 0) 2 32768 32 x : Nat) : Int) (mostI (formsT.getD o 0) 2 31) = true from dp_among _ 2 32768 32 31 x rfl, show amongB ((dP (formsT.getD o 0) 4 1048576 32 x : Nat) : Int) (mostI (formsT.getD o 0) 4 31) = true from dp_among _ 4 1048576 32 31 x rfl, show amongB ((dP (formsT.getD o 0) 8 1048576 4096 x : Nat) : Int) (mostI (formsT.getD o 0) 8 4095) = true from dp_among _ 8 1048576 4096 4095 x rfl, db_order]
  rfl
set_option maxHeartbeats 400000 in
theorem words_none (x : Nat) (W : World) (ht : Tabs W) (hD : ∀ w, Tabs w → Calls Tryd.prog 14 #[.int .u32 (x : Nat)] w fun e w' => e = .returned (.tuple #[.agg (instrC 0 0 0 0 0 0 false false), .int .i64 31]) ∧ Below w.heap.size w w') :
    Calls Tryd.prog 6 #[.int .u32 (x : Nat)] W fun e w' => e = .returned (.bool true) ∧ Below W.heap.size W w' := by
  have T0 : Hid (Tabs W) := ht
  have HD : Hid _ := hD
  clear ht hD
  go_enter Tryd.func6, Tryd.ntmps6
  go_wp2_with fail
  refine (awake_any _ T0.out).mono ?_
  rintro e w1 ⟨rfl, hb1⟩
  have B1 : Hid _ := hb1
  clear hb1
  go_wp2_with fail
  refine (HD.out _ (T0.out.below B1.out)).mono ?_
  rintro e w2 ⟨rfl, hb2⟩
  have B2 : Hid _ := B1.out.trans (hb2.mono B1.out.size)
  clear hb2
  go_wp2
  go_ret
  exact ⟨by first | rfl | simp, B2.out.alloc B2.out.size _⟩
set_option maxHeartbeats 400000 in
theorem words_hit (x : Nat) (op rd rs1 rs2 imm csr : Int) (aq rl : Bool) (W : World) (ht : Tabs W) (hD : ∀ w, Tabs w → Calls Tryd.prog 14 #[.int .u32 (x : Nat)] w fun e w' => e = .returned (.tuple #[.agg (instrC op rd rs1 rs2 imm csr aq rl), .int .i64 0]) ∧ Below w.heap.size w w')
    (hE : ∀ w, Tabs w → Calls Tryd.prog 10 #[.agg (instrC op rd rs1 rs2 imm csr aq rl)] w fun e w' => e = .returned (.tuple #[.int .u32 (x : Nat), .int .i64 0]) ∧ Below w.heap.size w w') :
    Calls Tryd.prog 6 #[.int .u32 (x : Nat)] W fun e w' => e = .returned (.bool true) ∧ Below W.heap.size W w' := by
  have T0 : Hid (Tabs W) := ht
  have HD : Hid _ := hD
  have HE : Hid _ := hE
  clear ht hD hE
  go_enter Tryd.func6, Tryd.ntmps6
  go_wp2_with fail
  refine (awake_any _ T0.out).mono ?_
  rintro e w1 ⟨rfl, hb1⟩
  have B1 : Hid _ := hb1
  clear hb1
  go_wp2_with fail
  refine (HD.out _ (T0.out.below B1.out)).mono ?_
  rintro e w2 ⟨rfl, hb2⟩
  have B2 : Hid _ := B1.out.trans (hb2.mono B1.out.size)
  clear hb2
  go_wp2_with fail
  refine (HE.out _ (T0.out.below (B2.out.alloc B2.out.size _))).mono ?_
  rintro e w3 ⟨rfl, hb3⟩
  have B3 : Hid _ := (B2.out.alloc B2.out.size (.cells (instrC op rd rs1 rs2 imm csr aq rl) 23)).trans (hb3.mono (by have := B2.out.size; simp; omega))
  clear hb3
  go_wp2
  go_ret
  exact ⟨by simp, B3.out⟩
theorem words_core (a : Int) (wf : (Lit.int .u32 a).wf = true) (W : World) (ht : Tabs W) :
    Calls Tryd.prog 6 #[.int .u32 a] W fun e w' => e = .returned (.bool true) ∧ Below W.heap.size W w' := by
  have b := bounds_u32 wf
  obtain ⟨x, rfl⟩ : ∃ x : Nat, a = x := ⟨a.toNat, by omega⟩
  have hx : x < 4294967296 := by omega
  by_cases h : ∃ o, 1 ≤ o ∧ o < 99 ∧ hit x o = true
  · obtain ⟨o, h1, h2, hh⟩ := h
    obtain ⟨v, hv⟩ : ∃ v, immD (formsT.getD o 0) x = v := ⟨_, rfl⟩
    obtain ⟨U, hU⟩ : ∃ U : Nat, (U : Int) = v % 18446744073709551616 := ⟨(v % 18446744073709551616).toNat, by omega⟩
    obtain ⟨hr, hb, hs⟩ := worded x o hx h1 h2 hh v hv U hU
    refine words_hit x (o : Nat) (dP (formsT.getD o 0) 1 128 32 x : Nat) (dP (formsT.getD o 0) 2 32768 32 x : Nat) (dP (formsT.getD o 0) 4 1048576 32 x : Nat) v (dP (formsT.getD o 0) 8 1048576 4096 x : Nat) (dB (formsT.getD o 0) 67108864 x) (dB (formsT.getD o 0) 33554432 x) W ht (fun w t => ?_) (fun w t => ?_)
    · have hD := decode_hit x o hx h1 h2 hh (fun j j1 j2 => by
        cases hj : hit x j
        · rfl
        · have := hit_one _ j o (by omega) h2 j1 h1 hj hh; omega) w t
      unfold decC at hD
      rw [hv] at hD
      exact hD
    · have hE := encode_yes _ _ _ _ _ _ _ _ hb w t hr
      simp only [Int.toNat_natCast] at hE
      rw [show (v % 18446744073709551616).toNat = U from by omega, hs] at hE
      exact hE
  · refine words_none x W ht (fun w t => decode_none x hx (fun j j1 j2 => ?_) w t)
    cases hj : hit x j
    · rfl
    · exact absurd ⟨j, j1, j2, hj⟩ h
end Go.Proofs.YtnedhfdejfjfiaaDoor
