/- The document's Do tells what the program's Do tells; the statements on every operation and on high halves return true for every input. -/
import Derived.Test.YtdejnlblcokldaaQuot
import Derived.Test.YtdejnlblcokldaaHalves
namespace Go.Proofs.Ytdejnlblcokldaa
open Go.RowKit
set_option linter.unusedVariables false
set_option linter.unusedSimpArgs false
theorem numI_lo' (a : Nat) (h : a < 9223372036854775808) : numI a = ((sizeN a : Nat) : Int) := by unfold numI sizeN; rw [if_pos h, if_pos h]
theorem numI_hi' (a : Nat) (ha : a < 18446744073709551616) (h : ¬ a < 9223372036854775808) : numI a = -((sizeN a : Nat) : Int) := by unfold numI sizeN; rw [if_neg h, if_neg h]; omega
theorem sgn_neg (q : Nat) (hq : q < 18446744073709551616) : sgn true q = ((-(q : Int)) % 18446744073709551616).toNat := by unfold sgn; rw [if_pos rfl]; omega
theorem sgn_pos (q : Nat) (hq : q < 18446744073709551616) : sgn false q = ((q : Int) % 18446744073709551616).toNat := by unfold sgn; simp; omega
theorem sdiv_eq (a b : Nat) (ha : a < 18446744073709551616) (hb : b < 18446744073709551616) : sdivN a b = divV a b := by
  unfold sdivN divV
  by_cases h0 : b = 0
  · rw [if_pos h0, if_pos h0]
  rw [if_neg h0, if_neg h0]
  have lq : sizeN a / sizeN b < 18446744073709551616 := Nat.lt_of_le_of_lt (Nat.div_le_self _ _) (sizeN_lt a ha)
  by_cases h1 : a < 9223372036854775808 <;> by_cases h2 : b < 9223372036854775808
  · rw [numI_lo' a h1, numI_lo' b h2, decide_eq_false (by omega), decide_eq_false (by omega), ← Int.ofNat_tdiv]
    exact sgn_pos _ lq
  · rw [numI_lo' a h1, numI_hi' b hb h2, decide_eq_false (by omega), decide_eq_true (by omega), Int.tdiv_neg, ← Int.ofNat_tdiv]
    exact sgn_neg _ lq
  · rw [numI_hi' a ha h1, numI_lo' b h2, decide_eq_true (by omega), decide_eq_false (by omega), Int.neg_tdiv, ← Int.ofNat_tdiv]
    exact sgn_neg _ lq
  · rw [numI_hi' a ha h1, numI_hi' b hb h2, decide_eq_true (by omega), decide_eq_true (by omega), Int.neg_tdiv, Int.tdiv_neg, Int.neg_neg, ← Int.ofNat_tdiv]
    exact sgn_pos _ lq
theorem srem_eq (a b : Nat) (ha : a < 18446744073709551616) (hb : b < 18446744073709551616) : sremN a b = remV a b := by
  unfold sremN remV
  by_cases h0 : b = 0
  · rw [if_pos h0, if_pos h0]
  rw [if_neg h0, if_neg h0]
  have lq : sizeN a % sizeN b < 18446744073709551616 := Nat.lt_of_le_of_lt (Nat.mod_le _ _) (sizeN_lt a ha)
  by_cases h1 : a < 9223372036854775808 <;> by_cases h2 : b < 9223372036854775808
  · rw [numI_lo' a h1, numI_lo' b h2, decide_eq_false (by omega), ← Int.ofNat_tmod]
    exact sgn_pos _ lq
  · rw [numI_lo' a h1, numI_hi' b hb h2, decide_eq_false (by omega), Int.tmod_neg, ← Int.ofNat_tmod]
    exact sgn_pos _ lq
  · rw [numI_hi' a ha h1, numI_lo' b h2, decide_eq_true (by omega), Int.neg_tmod, ← Int.ofNat_tmod]
    exact sgn_neg _ lq
  · rw [numI_hi' a ha h1, numI_hi' b hb h2, decide_eq_true (by omega), Int.neg_tmod, Int.tmod_neg, ← Int.ofNat_tmod]
    exact sgn_neg _ lq
theorem sx_congr (x y : Nat) (h : x % 4294967296 = y % 4294967296) : sextA x 32 = sextA y 32 := by rw [sx32, sx32, h]
theorem num_sx (a : Nat) : numI (sextA a 32) = num32 (a % 4294967296) := by
  rw [sx32]; unfold numI num32
  have : a % 4294967296 < 4294967296 := Nat.mod_lt _ (by decide)
  generalize a % 4294967296 = l at *
  by_cases h : l < 2147483648
  · rw [if_pos h, if_pos h, if_pos (by omega)]
  · rw [if_neg h, if_neg h, if_neg (by omega)]; omega
theorem sx_zero (a : Nat) : (sextA a 32 = 0) = (a % 4294967296 = 0) := by
  rw [sx32]
  have : a % 4294967296 < 4294967296 := Nat.mod_lt _ (by decide)
  generalize a % 4294967296 = l at *
  split <;> simp <;> omega
theorem sx_low (a : Nat) : sextA a 32 % 4294967296 = a % 4294967296 := by rw [sx32]; split <;> omega
theorem divw_eq (a b : Nat) : sextA (divV (sextA a 32) (sextA b 32)) 32 = sextA (divW (a % 4294967296) (b % 4294967296)) 32 := by
  apply sx_congr
  unfold divV divW
  simp only [sx_zero b, num_sx]
  split
  · decide
  · omega
theorem remw_eq (a b : Nat) : sextA (remV (sextA a 32) (sextA b 32)) 32 = sextA (remW (a % 4294967296) (b % 4294967296)) 32 := by
  apply sx_congr
  unfold remV remW
  simp only [sx_zero b, num_sx]
  split
  · rw [sx_low]; omega
  · omega
theorem divuw_eq (a b : Nat) : sextA (divuV (a % 4294967296) (b % 4294967296)) 32 = sextA (divuW (a % 4294967296) (b % 4294967296)) 32 := by
  apply sx_congr
  unfold divuV divuW
  split
  · decide
  · rfl
theorem remuw_eq (a b : Nat) : sextA (remuV (a % 4294967296) (b % 4294967296)) 32 = sextA (remuW (a % 4294967296) (b % 4294967296)) 32 := rfl
theorem mulw_eq (a b : Nat) : sextA (a % 4294967296 * (b % 4294967296) % 18446744073709551616) 32 = sextA (a % 4294967296 * (b % 4294967296) % 4294967296) 32 := by
  apply sx_congr
  omega
theorem field29 (h l : Int) (w : World) : (Instr.field 29 (.agg #[.int .u64 h, .int .u64 l]) 0).run Try.prog w = .ok (.int .u64 h) w ∧ (Instr.field 29 (.agg #[.int .u64 h, .int .u64 l]) 1).run Try.prog w = .ok (.int .u64 l) w := by
  constructor <;> (simp [Instr.field, run_underlying Try.underlying29]; kernel_rfl)
theorem rdivV_lt (a b : Nat) : divV a b < 18446744073709551616 := by unfold divV; split <;> omega
theorem rremV_lt (a b : Nat) (ha : a < 18446744073709551616) : remV a b < 18446744073709551616 := by unfold remV; split <;> omega
theorem rdivuV_lt (a b : Nat) (ha : a < 18446744073709551616) : divuV a b < 18446744073709551616 := by
  unfold divuV; split
  · decide
  · exact Nat.lt_of_le_of_lt (Nat.div_le_self _ _) ha
theorem rremuV_lt (a b : Nat) (ha : a < 18446744073709551616) : remuV a b < 18446744073709551616 := by
  unfold remuV; split
  · exact ha
  · exact Nat.lt_of_le_of_lt (Nat.mod_le _ _) ha
set_option maxHeartbeats 800000 in
theorem rdo_60 (a b : Nat) (ha : a < 18446744073709551616) (hb : b < 18446744073709551616) (W w : World) (hw : Below W.heap.size W w) : Calls Try.prog 10 #[.int .i64 60, (.int .u64 (a : Int)), (.int .u64 (b : Int))] w fun e w' => e = .returned (.tuple #[.int .u64 ((a * b % 18446744073709551616 : Nat) : Int), .bool true]) ∧ Below W.heap.size W w' := by
  have la : a % 4294967296 < 18446744073709551616 := by omega
  have lb : b % 4294967296 < 18446744073709551616 := by omega
  have lsa := sx32_lt a
  have lsb := sx32_lt b
  have h1 : ∀ w, Below W.heap.size W w → Calls Try.prog 15 #[(.int .u64 (a : Int)), .int .i64 32] w fun e w' => e = .returned (.int .u64 (sextA a 32 : Nat)) ∧ Below W.heap.size W w' := fun w h => rsext_all a 32 ha W w h
  have h2 : ∀ w, Below W.heap.size W w → Calls Try.prog 15 #[(.int .u64 (b : Int)), .int .i64 32] w fun e w' => e = .returned (.int .u64 (sextA b 32 : Nat)) ∧ Below W.heap.size W w' := fun w h => rsext_all b 32 hb W w h
  have hp := fun w => product_any (a) (b) ha hb w
  rw [wcs_get] at hp
  generalize a * b / 18446744073709551616 = p1 at *
  generalize a * b % 18446744073709551616 = p0 at *
  generalize sextA a 32 = sa at *
  generalize sextA b 32 = sb at *
  go_enter Try.func10, Try.ntmps10
  go_wp2_with fail
  refine (h1 _ hw).mono ?_
  rintro e w1 ⟨rfl, hw1⟩
  go_wp2_with fail
  refine (h2 _ hw1).mono ?_
  rintro e w2 ⟨rfl, hw2⟩
  clear hw hw1
  go_wp2_with fail
  refine (hp _).mono ?_
  rintro e w3 ⟨rfl, hq⟩
  have HF : Hid (Below W.heap.size W w3) := hw2.trans (hq.mono hw2.size)
  clear hq
  have hfl := (field29 p1 p0 w3).2
  go_wp2_with fail
  go_ret2
  exact ⟨rfl, HF.out⟩
set_option maxHeartbeats 800000 in
theorem rdo_63 (a b : Nat) (ha : a < 18446744073709551616) (hb : b < 18446744073709551616) (W w : World) (hw : Below W.heap.size W w) : Calls Try.prog 10 #[.int .i64 63, (.int .u64 (a : Int)), (.int .u64 (b : Int))] w fun e w' => e = .returned (.tuple #[.int .u64 ((a * b / 18446744073709551616 : Nat) : Int), .bool true]) ∧ Below W.heap.size W w' := by
  have la : a % 4294967296 < 18446744073709551616 := by omega
  have lb : b % 4294967296 < 18446744073709551616 := by omega
  have lsa := sx32_lt a
  have lsb := sx32_lt b
  have h1 : ∀ w, Below W.heap.size W w → Calls Try.prog 15 #[(.int .u64 (a : Int)), .int .i64 32] w fun e w' => e = .returned (.int .u64 (sextA a 32 : Nat)) ∧ Below W.heap.size W w' := fun w h => rsext_all a 32 ha W w h
  have h2 : ∀ w, Below W.heap.size W w → Calls Try.prog 15 #[(.int .u64 (b : Int)), .int .i64 32] w fun e w' => e = .returned (.int .u64 (sextA b 32 : Nat)) ∧ Below W.heap.size W w' := fun w h => rsext_all b 32 hb W w h
  have hp := fun w => product_any (a) (b) ha hb w
  rw [wcs_get] at hp
  generalize a * b / 18446744073709551616 = p1 at *
  generalize a * b % 18446744073709551616 = p0 at *
  generalize sextA a 32 = sa at *
  generalize sextA b 32 = sb at *
  go_enter Try.func10, Try.ntmps10
  go_wp2_with fail
  refine (h1 _ hw).mono ?_
  rintro e w1 ⟨rfl, hw1⟩
  go_wp2_with fail
  refine (h2 _ hw1).mono ?_
  rintro e w2 ⟨rfl, hw2⟩
  clear hw hw1
  go_wp2_with fail
  refine (hp _).mono ?_
  rintro e w3 ⟨rfl, hq⟩
  have HF : Hid (Below W.heap.size W w3) := hw2.trans (hq.mono hw2.size)
  clear hq
  have hfl := (field29 p1 p0 w3).1
  go_wp2_with fail
  go_ret2
  exact ⟨rfl, HF.out⟩
set_option maxHeartbeats 800000 in
theorem rdo_61 (a b : Nat) (ha : a < 18446744073709551616) (hb : b < 18446744073709551616) (W w : World) (hw : Below W.heap.size W w) : Calls Try.prog 10 #[.int .i64 61, (.int .u64 (a : Int)), (.int .u64 (b : Int))] w fun e w' => e = .returned (.tuple #[.int .u64 ((hsV a b true : Nat) : Int), .bool true]) ∧ Below W.heap.size W w' := by
  have la : a % 4294967296 < 18446744073709551616 := by omega
  have lb : b % 4294967296 < 18446744073709551616 := by omega
  have lsa := sx32_lt a
  have lsb := sx32_lt b
  have h1 : ∀ w, Below W.heap.size W w → Calls Try.prog 15 #[(.int .u64 (a : Int)), .int .i64 32] w fun e w' => e = .returned (.int .u64 (sextA a 32 : Nat)) ∧ Below W.heap.size W w' := fun w h => rsext_all a 32 ha W w h
  have h2 : ∀ w, Below W.heap.size W w → Calls Try.prog 15 #[(.int .u64 (b : Int)), .int .i64 32] w fun e w' => e = .returned (.int .u64 (sextA b 32 : Nat)) ∧ Below W.heap.size W w' := fun w h => rsext_all b 32 hb W w h
  have hp := fun w => signed_any a b true ha hb w
  rw [wcs_get, sgn_hi a b true ha hb] at hp
  generalize hsV a b true = p1 at *
  generalize sgnN a b true % 18446744073709551616 = p0 at *
  generalize sextA a 32 = sa at *
  generalize sextA b 32 = sb at *
  go_enter Try.func10, Try.ntmps10
  go_wp2_with fail
  refine (h1 _ hw).mono ?_
  rintro e w1 ⟨rfl, hw1⟩
  go_wp2_with fail
  refine (h2 _ hw1).mono ?_
  rintro e w2 ⟨rfl, hw2⟩
  clear hw hw1
  go_wp2_with fail
  refine (hp _).mono ?_
  rintro e w3 ⟨rfl, hq⟩
  have HF : Hid (Below W.heap.size W w3) := hw2.trans (hq.mono hw2.size)
  clear hq
  have hfl := (field29 p1 p0 w3).1
  go_wp2_with fail
  go_ret2
  exact ⟨rfl, HF.out⟩
set_option maxHeartbeats 800000 in
theorem rdo_62 (a b : Nat) (ha : a < 18446744073709551616) (hb : b < 18446744073709551616) (W w : World) (hw : Below W.heap.size W w) : Calls Try.prog 10 #[.int .i64 62, (.int .u64 (a : Int)), (.int .u64 (b : Int))] w fun e w' => e = .returned (.tuple #[.int .u64 ((hsV a b false : Nat) : Int), .bool true]) ∧ Below W.heap.size W w' := by
  have la : a % 4294967296 < 18446744073709551616 := by omega
  have lb : b % 4294967296 < 18446744073709551616 := by omega
  have lsa := sx32_lt a
  have lsb := sx32_lt b
  have h1 : ∀ w, Below W.heap.size W w → Calls Try.prog 15 #[(.int .u64 (a : Int)), .int .i64 32] w fun e w' => e = .returned (.int .u64 (sextA a 32 : Nat)) ∧ Below W.heap.size W w' := fun w h => rsext_all a 32 ha W w h
  have h2 : ∀ w, Below W.heap.size W w → Calls Try.prog 15 #[(.int .u64 (b : Int)), .int .i64 32] w fun e w' => e = .returned (.int .u64 (sextA b 32 : Nat)) ∧ Below W.heap.size W w' := fun w h => rsext_all b 32 hb W w h
  have hp := fun w => signed_any a b false ha hb w
  rw [wcs_get, sgn_hi a b false ha hb] at hp
  generalize hsV a b false = p1 at *
  generalize sgnN a b false % 18446744073709551616 = p0 at *
  generalize sextA a 32 = sa at *
  generalize sextA b 32 = sb at *
  go_enter Try.func10, Try.ntmps10
  go_wp2_with fail
  refine (h1 _ hw).mono ?_
  rintro e w1 ⟨rfl, hw1⟩
  go_wp2_with fail
  refine (h2 _ hw1).mono ?_
  rintro e w2 ⟨rfl, hw2⟩
  clear hw hw1
  go_wp2_with fail
  refine (hp _).mono ?_
  rintro e w3 ⟨rfl, hq⟩
  have HF : Hid (Below W.heap.size W w3) := hw2.trans (hq.mono hw2.size)
  clear hq
  have hfl := (field29 p1 p0 w3).1
  go_wp2_with fail
  go_ret2
  exact ⟨rfl, HF.out⟩
set_option maxHeartbeats 800000 in
theorem rdo_68 (a b : Nat) (ha : a < 18446744073709551616) (hb : b < 18446744073709551616) (W w : World) (hw : Below W.heap.size W w) : Calls Try.prog 10 #[.int .i64 68, (.int .u64 (a : Int)), (.int .u64 (b : Int))] w fun e w' => e = .returned (.tuple #[.int .u64 ((sextA (a % 4294967296 * (b % 4294967296) % 4294967296) 32 : Nat) : Int), .bool true]) ∧ Below W.heap.size W w' := by
  have la : a % 4294967296 < 18446744073709551616 := by omega
  have lb : b % 4294967296 < 18446744073709551616 := by omega
  have lsa := sx32_lt a
  have lsb := sx32_lt b
  have h1 : ∀ w, Below W.heap.size W w → Calls Try.prog 15 #[(.int .u64 (a : Int)), .int .i64 32] w fun e w' => e = .returned (.int .u64 (sextA a 32 : Nat)) ∧ Below W.heap.size W w' := fun w h => rsext_all a 32 ha W w h
  have h2 : ∀ w, Below W.heap.size W w → Calls Try.prog 15 #[(.int .u64 (b : Int)), .int .i64 32] w fun e w' => e = .returned (.int .u64 (sextA b 32 : Nat)) ∧ Below W.heap.size W w' := fun w h => rsext_all b 32 hb W w h
  have ea : (a : Int) % 4294967296 = ((a % 4294967296 : Nat) : Int) := by omega
  have eb : (b : Int) % 4294967296 = ((b % 4294967296 : Nat) : Int) := by omega
  have hp := fun w => product_any (a % 4294967296) (b % 4294967296) la lb w
  rw [wcs_get] at hp
  have h3 : ∀ w, Below W.heap.size W w → Calls Try.prog 15 #[.int .u64 ((a % 4294967296 * (b % 4294967296) % 18446744073709551616 : Nat) : Int), .int .i64 32] w fun e w' => e = .returned (.int .u64 (sextA (a % 4294967296 * (b % 4294967296) % 4294967296) 32 : Nat)) ∧ Below W.heap.size W w' := fun w h => by rw [← mulw_eq a b]; exact rsext_all _ 32 (Nat.mod_lt _ (by decide)) W w h
  generalize sextA (a % 4294967296 * (b % 4294967296) % 4294967296) 32 = v at *
  generalize a % 4294967296 * (b % 4294967296) / 18446744073709551616 = p1 at *
  generalize a % 4294967296 * (b % 4294967296) % 18446744073709551616 = p0 at *
  generalize a % 4294967296 = xa at *
  generalize b % 4294967296 = xb at *
  generalize sextA a 32 = sa at *
  generalize sextA b 32 = sb at *
  go_enter Try.func10, Try.ntmps10
  go_wp2_with fail
  refine (h1 _ hw).mono ?_
  rintro e w1 ⟨rfl, hw1⟩
  go_wp2_with fail
  refine (h2 _ hw1).mono ?_
  rintro e w2 ⟨rfl, hw2⟩
  clear hw hw1
  go_wp2_with fail
  refine (hp _).mono ?_
  rintro e w3 ⟨rfl, hq⟩
  have hw3 : Below W.heap.size W w3 := hw2.trans (hq.mono hw2.size)
  have hfl := (field29 p1 p0 w3).2
  clear hq
  go_wp2_with fail
  refine (h3 _ hw3).mono ?_
  rintro e w4 ⟨rfl, hw4⟩
  have HF : Hid (Below W.heap.size W w4) := hw4
  go_wp2_with fail
  go_ret2
  exact ⟨rfl, HF.out⟩
set_option maxHeartbeats 800000 in
theorem rdo_64 (a b : Nat) (ha : a < 18446744073709551616) (hb : b < 18446744073709551616) (W w : World) (hw : Below W.heap.size W w) : Calls Try.prog 10 #[.int .i64 64, (.int .u64 (a : Int)), (.int .u64 (b : Int))] w fun e w' => e = .returned (.tuple #[.int .u64 ((divV a b : Nat) : Int), .bool true]) ∧ Below W.heap.size W w' := by
  have la : a % 4294967296 < 18446744073709551616 := by omega
  have lb : b % 4294967296 < 18446744073709551616 := by omega
  have lsa := sx32_lt a
  have lsb := sx32_lt b
  have h1 : ∀ w, Below W.heap.size W w → Calls Try.prog 15 #[(.int .u64 (a : Int)), .int .i64 32] w fun e w' => e = .returned (.int .u64 (sextA a 32 : Nat)) ∧ Below W.heap.size W w' := fun w h => rsext_all a 32 ha W w h
  have h2 : ∀ w, Below W.heap.size W w → Calls Try.prog 15 #[(.int .u64 (b : Int)), .int .i64 32] w fun e w' => e = .returned (.int .u64 (sextA b 32 : Nat)) ∧ Below W.heap.size W w' := fun w h => rsext_all b 32 hb W w h
  have hp := fun w => squot_any a b ha hb w
  rw [sdiv_eq a b ha hb, srem_eq a b ha hb] at hp
  have hc := choose_any true (divV a b) (remV a b)
  simp only [if_true, if_false, Bool.false_eq_true] at hc
  generalize divV a b = q at *
  generalize remV a b = r at *
  generalize sextA a 32 = sa at *
  generalize sextA b 32 = sb at *
  go_enter Try.func10, Try.ntmps10
  go_wp2_with fail
  refine (h1 _ hw).mono ?_
  rintro e w1 ⟨rfl, hw1⟩
  go_wp2_with fail
  refine (h2 _ hw1).mono ?_
  rintro e w2 ⟨rfl, hw2⟩
  clear hw hw1
  go_wp2_with fail
  refine (hp _).mono ?_
  rintro e w3 ⟨rfl, hq⟩
  have HF : Hid (Below W.heap.size W w3) := hw2.trans (hq.mono hw2.size)
  clear hq
  go_wp2_with fail
  refine (hc _).mono ?_
  rintro e w4 ⟨rfl, hx⟩; rw [hx]; clear hx
  go_wp2_with fail
  go_ret2
  exact ⟨rfl, HF.out⟩
set_option maxHeartbeats 800000 in
theorem rdo_66 (a b : Nat) (ha : a < 18446744073709551616) (hb : b < 18446744073709551616) (W w : World) (hw : Below W.heap.size W w) : Calls Try.prog 10 #[.int .i64 66, (.int .u64 (a : Int)), (.int .u64 (b : Int))] w fun e w' => e = .returned (.tuple #[.int .u64 ((remV a b : Nat) : Int), .bool true]) ∧ Below W.heap.size W w' := by
  have la : a % 4294967296 < 18446744073709551616 := by omega
  have lb : b % 4294967296 < 18446744073709551616 := by omega
  have lsa := sx32_lt a
  have lsb := sx32_lt b
  have h1 : ∀ w, Below W.heap.size W w → Calls Try.prog 15 #[(.int .u64 (a : Int)), .int .i64 32] w fun e w' => e = .returned (.int .u64 (sextA a 32 : Nat)) ∧ Below W.heap.size W w' := fun w h => rsext_all a 32 ha W w h
  have h2 : ∀ w, Below W.heap.size W w → Calls Try.prog 15 #[(.int .u64 (b : Int)), .int .i64 32] w fun e w' => e = .returned (.int .u64 (sextA b 32 : Nat)) ∧ Below W.heap.size W w' := fun w h => rsext_all b 32 hb W w h
  have hp := fun w => squot_any a b ha hb w
  rw [sdiv_eq a b ha hb, srem_eq a b ha hb] at hp
  have hc := choose_any false (divV a b) (remV a b)
  simp only [if_true, if_false, Bool.false_eq_true] at hc
  generalize divV a b = q at *
  generalize remV a b = r at *
  generalize sextA a 32 = sa at *
  generalize sextA b 32 = sb at *
  go_enter Try.func10, Try.ntmps10
  go_wp2_with fail
  refine (h1 _ hw).mono ?_
  rintro e w1 ⟨rfl, hw1⟩
  go_wp2_with fail
  refine (h2 _ hw1).mono ?_
  rintro e w2 ⟨rfl, hw2⟩
  clear hw hw1
  go_wp2_with fail
  refine (hp _).mono ?_
  rintro e w3 ⟨rfl, hq⟩
  have HF : Hid (Below W.heap.size W w3) := hw2.trans (hq.mono hw2.size)
  clear hq
  go_wp2_with fail
  refine (hc _).mono ?_
  rintro e w4 ⟨rfl, hx⟩; rw [hx]; clear hx
  go_wp2_with fail
  go_ret2
  exact ⟨rfl, HF.out⟩
set_option maxHeartbeats 800000 in
theorem rdo_65 (a b : Nat) (ha : a < 18446744073709551616) (hb : b < 18446744073709551616) (W w : World) (hw : Below W.heap.size W w) : Calls Try.prog 10 #[.int .i64 65, (.int .u64 (a : Int)), (.int .u64 (b : Int))] w fun e w' => e = .returned (.tuple #[.int .u64 ((divuV a b : Nat) : Int), .bool true]) ∧ Below W.heap.size W w' := by
  have la : a % 4294967296 < 18446744073709551616 := by omega
  have lb : b % 4294967296 < 18446744073709551616 := by omega
  have lsa := sx32_lt a
  have lsb := sx32_lt b
  have h1 : ∀ w, Below W.heap.size W w → Calls Try.prog 15 #[(.int .u64 (a : Int)), .int .i64 32] w fun e w' => e = .returned (.int .u64 (sextA a 32 : Nat)) ∧ Below W.heap.size W w' := fun w h => rsext_all a 32 ha W w h
  have h2 : ∀ w, Below W.heap.size W w → Calls Try.prog 15 #[(.int .u64 (b : Int)), .int .i64 32] w fun e w' => e = .returned (.int .u64 (sextA b 32 : Nat)) ∧ Below W.heap.size W w' := fun w h => rsext_all b 32 hb W w h
  have hp := fun w => unsigned_any a b ha hb w
  have hc := choose_any true (divuV a b) (remuV a b)
  simp only [if_true, if_false, Bool.false_eq_true] at hc
  generalize divuV a b = q at *
  generalize remuV a b = r at *
  generalize sextA a 32 = sa at *
  generalize sextA b 32 = sb at *
  go_enter Try.func10, Try.ntmps10
  go_wp2_with fail
  refine (h1 _ hw).mono ?_
  rintro e w1 ⟨rfl, hw1⟩
  go_wp2_with fail
  refine (h2 _ hw1).mono ?_
  rintro e w2 ⟨rfl, hw2⟩
  clear hw hw1
  go_wp2_with fail
  refine (hp _).mono ?_
  rintro e w3 ⟨rfl, hq⟩
  have HF : Hid (Below W.heap.size W w3) := hw2.trans (hq.mono hw2.size)
  clear hq
  go_wp2_with fail
  refine (hc _).mono ?_
  rintro e w4 ⟨rfl, hx⟩; rw [hx]; clear hx
  go_wp2_with fail
  go_ret2
  exact ⟨rfl, HF.out⟩
set_option maxHeartbeats 800000 in
theorem rdo_67 (a b : Nat) (ha : a < 18446744073709551616) (hb : b < 18446744073709551616) (W w : World) (hw : Below W.heap.size W w) : Calls Try.prog 10 #[.int .i64 67, (.int .u64 (a : Int)), (.int .u64 (b : Int))] w fun e w' => e = .returned (.tuple #[.int .u64 ((remuV a b : Nat) : Int), .bool true]) ∧ Below W.heap.size W w' := by
  have la : a % 4294967296 < 18446744073709551616 := by omega
  have lb : b % 4294967296 < 18446744073709551616 := by omega
  have lsa := sx32_lt a
  have lsb := sx32_lt b
  have h1 : ∀ w, Below W.heap.size W w → Calls Try.prog 15 #[(.int .u64 (a : Int)), .int .i64 32] w fun e w' => e = .returned (.int .u64 (sextA a 32 : Nat)) ∧ Below W.heap.size W w' := fun w h => rsext_all a 32 ha W w h
  have h2 : ∀ w, Below W.heap.size W w → Calls Try.prog 15 #[(.int .u64 (b : Int)), .int .i64 32] w fun e w' => e = .returned (.int .u64 (sextA b 32 : Nat)) ∧ Below W.heap.size W w' := fun w h => rsext_all b 32 hb W w h
  have hp := fun w => unsigned_any a b ha hb w
  have hc := choose_any false (divuV a b) (remuV a b)
  simp only [if_true, if_false, Bool.false_eq_true] at hc
  generalize divuV a b = q at *
  generalize remuV a b = r at *
  generalize sextA a 32 = sa at *
  generalize sextA b 32 = sb at *
  go_enter Try.func10, Try.ntmps10
  go_wp2_with fail
  refine (h1 _ hw).mono ?_
  rintro e w1 ⟨rfl, hw1⟩
  go_wp2_with fail
  refine (h2 _ hw1).mono ?_
  rintro e w2 ⟨rfl, hw2⟩
  clear hw hw1
  go_wp2_with fail
  refine (hp _).mono ?_
  rintro e w3 ⟨rfl, hq⟩
  have HF : Hid (Below W.heap.size W w3) := hw2.trans (hq.mono hw2.size)
  clear hq
  go_wp2_with fail
  refine (hc _).mono ?_
  rintro e w4 ⟨rfl, hx⟩; rw [hx]; clear hx
  go_wp2_with fail
  go_ret2
  exact ⟨rfl, HF.out⟩
set_option maxHeartbeats 800000 in
theorem rdo_69 (a b : Nat) (ha : a < 18446744073709551616) (hb : b < 18446744073709551616) (W w : World) (hw : Below W.heap.size W w) : Calls Try.prog 10 #[.int .i64 69, (.int .u64 (a : Int)), (.int .u64 (b : Int))] w fun e w' => e = .returned (.tuple #[.int .u64 ((sextA (divW (a % 4294967296) (b % 4294967296)) 32 : Nat) : Int), .bool true]) ∧ Below W.heap.size W w' := by
  have la : a % 4294967296 < 18446744073709551616 := by omega
  have lb : b % 4294967296 < 18446744073709551616 := by omega
  have lsa := sx32_lt a
  have lsb := sx32_lt b
  have h1 : ∀ w, Below W.heap.size W w → Calls Try.prog 15 #[(.int .u64 (a : Int)), .int .i64 32] w fun e w' => e = .returned (.int .u64 (sextA a 32 : Nat)) ∧ Below W.heap.size W w' := fun w h => rsext_all a 32 ha W w h
  have h2 : ∀ w, Below W.heap.size W w → Calls Try.prog 15 #[(.int .u64 (b : Int)), .int .i64 32] w fun e w' => e = .returned (.int .u64 (sextA b 32 : Nat)) ∧ Below W.heap.size W w' := fun w h => rsext_all b 32 hb W w h
  have hp := fun w => squot_any (sextA a 32) (sextA b 32) lsa lsb w
  rw [sdiv_eq _ _ lsa lsb, srem_eq _ _ lsa lsb] at hp
  have hc := choose_any true (divV (sextA a 32) (sextA b 32)) (remV (sextA a 32) (sextA b 32))
  simp only [if_true, if_false, Bool.false_eq_true] at hc
  have h3 : ∀ w, Below W.heap.size W w → Calls Try.prog 15 #[.int .u64 ((divV (sextA a 32) (sextA b 32) : Nat) : Int), .int .i64 32] w fun e w' => e = .returned (.int .u64 (sextA (divW (a % 4294967296) (b % 4294967296)) 32 : Nat)) ∧ Below W.heap.size W w' := fun w h => by rw [← divw_eq a b]; exact rsext_all _ 32 (rdivV_lt _ _) W w h
  generalize sextA (divW (a % 4294967296) (b % 4294967296)) 32 = v at *
  generalize divV (sextA a 32) (sextA b 32) = q at *
  generalize remV (sextA a 32) (sextA b 32) = r at *
  generalize sextA a 32 = sa at *
  generalize sextA b 32 = sb at *
  go_enter Try.func10, Try.ntmps10
  go_wp2_with fail
  refine (h1 _ hw).mono ?_
  rintro e w1 ⟨rfl, hw1⟩
  go_wp2_with fail
  refine (h2 _ hw1).mono ?_
  rintro e w2 ⟨rfl, hw2⟩
  clear hw hw1
  go_wp2_with fail
  refine (hp _).mono ?_
  rintro e w3 ⟨rfl, hq⟩
  have hw3 : Below W.heap.size W w3 := hw2.trans (hq.mono hw2.size)
  clear hq
  go_wp2_with fail
  refine (hc _).mono ?_
  rintro e w4 ⟨rfl, hx⟩; rw [hx]; clear hx
  go_wp2_with fail
  refine (h3 _ hw3).mono ?_
  rintro e w5 ⟨rfl, hw5⟩
  have HF : Hid (Below W.heap.size W w5) := hw5
  go_wp2_with fail
  go_ret2
  exact ⟨rfl, HF.out⟩
set_option maxHeartbeats 800000 in
theorem rdo_71 (a b : Nat) (ha : a < 18446744073709551616) (hb : b < 18446744073709551616) (W w : World) (hw : Below W.heap.size W w) : Calls Try.prog 10 #[.int .i64 71, (.int .u64 (a : Int)), (.int .u64 (b : Int))] w fun e w' => e = .returned (.tuple #[.int .u64 ((sextA (remW (a % 4294967296) (b % 4294967296)) 32 : Nat) : Int), .bool true]) ∧ Below W.heap.size W w' := by
  have la : a % 4294967296 < 18446744073709551616 := by omega
  have lb : b % 4294967296 < 18446744073709551616 := by omega
  have lsa := sx32_lt a
  have lsb := sx32_lt b
  have h1 : ∀ w, Below W.heap.size W w → Calls Try.prog 15 #[(.int .u64 (a : Int)), .int .i64 32] w fun e w' => e = .returned (.int .u64 (sextA a 32 : Nat)) ∧ Below W.heap.size W w' := fun w h => rsext_all a 32 ha W w h
  have h2 : ∀ w, Below W.heap.size W w → Calls Try.prog 15 #[(.int .u64 (b : Int)), .int .i64 32] w fun e w' => e = .returned (.int .u64 (sextA b 32 : Nat)) ∧ Below W.heap.size W w' := fun w h => rsext_all b 32 hb W w h
  have hp := fun w => squot_any (sextA a 32) (sextA b 32) lsa lsb w
  rw [sdiv_eq _ _ lsa lsb, srem_eq _ _ lsa lsb] at hp
  have hc := choose_any false (divV (sextA a 32) (sextA b 32)) (remV (sextA a 32) (sextA b 32))
  simp only [if_true, if_false, Bool.false_eq_true] at hc
  have h3 : ∀ w, Below W.heap.size W w → Calls Try.prog 15 #[.int .u64 ((remV (sextA a 32) (sextA b 32) : Nat) : Int), .int .i64 32] w fun e w' => e = .returned (.int .u64 (sextA (remW (a % 4294967296) (b % 4294967296)) 32 : Nat)) ∧ Below W.heap.size W w' := fun w h => by rw [← remw_eq a b]; exact rsext_all _ 32 (rremV_lt _ _ lsa) W w h
  generalize sextA (remW (a % 4294967296) (b % 4294967296)) 32 = v at *
  generalize divV (sextA a 32) (sextA b 32) = q at *
  generalize remV (sextA a 32) (sextA b 32) = r at *
  generalize sextA a 32 = sa at *
  generalize sextA b 32 = sb at *
  go_enter Try.func10, Try.ntmps10
  go_wp2_with fail
  refine (h1 _ hw).mono ?_
  rintro e w1 ⟨rfl, hw1⟩
  go_wp2_with fail
  refine (h2 _ hw1).mono ?_
  rintro e w2 ⟨rfl, hw2⟩
  clear hw hw1
  go_wp2_with fail
  refine (hp _).mono ?_
  rintro e w3 ⟨rfl, hq⟩
  have hw3 : Below W.heap.size W w3 := hw2.trans (hq.mono hw2.size)
  clear hq
  go_wp2_with fail
  refine (hc _).mono ?_
  rintro e w4 ⟨rfl, hx⟩; rw [hx]; clear hx
  go_wp2_with fail
  refine (h3 _ hw3).mono ?_
  rintro e w5 ⟨rfl, hw5⟩
  have HF : Hid (Below W.heap.size W w5) := hw5
  go_wp2_with fail
  go_ret2
  exact ⟨rfl, HF.out⟩
set_option maxHeartbeats 800000 in
theorem rdo_70 (a b : Nat) (ha : a < 18446744073709551616) (hb : b < 18446744073709551616) (W w : World) (hw : Below W.heap.size W w) : Calls Try.prog 10 #[.int .i64 70, (.int .u64 (a : Int)), (.int .u64 (b : Int))] w fun e w' => e = .returned (.tuple #[.int .u64 ((sextA (divuW (a % 4294967296) (b % 4294967296)) 32 : Nat) : Int), .bool true]) ∧ Below W.heap.size W w' := by
  have la : a % 4294967296 < 18446744073709551616 := by omega
  have lb : b % 4294967296 < 18446744073709551616 := by omega
  have lsa := sx32_lt a
  have lsb := sx32_lt b
  have h1 : ∀ w, Below W.heap.size W w → Calls Try.prog 15 #[(.int .u64 (a : Int)), .int .i64 32] w fun e w' => e = .returned (.int .u64 (sextA a 32 : Nat)) ∧ Below W.heap.size W w' := fun w h => rsext_all a 32 ha W w h
  have h2 : ∀ w, Below W.heap.size W w → Calls Try.prog 15 #[(.int .u64 (b : Int)), .int .i64 32] w fun e w' => e = .returned (.int .u64 (sextA b 32 : Nat)) ∧ Below W.heap.size W w' := fun w h => rsext_all b 32 hb W w h
  have ea : (a : Int) % 4294967296 = ((a % 4294967296 : Nat) : Int) := by omega
  have eb : (b : Int) % 4294967296 = ((b % 4294967296 : Nat) : Int) := by omega
  have hp := fun w => unsigned_any (a % 4294967296) (b % 4294967296) la lb w
  have hc := choose_any true (divuV (a % 4294967296) (b % 4294967296)) (remuV (a % 4294967296) (b % 4294967296))
  simp only [if_true, if_false, Bool.false_eq_true] at hc
  have h3 : ∀ w, Below W.heap.size W w → Calls Try.prog 15 #[.int .u64 ((divuV (a % 4294967296) (b % 4294967296) : Nat) : Int), .int .i64 32] w fun e w' => e = .returned (.int .u64 (sextA (divuW (a % 4294967296) (b % 4294967296)) 32 : Nat)) ∧ Below W.heap.size W w' := fun w h => by rw [← divuw_eq a b]; exact rsext_all _ 32 (rdivuV_lt _ _ la) W w h
  generalize sextA (divuW (a % 4294967296) (b % 4294967296)) 32 = v at *
  generalize divuV (a % 4294967296) (b % 4294967296) = q at *
  generalize remuV (a % 4294967296) (b % 4294967296) = r at *
  generalize a % 4294967296 = xa at *
  generalize b % 4294967296 = xb at *
  generalize sextA a 32 = sa at *
  generalize sextA b 32 = sb at *
  go_enter Try.func10, Try.ntmps10
  go_wp2_with fail
  refine (h1 _ hw).mono ?_
  rintro e w1 ⟨rfl, hw1⟩
  go_wp2_with fail
  refine (h2 _ hw1).mono ?_
  rintro e w2 ⟨rfl, hw2⟩
  clear hw hw1
  go_wp2_with fail
  refine (hp _).mono ?_
  rintro e w3 ⟨rfl, hq⟩
  have hw3 : Below W.heap.size W w3 := hw2.trans (hq.mono hw2.size)
  clear hq
  go_wp2_with fail
  refine (hc _).mono ?_
  rintro e w4 ⟨rfl, hx⟩; rw [hx]; clear hx
  go_wp2_with fail
  refine (h3 _ hw3).mono ?_
  rintro e w5 ⟨rfl, hw5⟩
  have HF : Hid (Below W.heap.size W w5) := hw5
  go_wp2_with fail
  go_ret2
  exact ⟨rfl, HF.out⟩
set_option maxHeartbeats 800000 in
theorem rdo_72 (a b : Nat) (ha : a < 18446744073709551616) (hb : b < 18446744073709551616) (W w : World) (hw : Below W.heap.size W w) : Calls Try.prog 10 #[.int .i64 72, (.int .u64 (a : Int)), (.int .u64 (b : Int))] w fun e w' => e = .returned (.tuple #[.int .u64 ((sextA (remuW (a % 4294967296) (b % 4294967296)) 32 : Nat) : Int), .bool true]) ∧ Below W.heap.size W w' := by
  have la : a % 4294967296 < 18446744073709551616 := by omega
  have lb : b % 4294967296 < 18446744073709551616 := by omega
  have lsa := sx32_lt a
  have lsb := sx32_lt b
  have h1 : ∀ w, Below W.heap.size W w → Calls Try.prog 15 #[(.int .u64 (a : Int)), .int .i64 32] w fun e w' => e = .returned (.int .u64 (sextA a 32 : Nat)) ∧ Below W.heap.size W w' := fun w h => rsext_all a 32 ha W w h
  have h2 : ∀ w, Below W.heap.size W w → Calls Try.prog 15 #[(.int .u64 (b : Int)), .int .i64 32] w fun e w' => e = .returned (.int .u64 (sextA b 32 : Nat)) ∧ Below W.heap.size W w' := fun w h => rsext_all b 32 hb W w h
  have ea : (a : Int) % 4294967296 = ((a % 4294967296 : Nat) : Int) := by omega
  have eb : (b : Int) % 4294967296 = ((b % 4294967296 : Nat) : Int) := by omega
  have hp := fun w => unsigned_any (a % 4294967296) (b % 4294967296) la lb w
  have hc := choose_any false (divuV (a % 4294967296) (b % 4294967296)) (remuV (a % 4294967296) (b % 4294967296))
  simp only [if_true, if_false, Bool.false_eq_true] at hc
  have h3 : ∀ w, Below W.heap.size W w → Calls Try.prog 15 #[.int .u64 ((remuV (a % 4294967296) (b % 4294967296) : Nat) : Int), .int .i64 32] w fun e w' => e = .returned (.int .u64 (sextA (remuW (a % 4294967296) (b % 4294967296)) 32 : Nat)) ∧ Below W.heap.size W w' := fun w h => by rw [← remuw_eq a b]; exact rsext_all _ 32 (rremuV_lt _ _ la) W w h
  generalize sextA (remuW (a % 4294967296) (b % 4294967296)) 32 = v at *
  generalize divuV (a % 4294967296) (b % 4294967296) = q at *
  generalize remuV (a % 4294967296) (b % 4294967296) = r at *
  generalize a % 4294967296 = xa at *
  generalize b % 4294967296 = xb at *
  generalize sextA a 32 = sa at *
  generalize sextA b 32 = sb at *
  go_enter Try.func10, Try.ntmps10
  go_wp2_with fail
  refine (h1 _ hw).mono ?_
  rintro e w1 ⟨rfl, hw1⟩
  go_wp2_with fail
  refine (h2 _ hw1).mono ?_
  rintro e w2 ⟨rfl, hw2⟩
  clear hw hw1
  go_wp2_with fail
  refine (hp _).mono ?_
  rintro e w3 ⟨rfl, hq⟩
  have hw3 : Below W.heap.size W w3 := hw2.trans (hq.mono hw2.size)
  clear hq
  go_wp2_with fail
  refine (hc _).mono ?_
  rintro e w4 ⟨rfl, hx⟩; rw [hx]; clear hx
  go_wp2_with fail
  refine (h3 _ hw3).mono ?_
  rintro e w5 ⟨rfl, hw5⟩
  have HF : Hid (Below W.heap.size W w5) := hw5
  go_wp2_with fail
  go_ret2
  exact ⟨rfl, HF.out⟩
set_option maxHeartbeats 800000 in
theorem rdo_no (op : Int) (h60 : ¬ op = 60) (h61 : ¬ op = 61) (h62 : ¬ op = 62) (h63 : ¬ op = 63) (h64 : ¬ op = 64) (h65 : ¬ op = 65) (h66 : ¬ op = 66) (h67 : ¬ op = 67) (h68 : ¬ op = 68) (h69 : ¬ op = 69) (h70 : ¬ op = 70) (h71 : ¬ op = 71) (h72 : ¬ op = 72) (a b : Nat) (ha : a < 18446744073709551616) (hb : b < 18446744073709551616) (W w : World) (hw : Below W.heap.size W w) : Calls Try.prog 10 #[.int .i64 op, (.int .u64 (a : Int)), (.int .u64 (b : Int))] w fun e w' => e = .returned (.tuple #[.int .u64 ((0 : Nat) : Int), .bool false]) ∧ Below W.heap.size W w' := by
  have la : a % 4294967296 < 18446744073709551616 := by omega
  have lb : b % 4294967296 < 18446744073709551616 := by omega
  have lsa := sx32_lt a
  have lsb := sx32_lt b
  have h1 : ∀ w, Below W.heap.size W w → Calls Try.prog 15 #[(.int .u64 (a : Int)), .int .i64 32] w fun e w' => e = .returned (.int .u64 (sextA a 32 : Nat)) ∧ Below W.heap.size W w' := fun w h => rsext_all a 32 ha W w h
  have h2 : ∀ w, Below W.heap.size W w → Calls Try.prog 15 #[(.int .u64 (b : Int)), .int .i64 32] w fun e w' => e = .returned (.int .u64 (sextA b 32 : Nat)) ∧ Below W.heap.size W w' := fun w h => rsext_all b 32 hb W w h
  generalize sextA a 32 = sa at *
  generalize sextA b 32 = sb at *
  go_enter Try.func10, Try.ntmps10
  go_wp2_with fail
  refine (h1 _ hw).mono ?_
  rintro e w1 ⟨rfl, hw1⟩
  go_wp2_with fail
  refine (h2 _ hw1).mono ?_
  rintro e w2 ⟨rfl, hw2⟩
  clear hw hw1
  go_wp2_with fail
  go_ret2
  exact ⟨rfl, hw2⟩
theorem rdo_any (op : Int) (a b : Nat) (ha : a < 18446744073709551616) (hb : b < 18446744073709551616) (W w : World) (hw : Below W.heap.size W w) : Calls Try.prog 10 #[.int .i64 op, (.int .u64 (a : Int)), (.int .u64 (b : Int))] w fun e w' => e = .returned (.tuple #[.int .u64 ((mulV op a b : Nat) : Int), .bool (mulOk op)]) ∧ Below W.heap.size W w' := by
  by_cases h60 : op = 60
  · subst h60; rw [mulV_60, mulOk_60]; exact rdo_60 a b ha hb W w hw
  by_cases h61 : op = 61
  · subst h61; rw [mulV_61, mulOk_61]; exact rdo_61 a b ha hb W w hw
  by_cases h62 : op = 62
  · subst h62; rw [mulV_62, mulOk_62]; exact rdo_62 a b ha hb W w hw
  by_cases h63 : op = 63
  · subst h63; rw [mulV_63, mulOk_63]; exact rdo_63 a b ha hb W w hw
  by_cases h64 : op = 64
  · subst h64; rw [mulV_64, mulOk_64]; exact rdo_64 a b ha hb W w hw
  by_cases h65 : op = 65
  · subst h65; rw [mulV_65, mulOk_65]; exact rdo_65 a b ha hb W w hw
  by_cases h66 : op = 66
  · subst h66; rw [mulV_66, mulOk_66]; exact rdo_66 a b ha hb W w hw
  by_cases h67 : op = 67
  · subst h67; rw [mulV_67, mulOk_67]; exact rdo_67 a b ha hb W w hw
  by_cases h68 : op = 68
  · subst h68; rw [mulV_68, mulOk_68]; exact rdo_68 a b ha hb W w hw
  by_cases h69 : op = 69
  · subst h69; rw [mulV_69, mulOk_69]; exact rdo_69 a b ha hb W w hw
  by_cases h70 : op = 70
  · subst h70; rw [mulV_70, mulOk_70]; exact rdo_70 a b ha hb W w hw
  by_cases h71 : op = 71
  · subst h71; rw [mulV_71, mulOk_71]; exact rdo_71 a b ha hb W w hw
  by_cases h72 : op = 72
  · subst h72; rw [mulV_72, mulOk_72]; exact rdo_72 a b ha hb W w hw
  rw [mulV_no op h60 h61 h62 h63 h64 h65 h66 h67 h68 h69 h70 h71 h72, mulOk_no op h60 h61 h62 h63 h64 h65 h66 h67 h68 h69 h70 h71 h72]
  exact rdo_no op h60 h61 h62 h63 h64 h65 h66 h67 h68 h69 h70 h71 h72 a b ha hb W w hw
theorem does_core (op : Int) (a b : Nat) (ha : a < 18446744073709551616) (hb : b < 18446744073709551616) (W w : World) (hw : Below W.heap.size W w) : Calls Try.prog 3 #[.int .i64 op, (.int .u64 (a : Int)), (.int .u64 (b : Int))] w fun e w' => e = .returned (.bool true) ∧ Below W.heap.size W w' := by
  have h1 := fun w => do_any op a b ha hb w
  have h2 := fun w h => rdo_any op a b ha hb W w h
  generalize mulV op a b = v at *
  generalize mulOk op = ok at *
  go_enter Try.func3, Try.ntmps3
  go_wp2_with (go_at_call 8; refine (awake_any _).mono ?_; rintro e w1 ⟨rfl, rfl⟩)
  refine (h1 _).mono ?_
  rintro e w2 ⟨rfl, hx⟩; rw [hx]; clear hx
  go_wp2_with fail
  refine (h2 _ hw).mono ?_
  rintro e w3 ⟨rfl, hw3⟩
  go_wp2_with fail
  go_ret
  exact ⟨ret_bool (by first | rfl | simp), hw3⟩
theorem does_walk (W : World) (a0 : Int) (w0 : (Lit.int .i64 a0).wf = true) (a1 : Int) (w1 : (Lit.int .u64 a1).wf = true) (a2 : Int) (w2 : (Lit.int .u64 a2).wf = true) :
    Calls Try.prog 3 #[.int .i64 a0, .int .u64 a1, .int .u64 a2] W fun e w' => e = .returned (.bool true) ∧ Below W.heap.size W w' := by
  have b1 := bounds_u64 w1
  have b2 := bounds_u64 w2
  obtain ⟨x, rfl⟩ : ∃ x : Nat, a1 = x := ⟨a1.toNat, by omega⟩
  obtain ⟨y, rfl⟩ : ∃ y : Nat, a2 = y := ⟨a2.toNat, by omega⟩
  exact does_core a0 x y (by omega) (by omega) W W (Below.refl _ _)
theorem highs_core (a b : Nat) (both : Bool) (ha : a < 18446744073709551616) (hb : b < 18446744073709551616) (W w : World) (hw : Below W.heap.size W w) : Calls Try.prog 4 #[(.int .u64 (a : Int)), (.int .u64 (b : Int)), .bool both] w fun e w' => e = .returned (.bool true) ∧ Below W.heap.size W w' := by
  have h1 := fun w => high_any a b ha hb w
  have h2 := fun w => product_any a b ha hb w
  have h3 := fun w => hsigned_any a b both ha hb w
  have h4 := fun w => signed_any a b both ha hb w
  rw [wcs_get] at h2 h4
  rw [sgn_hi a b both ha hb] at h4
  generalize hsV a b both = v at *
  generalize sgnN a b both % 18446744073709551616 = u at *
  generalize a * b / 18446744073709551616 = p1 at *
  generalize a * b % 18446744073709551616 = p0 at *
  go_enter Try.func4, Try.ntmps4
  go_wp2_with (go_at_call 8; refine (awake_any _).mono ?_; rintro e w1 ⟨rfl, rfl⟩)
  refine (h1 _).mono ?_
  rintro e w2 ⟨rfl, hx⟩; rw [hx]; clear hx
  go_wp2_with fail
  refine (h2 _).mono ?_
  rintro e w3 ⟨rfl, hq⟩
  have hw3 : Below W.heap.size W w3 := hw.trans (hq.mono hw.size)
  have hfl := (field29 p1 p0 w3).1
  clear hq hw
  go_wp2_with fail
  refine (h3 _).mono ?_
  rintro e w2 ⟨rfl, hx⟩; rw [hx]; clear hx
  go_wp2_with fail
  refine (h4 _).mono ?_
  rintro e w4 ⟨rfl, hq⟩
  have hw4 : Below W.heap.size W w4 := hw3.trans (hq.mono hw3.size)
  have hfl2 := (field29 v u w4).1
  clear hq hw3
  go_wp2_with fail
  go_ret
  exact ⟨ret_bool (by first | rfl | simp), hw4⟩
theorem highs_walk (W : World) (a0 : Int) (w0 : (Lit.int .u64 a0).wf = true) (a1 : Int) (w1 : (Lit.int .u64 a1).wf = true) (a2 : Bool) :
    Calls Try.prog 4 #[.int .u64 a0, .int .u64 a1, .bool a2] W fun e w' => e = .returned (.bool true) ∧ Below W.heap.size W w' := by
  have b0 := bounds_u64 w0
  have b1 := bounds_u64 w1
  obtain ⟨x, rfl⟩ : ∃ x : Nat, a0 = x := ⟨a0.toNat, by omega⟩
  obtain ⟨y, rfl⟩ : ∃ y : Nat, a1 = y := ⟨a1.toNat, by omega⟩
  exact highs_core x y a2 (by omega) (by omega) W W (Below.refl _ _)
end Go.Proofs.Ytdejnlblcokldaa
