/- The document's product of numbers with their signs is the product of the numbers. -/
import Derived.Test.YtdejnlblcokldaaProduct
namespace Go.Proofs.Ytdejnlblcokldaa
open Go.RowKit
set_option linter.unusedVariables false
set_option linter.unusedSimpArgs false
theorem below_any (a : Nat) (ha : a < 18446744073709551616) (w : World) : Calls Try.prog 26 #[.int .u64 (a : Int)] w fun e w' => e = .returned (.bool (decide (9223372036854775808 ≤ a))) ∧ w' = w := by
  go_enter Try.func26, Try.ntmps26
  go_wp2
  go_ret
  exact ⟨ret_bool (by rw [decide_eq_decide]; omega), rfl⟩
/-- a number without its sign -/
def sizeN (a : Nat) : Nat := if a < 9223372036854775808 then a else 18446744073709551616 - a
theorem sizeN_lt (a : Nat) (ha : a < 18446744073709551616) : sizeN a < 18446744073709551616 := by unfold sizeN; split <;> omega
theorem sizeN_le (a : Nat) (ha : a < 18446744073709551616) : sizeN a ≤ 9223372036854775808 := by unfold sizeN; split <;> omega
theorem size_any (a : Nat) (ha : a < 18446744073709551616) (w : World) : Calls Try.prog 25 #[.int .u64 (a : Int)] w fun e w' => e = .returned (.int .u64 ((sizeN a : Nat) : Int)) ∧ w' = w := by
  have hbl := below_any a ha
  have hn := not_u64 a ha
  have HS : IntKind.u64.signed = false := rfl
  by_cases h : a < 9223372036854775808
  · have e : sizeN a = a := by unfold sizeN; rw [if_pos h]
    rw [e]
    have hd : decide (9223372036854775808 ≤ a) = false := by simp; omega
    rw [hd] at hbl
    go_enter Try.func25, Try.ntmps25
    go_wp2_with (go_at_call 26; refine (hbl _).mono ?_; rintro e w' ⟨rfl, rfl⟩)
    go_ret
    exact ⟨rfl, rfl⟩
  · have e : ((sizeN a : Nat) : Int) = IntKind.u64.wrap (((18446744073709551615 - a : Nat) : Int) + 1) := by unfold sizeN; rw [if_neg h, wrap_u64]; omega
    have hd : decide (9223372036854775808 ≤ a) = true := by simp; omega
    rw [hd] at hbl
    rw [e]
    generalize ((18446744073709551615 - a : Nat) : Int) = n at *
    clear e
    go_enter Try.func25, Try.ntmps25
    go_wp2_with (go_at_call 26; refine (hbl _).mono ?_; rintro e w' ⟨rfl, rfl⟩)
    go_ret
    exact ⟨rfl, rfl⟩
def turnB (a b : Nat) (both : Bool) : Bool := if both then decide (9223372036854775808 ≤ a) != decide (9223372036854775808 ≤ b) else decide (9223372036854775808 ≤ a)
def sndN (b : Nat) (both : Bool) : Nat := if both then sizeN b else b
/-- the product with signs, in 128 bits -/
def sgnN (a b : Nat) (both : Bool) : Nat := if turnB a b both then negW (sizeN a * sndN b both) else sizeN a * sndN b both
set_option maxHeartbeats 600000 in
theorem signed_false_false (a b : Nat) (ha : a < 18446744073709551616) (hb : b < 18446744073709551616) (ht : turnB a b false = false) (w : World) : Calls Try.prog 14 #[(.int .u64 (a : Int)), (.int .u64 (b : Int)), .bool false] w fun e w' => e = .returned (.agg (wcs (sizeN a * b))) ∧ Below w.heap.size w w' := by
  have hxs := sizeN_lt a ha
  have hys := sizeN_lt b hb
  have hp : sizeN a * b < 340282366920938463463374607431768211456 := Nat.mul_lt_mul'' hxs hb
  have hP := fun w => product_any (sizeN a) (b) hxs hb w
  have hN := fun w => neg_any (sizeN a * b) hp w
  have s1 := size_any a ha
  have s2 := size_any b hb
  have b1 := below_any a ha
  have b2 := below_any b hb
  unfold turnB at ht
  simp only [if_true, if_false, Bool.false_eq_true] at ht
  generalize decide (9223372036854775808 ≤ a) = ba at *
  generalize decide (9223372036854775808 ≤ b) = bb at *
  obtain ⟨r1, hr1⟩ : ∃ p, sizeN a * b / 18446744073709551616 = p := ⟨_, rfl⟩
  obtain ⟨r0, hr0⟩ : ∃ p, sizeN a * b % 18446744073709551616 = p := ⟨_, rfl⟩
  have HV : Hid (wcs (sizeN a * b) = #[(.int .u64 (r1 : Int)), (.int .u64 (r0 : Int))]) := show wcs (sizeN a * b) = _ by rw [wcs_get, hr1, hr0]
  rw [HV.out] at hP
  clear hN
  clear hr1 hr0 hp
  generalize sizeN a = sa at *
  generalize sizeN b = sb at *
  subst ht
  go_enter Try.func14, Try.ntmps14
  go_wp2_with fail
  refine (s1 _).mono ?_
  rintro e w2 ⟨rfl, hx⟩; rw [hx]; clear hx
  go_wp2_with fail
  refine (b1 _).mono ?_
  rintro e w2 ⟨rfl, hx⟩; rw [hx]; clear hx
  go_wp2_with fail
  refine (hP _).mono ?_
  rintro e w1 ⟨rfl, hb1⟩
  have B0 : Hid (Box2 w1 w.heap.size #[.int .u64 0, .int .u64 0]) := Box2.step (Box2.new w _) hb1
  have HB : Hid (Below w.heap.size w w1) := ((Below.refl _ _).alloc (Nat.le_refl _) _).trans (hb1.mono (by simp))
  clear hb1
  have HB2 : Hid (Below w.heap.size w (w1.alloc (.cells #[(.int .u64 (r1 : Int)), (.int .u64 (r0 : Int))] 29))) := HB.out.alloc HB.out.size _
  have B2 : Hid (Box2 (w1.alloc (.cells #[(.int .u64 (r1 : Int)), (.int .u64 (r0 : Int))] 29)) w.heap.size #[.int .u64 0, .int .u64 0]) := B0.out.alloc _
  obtain ⟨q0, q1, q2, q3⟩ := B0.out.facts
  obtain ⟨y0, y1, y2, y3⟩ := B2.out.facts
  go_wp2_with fail
  have B3 : Hid _ := B2.out.put (.int .u64 (r1 : Int)) (.int .u64 (r0 : Int))
  clear y0 y1 y2 y3
  obtain ⟨z0, z1, z2, z3⟩ := Box2.facts B3.out
  exact bodyPost_ret (v := .agg #[(.int .u64 (r1 : Int)), (.int .u64 (r0 : Int))]) (by simp [results, Try.results14, go_sem, z0, z1]) rfl ⟨by rw [HV.out], two_set HB2.out (Nat.le_refl _) (.int .u64 (r1 : Int)) (.int .u64 (r0 : Int))⟩
set_option maxHeartbeats 600000 in
theorem signed_false_true (a b : Nat) (ha : a < 18446744073709551616) (hb : b < 18446744073709551616) (ht : turnB a b false = true) (w : World) : Calls Try.prog 14 #[(.int .u64 (a : Int)), (.int .u64 (b : Int)), .bool false] w fun e w' => e = .returned (.agg (wcs (negW (sizeN a * b)))) ∧ Below w.heap.size w w' := by
  have hxs := sizeN_lt a ha
  have hys := sizeN_lt b hb
  have hp : sizeN a * b < 340282366920938463463374607431768211456 := Nat.mul_lt_mul'' hxs hb
  have hP := fun w => product_any (sizeN a) (b) hxs hb w
  have hN := fun w => neg_any (sizeN a * b) hp w
  have s1 := size_any a ha
  have s2 := size_any b hb
  have b1 := below_any a ha
  have b2 := below_any b hb
  unfold turnB at ht
  simp only [if_true, if_false, Bool.false_eq_true] at ht
  generalize decide (9223372036854775808 ≤ a) = ba at *
  generalize decide (9223372036854775808 ≤ b) = bb at *
  obtain ⟨r1, hr1⟩ : ∃ p, negW (sizeN a * b) / 18446744073709551616 = p := ⟨_, rfl⟩
  obtain ⟨r0, hr0⟩ : ∃ p, negW (sizeN a * b) % 18446744073709551616 = p := ⟨_, rfl⟩
  have HV : Hid (wcs (negW (sizeN a * b)) = #[(.int .u64 (r1 : Int)), (.int .u64 (r0 : Int))]) := show wcs (negW (sizeN a * b)) = _ by rw [wcs_get, hr1, hr0]
  rw [HV.out] at hN
  rw [wcs_get (sizeN a * b)] at hP hN
  generalize sizeN a * b / 18446744073709551616 = p1 at *
  generalize sizeN a * b % 18446744073709551616 = p0 at *
  clear hr1 hr0 hp
  generalize sizeN a = sa at *
  generalize sizeN b = sb at *
  subst ht
  go_enter Try.func14, Try.ntmps14
  go_wp2_with fail
  refine (s1 _).mono ?_
  rintro e w2 ⟨rfl, hx⟩; rw [hx]; clear hx
  go_wp2_with fail
  refine (b1 _).mono ?_
  rintro e w2 ⟨rfl, hx⟩; rw [hx]; clear hx
  go_wp2_with fail
  refine (hP _).mono ?_
  rintro e w1 ⟨rfl, hb1⟩
  have B0 : Hid (Box2 w1 w.heap.size #[.int .u64 0, .int .u64 0]) := Box2.step (Box2.new w _) hb1
  have HB : Hid (Below w.heap.size w w1) := ((Below.refl _ _).alloc (Nat.le_refl _) _).trans (hb1.mono (by simp))
  clear hb1
  have HB1 : Hid (Below w.heap.size w (w1.alloc (.cells #[(.int .u64 (p1 : Int)), (.int .u64 (p0 : Int))] 29))) := HB.out.alloc HB.out.size _
  have B1 : Hid (Box2 (w1.alloc (.cells #[(.int .u64 (p1 : Int)), (.int .u64 (p0 : Int))] 29)) w.heap.size #[.int .u64 0, .int .u64 0]) := B0.out.alloc _
  obtain ⟨q0, q1, q2, q3⟩ := B0.out.facts
  go_wp2_with fail
  refine (hN _).mono ?_
  rintro e w3 ⟨rfl, hb3⟩
  have B2 : Hid (Box2 w3 w.heap.size #[.int .u64 0, .int .u64 0]) := B1.out.step hb3
  have HB2 : Hid (Below w.heap.size w w3) := HB1.out.trans (hb3.mono HB1.out.size)
  clear hb3 q0 q1 q2 q3
  obtain ⟨y0, y1, y2, y3⟩ := B2.out.facts
  go_wp2_with fail
  have B3 : Hid _ := B2.out.put (.int .u64 (r1 : Int)) (.int .u64 (r0 : Int))
  clear y0 y1 y2 y3
  obtain ⟨z0, z1, z2, z3⟩ := Box2.facts B3.out
  exact bodyPost_ret (v := .agg #[(.int .u64 (r1 : Int)), (.int .u64 (r0 : Int))]) (by simp [results, Try.results14, go_sem, z0, z1]) rfl ⟨by rw [HV.out], two_set HB2.out (Nat.le_refl _) (.int .u64 (r1 : Int)) (.int .u64 (r0 : Int))⟩
set_option maxHeartbeats 600000 in
theorem signed_true_false (a b : Nat) (ha : a < 18446744073709551616) (hb : b < 18446744073709551616) (ht : turnB a b true = false) (w : World) : Calls Try.prog 14 #[(.int .u64 (a : Int)), (.int .u64 (b : Int)), .bool true] w fun e w' => e = .returned (.agg (wcs (sizeN a * sizeN b))) ∧ Below w.heap.size w w' := by
  have hxs := sizeN_lt a ha
  have hys := sizeN_lt b hb
  have hp : sizeN a * sizeN b < 340282366920938463463374607431768211456 := Nat.mul_lt_mul'' hxs hys
  have hP := fun w => product_any (sizeN a) (sizeN b) hxs hys w
  have hN := fun w => neg_any (sizeN a * sizeN b) hp w
  have s1 := size_any a ha
  have s2 := size_any b hb
  have b1 := below_any a ha
  have b2 := below_any b hb
  unfold turnB at ht
  simp only [if_true, if_false, Bool.false_eq_true] at ht
  generalize decide (9223372036854775808 ≤ a) = ba at *
  generalize decide (9223372036854775808 ≤ b) = bb at *
  obtain ⟨r1, hr1⟩ : ∃ p, sizeN a * sizeN b / 18446744073709551616 = p := ⟨_, rfl⟩
  obtain ⟨r0, hr0⟩ : ∃ p, sizeN a * sizeN b % 18446744073709551616 = p := ⟨_, rfl⟩
  have HV : Hid (wcs (sizeN a * sizeN b) = #[(.int .u64 (r1 : Int)), (.int .u64 (r0 : Int))]) := show wcs (sizeN a * sizeN b) = _ by rw [wcs_get, hr1, hr0]
  rw [HV.out] at hP
  clear hN
  clear hr1 hr0 hp
  generalize sizeN a = sa at *
  generalize sizeN b = sb at *
  cases ba <;> cases bb <;> first | (exfalso; revert ht; decide) | skip
  all_goals
    clear ht
    go_enter Try.func14, Try.ntmps14
    go_wp2_with fail
    refine (s1 _).mono ?_
    rintro e w2 ⟨rfl, hx⟩; rw [hx]; clear hx
    go_wp2_with fail
    refine (b1 _).mono ?_
    rintro e w2 ⟨rfl, hx⟩; rw [hx]; clear hx
    go_wp2_with fail
    refine (s2 _).mono ?_
    rintro e w2 ⟨rfl, hx⟩; rw [hx]; clear hx
    go_wp2_with fail
    refine (b1 _).mono ?_
    rintro e w2 ⟨rfl, hx⟩; rw [hx]; clear hx
    go_wp2_with fail
    refine (b2 _).mono ?_
    rintro e w2 ⟨rfl, hx⟩; rw [hx]; clear hx
    go_wp2_with fail
    refine (hP _).mono ?_
    rintro e w1 ⟨rfl, hb1⟩
    have B0 : Hid (Box2 w1 w.heap.size #[.int .u64 0, .int .u64 0]) := Box2.step (Box2.new w _) hb1
    have HB : Hid (Below w.heap.size w w1) := ((Below.refl _ _).alloc (Nat.le_refl _) _).trans (hb1.mono (by simp))
    clear hb1
    have HB2 : Hid (Below w.heap.size w (w1.alloc (.cells #[(.int .u64 (r1 : Int)), (.int .u64 (r0 : Int))] 29))) := HB.out.alloc HB.out.size _
    have B2 : Hid (Box2 (w1.alloc (.cells #[(.int .u64 (r1 : Int)), (.int .u64 (r0 : Int))] 29)) w.heap.size #[.int .u64 0, .int .u64 0]) := B0.out.alloc _
    obtain ⟨q0, q1, q2, q3⟩ := B0.out.facts
    obtain ⟨y0, y1, y2, y3⟩ := B2.out.facts
    go_wp2_with fail
    have B3 : Hid _ := B2.out.put (.int .u64 (r1 : Int)) (.int .u64 (r0 : Int))
    clear y0 y1 y2 y3
    obtain ⟨z0, z1, z2, z3⟩ := Box2.facts B3.out
    exact bodyPost_ret (v := .agg #[(.int .u64 (r1 : Int)), (.int .u64 (r0 : Int))]) (by simp [results, Try.results14, go_sem, z0, z1]) rfl ⟨by rw [HV.out], two_set HB2.out (Nat.le_refl _) (.int .u64 (r1 : Int)) (.int .u64 (r0 : Int))⟩
set_option maxHeartbeats 600000 in
theorem signed_true_true (a b : Nat) (ha : a < 18446744073709551616) (hb : b < 18446744073709551616) (ht : turnB a b true = true) (w : World) : Calls Try.prog 14 #[(.int .u64 (a : Int)), (.int .u64 (b : Int)), .bool true] w fun e w' => e = .returned (.agg (wcs (negW (sizeN a * sizeN b)))) ∧ Below w.heap.size w w' := by
  have hxs := sizeN_lt a ha
  have hys := sizeN_lt b hb
  have hp : sizeN a * sizeN b < 340282366920938463463374607431768211456 := Nat.mul_lt_mul'' hxs hys
  have hP := fun w => product_any (sizeN a) (sizeN b) hxs hys w
  have hN := fun w => neg_any (sizeN a * sizeN b) hp w
  have s1 := size_any a ha
  have s2 := size_any b hb
  have b1 := below_any a ha
  have b2 := below_any b hb
  unfold turnB at ht
  simp only [if_true, if_false, Bool.false_eq_true] at ht
  generalize decide (9223372036854775808 ≤ a) = ba at *
  generalize decide (9223372036854775808 ≤ b) = bb at *
  obtain ⟨r1, hr1⟩ : ∃ p, negW (sizeN a * sizeN b) / 18446744073709551616 = p := ⟨_, rfl⟩
  obtain ⟨r0, hr0⟩ : ∃ p, negW (sizeN a * sizeN b) % 18446744073709551616 = p := ⟨_, rfl⟩
  have HV : Hid (wcs (negW (sizeN a * sizeN b)) = #[(.int .u64 (r1 : Int)), (.int .u64 (r0 : Int))]) := show wcs (negW (sizeN a * sizeN b)) = _ by rw [wcs_get, hr1, hr0]
  rw [HV.out] at hN
  rw [wcs_get (sizeN a * sizeN b)] at hP hN
  generalize sizeN a * sizeN b / 18446744073709551616 = p1 at *
  generalize sizeN a * sizeN b % 18446744073709551616 = p0 at *
  clear hr1 hr0 hp
  generalize sizeN a = sa at *
  generalize sizeN b = sb at *
  cases ba <;> cases bb <;> first | (exfalso; revert ht; decide) | skip
  all_goals
    clear ht
    go_enter Try.func14, Try.ntmps14
    go_wp2_with fail
    refine (s1 _).mono ?_
    rintro e w2 ⟨rfl, hx⟩; rw [hx]; clear hx
    go_wp2_with fail
    refine (b1 _).mono ?_
    rintro e w2 ⟨rfl, hx⟩; rw [hx]; clear hx
    go_wp2_with fail
    refine (s2 _).mono ?_
    rintro e w2 ⟨rfl, hx⟩; rw [hx]; clear hx
    go_wp2_with fail
    refine (b1 _).mono ?_
    rintro e w2 ⟨rfl, hx⟩; rw [hx]; clear hx
    go_wp2_with fail
    refine (b2 _).mono ?_
    rintro e w2 ⟨rfl, hx⟩; rw [hx]; clear hx
    go_wp2_with fail
    refine (hP _).mono ?_
    rintro e w1 ⟨rfl, hb1⟩
    have B0 : Hid (Box2 w1 w.heap.size #[.int .u64 0, .int .u64 0]) := Box2.step (Box2.new w _) hb1
    have HB : Hid (Below w.heap.size w w1) := ((Below.refl _ _).alloc (Nat.le_refl _) _).trans (hb1.mono (by simp))
    clear hb1
    have HB1 : Hid (Below w.heap.size w (w1.alloc (.cells #[(.int .u64 (p1 : Int)), (.int .u64 (p0 : Int))] 29))) := HB.out.alloc HB.out.size _
    have B1 : Hid (Box2 (w1.alloc (.cells #[(.int .u64 (p1 : Int)), (.int .u64 (p0 : Int))] 29)) w.heap.size #[.int .u64 0, .int .u64 0]) := B0.out.alloc _
    obtain ⟨q0, q1, q2, q3⟩ := B0.out.facts
    go_wp2_with fail
    refine (hN _).mono ?_
    rintro e w3 ⟨rfl, hb3⟩
    have B2 : Hid (Box2 w3 w.heap.size #[.int .u64 0, .int .u64 0]) := B1.out.step hb3
    have HB2 : Hid (Below w.heap.size w w3) := HB1.out.trans (hb3.mono HB1.out.size)
    clear hb3 q0 q1 q2 q3
    obtain ⟨y0, y1, y2, y3⟩ := B2.out.facts
    go_wp2_with fail
    have B3 : Hid _ := B2.out.put (.int .u64 (r1 : Int)) (.int .u64 (r0 : Int))
    clear y0 y1 y2 y3
    obtain ⟨z0, z1, z2, z3⟩ := Box2.facts B3.out
    exact bodyPost_ret (v := .agg #[(.int .u64 (r1 : Int)), (.int .u64 (r0 : Int))]) (by simp [results, Try.results14, go_sem, z0, z1]) rfl ⟨by rw [HV.out], two_set HB2.out (Nat.le_refl _) (.int .u64 (r1 : Int)) (.int .u64 (r0 : Int))⟩
theorem signed_any (a b : Nat) (both : Bool) (ha : a < 18446744073709551616) (hb : b < 18446744073709551616) (w : World) : Calls Try.prog 14 #[(.int .u64 (a : Int)), (.int .u64 (b : Int)), .bool both] w fun e w' => e = .returned (.agg (wcs (sgnN a b both))) ∧ Below w.heap.size w w' := by
  unfold sgnN sndN
  cases both
  · cases h : turnB a b false
    · exact signed_false_false a b ha hb h w
    · exact signed_false_true a b ha hb h w
  · cases h : turnB a b true
    · exact signed_true_false a b ha hb h w
    · exact signed_true_true a b ha hb h w
theorem hi_mod (n : Int) : n % 340282366920938463463374607431768211456 / 18446744073709551616 = n / 18446744073709551616 % 18446744073709551616 := by omega
theorem sgn_int (a b : Nat) (both : Bool) (ha : a < 18446744073709551616) (hb : b < 18446744073709551616) : ((sgnN a b both : Nat) : Int) = (numI a * (if both then numI b else (b : Int))) % 340282366920938463463374607431768211456 := by
  have hxs := sizeN_lt a ha
  have hys := sizeN_lt b hb
  have key : ∀ (p : Nat) (q : Int), p < 340282366920938463463374607431768211456 → q = -(p : Int) → ((negW p : Nat) : Int) = q % 340282366920938463463374607431768211456 := by
    intro p q hp hq; subst hq; unfold negW; omega
  have key2 : ∀ (p : Nat) (q : Int), p < 340282366920938463463374607431768211456 → q = (p : Int) → ((p : Nat) : Int) = q % 340282366920938463463374607431768211456 := by
    intro p q hp hq; subst hq; omega
  have hp1 : sizeN a * sizeN b < 340282366920938463463374607431768211456 := Nat.mul_lt_mul'' hxs hys
  have hp2 : sizeN a * b < 340282366920938463463374607431768211456 := Nat.mul_lt_mul'' hxs hb
  have sa : ∀ (h : a < 9223372036854775808), (numI a = ((sizeN a : Nat) : Int)) := fun h => by unfold numI sizeN; rw [if_pos h, if_pos h]
  have sa' : ∀ (h : ¬ a < 9223372036854775808), (numI a = -((sizeN a : Nat) : Int)) := fun h => by unfold numI sizeN; rw [if_neg h, if_neg h]; omega
  have sb : ∀ (h : b < 9223372036854775808), (numI b = ((sizeN b : Nat) : Int)) := fun h => by unfold numI sizeN; rw [if_pos h, if_pos h]
  have sb' : ∀ (h : ¬ b < 9223372036854775808), (numI b = -((sizeN b : Nat) : Int)) := fun h => by unfold numI sizeN; rw [if_neg h, if_neg h]; omega
  unfold sgnN sndN turnB
  cases both
  · simp only [if_false, Bool.false_eq_true]
    by_cases h : a < 9223372036854775808
    · rw [if_neg (by simp; omega)]
      exact key2 _ _ hp2 (by rw [sa h]; simp)
    · rw [if_pos (by simp; omega)]
      exact key _ _ hp2 (by rw [sa' h]; simp [Int.neg_mul])
  · simp only [if_true]
    by_cases h : a < 9223372036854775808 <;> by_cases g : b < 9223372036854775808
    · rw [if_neg (by simp; omega)]
      exact key2 _ _ hp1 (by rw [sa h, sb g]; simp)
    · rw [if_pos (by simp; omega)]
      exact key _ _ hp1 (by rw [sa h, sb' g]; simp [Int.mul_neg])
    · rw [if_pos (by simp; omega)]
      exact key _ _ hp1 (by rw [sa' h, sb g]; simp [Int.neg_mul])
    · rw [if_neg (by simp; omega)]
      exact key2 _ _ hp1 (by rw [sa' h, sb' g]; simp [Int.neg_mul, Int.mul_neg])
theorem hs_int (a b : Nat) (both : Bool) (ha : a < 18446744073709551616) (hb : b < 18446744073709551616) : ((hsV a b both : Nat) : Int) = (numI a * (if both then numI b else (b : Int))) / 18446744073709551616 % 18446744073709551616 := by
  rw [hsV_eq]
  have e : ((a * b / 18446744073709551616 : Nat) : Int) = ((a : Int) * b) / 18446744073709551616 := by simp
  rw [e]
  have na : numI a = (a : Int) - (if numI a < 0 then 18446744073709551616 else 0) := by
    have := numI_neg a ha
    unfold numI; split <;> split <;> omega
  have nb : numI b = (b : Int) - (if numI b < 0 then 18446744073709551616 else 0) := by
    have := numI_neg b hb
    unfold numI; split <;> split <;> omega
  cases both
  · simp only [if_false, Bool.false_eq_true, false_and]
    by_cases h : numI a < 0
    · rw [if_pos h] at na ⊢
      rw [na, Int.sub_mul, Int.mul_comm 18446744073709551616]
      generalize (a : Int) * b = p
      omega
    · rw [if_neg h] at na ⊢
      rw [na]
      simp
  · simp only [if_true, true_and]
    by_cases h : numI a < 0 <;> by_cases g : numI b < 0
    · rw [if_pos h] at na ⊢
      rw [if_pos g] at nb ⊢
      rw [na, nb, Int.sub_mul, Int.mul_sub, Int.mul_sub]
      generalize (a : Int) * b = p
      omega
    · rw [if_pos h] at na ⊢
      rw [if_neg g] at nb ⊢
      rw [na, nb, Int.sub_mul, Int.mul_sub, Int.mul_sub]
      generalize (a : Int) * b = p
      omega
    · rw [if_neg h] at na ⊢
      rw [if_pos g] at nb ⊢
      rw [na, nb, Int.sub_mul, Int.mul_sub, Int.mul_sub]
      generalize (a : Int) * b = p
      omega
    · rw [if_neg h] at na ⊢
      rw [if_neg g] at nb ⊢
      rw [na, nb]
      simp
theorem sgn_hi (a b : Nat) (both : Bool) (ha : a < 18446744073709551616) (hb : b < 18446744073709551616) : sgnN a b both / 18446744073709551616 = hsV a b both := by
  have h1 := sgn_int a b both ha hb
  have h2 := hs_int a b both ha hb
  generalize numI a * (if both then numI b else (b : Int)) = n at *
  omega
end Go.Proofs.Ytdejnlblcokldaa
