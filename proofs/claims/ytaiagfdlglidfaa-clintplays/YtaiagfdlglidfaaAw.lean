/- The statements' call awake, and stores at fixed places. -/
import Derived.Test.YtaiagfdlglidfaaCr
import Derived.Test.YtaiagfdlglidfaaDa
namespace Go.Proofs.Ytaiagfdlglidfaa
open Go.RowKit
set_option linter.unusedVariables false
set_option linter.unusedSimpArgs false
set_option maxRecDepth 100000
theorem put_whole (x v : Nat) (hv : v < 18446744073709551616) : E.putA x 0 64 v = v := by
  have h := E.putA_in x 0 64 v (by omega)
  refine h.trans ?_
  apply Nat.eq_of_testBit_eq
  intro j
  rw [show (min (64 : Int) 64).toNat = 64 from by decide, testBit_putN _ _ _ _ _ (by omega) (by omega)]
  by_cases hj : j < 64
  · rw [if_pos (by omega)]; simp [hj]
  · rw [E.high_bit v j hv (by omega)]; simp [hj]
theorem put_halves (x v : Nat) (hv : v < 18446744073709551616) : E.putA (E.putA x 0 32 v) 32 32 (v / 4294967296) = v := by
  have h1 := E.putA_in x 0 32 v (by omega)
  have h2 := E.putA_in (E.putA x 0 32 v) 32 32 (v / 4294967296) (by omega)
  refine h2.trans ?_
  rw [show E.putA x 0 32 v = E.putN x 0 (min (32 : Int) 64).toNat v from h1]
  apply Nat.eq_of_testBit_eq
  intro j
  rw [show (min (32 : Int) 64).toNat = 32 from by decide, testBit_putN _ _ _ _ _ (by omega) (by omega), testBit_putN _ _ _ _ _ (by omega) (by omega)]
  by_cases hj : j < 64
  · by_cases h : 32 ≤ j
    · rw [if_pos (by omega), show (4294967296 : Nat) = 2 ^ 32 from rfl, ← Nat.shiftRight_eq_div_pow, Nat.testBit_shiftRight, show 32 + (j - 32) = j from by omega]; simp [hj]
    · rw [if_neg (by omega), if_pos (by omega)]; simp [hj]
  · rw [E.high_bit v j hv (by omega)]; simp [hj]
theorem get_whole (v : Nat) (hv : v < 18446744073709551616) : E.getN v 0 64 = v := by
  have h := E.getN_in v 0 64 (by omega)
  refine h.trans ?_
  rw [show (min (64 : Int) 64).toNat = 64 from by decide]
  simp
  omega
theorem get_low (v : Nat) : E.getN v 0 32 = v % 4294967296 := by
  have h := E.getN_in v 0 32 (by omega)
  refine h.trans ?_
  rw [show (min (32 : Int) 64).toNat = 32 from by decide]
  simp
theorem get_high (v : Nat) (hv : v < 18446744073709551616) : E.getN v 32 32 = v / 4294967296 := by
  have h := E.getN_in v 32 32 (by omega)
  refine h.trans ?_
  rw [show (min (32 : Int) 64).toNat = 32 from by decide]
  simp
  omega
theorem ones_lt : 18446744073709551615 < 18446744073709551616 := by decide
theorem store_c8 (p : Nat) (s : Bool) (c t v : Nat) (hc : c < 18446744073709551616) (ht : t < 18446744073709551616) (hv : v < 18446744073709551616) (w : World) (hx : Box 26 w p #[.bool s, .int .u64 (c : Int), .int .u64 (t : Int)]) : Calls Try.prog 10 #[.pointer (some ⟨p, 0, none⟩), .int .u64 16384, .int .i64 8, .int .u64 (v : Int)] w fun e w' => e = .returned (.bool true) ∧ Box 26 w' p #[.bool s, .int .u64 (v : Int), .int .u64 (t : Int)] ∧ Upon p w w' := by
  have h := store_yes p s c t 16384 v 8 hc ht hv (by decide +kernel) w hx
  have e : stC s c t 16384 8 v = #[.bool s, .int .u64 (v : Int), .int .u64 (t : Int)] := by
    unfold stC
    rw [show softR s 16384 8 v = s from by unfold softR; rw [if_neg (by omega)], show wordR c 16384 16384 8 v = v from by unfold wordR; rw [if_pos (by decide)]; exact put_whole c v hv, show wordR t 49144 16384 8 v = t from by unfold wordR; rw [if_neg (by decide)]]
  rw [e] at h
  exact h
theorem store_t8 (p : Nat) (s : Bool) (c t v : Nat) (hc : c < 18446744073709551616) (ht : t < 18446744073709551616) (hv : v < 18446744073709551616) (w : World) (hx : Box 26 w p #[.bool s, .int .u64 (c : Int), .int .u64 (t : Int)]) : Calls Try.prog 10 #[.pointer (some ⟨p, 0, none⟩), .int .u64 49144, .int .i64 8, .int .u64 (v : Int)] w fun e w' => e = .returned (.bool true) ∧ Box 26 w' p #[.bool s, .int .u64 (c : Int), .int .u64 (v : Int)] ∧ Upon p w w' := by
  have h := store_yes p s c t 49144 v 8 hc ht hv (by decide +kernel) w hx
  have e : stC s c t 49144 8 v = #[.bool s, .int .u64 (c : Int), .int .u64 (v : Int)] := by
    unfold stC
    rw [show softR s 49144 8 v = s from by unfold softR; rw [if_neg (by omega)], show wordR t 49144 49144 8 v = v from by unfold wordR; rw [if_pos (by decide)]; exact put_whole t v hv, show wordR c 16384 49144 8 v = c from by unfold wordR; rw [if_neg (by decide)]]
  rw [e] at h
  exact h
theorem store_lo (p : Nat) (s : Bool) (c t v : Nat) (hc : c < 18446744073709551616) (ht : t < 18446744073709551616) (hv : v < 18446744073709551616) (w : World) (hx : Box 26 w p #[.bool s, .int .u64 (c : Int), .int .u64 (t : Int)]) : Calls Try.prog 10 #[.pointer (some ⟨p, 0, none⟩), .int .u64 16384, .int .i64 4, .int .u64 (v : Int)] w fun e w' => e = .returned (.bool true) ∧ Box 26 w' p #[.bool s, .int .u64 (E.putA c 0 32 v : Nat), .int .u64 (t : Int)] ∧ Upon p w w' := by
  have h := store_yes p s c t 16384 v 4 hc ht hv (by decide +kernel) w hx
  have e : stC s c t 16384 4 v = #[.bool s, .int .u64 (E.putA c 0 32 v : Nat), .int .u64 (t : Int)] := by
    unfold stC
    rw [show softR s 16384 4 v = s from by unfold softR; rw [if_neg (by omega)], show wordR c 16384 16384 4 v = E.putA c 0 32 v from by unfold wordR; rw [if_pos (by decide)]; rfl, show wordR t 49144 16384 4 v = t from by unfold wordR; rw [if_neg (by decide)]]
  rw [e] at h
  exact h
theorem store_hi (p : Nat) (s : Bool) (c t v : Nat) (hc : c < 18446744073709551616) (ht : t < 18446744073709551616) (hv : v < 18446744073709551616) (w : World) (hx : Box 26 w p #[.bool s, .int .u64 (c : Int), .int .u64 (t : Int)]) : Calls Try.prog 10 #[.pointer (some ⟨p, 0, none⟩), .int .u64 16388, .int .i64 4, .int .u64 (v : Int)] w fun e w' => e = .returned (.bool true) ∧ Box 26 w' p #[.bool s, .int .u64 (E.putA c 32 32 v : Nat), .int .u64 (t : Int)] ∧ Upon p w w' := by
  have h := store_yes p s c t 16388 v 4 hc ht hv (by decide +kernel) w hx
  have e : stC s c t 16388 4 v = #[.bool s, .int .u64 (E.putA c 32 32 v : Nat), .int .u64 (t : Int)] := by
    unfold stC
    rw [show softR s 16388 4 v = s from by unfold softR; rw [if_neg (by omega)], show wordR c 16384 16388 4 v = E.putA c 32 32 v from by unfold wordR; rw [if_pos (by decide)]; rfl, show wordR t 49144 16388 4 v = t from by unfold wordR; rw [if_neg (by decide)]]
  rw [e] at h
  exact h
theorem put_ones : E.putA 18446744073709551615 32 32 0 = 4294967295 := by decide +kernel
theorem awake_any (w : World) : Calls Try.prog 7 #[] w fun e w' => e = .returned (.bool true) ∧ Below w.heap.size w w' := by
  have cs : ∀ p V, Box 26 V p #[.bool false, .int .u64 18446744073709551615, .int .u64 0] → Calls Try.prog 10 #[.pointer (some ⟨p, 0, none⟩), .int .u64 16388, .int .i64 4, .int .u64 0] V fun e w' => e = .returned (.bool true) ∧ Box 26 w' p #[.bool false, .int .u64 4294967295, .int .u64 0] ∧ Upon p V w' := fun p V hx => by
    have h := store_hi p false 18446744073709551615 0 0 (by decide) (by decide) (by decide) V hx
    rw [put_ones] at h
    exact h
  go_enter Try.func7, Try.ntmps7
  go_wp2_with fail
  refine (begin_any _).mono ?_
  rintro e w1 ⟨rfl, hb1⟩
  go_upto_region 2 with fail
  have hx1 := Box.new 26 w1 #[.bool false, .int .u64 18446744073709551615, .int .u64 0]
  have hb2 : Below w.heap.size w (w1.alloc (.cells #[.bool false, .int .u64 18446744073709551615, .int .u64 0] 26)) := hb1.alloc hb1.size _
  have hle := hb1.size
  generalize w1.alloc (.cells #[.bool false, .int .u64 18446744073709551615, .int .u64 0] 26) = w2 at *
  generalize w1.heap.size = b at *
  clear hb1
  go_wp2_with fail
  refine (cs _ _ hx1).mono ?_
  rintro e w3 ⟨rfl, hx3, hu⟩
  have f1 := hx3.cell 1 _ rfl
  have HB : Hid (Below w.heap.size w w3) := hb2.trans (hu.below hle hb2.size)
  clear hx3 hu hb2 hle hx1
  go_wp2_with fail
  go_ret
  exact ⟨by simp, HB.out⟩
end Go.Proofs.Ytaiagfdlglidfaa
