/- Package clint's call Store. -/
import Derived.Test.YtaiagfdlglidfaaCq
namespace Go.Proofs.Ytaiagfdlglidfaa
open Go.RowKit
set_option linter.unusedVariables false
set_option linter.unusedSimpArgs false
set_option maxRecDepth 100000
theorem store_no (p : Nat) (a v : Nat) (n : Int) (ha : a < 18446744073709551616) (h : mayB a n = false) (w : World) : Calls Try.prog 10 #[.pointer (some ⟨p, 0, none⟩), .int .u64 (a : Int), .int .i64 n, .int .u64 (v : Int)] w fun e w' => e = .returned (.bool false) ∧ w' = w := by
  have ca : ∀ w, Calls Try.prog 22 #[.int .u64 (a : Int), .int .i64 n] w fun e w' => e = .returned (.bool false) ∧ w' = w := fun w => by
    have h1 := allowed_any a n ha w
    rw [h] at h1
    exact h1
  clear h
  go_enter Try.func10, Try.ntmps10
  go_wp2_with (go_at_call 22; refine (ca _).mono ?_; rintro e w' ⟨rfl, rfl⟩)
  go_ret
  exact ⟨rfl, rfl⟩
theorem bit_odd (v : Nat) : ((E.getN v 0 1 : Int) == 1) = (v % 2 == 1) := by
  have h := E.getN_in v 0 1 (by omega)
  have h2 : E.getN v 0 1 = v % 2 := by
    refine h.trans ?_
    rw [show (min (1 : Int) 64).toNat = 1 from by decide]
    simp
  rw [h2, Bool.eq_iff_iff]
  simp
  omega
set_option maxHeartbeats 1000000 in
theorem store_msip (p : Nat) (s : Bool) (c t a v : Nat) (n : Int) (hc : c < 18446744073709551616) (ht : t < 18446744073709551616) (hv : v < 18446744073709551616) (h : mayB a n = true) (h0 : a = 0) (w : World) (hx : Box 26 w p #[.bool s, .int .u64 (c : Int), .int .u64 (t : Int)]) : Calls Try.prog 10 #[.pointer (some ⟨p, 0, none⟩), .int .u64 (a : Int), .int .i64 n, .int .u64 (v : Int)] w fun e w' => e = .returned (.bool true) ∧ Box 26 w' p #[.bool (v % 2 == 1), .int .u64 (c : Int), .int .u64 (t : Int)] ∧ Upon p w w' := by
  obtain ⟨k, hk, hk2, hk3, hk4, hk5⟩ := mayB_k h
  have ha : a < 18446744073709551616 := by omega
  have ca : ∀ w, Calls Try.prog 22 #[.int .u64 (a : Int), .int .i64 n] w fun e w' => e = .returned (.bool true) ∧ w' = w := fun w => by
    have h1 := allowed_any a n ha w
    rw [h] at h1
    exact h1
  have hw8 : IntKind.i64.wrap (8 * n) = 8 * n := by
    rcases hk2 with rfl | rfl <;> subst hk <;> decide
  have HX : Hid (Box 26 w p #[.bool s, .int .u64 (c : Int), .int .u64 (t : Int)]) := hx
  subst h0
  have cb : ∀ w, Calls Try.prog 23 #[.int .u64 (v : Int), .int .i64 0] w fun e w' => e = .returned (.bool (v % 2 == 1)) ∧ Below w.heap.size w w' := fun w => by
    have h1 := E.bit_all v 0 hv w w (Below.refl _ _)
    rw [bit_odd] at h1
    exact h1
  generalize (v % 2 == 1) = b at *
  clear h hk hk2 hk3 hk4 hk5 hx
  go_enter Try.func10, Try.ntmps10
  go_wp2_with fail
  refine (ca _).mono ?_
  rintro e w' ⟨rfl, hw⟩
  rw [hw]
  clear hw w'
  go_wp2_with fail
  refine (cb _).mono ?_
  rintro e w1 ⟨rfl, hb⟩
  have X1 : Hid (Box 26 w1 p #[.bool s, .int .u64 (c : Int), .int .u64 (t : Int)] ∧ Upon p w w1) := ⟨HX.out.step hb, Upon.of_below hb⟩
  clear hb
  have f0 := X1.out.1.cell 0 _ rfl
  have z0 := X1.out.1.frozen 0
  go_wp2_with fail
  go_ret
  exact ⟨rfl, X1.out.1.set 0 _, X1.out.2.set 0 _⟩
set_option maxHeartbeats 1000000 in
theorem store_cmp (p : Nat) (s : Bool) (c t a v : Nat) (n : Int) (hc : c < 18446744073709551616) (ht : t < 18446744073709551616) (hv : v < 18446744073709551616) (h : mayB a n = true) (h0 : ¬ a = 0) (h1 : a - a % 8 = 16384) (w : World) (hx : Box 26 w p #[.bool s, .int .u64 (c : Int), .int .u64 (t : Int)]) : Calls Try.prog 10 #[.pointer (some ⟨p, 0, none⟩), .int .u64 (a : Int), .int .i64 n, .int .u64 (v : Int)] w fun e w' => e = .returned (.bool true) ∧ Box 26 w' p #[.bool s, .int .u64 (E.putA c (a % 8 * 8 : Nat) (8 * n) v : Nat), .int .u64 (t : Int)] ∧ Upon p w w' := by
  obtain ⟨k, hk, hk2, hk3, hk4, hk5⟩ := mayB_k h
  have ha : a < 18446744073709551616 := by omega
  have ca : ∀ w, Calls Try.prog 22 #[.int .u64 (a : Int), .int .i64 n] w fun e w' => e = .returned (.bool true) ∧ w' = w := fun w => by
    have h1 := allowed_any a n ha w
    rw [h] at h1
    exact h1
  have hw8 : IntKind.i64.wrap (8 * n) = 8 * n := by
    rcases hk2 with rfl | rfl <;> subst hk <;> decide
  have HX : Hid (Box 26 w p #[.bool s, .int .u64 (c : Int), .int .u64 (t : Int)]) := hx
  have cr : ∀ w, Calls Try.prog 24 #[.pointer (some ⟨p, 0, none⟩), .int .u64 (a : Int)] w fun e w' => e = .returned (.pointer (some ⟨p, 1, none⟩)) ∧ w' = w := fun w => register_cmp p a ha h1 w
  have co : ∀ w, Calls Try.prog 26 #[.int .u64 (a : Int)] w fun e w' => e = .returned (.int .i64 (a % 8 * 8 : Nat)) ∧ w' = w := fun w => bitof_any a ha w
  have cp : ∀ w, Calls Try.prog 25 #[.int .u64 (c : Int), .int .i64 (a % 8 * 8 : Nat), .int .i64 (8 * n), .int .u64 (v : Int)] w fun e w' => e = .returned (.int .u64 (E.putA c (a % 8 * 8 : Nat) (8 * n) v : Nat)) ∧ w' = w := fun w => E.put_any c _ (8 * n) v (by assumption) w
  have f0 := hx.cell 1 _ rfl
  have z0 := hx.frozen 1
  have h00 : ¬ (a : Int) = 0 := by omega
  have hb0 : ((a : Int) == 0) = false := by simp; omega
  clear h hk hk2 hk3 hk4 hk5 hx h1
  generalize (E.putA c (a % 8 * 8 : Nat) (8 * n) v) = r at *
  generalize a % 8 * 8 = o at *
  go_enter Try.func10, Try.ntmps10
  go_wp2_with fail
  refine (ca _).mono ?_
  rintro e w' ⟨rfl, rfl⟩
  go_wp2_with fail
  refine (cr _).mono ?_
  rintro e w' ⟨rfl, rfl⟩
  go_wp2_with fail
  go_region_with (first | (go_at_call 26; refine (co _).mono ?_; rintro e w' ⟨rfl, rfl⟩) | (go_at_call 25; refine (cp _).mono ?_; rintro e w' ⟨rfl, rfl⟩))
  all_goals go_wp2_with fail
  all_goals go_ret
  all_goals exact ⟨rfl, HX.out.drew.set 1 _, (Upon.of_below (Below.drew (Below.refl _ _))).set 1 _⟩
set_option maxHeartbeats 1000000 in
theorem store_now (p : Nat) (s : Bool) (c t a v : Nat) (n : Int) (hc : c < 18446744073709551616) (ht : t < 18446744073709551616) (hv : v < 18446744073709551616) (h : mayB a n = true) (h0 : ¬ a = 0) (h2 : a - a % 8 = 49144) (w : World) (hx : Box 26 w p #[.bool s, .int .u64 (c : Int), .int .u64 (t : Int)]) : Calls Try.prog 10 #[.pointer (some ⟨p, 0, none⟩), .int .u64 (a : Int), .int .i64 n, .int .u64 (v : Int)] w fun e w' => e = .returned (.bool true) ∧ Box 26 w' p #[.bool s, .int .u64 (c : Int), .int .u64 (E.putA t (a % 8 * 8 : Nat) (8 * n) v : Nat)] ∧ Upon p w w' := by
  obtain ⟨k, hk, hk2, hk3, hk4, hk5⟩ := mayB_k h
  have ha : a < 18446744073709551616 := by omega
  have ca : ∀ w, Calls Try.prog 22 #[.int .u64 (a : Int), .int .i64 n] w fun e w' => e = .returned (.bool true) ∧ w' = w := fun w => by
    have h1 := allowed_any a n ha w
    rw [h] at h1
    exact h1
  have hw8 : IntKind.i64.wrap (8 * n) = 8 * n := by
    rcases hk2 with rfl | rfl <;> subst hk <;> decide
  have HX : Hid (Box 26 w p #[.bool s, .int .u64 (c : Int), .int .u64 (t : Int)]) := hx
  have cr : ∀ w, Calls Try.prog 24 #[.pointer (some ⟨p, 0, none⟩), .int .u64 (a : Int)] w fun e w' => e = .returned (.pointer (some ⟨p, 2, none⟩)) ∧ w' = w := fun w => register_now p a ha h2 w
  have co : ∀ w, Calls Try.prog 26 #[.int .u64 (a : Int)] w fun e w' => e = .returned (.int .i64 (a % 8 * 8 : Nat)) ∧ w' = w := fun w => bitof_any a ha w
  have cp : ∀ w, Calls Try.prog 25 #[.int .u64 (t : Int), .int .i64 (a % 8 * 8 : Nat), .int .i64 (8 * n), .int .u64 (v : Int)] w fun e w' => e = .returned (.int .u64 (E.putA t (a % 8 * 8 : Nat) (8 * n) v : Nat)) ∧ w' = w := fun w => E.put_any t _ (8 * n) v (by assumption) w
  have f0 := hx.cell 2 _ rfl
  have z0 := hx.frozen 2
  have h00 : ¬ (a : Int) = 0 := by omega
  have hb0 : ((a : Int) == 0) = false := by simp; omega
  clear h hk hk2 hk3 hk4 hk5 hx h2
  generalize (E.putA t (a % 8 * 8 : Nat) (8 * n) v) = r at *
  generalize a % 8 * 8 = o at *
  go_enter Try.func10, Try.ntmps10
  go_wp2_with fail
  refine (ca _).mono ?_
  rintro e w' ⟨rfl, rfl⟩
  go_wp2_with fail
  refine (cr _).mono ?_
  rintro e w' ⟨rfl, rfl⟩
  go_wp2_with fail
  go_region_with (first | (go_at_call 26; refine (co _).mono ?_; rintro e w' ⟨rfl, rfl⟩) | (go_at_call 25; refine (cp _).mono ?_; rintro e w' ⟨rfl, rfl⟩))
  all_goals go_wp2_with fail
  all_goals go_ret
  all_goals exact ⟨rfl, HX.out.drew.set 2 _, (Upon.of_below (Below.drew (Below.refl _ _))).set 2 _⟩
set_option maxHeartbeats 1000000 in
theorem store_else (p : Nat) (s : Bool) (c t a v : Nat) (n : Int) (hc : c < 18446744073709551616) (ht : t < 18446744073709551616) (hv : v < 18446744073709551616) (h : mayB a n = true) (h0 : ¬ a = 0) (h1 : ¬ a - a % 8 = 16384) (h2 : ¬ a - a % 8 = 49144) (w : World) (hx : Box 26 w p #[.bool s, .int .u64 (c : Int), .int .u64 (t : Int)]) : Calls Try.prog 10 #[.pointer (some ⟨p, 0, none⟩), .int .u64 (a : Int), .int .i64 n, .int .u64 (v : Int)] w fun e w' => e = .returned (.bool true) ∧ Box 26 w' p #[.bool s, .int .u64 (c : Int), .int .u64 (t : Int)] ∧ Upon p w w' := by
  obtain ⟨k, hk, hk2, hk3, hk4, hk5⟩ := mayB_k h
  have ha : a < 18446744073709551616 := by omega
  have ca : ∀ w, Calls Try.prog 22 #[.int .u64 (a : Int), .int .i64 n] w fun e w' => e = .returned (.bool true) ∧ w' = w := fun w => by
    have h1 := allowed_any a n ha w
    rw [h] at h1
    exact h1
  have hw8 : IntKind.i64.wrap (8 * n) = 8 * n := by
    rcases hk2 with rfl | rfl <;> subst hk <;> decide
  have HX : Hid (Box 26 w p #[.bool s, .int .u64 (c : Int), .int .u64 (t : Int)]) := hx
  have cr : ∀ w, Calls Try.prog 24 #[.pointer (some ⟨p, 0, none⟩), .int .u64 (a : Int)] w fun e w' => e = .returned (.pointer none) ∧ w' = w := fun w => register_none p a ha h1 h2 w
  have h00 : ¬ (a : Int) = 0 := by omega
  have hb0 : ((a : Int) == 0) = false := by simp; omega
  clear h hk hk2 hk3 hk4 hk5 hx h1 h2
  go_enter Try.func10, Try.ntmps10
  go_wp2_with fail
  refine (ca _).mono ?_
  rintro e w' ⟨rfl, rfl⟩
  go_wp2_with fail
  refine (cr _).mono ?_
  rintro e w' ⟨rfl, rfl⟩
  go_wp2_with fail
  go_ret
  exact ⟨rfl, HX.out, Upon.refl _ _⟩
/-- the state behind a store of n bytes that may be -/
def stC (s : Bool) (c t a n v : Nat) : Array Value := #[.bool (softR s a n v), .int .u64 (wordR c 16384 a n v : Nat), .int .u64 (wordR t 49144 a n v : Nat)]
theorem store_yes (p : Nat) (s : Bool) (c t a v n : Nat) (hc : c < 18446744073709551616) (ht : t < 18446744073709551616) (hv : v < 18446744073709551616) (h : mayB a n = true) (w : World) (hx : Box 26 w p #[.bool s, .int .u64 (c : Int), .int .u64 (t : Int)]) : Calls Try.prog 10 #[.pointer (some ⟨p, 0, none⟩), .int .u64 (a : Int), .int .i64 (n : Int), .int .u64 (v : Int)] w fun e w' => e = .returned (.bool true) ∧ Box 26 w' p (stC s c t a n v) ∧ Upon p w w' := by
  obtain ⟨k, hk, hk2, hk3, hk4, hk5⟩ := mayB_k h
  unfold stC softR wordR
  rw [show ((8 * n : Nat) : Int) = 8 * (n : Int) from by omega]
  by_cases h0 : a = 0
  · rw [if_pos (by omega), if_neg (by omega), if_neg (by omega)]; exact store_msip p s c t a v n hc ht hv h h0 w hx
  rw [if_neg (by omega)]
  by_cases h1 : a - a % 8 = 16384
  · rw [if_pos h1, if_neg (by omega)]; exact store_cmp p s c t a v n hc ht hv h h0 h1 w hx
  rw [if_neg h1]
  by_cases h2 : a - a % 8 = 49144
  · rw [if_pos h2]; exact store_now p s c t a v n hc ht hv h h0 h2 w hx
  rw [if_neg h2]; exact store_else p s c t a v n hc ht hv h h0 h1 h2 w hx
end Go.Proofs.Ytaiagfdlglidfaa
