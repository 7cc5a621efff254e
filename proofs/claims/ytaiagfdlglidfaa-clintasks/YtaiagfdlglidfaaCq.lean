/- Package clint's calls Lines, Load and Store. -/
import Derived.Test.YtaiagfdlglidfaaCp
namespace Go.Proofs.Ytaiagfdlglidfaa
open Go.RowKit
set_option linter.unusedVariables false
set_option linter.unusedSimpArgs false
set_option maxRecDepth 100000
set_option maxHeartbeats 1000000 in
theorem lines_any (p : Nat) (s : Bool) (c t : Nat) (w : World) (hx : Box 26 w p #[.bool s, .int .u64 (c : Int), .int .u64 (t : Int)]) : Calls Try.prog 15 #[.pointer (some ⟨p, 0, none⟩)] w fun e w' => e = .returned (.int .u64 (linesR s c t : Nat)) ∧ Below w.heap.size w w' := by
  have f0 := hx.cell 0 _ rfl
  have f1 := hx.cell 1 _ rfl
  have f2 := hx.cell 2 _ rfl
  have HX : Hid (Box 26 w p #[.bool s, .int .u64 (c : Int), .int .u64 (t : Int)]) := hx
  have HL : Hid (bits .or .u64 ((flN s : Int) * (bitV 3 : Int)) ((flN (decide (c ≤ t)) : Int) * (bitV 7 : Int)) = ((linesR s c t : Nat) : Int)) := by
    show bits .or .u64 ((flN s : Int) * (bitV 3 : Int)) ((flN (decide (c ≤ t)) : Int) * (bitV 7 : Int)) = ((linesR s c t : Nat) : Int)
    rw [bitV_3, bitV_7, ← lines_or]; rfl
  clear hx
  go_enter Try.func15, Try.ntmps15
  go_wp2_with fail
  go_region_held3 (fun V => V.cell? ⟨p, 0, none⟩ = some (.bool s) ∧ V.cell? ⟨p, 1, none⟩ = some (.int .u64 (c : Int)) ∧ V.cell? ⟨p, 2, none⟩ = some (.int .u64 (t : Int))) (go_keep) (first | (go_at_call 27; refine (bitif_any _ _ _).mono ?_; rintro e w1 ⟨rfl, hb1⟩; first | (have X2 : Hid (Below w.heap.size w w1) := X1.out.trans (hb1.mono X1.out.size); obtain ⟨p0, p1, p2⟩ : _ ∧ _ ∧ _ := ⟨(HX.out.step X2.out).cell 0 _ rfl, (HX.out.step X2.out).cell 1 _ rfl, (HX.out.step X2.out).cell 2 _ rfl⟩; clear hb1) | (have X1 : Hid (Below w.heap.size w w1) := (Below.drew (Below.refl w.heap.size w)).trans hb1; obtain ⟨p0, p1, p2⟩ : _ ∧ _ ∧ _ := ⟨(HX.out.step X1.out).cell 0 _ rfl, (HX.out.step X1.out).cell 1 _ rfl, (HX.out.step X1.out).cell 2 _ rfl⟩; clear hb1)))
  go_wp2_with fail
  go_ret
  exact ⟨by rw [← HL.out]; rfl, X2.out⟩
theorem load_no (p : Nat) (a : Nat) (n : Int) (ha : a < 18446744073709551616) (h : mayB a n = false) (w : World) : Calls Try.prog 11 #[.pointer (some ⟨p, 0, none⟩), .int .u64 (a : Int), .int .i64 n] w fun e w' => e = .returned (.tuple #[.int .u64 0, .bool false]) ∧ w' = w := by
  have ca : ∀ w, Calls Try.prog 22 #[.int .u64 (a : Int), .int .i64 n] w fun e w' => e = .returned (.bool false) ∧ w' = w := fun w => by
    have h1 := allowed_any a n ha w
    rw [h] at h1
    exact h1
  clear h
  go_enter Try.func11, Try.ntmps11
  go_wp2_with (go_at_call 22; refine (ca _).mono ?_; rintro e w' ⟨rfl, rfl⟩)
  go_ret2
  exact ⟨rfl, rfl⟩
theorem get_q (x o : Nat) (n : Int) (hx : x < 18446744073709551616) (ho : o ≤ 63) (V : World) : Calls Try.prog 28 #[.int .u64 (x : Int), .int .i64 (o : Int), .int .i64 n] V fun e w' => e = .returned (.int .u64 (E.getN x o n : Nat)) ∧ ∃ k, w' = V.drewN k := by
  have h := E.get_any x o n _ hx ho rfl V
  rw [E.getN_in x o n ho]
  exact h
theorem load_msip (p : Nat) (s : Bool) (c t a : Nat) (n : Int) (hc : c < 18446744073709551616) (ht : t < 18446744073709551616) (h : mayB a n = true) (h0 : a = 0) (w : World) (hx : Box 26 w p #[.bool s, .int .u64 (c : Int), .int .u64 (t : Int)]) : Calls Try.prog 11 #[.pointer (some ⟨p, 0, none⟩), .int .u64 (a : Int), .int .i64 n] w fun e w' => e = .returned (.tuple #[.int .u64 (flN s : Nat), .bool true]) ∧ Below w.heap.size w w' := by
  obtain ⟨k, hk, hk2, hk3, hk4, hk5⟩ := mayB_k h
  have ha : a < 18446744073709551616 := by omega
  have ca : ∀ w, Calls Try.prog 22 #[.int .u64 (a : Int), .int .i64 n] w fun e w' => e = .returned (.bool true) ∧ w' = w := fun w => by
    have h1 := allowed_any a n ha w
    rw [h] at h1
    exact h1
  have hw8 : IntKind.i64.wrap (8 * n) = 8 * n := by
    rcases hk2 with rfl | rfl <;> subst hk <;> decide
  subst h0
  have cb : ∀ w, Calls Try.prog 27 #[.bool s, .int .i64 0] w fun e w' => e = .returned (.int .u64 (flN s : Nat)) ∧ Below w.heap.size w w' := fun w => by
    have h1 := bitif_any s 0 w
    rw [bitV_0, Nat.mul_one] at h1
    exact h1
  have f0 := hx.cell 0 _ rfl
  clear h hk hk2 hk3 hk4 hk5 hx
  go_enter Try.func11, Try.ntmps11
  go_wp2_with fail
  refine (ca _).mono ?_
  rintro e w' ⟨rfl, rfl⟩
  go_wp2_with fail
  refine (cb _).mono ?_
  rintro e w1 ⟨rfl, hb⟩
  go_wp2_with fail
  go_ret2
  exact ⟨rfl, hb⟩
theorem load_cmp (p : Nat) (s : Bool) (c t a : Nat) (n : Int) (hc : c < 18446744073709551616) (ht : t < 18446744073709551616) (h : mayB a n = true) (h0 : ¬ a = 0) (h1 : a - a % 8 = 16384) (w : World) (hx : Box 26 w p #[.bool s, .int .u64 (c : Int), .int .u64 (t : Int)]) : Calls Try.prog 11 #[.pointer (some ⟨p, 0, none⟩), .int .u64 (a : Int), .int .i64 n] w fun e w' => e = .returned (.tuple #[.int .u64 (E.getN c (a % 8 * 8 : Nat) (8 * n) : Nat), .bool true]) ∧ Below w.heap.size w w' := by
  obtain ⟨k, hk, hk2, hk3, hk4, hk5⟩ := mayB_k h
  have ha : a < 18446744073709551616 := by omega
  have ca : ∀ w, Calls Try.prog 22 #[.int .u64 (a : Int), .int .i64 n] w fun e w' => e = .returned (.bool true) ∧ w' = w := fun w => by
    have h1 := allowed_any a n ha w
    rw [h] at h1
    exact h1
  have hw8 : IntKind.i64.wrap (8 * n) = 8 * n := by
    rcases hk2 with rfl | rfl <;> subst hk <;> decide
  have cr : ∀ w, Calls Try.prog 24 #[.pointer (some ⟨p, 0, none⟩), .int .u64 (a : Int)] w fun e w' => e = .returned (.pointer (some ⟨p, 1, none⟩)) ∧ w' = w := fun w => register_cmp p a ha h1 w
  have co : ∀ w, Calls Try.prog 26 #[.int .u64 (a : Int)] w fun e w' => e = .returned (.int .i64 (a % 8 * 8 : Nat)) ∧ w' = w := fun w => bitof_any a ha w
  have cg := fun V => get_q c (a % 8 * 8) (8 * n) (by assumption) (by omega) V
  have f0 := hx.cell 1 _ rfl
  have h00 : ¬ (a : Int) = 0 := by omega
  have hb0 : ((a : Int) == 0) = false := by simp; omega
  clear h hk hk2 hk3 hk4 hk5 hx h1
  generalize a % 8 * 8 = o at *
  go_enter Try.func11, Try.ntmps11
  go_wp2_with fail
  refine (ca _).mono ?_
  rintro e w' ⟨rfl, rfl⟩
  go_wp2_with fail
  refine (cr _).mono ?_
  rintro e w' ⟨rfl, rfl⟩
  go_wp2_with fail
  go_quiet (first | (go_at_call 26; exact Calls.quiet_of_same (co _)) | (go_at_call 28; exact Calls.quiet_of (cg _)))
  go_wp2_with fail
  go_ret2
  exact ⟨rfl, below_drewN (Below.refl _ _) _⟩
theorem load_now (p : Nat) (s : Bool) (c t a : Nat) (n : Int) (hc : c < 18446744073709551616) (ht : t < 18446744073709551616) (h : mayB a n = true) (h0 : ¬ a = 0) (h2 : a - a % 8 = 49144) (w : World) (hx : Box 26 w p #[.bool s, .int .u64 (c : Int), .int .u64 (t : Int)]) : Calls Try.prog 11 #[.pointer (some ⟨p, 0, none⟩), .int .u64 (a : Int), .int .i64 n] w fun e w' => e = .returned (.tuple #[.int .u64 (E.getN t (a % 8 * 8 : Nat) (8 * n) : Nat), .bool true]) ∧ Below w.heap.size w w' := by
  obtain ⟨k, hk, hk2, hk3, hk4, hk5⟩ := mayB_k h
  have ha : a < 18446744073709551616 := by omega
  have ca : ∀ w, Calls Try.prog 22 #[.int .u64 (a : Int), .int .i64 n] w fun e w' => e = .returned (.bool true) ∧ w' = w := fun w => by
    have h1 := allowed_any a n ha w
    rw [h] at h1
    exact h1
  have hw8 : IntKind.i64.wrap (8 * n) = 8 * n := by
    rcases hk2 with rfl | rfl <;> subst hk <;> decide
  have cr : ∀ w, Calls Try.prog 24 #[.pointer (some ⟨p, 0, none⟩), .int .u64 (a : Int)] w fun e w' => e = .returned (.pointer (some ⟨p, 2, none⟩)) ∧ w' = w := fun w => register_now p a ha h2 w
  have co : ∀ w, Calls Try.prog 26 #[.int .u64 (a : Int)] w fun e w' => e = .returned (.int .i64 (a % 8 * 8 : Nat)) ∧ w' = w := fun w => bitof_any a ha w
  have cg := fun V => get_q t (a % 8 * 8) (8 * n) (by assumption) (by omega) V
  have f0 := hx.cell 2 _ rfl
  have h00 : ¬ (a : Int) = 0 := by omega
  have hb0 : ((a : Int) == 0) = false := by simp; omega
  clear h hk hk2 hk3 hk4 hk5 hx h2
  generalize a % 8 * 8 = o at *
  go_enter Try.func11, Try.ntmps11
  go_wp2_with fail
  refine (ca _).mono ?_
  rintro e w' ⟨rfl, rfl⟩
  go_wp2_with fail
  refine (cr _).mono ?_
  rintro e w' ⟨rfl, rfl⟩
  go_wp2_with fail
  go_quiet (first | (go_at_call 26; exact Calls.quiet_of_same (co _)) | (go_at_call 28; exact Calls.quiet_of (cg _)))
  go_wp2_with fail
  go_ret2
  exact ⟨rfl, below_drewN (Below.refl _ _) _⟩
theorem load_else (p : Nat) (s : Bool) (c t a : Nat) (n : Int) (hc : c < 18446744073709551616) (ht : t < 18446744073709551616) (h : mayB a n = true) (h0 : ¬ a = 0) (h1 : ¬ a - a % 8 = 16384) (h2 : ¬ a - a % 8 = 49144) (w : World) (hx : Box 26 w p #[.bool s, .int .u64 (c : Int), .int .u64 (t : Int)]) : Calls Try.prog 11 #[.pointer (some ⟨p, 0, none⟩), .int .u64 (a : Int), .int .i64 n] w fun e w' => e = .returned (.tuple #[.int .u64 0, .bool true]) ∧ Below w.heap.size w w' := by
  obtain ⟨k, hk, hk2, hk3, hk4, hk5⟩ := mayB_k h
  have ha : a < 18446744073709551616 := by omega
  have ca : ∀ w, Calls Try.prog 22 #[.int .u64 (a : Int), .int .i64 n] w fun e w' => e = .returned (.bool true) ∧ w' = w := fun w => by
    have h1 := allowed_any a n ha w
    rw [h] at h1
    exact h1
  have hw8 : IntKind.i64.wrap (8 * n) = 8 * n := by
    rcases hk2 with rfl | rfl <;> subst hk <;> decide
  have cr : ∀ w, Calls Try.prog 24 #[.pointer (some ⟨p, 0, none⟩), .int .u64 (a : Int)] w fun e w' => e = .returned (.pointer none) ∧ w' = w := fun w => register_none p a ha h1 h2 w
  have h00 : ¬ (a : Int) = 0 := by omega
  have hb0 : ((a : Int) == 0) = false := by simp; omega
  clear h hk hk2 hk3 hk4 hk5 hx h1 h2
  go_enter Try.func11, Try.ntmps11
  go_wp2_with fail
  refine (ca _).mono ?_
  rintro e w' ⟨rfl, rfl⟩
  go_wp2_with fail
  refine (cr _).mono ?_
  rintro e w' ⟨rfl, rfl⟩
  go_wp2_with fail
  go_ret2
  exact ⟨rfl, Below.refl _ _⟩
theorem load_any (p : Nat) (s : Bool) (c t a : Nat) (n : Int) (hc : c < 18446744073709551616) (ht : t < 18446744073709551616) (ha : a < 18446744073709551616) (w : World) (hx : Box 26 w p #[.bool s, .int .u64 (c : Int), .int .u64 (t : Int)]) : Calls Try.prog 11 #[.pointer (some ⟨p, 0, none⟩), .int .u64 (a : Int), .int .i64 n] w fun e w' => e = .returned (.tuple #[.int .u64 (loadR s c t a n : Nat), .bool (mayB a n)]) ∧ Below w.heap.size w w' := by
  unfold loadR
  cases h : mayB a n
  · rw [if_pos rfl]
    refine (load_no p a n ha h w).mono ?_
    rintro e w' ⟨rfl, rfl⟩
    exact ⟨rfl, Below.refl _ _⟩
  rw [if_neg (by simp)]
  by_cases h0 : a = 0
  · rw [if_pos h0]; exact load_msip p s c t a n hc ht h h0 w hx
  rw [if_neg h0]
  by_cases h1 : a - a % 8 = 16384
  · rw [if_pos h1]; exact load_cmp p s c t a n hc ht h h0 h1 w hx
  rw [if_neg h1]
  by_cases h2 : a - a % 8 = 49144
  · rw [if_pos h2]; exact load_now p s c t a n hc ht h h0 h2 w hx
  rw [if_neg h2]; exact load_else p s c t a n hc ht h h0 h1 h2 w hx
end Go.Proofs.Ytaiagfdlglidfaa
