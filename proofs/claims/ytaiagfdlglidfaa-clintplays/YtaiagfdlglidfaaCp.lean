/- Package clint's small calls: allowed, register, bitOf, bitIf, Begin, Tick. -/
import Derived.Test.YtaiagfdlglidfaaCn
namespace Go.Proofs.Ytaiagfdlglidfaa
open Go.RowKit
set_option linter.unusedVariables false
set_option linter.unusedSimpArgs false
set_option maxRecDepth 100000
theorem mayB_parts (a : Nat) (k : Int) (h : k = 4 ∨ k = 8) : mayB a k = (((a : Int) % k == 0) && inB a k 0 65536) := by
  unfold mayB inB
  rw [Bool.eq_iff_iff]
  simp [h]
theorem mayB_no (a : Nat) (n : Int) (h4 : ¬ n = 4) (h8 : ¬ n = 8) : mayB a n = false := by
  unfold mayB; simp [h4, h8]
theorem allowed_4 (a : Nat) (ha : a < 18446744073709551616) (w : World) : Calls Try.prog 22 #[.int .u64 (a : Int), .int .i64 4] w fun e w' => e = .returned (.bool (mayB a 4)) ∧ w' = w := by
  have c1 : ∀ w, Calls Try.prog 33 #[.int .u64 (a : Int), .int .u64 4] w fun e w' => e = .returned (.bool ((a : Int) % 4 == 0)) ∧ w' = w := fun w => aligned_pos a 4 (by omega) (by omega) w
  have c2 : ∀ w, Calls Try.prog 34 #[.int .u64 (a : Int), .int .u64 4, .int .u64 0, .int .u64 65536] w fun e w' => e = .returned (.bool (inB a 4 0 65536)) ∧ w' = w := fun w => within_any a 4 0 65536 (by omega) (by omega) (by omega) (by omega) w
  rw [mayB_parts a 4 (.inl rfl)]
  generalize ((a : Int) % 4 == 0) = d at *
  generalize inB a 4 0 65536 = i at *
  clear ha
  cases d
  all_goals
    go_enter Try.func22, Try.ntmps22
    go_wp2_with (first | (go_at_call 33; refine (c1 _).mono ?_; rintro e w' ⟨rfl, rfl⟩) | (go_at_call 34; refine (c2 _).mono ?_; rintro e w' ⟨rfl, rfl⟩))
    go_ret
    exact ⟨by simp, rfl⟩
theorem allowed_8 (a : Nat) (ha : a < 18446744073709551616) (w : World) : Calls Try.prog 22 #[.int .u64 (a : Int), .int .i64 8] w fun e w' => e = .returned (.bool (mayB a 8)) ∧ w' = w := by
  have c1 : ∀ w, Calls Try.prog 33 #[.int .u64 (a : Int), .int .u64 8] w fun e w' => e = .returned (.bool ((a : Int) % 8 == 0)) ∧ w' = w := fun w => aligned_pos a 8 (by omega) (by omega) w
  have c2 : ∀ w, Calls Try.prog 34 #[.int .u64 (a : Int), .int .u64 8, .int .u64 0, .int .u64 65536] w fun e w' => e = .returned (.bool (inB a 8 0 65536)) ∧ w' = w := fun w => within_any a 8 0 65536 (by omega) (by omega) (by omega) (by omega) w
  rw [mayB_parts a 8 (.inr rfl)]
  generalize ((a : Int) % 8 == 0) = d at *
  generalize inB a 8 0 65536 = i at *
  clear ha
  cases d
  all_goals
    go_enter Try.func22, Try.ntmps22
    go_wp2_with (first | (go_at_call 33; refine (c1 _).mono ?_; rintro e w' ⟨rfl, rfl⟩) | (go_at_call 34; refine (c2 _).mono ?_; rintro e w' ⟨rfl, rfl⟩))
    go_ret
    exact ⟨by simp, rfl⟩
theorem allowed_any (a : Nat) (n : Int) (ha : a < 18446744073709551616) (w : World) : Calls Try.prog 22 #[.int .u64 (a : Int), .int .i64 n] w fun e w' => e = .returned (.bool (mayB a n)) ∧ w' = w := by
  by_cases h4 : n = 4
  · subst h4; exact allowed_4 a ha w
  by_cases h8 : n = 8
  · subst h8; exact allowed_8 a ha w
  rw [mayB_no a n h4 h8]
  have b4 : (n == 4) = false := by simp [h4]
  have b8 : (n == 8) = false := by simp [h8]
  go_enter Try.func22, Try.ntmps22
  go_wp2_with fail
  go_ret
  exact ⟨rfl, rfl⟩
theorem reg_num (a : Nat) (ha : a < 18446744073709551616) : IntKind.u64.wrap ((a : Int) - (a : Int) % 8) = ((a - a % 8 : Nat) : Int) := by rw [wrap_u64]; omega
theorem register_cmp (p a : Nat) (ha : a < 18446744073709551616) (h : a - a % 8 = 16384) (w : World) : Calls Try.prog 24 #[.pointer (some ⟨p, 0, none⟩), .int .u64 (a : Int)] w fun e w' => e = .returned (.pointer (some ⟨p, 1, none⟩)) ∧ w' = w := by
  have hw := reg_num a ha
  rw [h] at hw
  have hi : (a : Int) - (a : Int) % 8 = 16384 := by omega
  clear h
  go_enter Try.func24, Try.ntmps24
  go_wp2_with fail
  go_ret
  exact ⟨rfl, rfl⟩
theorem register_now (p a : Nat) (ha : a < 18446744073709551616) (h : a - a % 8 = 49144) (w : World) : Calls Try.prog 24 #[.pointer (some ⟨p, 0, none⟩), .int .u64 (a : Int)] w fun e w' => e = .returned (.pointer (some ⟨p, 2, none⟩)) ∧ w' = w := by
  have hw := reg_num a ha
  rw [h] at hw
  have hi : (a : Int) - (a : Int) % 8 = 49144 := by omega
  clear h
  go_enter Try.func24, Try.ntmps24
  go_wp2_with fail
  go_ret
  exact ⟨rfl, rfl⟩
theorem register_none (p a : Nat) (ha : a < 18446744073709551616) (h1 : ¬ a - a % 8 = 16384) (h2 : ¬ a - a % 8 = 49144) (w : World) : Calls Try.prog 24 #[.pointer (some ⟨p, 0, none⟩), .int .u64 (a : Int)] w fun e w' => e = .returned (.pointer none) ∧ w' = w := by
  have e1 : ((a : Int) - (a : Int) % 8 == 16384) = false := by simp; omega
  have e2 : ((a : Int) - (a : Int) % 8 == 49144) = false := by simp; omega
  have e3 : ¬ (a : Int) - (a : Int) % 8 = 16384 := by omega
  have e4 : ¬ (a : Int) - (a : Int) % 8 = 49144 := by omega
  clear h1 h2
  go_enter Try.func24, Try.ntmps24
  go_wp2_with fail
  go_ret
  exact ⟨rfl, rfl⟩
theorem bitof_any (a : Nat) (ha : a < 18446744073709551616) (w : World) : Calls Try.prog 26 #[.int .u64 (a : Int)] w fun e w' => e = .returned (.int .i64 (a % 8 * 8 : Nat)) ∧ w' = w := by
  go_enter Try.func26, Try.ntmps26
  go_wp2_with fail
  go_ret
  exact ⟨by first | rfl | (congr 2; omega) | go_num, rfl⟩
/-- the word with this bit alone -/
def bitV (z : Int) : Nat := E.hiOf (E.setF (fun i => ([z] : List Int).getD i 0) 1) 64 0
theorem bits_one (z : Int) (w : World) : Calls Try.prog 36 #[.slice (some ⟨w.heap.size, 0, none⟩) 1 1] (w.alloc (.cells #[.int .i64 z] 3)) fun e w' => e = .returned (.int .u64 (bitV z : Nat)) ∧ w' = w.alloc (.cells #[.int .i64 z] 3) := by
  have hr : E.ReadsV (w.alloc (.cells #[.int .i64 z] 3)) (.slice (some ⟨w.heap.size, 0, none⟩) 1 1) 1 (fun i => .int .i64 ((fun i => ([z] : List Int).getD i 0) i)) := by
    refine .inr ⟨w.heap.size, 0, 1, rfl, fun i hi => ?_⟩
    have hh := heap_alloc_new w (.cells #[.int .i64 z] 3)
    obtain rfl : i = 0 := by omega
    exact cellOf hh _ _ rfl
  exact E.wbits_any (fun i => ([z] : List Int).getD i 0) 1 _ (by omega) _ hr
theorem bitif_any (b : Bool) (z : Int) (w : World) : Calls Try.prog 27 #[.bool b, .int .i64 z] w fun e w' => e = .returned (.int .u64 (flN b * bitV z : Nat)) ∧ Below w.heap.size w w' := by
  have h := bits_one z w
  generalize bitV z = r at *
  cases b
  · go_enter Try.func27, Try.ntmps27
    go_wp2_with fail
    go_ret
    exact ⟨by simp [flN], Below.refl _ _⟩
  · rw [show flN true * r = r from by simp [flN]]
    go_enter Try.func27, Try.ntmps27
    go_wp2_with fail
    refine h.mono ?_
    rintro e w' ⟨rfl, rfl⟩
    go_wp2_with fail
    go_ret
    exact ⟨rfl, (Below.refl _ _).alloc (Nat.le_refl _) _⟩
theorem bitV_0 : bitV 0 = 1 := by decide +kernel
theorem bitV_3 : bitV 3 = 8 := by decide +kernel
theorem bitV_7 : bitV 7 = 128 := by decide +kernel
theorem begin_any (w : World) : Calls Try.prog 8 #[] w fun e w' => e = .returned (.agg #[.bool false, .int .u64 18446744073709551615, .int .u64 0]) ∧ Below w.heap.size w w' := by
  have hm : ∀ w, Calls Try.prog 18 #[.int .i64 64] w fun e w' => e = .returned (.int .u64 18446744073709551615) ∧ w' = w := fun w => by
    have h := E.mask_any 64 64 (by decide) w
    exact h
  go_enter Try.func8, Try.ntmps8
  go_wp2_with (go_at_call 18; refine (hm _).mono ?_; rintro e w' ⟨rfl, rfl⟩)
  refine bodyPost_ret (v := .agg #[.bool false, .int .u64 18446744073709551615, .int .u64 0]) (by simp [results, Try.results8, go_sem]) rfl ⟨rfl, ?_⟩
  exact (Below.refl _ _).alloc (Nat.le_refl _) _
/-- the time goes on, what is beyond 64 bits is lost -/
def tickR (t n : Nat) : Nat := (t + n) % 18446744073709551616
theorem tickR_lt (t n : Nat) : tickR t n < 18446744073709551616 := Nat.mod_lt _ (by decide)
theorem tick_num (t n : Nat) : IntKind.u64.wrap ((t : Int) + (n : Int)) = ((tickR t n : Nat) : Int) := by rw [wrap_u64]; unfold tickR; omega
theorem tick_any (p : Nat) (s : Bool) (c t n : Nat) (w : World) (hx : Box 26 w p #[.bool s, .int .u64 (c : Int), .int .u64 (t : Int)]) : Calls Try.prog 13 #[.pointer (some ⟨p, 0, none⟩), .int .u64 (n : Int)] w fun e w' => e = .returned (.tuple #[]) ∧ Box 26 w' p #[.bool s, .int .u64 (c : Int), .int .u64 (tickR t n : Nat)] ∧ Upon p w w' := by
  have f2 := hx.cell 2 _ rfl
  have z2 := hx.frozen 2
  have hn := tick_num t n
  have HX : Hid (Box 26 w p #[.bool s, .int .u64 (c : Int), .int .u64 (t : Int)]) := hx
  clear hx
  go_enter Try.func13, Try.ntmps13
  go_wp2_with fail
  go_end0
  exact ⟨rfl, HX.out.set 2 _, (Upon.refl _ _).set 2 _⟩
end Go.Proofs.Ytaiagfdlglidfaa
