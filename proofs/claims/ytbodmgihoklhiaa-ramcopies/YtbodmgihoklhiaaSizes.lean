/- The document's answers Right and Has of layer 2; the statement on sizes returns true for every input. -/
import Derived.Test.YtbodmgihoklhiaaAwake
namespace Go.Proofs.Ytbodmgihoklhiaa
open Go.RowKit Go.Maps
set_option linter.unusedVariables false
theorem right_any (s : Nat) (w : World) : Calls Try.prog 12 #[.int .u64 (s : Nat)] w fun e w' => e = .returned (.bool (rightB s)) ∧ w' = w := by
  go_enter Try.func12, Try.ntmps12
  go_wp2
  all_goals (go_ret; exact ⟨ret_bool (by rw [Bool.eq_iff_iff]; simp [rightB, *]; try omega), rfl⟩)
theorem rhas_any (s x L : Nat) (v : Value) (hs : s < 18446744073709551616) (hx : x < 18446744073709551616) (hL : L < 18446744073709551616) (w : World) :
    Calls Try.prog 15 #[.agg #[.int .u64 (s : Nat), v], .int .u64 (x : Nat), .int .u64 (L : Nat)] w fun e w' => e = .returned (.bool (inB x L 2147483648 s)) ∧ Below w.heap.size w w' := by
  go_enter Try.func15, Try.ntmps15
  go_wp2_with (first | (go_at_call 31; refine (rwithin_any _ _ _ _ (by omega) (by omega) (by omega) (by omega) _).mono ?_; rintro e w' ⟨rfl, rfl⟩))
  go_ret
  exact ⟨rfl, (Below.refl _ _).alloc (Nat.le_refl _) _⟩
theorem sizes_nat (W : World) (s x L : Nat) (hs : s < 18446744073709551616) (hx : x < 18446744073709551616) (hL : L < 18446744073709551616) :
    Calls Try.prog 4 #[.int .u64 (s : Nat), .int .u64 (x : Nat), .int .u64 (L : Nat)] W fun e w' => e = .returned (.bool true) ∧ Below W.heap.size W w' := by
  cases hr : rightB s with
  | false =>
    have H : Hid (rightB s = false) := hr
    clear hr
    go_enter Try.func4, Try.ntmps4
    go_wp2_with (first | (go_at_call 9; refine (awake_any _).mono ?_; rintro e w1 ⟨rfl, hb1⟩) | (go_at_call 11; refine (new_no s hs H.out _).mono ?_; rintro e w2 ⟨rfl, rfl⟩) | (go_at_call 12; refine (right_any s _).mono ?_; rintro e w3 ⟨rfl, rfl⟩; rw [H.out]))
    go_ret
    exact ⟨rfl, hb1⟩
  | true =>
    have H : Hid (rightB s = true) := hr
    have h' : 4096 ≤ s ∧ s ≤ 268435456 ∧ s % 4096 = 0 := by simpa [rightB] using hr
    have hs2 : s ≤ 268435456 := h'.2.1
    clear hr h'
    go_enter Try.func4, Try.ntmps4
    go_wp2_with (first | (go_at_call 9; refine (awake_any _).mono ?_; rintro e w1 ⟨rfl, hb1⟩) | (go_at_call 11; refine (new_yes s H.out _).mono ?_; rintro e w2 ⟨rb, F, rfl, h2, hF, hb2⟩) | (go_at_call 12; refine (right_any s _).mono ?_; rintro e w3 ⟨rfl, rfl⟩; rw [H.out]) | (go_at_call 13; refine (size_any h2).mono ?_; rintro e w4 ⟨rfl, rfl⟩) | (go_at_call 14; refine (has_any h2 hs2 x L hx hL).mono ?_; rintro e w5 ⟨rfl, rfl⟩) | (go_at_call 15; refine (rhas_any s x L _ hs hx hL _).mono ?_; rintro e w6 ⟨rfl, hb6⟩))
    go_ret
    exact ⟨by simp, hb1.trans ((hb2.trans (hb6.mono hb2.size)).mono hb1.size)⟩
theorem sizes_walk (W : World) (a0 : Int) (w0 : (Lit.int .u64 a0).wf = true) (a1 : Int) (w1 : (Lit.int .u64 a1).wf = true) (a2 : Int) (w2 : (Lit.int .u64 a2).wf = true) :
    Calls Try.prog 4 #[.int .u64 a0, .int .u64 a1, .int .u64 a2] W fun e w' => e = .returned (.bool true) ∧ Below W.heap.size W w' := by
  have b0 := bounds_u64 w0
  have b1 := bounds_u64 w1
  have b2 := bounds_u64 w2
  obtain ⟨s, rfl⟩ : ∃ x : Nat, a0 = x := ⟨a0.toNat, by omega⟩
  obtain ⟨x, rfl⟩ : ∃ x : Nat, a1 = x := ⟨a1.toNat, by omega⟩
  obtain ⟨L, rfl⟩ : ∃ x : Nat, a2 = x := ⟨a2.toNat, by omega⟩
  exact sizes_nat W s x L (by omega) (by omega) (by omega)
end Go.Proofs.Ytbodmgihoklhiaa
