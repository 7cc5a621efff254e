/- The document's small calls of layer 11: May, Lines, get, set; the statements' is and flag. -/
import Derived.Test.YtaiagfdlglidfaaCp
namespace Go.Proofs.Ytaiagfdlglidfaa
open Go.RowKit
set_option linter.unusedVariables false
set_option linter.unusedSimpArgs false
set_option maxRecDepth 100000
theorem may_k (a : Nat) (k : Int) (hk : k = 4 ∨ k = 8) (ha : a < 18446744073709551616) (w : World) : Calls Try.prog 19 #[.int .u64 (a : Int), .int .i64 k] w fun e w' => e = .returned (.bool (mayB a k)) ∧ w' = w := by
  have c2 : ∀ w, Calls Try.prog 31 #[.int .u64 (a : Int), .int .u64 k, .int .u64 0, .int .u64 65536] w fun e w' => e = .returned (.bool (inB a k 0 65536)) ∧ w' = w := fun w => rwithin_any a k 0 65536 (by omega) (by omega) (by omega) (by omega) w
  rw [mayB_parts a k hk]
  rcases hk with rfl | rfl
  · cases hd : ((a : Int) % 4 == 0)
    all_goals
      generalize inB a 4 0 65536 = i at *
      have e1 : decide ((a : Int) % 4 = 0) = ((a : Int) % 4 == 0) := rfl
      rw [hd] at e1
      go_enter Try.func19, Try.ntmps19
      go_wp2_with (go_at_call 31; refine (c2 _).mono ?_; rintro e w' ⟨rfl, rfl⟩)
      go_ret
      exact ⟨by simp, rfl⟩
  · cases hd : ((a : Int) % 8 == 0)
    all_goals
      generalize inB a 8 0 65536 = i at *
      have e1 : decide ((a : Int) % 8 = 0) = ((a : Int) % 8 == 0) := rfl
      rw [hd] at e1
      go_enter Try.func19, Try.ntmps19
      go_wp2_with (go_at_call 31; refine (c2 _).mono ?_; rintro e w' ⟨rfl, rfl⟩)
      go_ret
      exact ⟨by simp, rfl⟩
theorem dmay_any (a : Nat) (n : Int) (ha : a < 18446744073709551616) (w : World) : Calls Try.prog 19 #[.int .u64 (a : Int), .int .i64 n] w fun e w' => e = .returned (.bool (mayB a n)) ∧ w' = w := by
  by_cases h4 : n = 4
  · exact may_k a n (.inl h4) ha w
  by_cases h8 : n = 8
  · exact may_k a n (.inr h8) ha w
  rw [mayB_no a n h4 h8]
  have b4 : (n == 4) = false := by simp [h4]
  have b8 : (n == 8) = false := by simp [h8]
  go_enter Try.func19, Try.ntmps19
  go_wp2_with fail
  go_ret
  exact ⟨rfl, rfl⟩
theorem flag_any (b : Bool) (w : World) : Calls Try.prog 17 #[.bool b] w fun e w' => e = .returned (.int .u64 (flN b : Nat)) ∧ w' = w := by
  cases b
  all_goals
    go_enter Try.func17, Try.ntmps17
    go_wp2_with fail
    go_ret
    exact ⟨by simp [flN], rfl⟩
theorem dlines_any (s : Bool) (c t : Nat) (w : World) : Calls Try.prog 16 #[.agg #[.bool s, .int .u64 (c : Int), .int .u64 (t : Int)]] w fun e w' => e = .returned (.int .u64 (linesR s c t : Nat)) ∧ Below w.heap.size w w' := by
  unfold linesR
  by_cases h : c ≤ t
  · have h1 : (c : Int) ≤ (t : Int) := by omega
    rw [show decide (c ≤ t) = true from by simp [h]]
    cases s
    all_goals
      go_enter Try.func16, Try.ntmps16
      go_wp2_with fail
      go_ret
      exact ⟨by simp [flN], (Below.refl _ _).alloc (Nat.le_refl _) _⟩
  · have h1 : ¬ (c : Int) ≤ (t : Int) := by omega
    rw [show decide (c ≤ t) = false from by simp; omega]
    cases s
    all_goals
      go_enter Try.func16, Try.ntmps16
      go_wp2_with fail
      go_ret
      exact ⟨by simp [flN], (Below.refl _ _).alloc (Nat.le_refl _) _⟩
theorem is_any (s : Bool) (c t : Nat) (w : World) : Calls Try.prog 14 #[.agg #[.bool s, .int .u64 (c : Int), .int .u64 (t : Int)], .agg #[.bool s, .int .u64 (c : Int), .int .u64 (t : Int)]] w fun e w' => e = .returned (.bool true) ∧ Below w.heap.size w w' := by
  have e0 : (s == s) = true := by simp
  have e1 : ((c : Int) == (c : Int)) = true := by simp
  have e2 : ((t : Int) == (t : Int)) = true := by simp
  go_enter Try.func14, Try.ntmps14
  go_wp2_with fail
  go_ret
  exact ⟨by simp, ((Below.refl _ _).alloc (Nat.le_refl _) _).alloc ((Below.refl _ _).alloc (Nat.le_refl _) _).size _⟩
end Go.Proofs.Ytaiagfdlglidfaa
