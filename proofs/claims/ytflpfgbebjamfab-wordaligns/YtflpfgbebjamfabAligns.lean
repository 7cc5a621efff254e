/- The call Aligned of layer 1 answers whether the one word is divided by the other; the statement on it returns true for every input. -/
import Derived.Test.YtflpfgbebjamfabAwake
import Derived.OpenShut
import Derived.Deep.QuietTactic
import Derived.BigQuiet
namespace Go.Proofs.Ytflpfgbebjamfab
open Go.RowKit
theorem aligned_zero (a : Int) (w : World) : Calls Try.prog 9 #[.int .u64 a, .int .u64 0] w fun e w' => e = .returned (.bool true) ∧ w' = w := by
  go_enter Try.func9, Try.ntmps9
  go_wp2
  go_ret
  exact ⟨rfl, rfl⟩
theorem aligned_pos (a b : Int) (ha : 0 ≤ a) (hb : 0 < b) (w : World) : Calls Try.prog 9 #[.int .u64 a, .int .u64 b] w fun e w' => e = .returned (.bool (a % b == 0)) ∧ w' = w := by
  have h : (b == 0) = false := by simp; omega
  go_enter Try.func9, Try.ntmps9
  go_wp2
  go_ret
  exact ⟨rfl, rfl⟩
theorem aligns_walk (a0 : Int) (a1 : Int) (w0 : (Lit.int .u64 a0).wf = true) (w1 : (Lit.int .i64 a1).wf = true) (w : World) :
    Calls Try.prog 4 #[.int .u64 a0, .int .i64 a1] w fun e w' => e = .returned (.bool true) ∧ ∃ n, w' = w.drewN n := by
  have b0 := bounds_u64 w0
  by_cases h0 : a1 < 0
  · go_enter Try.func4, Try.ntmps4
    go_wp2_with (first | (go_at_call 6; refine (awake_any _).mono ?_; rintro e w' ⟨rfl, rfl⟩) | (go_at_call 9; refine (aligned_zero _ _).mono ?_; rintro e w' ⟨rfl, rfl⟩))
    go_ret
    exact ⟨rfl, 0, rfl⟩
  by_cases h1 : 63 < a1
  · go_enter Try.func4, Try.ntmps4
    go_wp2_with (first | (go_at_call 6; refine (awake_any _).mono ?_; rintro e w' ⟨rfl, rfl⟩) | (go_at_call 9; refine (aligned_zero _ _).mono ?_; rintro e w' ⟨rfl, rfl⟩))
    go_ret
    exact ⟨rfl, 0, rfl⟩
  have hp : 0 < IntKind.u64.wrap (2 ^ a1.toNat) := by
    obtain ⟨k, rfl⟩ : ∃ k : Fin 64, a1 = (k.val : Int) := ⟨⟨a1.toNat, by omega⟩, by simp; omega⟩
    revert k
    decide +kernel
  go_enter Try.func4, Try.ntmps4
  go_wp2_with (first | (go_at_call 6; refine (awake_any _).mono ?_; rintro e w' ⟨rfl, rfl⟩))
  generalize IntKind.u64.wrap (2 ^ a1.toNat) = B at *
  have hB : (B == 0) = false := by simp; omega
  go_quiet ((go_at_call 9; exact Calls.quiet_of_same (aligned_pos _ _ (by omega) (by omega) _)))
  go_wp2
  go_ret
  exact ⟨by simp, _, rfl⟩
end Go.Proofs.Ytflpfgbebjamfab
