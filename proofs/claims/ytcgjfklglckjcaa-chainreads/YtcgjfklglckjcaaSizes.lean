/- The document's answers Right and Has of layer 2; the statement on sizes returns true for every input. -/
import Derived.Test.YtcgjfklglckjcaaAwake
namespace Go.Proofs.Ytcgjfklglckjcaa
open Go.RowKit Go.Maps
set_option linter.unusedVariables false
theorem rhas_any (s x L : Nat) (v : Value) (hs : s < 18446744073709551616) (hx : x < 18446744073709551616) (hL : L < 18446744073709551616) (w : World) :
    Calls Try.prog 17 #[.agg #[.int .u64 (s : Nat), v], .int .u64 (x : Nat), .int .u64 (L : Nat)] w fun e w' => e = .returned (.bool (inB x L 2147483648 s)) ∧ Below w.heap.size w w' := by
  go_enter Try.func17, Try.ntmps17
  go_wp2_with (first | (go_at_call 43; refine (rwithin_any _ _ _ _ (by omega) (by omega) (by omega) (by omega) _).mono ?_; rintro e w' ⟨rfl, rfl⟩))
  go_ret
  exact ⟨rfl, (Below.refl _ _).alloc (Nat.le_refl _) _⟩
end Go.Proofs.Ytcgjfklglckjcaa
