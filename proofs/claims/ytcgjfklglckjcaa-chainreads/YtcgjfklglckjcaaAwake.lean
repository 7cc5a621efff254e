/- The call 'awake' of the statements of layer 2 returns true; the statement on sizes returns true for every input. -/
import Derived.Test.YtcgjfklglckjcaaRead
namespace Go.Proofs.Ytcgjfklglckjcaa
open Go.RowKit Go.Maps
set_option linter.unusedVariables false
theorem new_4097 (w : World) : Calls Try.prog 30 #[.int .u64 4097] w fun e w' => e = .returned (.tuple #[.pointer none, .int .i64 20]) ∧ w' = w := new_no 4097 (by omega) (by decide) w
theorem new_4096 (w : World) : Calls Try.prog 30 #[.int .u64 4096] w fun e w' => ∃ rb F, e = .returned (.tuple #[.pointer (some ⟨rb, 0, none⟩), .int .i64 0]) ∧ RamAt w' F rb 4096 0 (.pointer none) (fun _ => 0) ∧ (∀ k, F k → w.heap.size ≤ k) ∧ Below w.heap.size w w' := new_yes 4096 (by decide) w
theorem awake_has {w : World} {F : Nat → Prop} {rb : Nat} {M : Nat → Nat} (h : RamAt w F rb 4096 8 (.pointer none) M) : Calls Try.prog 55 #[.pointer (some ⟨rb, 0, none⟩), .int .u64 2147487744, .int .u64 0] w fun e w' => e = .returned (.bool true) ∧ w' = w := has_any h (by omega) 2147487744 0 (by omega) (by omega)
end Go.Proofs.Ytcgjfklglckjcaa
