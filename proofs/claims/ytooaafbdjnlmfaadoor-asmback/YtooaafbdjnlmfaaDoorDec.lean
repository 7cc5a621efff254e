/- The program's call Decode of layer 3. -/
import Derived.Test.YtooaafbdjnlmfaaDoorOut
import Derived.Test.YtooaafbdjnlmfaaDoorOutI
namespace Go.Proofs.YtooaafbdjnlmfaaDoor
open Go.RowKit
set_option linter.unusedVariables false
set_option linter.unusedSimpArgs false
/-- has a word the bits that tell an operation? -/
def hit (x op : Nat) : Bool := (x &&& fixedT.getD (formsT.getD op 0) 0) == wordsT.getD op 0
/-- what Decode tells of a word and an operation -/
def decC (x o : Nat) : Array Value := instrC (o : Nat) (dP (formsT.getD o 0) 1 128 32 x : Nat) (dP (formsT.getD o 0) 2 32768 32 x : Nat) (dP (formsT.getD o 0) 4 1048576 32 x : Nat) (immD (formsT.getD o 0) x) (dP (formsT.getD o 0) 8 1048576 4096 x : Nat) (dB (formsT.getD o 0) 67108864 x) (dB (formsT.getD o 0) 33554432 x)
theorem fixed_lt : ∀ f, f < 17 → fixedT.getD f 0 < 4294967296 := by decide +kernel
theorem box8_frozen {w : World} {b : Nat} {x0 x1 x2 x3 x4 x5 x6 x7 : Value} {t : TypeId} (h : w.heap[b]? = some (.cells #[x0, x1, x2, x3, x4, x5, x6, x7] t (0, 0))) (i : Nat) : w.frozen? ⟨b, i, none⟩ = false := by
  simp only [World.frozen?, h]
  simp
end Go.Proofs.YtooaafbdjnlmfaaDoor
