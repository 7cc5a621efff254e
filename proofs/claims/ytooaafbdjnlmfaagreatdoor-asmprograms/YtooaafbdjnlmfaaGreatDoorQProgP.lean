/- AsmPrograms: what the frame asks. -/
import Derived.Test.YtooaafbdjnlmfaaGreatDoorQDWithA
import Derived.Test.YtooaafbdjnlmfaaGreatDoorQLooked
import Derived.Test.YtooaafbdjnlmfaaGreatDoorQProgL
namespace Go.Proofs.YtooaafbdjnlmfaaGreatDoor
open Go.RowKit
theorem programs_core {W0 : World} (a : Option Addr) (n cap : Nat) (tx : Nat → ByteArray) (hl : LinesIn W0 a n tx) (W : World) (hWW : W = W0) (hT : TabsE W ∧ Laid W) : Calls Tryz.prog 5 #[.slice a n cap] W fun e w' => e = .returned (.bool true) ∧ Below W.heap.size W w' :=
  programs_any (fun l k aq rl h1 h2 hl h3 => with_tells k aq rl (PLof l) h1 h2 h3 (fun p hp => by have := pl_len l p hp; omega)) a n cap tx hl W hWW hT
end Go.Proofs.YtooaafbdjnlmfaaGreatDoor
