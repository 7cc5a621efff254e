/- The call 'awake' of the statements of layer 1 returns true and leaves the world as it was. -/
import Derived.Test.YtflpfgbebjamfabDoorRows
import Derived.WalkKit
import Derived.WalkSpells
import Derived.WalkLawsBesides
namespace Go.Proofs.YtflpfgbebjamfabDoor
open Go.RowKit

theorem awake_num : IntKind.u64.wrap (wrap64 9223372036854775808 / 72057594037927936) = 18446744073709551488 := by decide +kernel
theorem awake_any (w : World) : Calls Tryd.prog 4 #[] w fun e w' => e = .returned (.bool true) ∧ w' = w := by
  have h := awake_num
  go_enter Tryd.func4, Tryd.ntmps4
  go_wp2
  go_ret
  exact ⟨rfl, rfl⟩
end Go.Proofs.YtflpfgbebjamfabDoor
