/- A file of zeros is right. -/
import Derived.Test.YtdljceeoofhfnaaDoorRd
import Derived.Test.YtdljceeoofhfnaaDoorDWa
namespace Go.Proofs.YtdljceeoofhfnaaDoor
open Go.RowKit
theorem ok_zero : Ok fun _ => 0 := fun _ => by show 0 < 18446744073709551616; omega
end Go.Proofs.YtdljceeoofhfnaaDoor
