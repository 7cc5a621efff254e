/- A file of zeros is right. -/
import Derived.Test.YtdljceeoofhfnaaRd
import Derived.Test.YtdljceeoofhfnaaDWa
namespace Go.Proofs.Ytdljceeoofhfnaa
open Go.RowKit
theorem ok_zero : Ok fun _ => 0 := fun _ => by show 0 < 18446744073709551616; omega
end Go.Proofs.Ytdljceeoofhfnaa
