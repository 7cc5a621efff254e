/- A file of zeros is right. -/
import Derived.Test.YtalgidnmmghejaaRd
import Derived.Test.YtalgidnmmghejaaDWa
namespace Go.Proofs.Ytalgidnmmghejaa.E
open Go.RowKit
theorem ok_zero : Ok fun _ => 0 := fun _ => by show 0 < 18446744073709551616; omega
end Go.Proofs.Ytalgidnmmghejaa.E
