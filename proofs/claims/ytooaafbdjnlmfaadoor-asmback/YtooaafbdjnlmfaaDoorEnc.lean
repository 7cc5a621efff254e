/- The program's call Encode of layer 3. -/
import Derived.Test.YtooaafbdjnlmfaaDoorIn
import Derived.Deep.RegionHeld3
namespace Go.Proofs.YtooaafbdjnlmfaaDoor
open Go.RowKit
set_option linter.unusedVariables false
set_option linter.unusedSimpArgs false
end Go.Proofs.YtooaafbdjnlmfaaDoor
