
/-
  palaverref02.Unhex.
-/
import Derived.Test.YtmbghbdhiihcnaaDoorShaJ
namespace Go.Proofs.YtmbghbdhiihcnaaDoor
set_option linter.unusedVariables false
set_option linter.unusedSimpArgs false
open Go.RowKit

end Go.Proofs.YtmbghbdhiihcnaaDoor
