
/-
  palaverref02.Unhex.
-/
import Derived.Test.YtgfdhgnkanekhaaDoorShaJ
namespace Go.Proofs.YtgfdhgnkanekhaaDoor
set_option linter.unusedVariables false
set_option linter.unusedSimpArgs false
open Go.RowKit

end Go.Proofs.YtgfdhgnkanekhaaDoor
