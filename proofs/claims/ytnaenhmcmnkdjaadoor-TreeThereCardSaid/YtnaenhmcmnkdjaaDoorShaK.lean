
/-
  palaverref02.Unhex.
-/
import Derived.Test.YtnaenhmcmnkdjaaDoorShaJ
namespace Go.Proofs.YtnaenhmcmnkdjaaDoor
set_option linter.unusedVariables false
set_option linter.unusedSimpArgs false
open Go.RowKit

end Go.Proofs.YtnaenhmcmnkdjaaDoor
