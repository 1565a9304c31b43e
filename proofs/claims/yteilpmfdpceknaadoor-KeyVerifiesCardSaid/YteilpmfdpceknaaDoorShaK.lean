
/-
  palaverref02.Unhex.
-/
import Derived.Test.YteilpmfdpceknaaDoorShaJ
namespace Go.Proofs.YteilpmfdpceknaaDoor
set_option linter.unusedVariables false
set_option linter.unusedSimpArgs false
open Go.RowKit

end Go.Proofs.YteilpmfdpceknaaDoor
