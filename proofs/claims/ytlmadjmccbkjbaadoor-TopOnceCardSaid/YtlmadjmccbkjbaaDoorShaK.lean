
/-
  palaverref02.Unhex.
-/
import Derived.Test.YtlmadjmccbkjbaaDoorShaJ
namespace Go.Proofs.YtlmadjmccbkjbaaDoor
set_option linter.unusedVariables false
set_option linter.unusedSimpArgs false
open Go.RowKit

end Go.Proofs.YtlmadjmccbkjbaaDoor
