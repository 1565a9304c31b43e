/-
  Joined: IdF IdG IdH.
-/
import Derived.Test.YtokakgjcegmabaaGreatDoorUC
namespace Go.Proofs.YtokakgjcegmabaaGreatDoor
set_option maxRecDepth 100000
set_option linter.unusedVariables false
set_option linter.unusedSimpArgs false
open Go.RowKit
end Go.Proofs.YtokakgjcegmabaaGreatDoor

namespace Go.Proofs.YtokakgjcegmabaaGreatDoor
set_option maxRecDepth 100000
set_option linter.unusedVariables false
set_option linter.unusedSimpArgs false
open Go.RowKit
end Go.Proofs.YtokakgjcegmabaaGreatDoor

namespace Go.Proofs.YtokakgjcegmabaaGreatDoor
set_option maxRecDepth 100000
set_option linter.unusedVariables false
set_option linter.unusedSimpArgs false
open Go.RowKit
end Go.Proofs.YtokakgjcegmabaaGreatDoor
