import Derived.Test.YtokakgjcegmabaaGreatDoorJW
import Derived.Test.YtokakgjcegmabaaGreatDoorJR
set_option linter.unusedVariables false
set_option linter.unusedSimpArgs false
set_option maxHeartbeats 64000000
set_option maxRecDepth 100000
namespace Go.Proofs.YtokakgjcegmabaaGreatDoor.En
open Go.RowKit
open List (getElem_toArray getElem_cons_zero getElem_cons_succ setIfInBounds_toArray set_cons_zero set_cons_succ)
open Ho (Rg reb rgAt ringR)
end Go.Proofs.YtokakgjcegmabaaGreatDoor.En
