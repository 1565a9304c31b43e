/-
  Joined: HoD.
-/
import Derived.Test.YtokakgjcegmabaaGreatDoorUP
namespace Go.Proofs.YtokakgjcegmabaaGreatDoor.Ho
set_option maxRecDepth 100000
set_option linter.unusedVariables false
set_option linter.unusedSimpArgs false
open Go.RowKit
open List (getElem_toArray getElem_cons_zero getElem_cons_succ setIfInBounds_toArray set_cons_zero set_cons_succ)

end Go.Proofs.YtokakgjcegmabaaGreatDoor.Ho
