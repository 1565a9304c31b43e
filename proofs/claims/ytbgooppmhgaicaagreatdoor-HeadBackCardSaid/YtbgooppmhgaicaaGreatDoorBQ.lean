/-
  Joined: HoD.
-/
import Derived.Test.YtbgooppmhgaicaaGreatDoorBP
namespace Go.Proofs.YtbgooppmhgaicaaGreatDoor.Ho
set_option maxRecDepth 100000
set_option linter.unusedVariables false
set_option linter.unusedSimpArgs false
open Go.RowKit
open List (getElem_toArray getElem_cons_zero getElem_cons_succ setIfInBounds_toArray set_cons_zero set_cons_succ)
end Go.Proofs.YtbgooppmhgaicaaGreatDoor.Ho
