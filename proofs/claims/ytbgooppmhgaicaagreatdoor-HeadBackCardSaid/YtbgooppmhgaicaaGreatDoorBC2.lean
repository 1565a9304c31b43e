/-
  Joined: IdF IdG IdH.
-/
import Derived.Test.YtbgooppmhgaicaaGreatDoorBC
namespace Go.Proofs.YtbgooppmhgaicaaGreatDoor
set_option maxRecDepth 100000
set_option linter.unusedVariables false
set_option linter.unusedSimpArgs false
open Go.RowKit
end Go.Proofs.YtbgooppmhgaicaaGreatDoor

namespace Go.Proofs.YtbgooppmhgaicaaGreatDoor
set_option maxRecDepth 100000
set_option linter.unusedVariables false
set_option linter.unusedSimpArgs false
open Go.RowKit
end Go.Proofs.YtbgooppmhgaicaaGreatDoor

namespace Go.Proofs.YtbgooppmhgaicaaGreatDoor
set_option maxRecDepth 100000
set_option linter.unusedVariables false
set_option linter.unusedSimpArgs false
open Go.RowKit
end Go.Proofs.YtbgooppmhgaicaaGreatDoor
