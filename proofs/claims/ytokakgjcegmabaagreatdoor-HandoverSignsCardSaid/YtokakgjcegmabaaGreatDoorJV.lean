import Derived.Test.YtokakgjcegmabaaGreatDoorJS4
import Derived.Test.YtokakgjcegmabaaGreatDoorJO
import Derived.Test.YtokakgjcegmabaaGreatDoorJK
set_option linter.unusedVariables false
set_option linter.unusedSimpArgs false
set_option maxHeartbeats 64000000
set_option maxRecDepth 100000
namespace Go.Proofs.YtokakgjcegmabaaGreatDoor.En
open Go.RowKit
open List (getElem_toArray getElem_cons_zero getElem_cons_succ setIfInBounds_toArray set_cons_zero set_cons_succ)
section
variable {ops : Array Oper} {rest : List Oper} {o : Oper} {a : Act} {w w0 : World} {N : Nat} {L : List Mm.Bx} {Q : Exit → Act → World → Prop} {S : World → Prop} {j : Nat} {s : Scr} {K : Act → World → Prop}
end
def hsV (s : ByteArray) : List UInt8 := if s.size = 32 then s.data.toList else z32
def hsE (s : ByteArray) : Int := if s.size = 32 then 0 else 6
end Go.Proofs.YtokakgjcegmabaaGreatDoor.En
