import Derived.Test.YtokakgjcegmabaaGreatDoorLPA
import Derived.Test.YtokakgjcegmabaaGreatDoorLS0
import Derived.Test.YtokakgjcegmabaaGreatDoorLR
import Derived.Test.YtokakgjcegmabaaGreatDoorLX
import Derived.Test.YtokakgjcegmabaaGreatDoorLU3
set_option linter.unusedVariables false
set_option linter.unusedSimpArgs false
set_option maxHeartbeats 64000000
set_option maxRecDepth 100000
namespace Go.Proofs.YtokakgjcegmabaaGreatDoor.Pf
open Go.RowKit
open List (getElem_toArray getElem_cons_zero getElem_cons_succ setIfInBounds_toArray set_cons_zero set_cons_succ)
open Hd
open Ho (inE inV in_zero in_not al_sz allInt_any)
open En (eOk eE eT eE_yes eE_no esmV er er_some erV erE eread_any En naI naS)
open En (eT_yes eL eL_ok eOk_parts wSigE er_back erL esV esE esR esign_any etext_any z32e)
open Ho (fi_one gs_one rwG Rg rgAt ringR)
def hA:Hd:=⟨⟨#[33,104,97,108,108,58,48]⟩,0,5,z32e,⟨#[]⟩⟩
theorem rtKy:Rt.RT Tryz.prog 23 3 [.string ⟨#[]⟩,.int .i64 0,.int .i64 0]:=⟨rfl,.inl ⟨_,Tryz.underlying23⟩,by kernel_rfl⟩
end Go.Proofs.YtokakgjcegmabaaGreatDoor.Pf
