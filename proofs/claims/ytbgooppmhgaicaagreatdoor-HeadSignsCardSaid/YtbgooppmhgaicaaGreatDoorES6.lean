import Derived.Test.YtbgooppmhgaicaaGreatDoorEU0
import Derived.Test.YtbgooppmhgaicaaGreatDoorES5
import Derived.Test.YtbgooppmhgaicaaGreatDoorES4
import Derived.Test.YtbgooppmhgaicaaGreatDoorER2
set_option linter.unusedVariables false
set_option linter.unusedSimpArgs false
set_option maxHeartbeats 64000000
set_option maxRecDepth 100000
namespace Go.Proofs.YtbgooppmhgaicaaGreatDoor.Hd
open Go.RowKit
open En (eOk eT esmV vf_other path6 rootP z32e)
def UU : List UInt8 := [249, 200, 118, 160, 220, 29, 98, 80, 156, 131, 132, 93, 67, 34, 73, 193, 190, 169, 101, 119, 90, 52, 91, 237, 241, 72, 83, 182, 99, 232, 233, 38]
theorem sum5 : esmV (⟨⟨#[33, 104, 97, 108, 108, 58, 48]⟩, 1, 5, z32e, ⟨#[120]⟩, ⟨#[]⟩⟩ : En.En) = UU := by
 unfold esmV
 rw [if_pos (by decide +kernel), En.t5, shaF_eq]; decide +kernel
theorem t5 : (jT (⟨⟨#[33, 104, 97, 108, 108, 58, 48]⟩, 1, 5, UU, ⟨#[]⟩⟩ : Hd)).data.toList = [5, 4, 104, 101, 97, 100, 7, 33, 104, 97, 108, 108, 58, 48, 1, 1, 1, 5, 32, 249, 200, 118, 160, 220, 29, 98, 80, 156, 131, 132, 93, 67, 34, 73, 193, 190, 169, 101, 119, 90, 52, 91, 237, 241, 72, 83, 182, 99, 232, 233, 38] := by decide +kernel
theorem t6 : (jT (⟨⟨#[33, 104, 97, 108, 108, 58, 48]⟩, 2, 5, UU, ⟨#[]⟩⟩ : Hd)).data.toList = [5, 4, 104, 101, 97, 100, 7, 33, 104, 97, 108, 108, 58, 48, 1, 2, 1, 5, 32, 249, 200, 118, 160, 220, 29, 98, 80, 156, 131, 132, 93, 67, 34, 73, 193, 190, 169, 101, 119, 90, 52, 91, 237, 241, 72, 83, 182, 99, 232, 233, 38] := by decide +kernel
theorem climb6 : climbV [221, 4, 90, 159, 118, 155, 4, 154, 155, 157, 137, 243, 29, 75, 25, 62, 173, 167, 239, 229, 52, 139, 42, 82, 161, 155, 52, 217, 140, 45, 65, 28] ((0 : Nat) : Int) [[116, 114, 126, 235, 204, 156, 53, 229, 79, 85, 47, 115, 7, 142, 228, 51, 173, 35, 236, 27, 117, 190, 31, 217, 22, 236, 238, 183, 255, 165, 187, 204]] = [81, 113, 120, 159, 163, 147, 225, 96, 89, 35, 54, 204, 64, 54, 120, 99, 131, 243, 23, 195, 182, 57, 23, 98, 112, 166, 41, 221, 222, 168, 159, 245] := by
 have ho : okC 1 ((0 : Nat) : Int) = true := by decide +kernel
 unfold climbV
 rw [show ([[116, 114, 126, 235, 204, 156, 53, 229, 79, 85, 47, 115, 7, 142, 228, 51, 173, 35, 236, 27, 117, 190, 31, 217, 22, 236, 238, 183, 255, 165, 187, 204]] : List (List UInt8)).length = 1 from rfl, if_pos ho]
 show abvL [221, 4, 90, 159, 118, 155, 4, 154, 155, 157, 137, 243, 29, 75, 25, 62, 173, 167, 239, 229, 52, 139, 42, 82, 161, 155, 52, 217, 140, 45, 65, 28] [116, 114, 126, 235, 204, 156, 53, 229, 79, 85, 47, 115, 7, 142, 228, 51, 173, 35, 236, 27, 117, 190, 31, 217, 22, 236, 238, 183, 255, 165, 187, 204] = _
 rw [abvL_eq, shaF_eq]
 rw [show txtL [221, 4, 90, 159, 118, 155, 4, 154, 155, 157, 137, 243, 29, 75, 25, 62, 173, 167, 239, 229, 52, 139, 42, 82, 161, 155, 52, 217, 140, 45, 65, 28] [116, 114, 126, 235, 204, 156, 53, 229, 79, 85, 47, 115, 7, 142, 228, 51, 173, 35, 236, 27, 117, 190, 31, 217, 22, 236, 238, 183, 255, 165, 187, 204] = [1, 221, 4, 90, 159, 118, 155, 4, 154, 155, 157, 137, 243, 29, 75, 25, 62, 173, 167, 239, 229, 52, 139, 42, 82, 161, 155, 52, 217, 140, 45, 65, 28] ++ [116, 114, 126, 235, 204, 156, 53, 229, 79, 85, 47, 115, 7, 142, 228, 51, 173, 35, 236, 27, 117, 190, 31, 217, 22, 236, 238, 183, 255, 165, 187, 204] from by unfold txtL; rfl]
 decide +kernel
theorem vf_six : vfE (rootV (leafL [115] 1)) 1 (jT (⟨⟨#[33, 104, 97, 108, 108, 58, 48]⟩, 2, 5, UU, ⟨#[]⟩⟩ : Hd)) (mkS (sigL [115] 1 0 (jT (⟨⟨#[33, 104, 97, 108, 108, 58, 48]⟩, 1, 5, UU, ⟨#[]⟩⟩ : Hd)).data.toList)) = 9 := by
 have h := vf_other (S := ⟨#[115]⟩) (h := 1) (m := 0) (jT (⟨⟨#[33, 104, 97, 108, 108, 58, 48]⟩, 1, 5, UU, ⟨#[]⟩⟩ : Hd)) (jT (⟨⟨#[33, 104, 97, 108, 108, 58, 48]⟩, 2, 5, UU, ⟨#[]⟩⟩ : Hd)) (rootV (leafL [115] 1)) (by decide) (by decide)
 rw [show (⟨#[115]⟩ : ByteArray).data.toList = [115] from rfl] at h
 refine h.trans ?_
 rw [t5, t6, leaf6, path6, climb6, rootP]
 exact if_neg (by decide)
end Go.Proofs.YtbgooppmhgaicaaGreatDoor.Hd
