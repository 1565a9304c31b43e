
/-
  power: what the examples ask.
-/
import Derived.Test.YtiakfopdohcigaaGreatDoorPwK
namespace Go.Proofs.YtiakfopdohcigaaGreatDoor
set_option maxRecDepth 100000
set_option linter.unusedVariables false
set_option linter.unusedSimpArgs false
open Go.RowKit Rw


def lvl : Lv := ⟨0, 50, 0, 50, 50, 50, [((⟨#[64, 97, 110, 110, 58, 48]⟩ : ByteArray), 100)]⟩
def lvm : Lv := ⟨0, 50, 0, 50, 50, 50, [((⟨#[64, 97, 110, 110, 58, 48]⟩ : ByteArray), 100), ((⟨#[64, 98, 111, 98, 58, 49]⟩ : ByteArray), 100)]⟩
theorem l_ps : psL (⟨#[48, 32, 53, 48, 32, 48, 32, 53, 48, 32, 53, 48, 32, 53, 48, 32, 64, 97, 110, 110, 58, 48, 32, 49, 48, 48]⟩ : ByteArray) = some lvl := by kernel_rfl
theorem l_px : psL (⟨#[48, 32, 53, 48, 32, 48, 32, 53, 48, 32, 53, 48, 32, 53, 48, 32, 64, 97, 110, 110, 58, 48]⟩ : ByteArray) = none := by kernel_rfl
theorem l_tx : txV lvl = (⟨#[48, 32, 53, 48, 32, 48, 32, 53, 48, 32, 53, 48, 32, 53, 48, 32, 64, 97, 110, 110, 58, 48, 32, 49, 48, 48]⟩ : ByteArray) := by kernel_rfl
theorem l_e : lvE lvl = 0 := by kernel_rfl
theorem l_c1 : chE lvl lvm (⟨#[64, 97, 110, 110, 58, 48]⟩ : ByteArray) = 0 := by kernel_rfl
theorem l_c2 : chE lvl lvm (⟨#[64, 98, 111, 98, 58, 49]⟩ : ByteArray) = 12 := by kernel_rfl
theorem l_c3 : chE lvm lvl (⟨#[64, 97, 110, 110, 58, 48]⟩ : ByteArray) = 12 := by kernel_rfl
theorem l_o1 : ofL lvl (⟨#[64, 97, 110, 110, 58, 48]⟩ : ByteArray) = 100 := by kernel_rfl
theorem l_o2 : ofL lvl (⟨#[64, 98, 111, 98, 58, 49]⟩ : ByteArray) = 0 := by kernel_rfl
theorem l_f : fsL (⟨#[64, 97, 110, 110, 58, 48]⟩ : ByteArray) = lvl := by kernel_rfl
theorem l_b : lvE ⟨101, 0, 0, 0, 0, 0, []⟩ = 2 := by kernel_rfl
end Go.Proofs.YtiakfopdohcigaaGreatDoor
