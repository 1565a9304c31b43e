/-
  Joined: EnC EnL.
-/
import Derived.Test.YtbgooppmhgaicaaGreatDoorCW
import Derived.Test.YtbgooppmhgaicaaGreatDoorCR
import Derived.Test.YtbgooppmhgaicaaGreatDoorCS4
import Derived.Test.YtbgooppmhgaicaaGreatDoorCN
import Derived.Deep.Cut
namespace Go.Proofs.YtbgooppmhgaicaaGreatDoor.En
set_option maxRecDepth 100000
set_option linter.unusedVariables false
set_option linter.unusedSimpArgs false
open Go.RowKit
open List (getElem_toArray getElem_cons_zero getElem_cons_succ setIfInBounds_toArray set_cons_zero set_cons_succ)

open Ho (Rg reb rgAt ringR)
end Go.Proofs.YtbgooppmhgaicaaGreatDoor.En

namespace Go.Proofs.YtbgooppmhgaicaaGreatDoor.En
set_option maxRecDepth 100000
set_option linter.unusedVariables false
set_option linter.unusedSimpArgs false
open Go.RowKit
open List (getElem_toArray getElem_cons_zero getElem_cons_succ setIfInBounds_toArray set_cons_zero set_cons_succ)

open Ho (fi_one gs_one rwG wpL_bldG S0 ok10 Rg rgAt)
theorem rtK : Rt.RT Tryz.prog 23 3 [.string ⟨#[]⟩, .int .i64 0, .int .i64 0] := ⟨rfl, .inl ⟨_, Tryz.underlying23⟩, by kernel_rfl⟩
/-- The entry that is asked about. -/
def e5 : En := (⟨⟨#[33, 104, 97, 108, 108, 58, 48]⟩, 1, 5, z32e, ⟨#[120]⟩, ⟨#[]⟩⟩ : En)
def f5 (G : ByteArray) : En := (⟨⟨#[33, 104, 97, 108, 108, 58, 48]⟩, 1, 5, z32e, ⟨#[120]⟩, G⟩ : En)
def f6 (G : ByteArray) : En := (⟨⟨#[33, 104, 97, 108, 108, 58, 48]⟩, 1, 6, z32e, ⟨#[120]⟩, G⟩ : En)
theorem e5_ok : eOk e5 = true := by decide +kernel
theorem f6_ok {G : ByteArray} (h : G.size ≤ 8192) : eOk (f6 G) = true := wSigE_ok (x := (⟨⟨#[33, 104, 97, 108, 108, 58, 48]⟩, 1, 6, z32e, ⟨#[120]⟩, ⟨#[]⟩⟩ : En)) (by decide +kernel) h
end Go.Proofs.YtbgooppmhgaicaaGreatDoor.En
