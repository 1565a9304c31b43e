import Derived.Test.YtbgooppmhgaicaaGreatDoorEW
import Derived.Test.YtbgooppmhgaicaaGreatDoorER
import Derived.Test.YtbgooppmhgaicaaGreatDoorES4
import Derived.Test.YtbgooppmhgaicaaGreatDoorEN
import Derived.Deep.Cut
set_option linter.unusedVariables false
set_option linter.unusedSimpArgs false
set_option maxHeartbeats 64000000
set_option maxRecDepth 100000
namespace Go.Proofs.YtbgooppmhgaicaaGreatDoor.En
open Go.RowKit
open List (getElem_toArray getElem_cons_zero getElem_cons_succ setIfInBounds_toArray set_cons_zero set_cons_succ)
open Ho (Rg reb rgAt ringR)
end Go.Proofs.YtbgooppmhgaicaaGreatDoor.En
namespace Go.Proofs.YtbgooppmhgaicaaGreatDoor.En
open Go.RowKit
open List (getElem_toArray getElem_cons_zero getElem_cons_succ setIfInBounds_toArray set_cons_zero set_cons_succ)
open Ho (fi_one gs_one rwG wpL_bldG S0 ok10 Rg rgAt)
theorem rtK : Rt.RT Tryz.prog 23 3 [.string ⟨#[]⟩, .int .i64 0, .int .i64 0] := ⟨rfl, .inl ⟨_, Tryz.underlying23⟩, by kernel_rfl⟩
def e5 : En := (⟨⟨#[33, 104, 97, 108, 108, 58, 48]⟩, 1, 5, z32e, ⟨#[120]⟩, ⟨#[]⟩⟩ : En)
def f5 (G : ByteArray) : En := (⟨⟨#[33, 104, 97, 108, 108, 58, 48]⟩, 1, 5, z32e, ⟨#[120]⟩, G⟩ : En)
def f6 (G : ByteArray) : En := (⟨⟨#[33, 104, 97, 108, 108, 58, 48]⟩, 1, 6, z32e, ⟨#[120]⟩, G⟩ : En)
theorem e5_ok : eOk e5 = true := by decide +kernel
theorem f6_ok {G : ByteArray} (h : G.size ≤ 8192) : eOk (f6 G) = true := wSigE_ok (x := (⟨⟨#[33, 104, 97, 108, 108, 58, 48]⟩, 1, 6, z32e, ⟨#[120]⟩, ⟨#[]⟩⟩ : En)) (by decide +kernel) h
end Go.Proofs.YtbgooppmhgaicaaGreatDoor.En
