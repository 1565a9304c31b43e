/-
  Joined: HoD.
-/
import Derived.Test.YtbgooppmhgaicaaGreatDoorAP
namespace Go.Proofs.YtbgooppmhgaicaaGreatDoor.Ho
set_option maxRecDepth 100000
set_option linter.unusedVariables false
set_option linter.unusedSimpArgs false
open Go.RowKit
open List (getElem_toArray getElem_cons_zero getElem_cons_succ setIfInBounds_toArray set_cons_zero set_cons_succ)

theorem toL_inj {a b : ByteArray} (h : a.toList = b.toList) : a = b := by
  rw [ByteArray.toList_eq, ByteArray.toList_eq] at h
  cases a; cases b; simp only [ByteArray.mk.injEq]; exact Array.toList_inj.1 h
end Go.Proofs.YtbgooppmhgaicaaGreatDoor.Ho
