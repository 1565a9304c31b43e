/-
  Joined: EnW.
-/
import Derived.Test.YtldokjbfnhgamaaGreatDoorXX
namespace Go.Proofs.YtldokjbfnhgamaaGreatDoor.En
set_option maxRecDepth 100000
set_option linter.unusedVariables false
set_option linter.unusedSimpArgs false
open Go.RowKit
open List (getElem_toArray getElem_cons_zero getElem_cons_succ setIfInBounds_toArray set_cons_zero set_cons_succ)

theorem epV_ok (t : ByteArray) : (epV t).ok := by
  unfold epV
  cases hp : eP t with
  | none => exact ⟨by decide, rfl, by decide, by decide⟩
  | some x =>
    obtain ⟨h1, h2, h3, h4⟩ := eP_some hp
    obtain ⟨⟨n, g1⟩, -, -, g4, g5⟩ := eOk_parts h1
    have := who_size g1
    exact ⟨by show x.r.size ≤ _; omega, h4, by show x.v.size ≤ _; omega, by show x.g.size ≤ _; omega⟩
end Go.Proofs.YtldokjbfnhgamaaGreatDoor.En
