
/-
  A row of one's own that is no nil.
-/
import Derived.Test.YtiakfopdohcigaaGreatDoorRw
import Derived.Test.YtiakfopdohcigaaGreatDoorRt
import Derived.Test.YtiakfopdohcigaaGreatDoorBaC
import Derived.Laws.OwnMore
import Derived.Maps.AppendAt
namespace Go.Proofs.YtiakfopdohcigaaGreatDoor
set_option maxRecDepth 100000
set_option linter.unusedVariables false
set_option linter.unusedSimpArgs false
open Go.RowKit Rw
section
variable {T k : Nat}
theorem OwnR.emptyP {B b : Nat} {W : World} (ha : Arr W b T []) (hB : B ≤ b) : OwnR T k W B (.slice (some ⟨b, 0, none⟩) 0 0) [] :=
  OwnR.of_arr (cap := 0) (cur := []) (es := []) AllK.nil ha hB (by simp) (by simp) (by simp) (by simp)
theorem OwnR.blkP {w : World} {B : Nat} {v : Value} {es : List (List Value)} (h : OwnR T k w B v es) (hne : v ≠ .slice none 0 0) :
    ∃ g cap cur, v = .slice (some ⟨g, 0, none⟩) es.length cap ∧ B ≤ g ∧ Arr w g T cur ∧ es.length ≤ cap ∧ cap ≤ maxLen ∧ cur.length = cap * k ∧ cur.take (k * es.length) = es.flatten := by
  rcases h.2.2 with ⟨h0, _⟩ | ⟨g, cap, cur, e, hB, hg, h1, h2, h3, h4⟩
  · exact absurd h0 hne
  · exact ⟨g, cap, cur.toList, e, hB, by unfold Arr; simpa using hg, h1, h2, by simpa using h3, by rw [Nat.mul_comm]; exact h4⟩
end
end Go.Proofs.YtiakfopdohcigaaGreatDoor
