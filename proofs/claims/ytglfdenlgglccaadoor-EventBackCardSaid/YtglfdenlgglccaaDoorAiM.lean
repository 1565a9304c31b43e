
/-
  octet: the number that a whole text is.
-/
import Derived.Test.YtglfdenlgglccaaDoorAiN
import Derived.Test.YtglfdenlgglccaaDoorEvM
namespace Go.Proofs.YtglfdenlgglccaaDoor.Ai
set_option maxRecDepth 100000
set_option linter.unusedVariables false
set_option linter.unusedSimpArgs false
open Go.RowKit

theorem nm_some {s : ByteArray} {n : Nat} (h : numOf s = some n) : nmE s = 0 ∧ nmV s = n := by
  unfold numOf at h
  split at h
  · rename_i hh
    have e : nmE s = 0 := by unfold nmE; rw [if_neg (by simp [hh.1]), if_neg (by omega)]
    refine ⟨e, ?_⟩
    unfold nmV; rw [if_pos e]; simpa using h
  · cases h
theorem nm_none {s : ByteArray} (h : numOf s = none) : nmE s ≠ 0 := by
  have hb := gn_bd s.data.toList
  have hz := size_toList s
  unfold numOf at h
  split at h
  · cases h
  · rename_i hh
    unfold nmE
    by_cases h0 : (gn s.data.toList).2.2 = 0
    · rw [if_neg (by simp [h0]), if_pos (by have : ¬ (gn s.data.toList).2.1 = s.size := fun g => hh ⟨h0, g⟩; omega)]; decide
    · rw [if_pos h0]; omega
theorem nm_zero {s : ByteArray} (h : nmE s = 0) : numOf s = some (nmV s) := by
  cases hn : numOf s with
  | none => exact absurd h (nm_none hn)
  | some n => rw [(nm_some hn).2]
end Go.Proofs.YtglfdenlgglccaaDoor.Ai
