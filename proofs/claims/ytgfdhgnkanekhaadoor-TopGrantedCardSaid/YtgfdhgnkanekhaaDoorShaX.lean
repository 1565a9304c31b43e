
/-
  Layer 2: the walks of ShaSums, ShaTurns.
-/
import Derived.Test.YtgfdhgnkanekhaaDoorShaU
namespace Go.Proofs.YtgfdhgnkanekhaaDoor
set_option linter.unusedVariables false
set_option linter.unusedSimpArgs false
open Go.RowKit

theorem eq_row (xs : List UInt8) (hl : xs.length = 32) (A : List Value) (hA : u8s xs = A) : ∀ W, (Op.equalIn 10000 26 (.agg A.toArray) (.agg A.toArray)).run Tryd.prog W = .ok true W := by
  intro W; rw [← hA, eqin_hash W _ _ hl hl, decide_eq_true rfl]
end Go.Proofs.YtgfdhgnkanekhaaDoor
