
/-
  octet.pieces: the iterator over a list's texts.
-/
import Derived.Test.YtokakgjcegmabaaOctI
import Derived.RangeFuncNested
import Derived.RangeFuncBound
import Derived.RangeFuncCalls
import Derived.RangeFuncLeaves
import Derived.RangeFuncBox
import Derived.Shelf.Abstract
import Derived.Shelf.RegionOpen
import Derived.OwnWalkIn
import Derived.TacticsInMore
import Derived.LoopNIn
import Derived.LoopIn
namespace Go.Proofs.Ytokakgjcegmabaa
set_option linter.unusedVariables false
set_option linter.unusedSimpArgs false
open Go.RowKit Go.Shelf
attribute [local go_sem] Oper.semAt_some

/-- What one round is handed: the text, its size, the error. -/
abbrev Pc := { x : ByteArray × Nat × Nat // x.1.size ≤ 8192 ∧ x.2.1 ≤ 8199 ∧ x.2.2 ≤ 7 }
def encP (x : Pc) : Array Value := #[.agg #[.string x.1.1, .int .i64 x.1.2.1, .int .i64 x.1.2.2]]
theorem gt_bd2 (s : ByteArray) : (gt s).1.size ≤ 8192 ∧ (gt s).2.1 ≤ 8199 ∧ (gt s).2.2 ≤ 7 := by
  refine ⟨(gt_bd s).2.2, ?_, (gt_bd s).2.1⟩
  unfold gt
  have hb := gn_bd s.data.toList
  simp only
  repeat' split
  all_goals simp
  omega
def gtP (s : ByteArray) : Pc := ⟨gt s, gt_bd2 s⟩
def pcs : Nat → ByteArray → List Pc
  | 0, _ => []
  | k + 1, s => gtP s :: (if (gt s).2.2 ≠ 0 then [] else pcs k (s.extract (gt s).2.1 s.size))

theorem grown_of_below {w w' : World} (h : Below w.heap.size w w') : w.grownBy w' none := ⟨h.os, h.tape, h.output, h.size, fun k hk _ => h.block k hk⟩

end Go.Proofs.Ytokakgjcegmabaa
