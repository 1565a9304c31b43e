
/-
  disk: the document's Check, New, Write, Sync, Swap, Fail.
-/
import Derived.Test.YtbgooppmhgaicabDskD
import Derived.Deep.QuietTactic
namespace Go.Proofs.Ytbgooppmhgaicab
set_option maxRecDepth 100000
set_option linter.unusedVariables false
set_option linter.unusedSimpArgs false
open Go.RowKit

theorem rminK (W : World) (ts : Array TypeId) (k : Int) (n y : Nat) (h : y ≤ n) : (Builtin.min_ ts 3 #[.int .i64 k, .int .i64 ((n : Int) - (y : Int))]).run Try.prog W = .ok (.int .i64 (min k ((n : Int) - (y : Int)))) W := by
  go_simp
  first | done | (congr 2; first | done | omega | (split <;> omega))
theorem rmax0 (W : World) (ts : Array TypeId) (k : Int) (n y : Nat) (h : y ≤ n) : (Builtin.max_ ts 3 #[.int .i64 0, .int .i64 (min k ((n : Int) - (y : Int)))]).run Try.prog W = .ok (.int .i64 ((keepN n y k : Nat) : Int)) W := by
  have e : ((keepN n y k : Nat) : Int) = max 0 (min k ((n : Int) - (y : Int))) := by unfold keepN; omega
  rw [e]
  generalize min k ((n : Int) - (y : Int)) = m
  go_simp
  first | done | (congr 2; first | done | omega | (split <;> omega))
end Go.Proofs.Ytbgooppmhgaicab
