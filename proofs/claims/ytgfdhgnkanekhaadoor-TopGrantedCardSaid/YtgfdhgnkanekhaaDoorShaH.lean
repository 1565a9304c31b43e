
/-
  sha.digit, palaverref02.digit: what a hexadecimal digit stands for.
-/
import Derived.Test.YtgfdhgnkanekhaaDoorShaG
namespace Go.Proofs.YtgfdhgnkanekhaaDoor
set_option linter.unusedVariables false
set_option linter.unusedSimpArgs false
open Go.RowKit

/-- 16: no digit. -/
def dig (c : UInt8) : Nat := if 48 ≤ c.toNat ∧ c.toNat ≤ 57 then c.toNat - 48 else if 97 ≤ c.toNat ∧ c.toNat ≤ 102 then c.toNat - 87 else 16
theorem dig_n (c : UInt8) (n : Nat) (hn : c.toNat = n) : dig c = if 48 ≤ n ∧ n ≤ 57 then n - 48 else if 97 ≤ n ∧ n ≤ 102 then n - 87 else 16 := by rw [← hn]; rfl
end Go.Proofs.YtgfdhgnkanekhaaDoor
