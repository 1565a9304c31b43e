
/-
  octet.Num and the document's: the bytes of a number.
-/
import Derived.Test.YtokakgjcegmabaaOctA
namespace Go.Proofs.Ytokakgjcegmabaa
set_option linter.unusedVariables false
set_option linter.unusedSimpArgs false
open Go.RowKit

def numS (n : Nat) : ByteArray := if n ≤ 281474976710656 then mkS (encN n) else ByteArray.empty
def numE (n : Nat) : Int := if n ≤ 281474976710656 then 0 else 1
theorem numS_yes {n : Nat} (h : n ≤ 281474976710656) : numS n = mkS (encN n) := by unfold numS; rw [if_pos h]
theorem numE_yes {n : Nat} (h : n ≤ 281474976710656) : numE n = 0 := by unfold numE; rw [if_pos h]
theorem numS_no {n : Nat} (h : ¬ n ≤ 281474976710656) : numS n = ByteArray.empty := by unfold numS; rw [if_neg h]
theorem numE_no {n : Nat} (h : ¬ n ≤ 281474976710656) : numE n = 1 := by unfold numE; rw [if_neg h]

theorem rem_byte (m : Nat) : (m : Int) % 128 + 128 = ((contB m).toNat : Int) := by unfold contB; rw [u8n _ (by omega)]; omega

end Go.Proofs.Ytokakgjcegmabaa
