
/-
  octet.Num and the document's: the bytes of a number.
-/
import Derived.Test.YtbgooppmhgaicabOctA
namespace Go.Proofs.Ytbgooppmhgaicab
set_option linter.unusedVariables false
set_option linter.unusedSimpArgs false
set_option maxRecDepth 100000
open Go.RowKit

def numS (n : Nat) : ByteArray := if n ≤ 281474976710656 then mkS (encN n) else ByteArray.empty
def numE (n : Nat) : Int := if n ≤ 281474976710656 then 0 else 1
theorem numS_yes {n : Nat} (h : n ≤ 281474976710656) : numS n = mkS (encN n) := by unfold numS; rw [if_pos h]
theorem numE_yes {n : Nat} (h : n ≤ 281474976710656) : numE n = 0 := by unfold numE; rw [if_pos h]
theorem numS_no {n : Nat} (h : ¬ n ≤ 281474976710656) : numS n = ByteArray.empty := by unfold numS; rw [if_neg h]
theorem numE_no {n : Nat} (h : ¬ n ≤ 281474976710656) : numE n = 1 := by unfold numE; rw [if_neg h]

set_option maxHeartbeats 1000000 in
theorem num_any (w : World) (n : Nat) (hn : n < 18446744073709551616) :
    Calls Try.prog 14 #[.int .u64 n] w fun e w' => e = .returned (.tuple #[.string (numS n), .int .i64 (numE n)]) ∧ Below w.heap.size w w' := by
  by_cases h : n ≤ 281474976710656
  · rw [numS_yes h, numE_yes h]
    go_enter Try.func14, Try.ntmps14
    go_wp2_with fail
    refine (addNum_own w w.heap.size (.slice none 0 0) [] n hn (by simp) (Own.nil _ _ _) (Nat.le_refl _)).mono ?_
    rintro e w1 ⟨v', rfl, ho, hb⟩
    have hc := run_str_own Try.underlying50 Try.underlying5 Try.underlying9 ho
    clear ho
    go_wp2
    go_ret2
    exact ⟨rfl, hb⟩
  · rw [numS_no h, numE_no h]
    go_enter Try.func14, Try.ntmps14
    go_wp2
    go_ret2
    exact ⟨rfl, Below.refl _ _⟩

theorem rem_byte (m : Nat) : (m : Int) % 128 + 128 = ((contB m).toNat : Int) := by unfold contB; rw [u8n _ (by omega)]; omega

end Go.Proofs.Ytbgooppmhgaicab
