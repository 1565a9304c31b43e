
/-
  The document's List; GetText of both.
-/
import Derived.Test.YtokakgjcegmabaaOctF
namespace Go.Proofs.Ytokakgjcegmabaa
set_option linter.unusedVariables false
set_option linter.unusedSimpArgs false
open Go.RowKit

/-- What is read is small. -/
theorem gnAux_bd (k i acc : Nat) (l : List UInt8) : (gnAux k i acc l).1 ≤ 281474976710656 ∧ (gnAux k i acc l).2.1 ≤ i + k ∧ (gnAux k i acc l).2.1 ≤ i + l.length ∧ (gnAux k i acc l).2.2 ≤ 6 := by
  induction k generalizing i acc l with
  | zero => simp [gnAux]
  | succ k ih =>
    cases l with
    | nil => simp [gnAux]
    | cons b r =>
      rw [gnAux]
      split
      · obtain ⟨h1, h2, h3, h4⟩ := ih (i + 1) (acc + b.toNat % 128 * 128 ^ i) r
        refine ⟨h1, by omega, by simp; omega, h4⟩
      · split
        · simp
        · rename_i h; refine ⟨by simp only; omega, by simp only; omega, by simp, by simp⟩
theorem gn_bd (l : List UInt8) : (gn l).1 ≤ 281474976710656 ∧ (gn l).2.1 ≤ 7 ∧ (gn l).2.1 ≤ l.length ∧ (gn l).2.2 ≤ 6 := by
  have := gnAux_bd 7 0 0 l; simpa [gn] using this

/-- The text that bytes begin with: the text, its size, the error. -/
def gt (s : ByteArray) : ByteArray × Nat × Nat :=
  let r := gn s.data.toList
  if r.2.2 ≠ 0 then (ByteArray.empty, 0, r.2.2) else if 8192 < r.1 then (ByteArray.empty, 0, 7) else if s.size < r.2.1 + r.1 then (ByteArray.empty, 0, 5) else (s.extract r.2.1 (r.2.1 + r.1), r.2.1 + r.1, 0)
def tupT (r : ByteArray × Nat × Nat) : Value := .tuple #[.string r.1, .int .i64 r.2.1, .int .i64 r.2.2]

theorem errB {e : Nat} (h : e ≠ 0) : (((e : Nat) : Int) != 0) = true := by simp; omega
theorem errB0 {e : Nat} (h : e = 0) : (((e : Nat) : Int) != 0) = false := by simp; omega

end Go.Proofs.Ytokakgjcegmabaa
