
/-
  The document's All and Same.
-/
import Derived.Test.YtbgooppmhgaicabOctH
namespace Go.Proofs.Ytbgooppmhgaicab
set_option linter.unusedVariables false
set_option linter.unusedSimpArgs false
set_option maxRecDepth 100000
open Go.RowKit

theorem glGo_bd (s : ByteArray) (k p : Nat) (xs : List ByteArray) (hp : p ≤ s.size) (hx : ∀ t ∈ xs, t.size ≤ 8192) :
    (glGo s k p xs).2.1 ≤ s.size ∧ (glGo s k p xs).2.2 ≤ 7 ∧ (glGo s k p xs).1.length ≤ xs.length + k ∧ ∀ t ∈ (glGo s k p xs).1, t.size ≤ 8192 := by
  induction k generalizing p xs with
  | zero => simp only [glGo]; exact ⟨hp, by omega, by omega, hx⟩
  | succ k ih =>
    have hb := gt_bd (s.extract p s.size)
    rw [glGo]
    split
    · simp only; exact ⟨by omega, hb.2.1, by simp, by simp⟩
    · have := ih (p + (gt (s.extract p s.size)).2.1) (xs ++ [(gt (s.extract p s.size)).1]) (by have := hb.1; simp at this; omega) (by
        intro t ht
        rcases List.mem_append.1 ht with h | h
        · exact hx t h
        · simp at h; subst h; exact hb.2.2)
      refine ⟨this.1, this.2.1, ?_, this.2.2.2⟩
      have h2 := this.2.2.1; simp at h2; omega
theorem gl_bd (s : ByteArray) : (gl s).2.1 ≤ s.size ∧ (gl s).2.2 ≤ 7 ∧ (gl s).1.length ≤ 256 ∧ ∀ t ∈ (gl s).1, t.size ≤ 8192 := by
  unfold gl
  have hb := gn_bd s.data.toList
  simp only
  split
  · simp; omega
  · split
    · simp
    · have := glGo_bd s (gn s.data.toList).1 (gn s.data.toList).2.1 [] (by have := hb.2.2.1; simpa using this) (by simp)
      refine ⟨this.1, this.2.1, ?_, this.2.2.2⟩
      have h2 := this.2.2.1; simp at h2; omega

def al (s : ByteArray) : List ByteArray × Nat :=
  if (gl s).2.2 ≠ 0 then ([], (gl s).2.2) else if (gl s).2.1 < s.size then ([], 6) else ((gl s).1, 0)

theorem strsNil (w : World) : StrsAt w (.slice none 0 0) [] := ⟨none, 0, rfl, fun k hk => by simp at hk⟩

def sameB (ss tt : List ByteArray) : Bool := decide (ss = tt)
theorem sameB_len {ss tt : List ByteArray} (h : ss.length ≠ tt.length) : sameB ss tt = false := by unfold sameB; simp; intro e; exact h (by rw [e])
theorem sameB_at {ss tt : List ByteArray} (k : Nat) (h : k < ss.length) (h' : k < tt.length) (hne : ss[k] ≠ tt[k]) : sameB ss tt = false := by unfold sameB; simp; intro e; subst e; exact hne rfl
theorem sameB_all {ss tt : List ByteArray} (hl : ss.length = tt.length) (h : ∀ k (h : k < ss.length) (h' : k < tt.length), ss[k] = tt[k]) : sameB ss tt = true := by
  unfold sameB; simp; exact List.ext_getElem hl h
theorem sameB_self (ss : List ByteArray) : sameB ss ss = true := by unfold sameB; simp

end Go.Proofs.Ytbgooppmhgaicab
