
/-
  The document's GetNum.
-/
import Derived.Test.YtokakgjcegmabaaOctC
namespace Go.Proofs.Ytokakgjcegmabaa
set_option linter.unusedVariables false
set_option linter.unusedSimpArgs false
open Go.RowKit

/-- What is read of bytes that are a number's is written by these, just if it is not too long, and not too great. -/
theorem gn_last (s : ByteArray) (i acc : Nat) (hi : i < s.size) (hp : ∀ x ∈ s.data.toList.take i, 128 ≤ x.toNat) (hacc : acc = valN (s.data.toList.take i)) (b : Nat) (hb : (s[i]'hi).toNat = b) (hb1 : b < 128) :
    mkS (encN (acc + b % 128 * 128 ^ i)) = s.extract 0 (i + 1) ↔ ¬ (0 < i ∧ b = 0) := by
  have e1 : s.extract 0 (i + 1) = mkS (s.data.toList.take i ++ [s[i]'hi]) := by
    apply ByteArray.ext
    rw [ByteArray.data_extract]
    apply Array.toList_inj.1
    have e := List.take_succ_eq_append_getElem (l := s.data.toList) (i := i) (by simpa using hi)
    exact (by simp [List.extract] : _ = List.take (i + 1) s.data.toList).trans e
  have hl : (s.data.toList.take i).length = i := by simp; have : s.data.size = s.size := rfl; omega
  have e2 : acc + b % 128 * 128 ^ i = valN (s.data.toList.take i ++ [s[i]'hi]) := by rw [valN_snoc, hl, hb, hacc]
  rw [e1, e2]
  constructor
  · intro h ⟨h1, h2⟩
    have := encN_last _ _ _ (mkS_inj h) (by rw [hb]; exact h2)
    rw [this] at hl; simp at hl; omega
  · intro h
    congr 1
    refine enc_val _ _ hp (by omega) ?_
    by_cases h0 : i = 0
    · left; subst h0; simp
    · right; rw [hb]; omega

theorem valN_take (s : ByteArray) (i : Nat) (hi : i < s.size) (b : Nat) (hb : (s[i]'hi).toNat = b) : valN (s.data.toList.take (i + 1)) = valN (s.data.toList.take i) + b % 128 * 128 ^ i := by
  have hl : (s.data.toList.take i).length = i := by simp; have : s.data.size = s.size := rfl; omega
  rw [List.take_succ_eq_append_getElem (by simpa using hi), valN_snoc, hl]
  subst hb; rfl
theorem take_all (s : ByteArray) (i : Nat) (hi : i < s.size) (hp : ∀ x ∈ s.data.toList.take i, 128 ≤ x.toNat) (hb : 128 ≤ (s[i]'hi).toNat) : ∀ x ∈ s.data.toList.take (i + 1), 128 ≤ x.toNat := by
  intro x hx
  rw [List.take_succ_eq_append_getElem (by simpa using hi)] at hx
  rcases List.mem_append.1 hx with h | h
  · exact hp x h
  · simp at h; subst h; exact hb

theorem toList_yes {a b : ByteArray} (h : a = b) : (a.toList == b.toList) = true := by subst h; simp
theorem toList_no {a b : ByteArray} (h : a ≠ b) : (a.toList == b.toList) = false := by
  rw [beq_eq_false_iff_ne, ByteArray.toList_eq, ByteArray.toList_eq]
  intro e; exact h (ByteArray.ext (Array.toList_inj.1 e))
theorem pow7 : (128 : Nat) ^ 7 = 562949953421312 := by decide

end Go.Proofs.Ytokakgjcegmabaa
