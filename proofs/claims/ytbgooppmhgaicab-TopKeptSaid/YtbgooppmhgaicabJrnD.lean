
/-
  The document's Read of a journal.
-/
import Derived.Test.YtbgooppmhgaicabJrnC
namespace Go.Proofs.Ytbgooppmhgaicab
set_option maxRecDepth 100000
set_option linter.unusedVariables false
set_option linter.unusedSimpArgs false
open Go.RowKit

/-- The first record, as the document asks for it. -/
theorem fst1_err {s : ByteArray} {t : ByteArray} {j e : Nat} (h : gt s = (t, j, e)) (he : e ≠ 0) : fst1 s = none := by
  unfold fst1; rw [h]; simp only; rw [if_pos he]
theorem fst1_short {s : ByteArray} {t : ByteArray} {j : Nat} (h : gt s = (t, j, 0)) (hj : s.size < j + 4) : fst1 s = none := by
  unfold fst1; rw [h]; simp only; rw [if_neg (by simp), if_pos hj]
theorem gt_len {s : ByteArray} {t : ByteArray} {j : Nat} (h : gt s = (t, j, 0)) : (recB t).length = j + 4 := by
  obtain ⟨g1, g2, g3⟩ := gt_again _ _ _ h
  rw [recB_len, g1, List.length_take, size_toList]; omega
theorem fst1_bad {s : ByteArray} {t : ByteArray} {j : Nat} (h : gt s = (t, j, 0)) (hne : s.data.toList.take (j + 4) ≠ recB t) : fst1 s = none := by
  cases hf : fst1 s with
  | none => rfl
  | some x =>
    obtain ⟨t', k⟩ := x
    obtain ⟨r, h1, h2, h3⟩ := fst1_again _ _ _ hf
    exfalso
    have hg : gt s = (t', (encT t').length, 0) := by
      have e1 : s = mkS (encT t' ++ (bytesL (sumL (encT t')) ++ r)) := by
        apply ba_ext; rw [h1, mkS_data]; unfold recB; rw [List.append_assoc]
      rw [e1]; exact gt_back t' h3 _
    rw [h] at hg
    simp only [Prod.mk.injEq, and_true] at hg
    obtain ⟨rfl, rfl⟩ := hg
    apply hne
    rw [h1, ← recB_len, List.take_left]

theorem OwnV.form {w : World} {B e : Nat} {v : Value} {l : List Value} (h : OwnV w B e v l) : ∃ a n c, v = .slice a n c := by
  rcases h.2 with ⟨h, _⟩ | ⟨g, cap, cur, h, _⟩
  · exact ⟨_, _, _, h⟩
  · exact ⟨_, _, _, h⟩
end Go.Proofs.Ytbgooppmhgaicab
