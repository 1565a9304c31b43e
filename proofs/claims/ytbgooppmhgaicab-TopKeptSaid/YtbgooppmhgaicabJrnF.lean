
/-
  journal: the answers that the laws ask for first; the walks of JournalReads and JournalAdds.
-/
import Derived.Test.YtbgooppmhgaicabJrnE
import Derived.Test.YtbgooppmhgaicabDskE
namespace Go.Proofs.Ytbgooppmhgaicab
set_option maxRecDepth 100000
set_option linter.unusedVariables false
set_option linter.unusedSimpArgs false
open Go.RowKit

theorem encT_ab : encT ⟨#[97, 98]⟩ = [2, 97, 98] := by
  unfold encT; rw [show (ByteArray.mk #[97, 98]).size = 2 from rfl, encN_lt (by omega)]; rfl
theorem encT_c : encT ⟨#[99]⟩ = [1, 99] := by
  unfold encT; rw [show (ByteArray.mk #[99]).size = 1 from rfl, encN_lt (by omega)]; rfl
theorem byt_ab : bytesL (sumL [2, 97, 98]) = [162, 14, 66, 65] := by decide +kernel
theorem byt_c : bytesL (sumL [1, 99]) = [115, 72, 69, 239] := by decide +kernel
theorem rec_ab : recB ⟨#[97, 98]⟩ = [2, 97, 98, 162, 14, 66, 65] := by unfold recB; rw [encT_ab, byt_ab]; rfl
theorem rec_c : recB ⟨#[99]⟩ = [1, 99, 115, 72, 69, 239] := by unfold recB; rw [encT_c, byt_c]; rfl
theorem cat_abc : cat [⟨#[97, 98]⟩, ⟨#[99]⟩] = [2, 97, 98, 162, 14, 66, 65, 1, 99, 115, 72, 69, 239] := by
  rw [cat_cons, cat_cons, cat_nil, rec_ab, rec_c]; rfl
theorem small_abc : ∀ t ∈ [(⟨#[97, 98]⟩ : ByteArray), ⟨#[99]⟩], t.size ≤ 8192 := by
  intro t ht; simp at ht; rcases ht with rfl | rfl <;> decide
theorem rd1 : rdT [2, 97, 98, 162, 14, 66, 65, 1, 99, 115, 72, 69, 239, 1] = [⟨#[97, 98]⟩, ⟨#[99]⟩] := by
  have h := rdT_cat [⟨#[97, 98]⟩, ⟨#[99]⟩] small_abc [1]
  rw [cat_abc, rdT_none (l := [1]) (by decide +kernel)] at h
  exact h
theorem rd2 : rdT [2, 97, 98, 162, 14, 66, 65, 1, 99, 115, 72, 69, 239, 1, 100] = [⟨#[97, 98]⟩, ⟨#[99]⟩] := by
  have h := rdT_cat [⟨#[97, 98]⟩, ⟨#[99]⟩] small_abc [1, 100]
  rw [cat_abc, rdT_none (l := [1, 100]) (by decide +kernel)] at h
  exact h

end Go.Proofs.Ytbgooppmhgaicab
