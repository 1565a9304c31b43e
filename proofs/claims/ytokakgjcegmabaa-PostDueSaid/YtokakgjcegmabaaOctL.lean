
/-
  octet.All; and the answers that the laws ask for first.
-/
import Derived.Test.YtokakgjcegmabaaOctK
namespace Go.Proofs.Ytokakgjcegmabaa
set_option linter.unusedVariables false
set_option linter.unusedSimpArgs false
open Go.RowKit

theorem strsLit2 (w : World) (a b : ByteArray) (e : Nat) : StrsAt (w.alloc (.cells #[.string a, .string b] e)) (.slice (some ⟨w.heap.size, 0, none⟩) 2 2) [a, b] := by
  refine ⟨_, _, rfl, fun k hk => ⟨w.heap.size, 0, rfl, ?_⟩⟩
  have h : (w.alloc (.cells #[.string a, .string b] e)).heap[w.heap.size]? = some (.cells #[.string a, .string b] e) := heap_alloc_new w _
  match k, hk with
  | 0, _ => unfold World.cell?; dsimp only; rw [h]; rfl
  | 1, _ => unfold World.cell?; dsimp only; rw [h]; rfl
theorem e300 : mkS (encN 300) = ⟨#[172, 2]⟩ := by rw [encN_ge (by omega), encN_lt (by omega)]; rfl
def sab : List ByteArray := [⟨#[97, 98]⟩, ⟨#[]⟩]
theorem esab : listS sab = ⟨#[2, 2, 97, 98, 0]⟩ ∧ listE sab = 0 := by
  have hok : okL sab := by refine ⟨by decide, ?_⟩; intro s hs; simp [sab] at hs; rcases hs with rfl | rfl <;> decide
  rw [listS_yes hok, listE_yes hok]
  refine ⟨?_, rfl⟩
  have h0 : encN 0 = [0] := by rw [encN_lt (by omega)]; rfl
  have h2 : encN 2 = [2] := by rw [encN_lt (by omega)]; rfl
  unfold encL encTs encT sab
  simp only [List.length_cons, List.length_nil, List.flatMap_cons, List.flatMap_nil]
  rw [show (ByteArray.mk #[97, 98]).size = 2 from rfl, show (ByteArray.mk #[]).size = 0 from rfl, h0, show 0 + 1 + 1 = 2 from rfl, h2]
  rfl
theorem al1 : al ⟨#[2, 2, 97, 98, 0]⟩ = (sab, 0) := by decide +kernel
theorem al2 : al ⟨#[2, 2, 97, 98, 0, 33]⟩ = ([], 6) := by decide +kernel
theorem gn1 : gn [172, 2, 33] = (300, 2, 0) := by decide +kernel
theorem gn2 : gn [128, 0] = (0, 0, 6) := by decide +kernel
theorem gn3 : gn [128] = (0, 0, 5) := by decide +kernel
theorem gt1 : gt ⟨#[1, 97, 98]⟩ = (⟨#[97]⟩, 2, 0) := by decide +kernel

end Go.Proofs.Ytokakgjcegmabaa
