/-
  Steps among a law's arguments.
-/
import Derived.Test.YtokakgjcegmabaaPoX
import Derived.ProofKit
import Derived.OpenShut
import Derived.ShutString
import Derived.SliceStrings
import Derived.SizedLaws
namespace Go.Proofs.Ytokakgjcegmabaa.Po
set_option maxRecDepth 100000
set_option linter.unusedVariables false
set_option linter.unusedSimpArgs false
open Go.RowKit

open Go.ChangeShapes Go.WideShapes Go.ChangeAt
theorem u8_of_wf {a : Int} (h : (Lit.int .u8 a).wf = true) : 0 ≤ a ∧ a ≤ 255 := by
  have m0 : IntKind.u8.min = 0 := rfl
  have m1 : IntKind.u8.max = 255 := rfl
  simp [Lit.wf, m0, m1] at h
  omega
theorem st_nil (w : World) : StAt w (.slice none 0 0) [] := ⟨⟨_, _, rfl⟩, fun h => absurd h (Nat.lt_irrefl 0), fun s h => by cases h⟩
theorem st_open {w : World} {x : Addr} {l c : Nat} {zs : List Int} (hl : l ≤ c) (hz : zs.length = c) (hcell : ∀ i, i < zs.length → w.cell? (x.add i) = some (.int .u8 (zs.getD i 0))) (hw : ∀ n ∈ zs, (Lit.int .u8 n).wf = true) : StAt w (.slice (some x) l c) (zs.take l) := by
  have e0 : (zs.take l).length = l := by rw [List.length_take]; omega
  refine ⟨⟨_, _, by rw [e0]⟩, fun h0 => ?_, fun s hs => u8_of_wf (hw s (List.mem_of_mem_take hs))⟩
  rw [e0] at h0
  have hx : x.spot = none := by
    have h0 := hcell 0 (by omega)
    obtain ⟨b, o, sp⟩ := x
    cases sp with
    | none => rfl
    | some q =>
      simp [Addr.add, World.cell?] at h0
      split at h0 <;> simp_all
  obtain ⟨b, o, sp⟩ := x
  simp only at hx
  subst hx
  have key : ∀ (k : Nat) (s : Int), (zs.take l)[k]? = some s → w.cell? ⟨b, o + k, none⟩ = some (.int .u8 s) := fun k s hk => by
    have hkl : k < l := by have := (List.getElem?_eq_some_iff.1 hk).1; omega
    have h1 := hcell k (by omega)
    have e : (⟨b, o, none⟩ : Addr).add k = ⟨b, o + k, none⟩ := by unfold Addr.add; split <;> simp_all
    rw [e] at h1
    rw [List.getElem?_take_of_lt hkl] at hk
    rw [h1, List.getD_eq_getElem?_getD, hk]; rfl
  refine ⟨b, o, c, by rw [e0], ?_, key⟩
  have h1 := hcell 0 (by omega)
  have e : (⟨b, o, none⟩ : Addr).add 0 = ⟨b, o + 0, none⟩ := by unfold Addr.add; split <;> simp_all
  rw [e] at h1
  unfold World.cell? at h1
  by_cases hb : b < w.heap.size
  · exact hb
  · rw [show w.heap[b]? = none from by rw [Array.getElem?_eq_none_iff]; omega] at h1
    simp at h1
end Go.Proofs.Ytokakgjcegmabaa.Po
