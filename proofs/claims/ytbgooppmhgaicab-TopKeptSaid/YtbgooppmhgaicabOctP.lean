
/-
  The walks of the laws on octet.
-/
import Derived.Test.YtbgooppmhgaicabOctL
import Derived.SizedLaws
import Derived.SliceStrings
namespace Go.Proofs.Ytbgooppmhgaicab
open Go.RowKit Go.ChangeShapes

theorem u64_nat {a : Int} (h : (Lit.int .u64 a).wf = true) : ∃ n : Nat, a = n ∧ n < 18446744073709551616 := by
  have hx : 0 ≤ a ∧ a ≤ 18446744073709551615 := by simpa [Lit.wf, IntKind.min, IntKind.max, IntKind.signed, IntKind.bits] using h
  exact ⟨a.toNat, by omega, by omega⟩
theorem weights_strs {H : Type} {P : Program} {e : TypeId} {l : List ByteArray} {s : ByteArray} (h : s ∈ l) : s.size ∈ DataW.weightsAll (H := H) P e (strs l) := by
  induction l with
  | nil => simp at h
  | cons a r ih =>
    have e1 : strs (H := H) (a :: r) = .lit (.string a.data.toList) :: strs r := rfl
    rw [e1, DataW.weightsAll, List.mem_append]
    rcases List.mem_cons.1 h with rfl | h
    · left; simp [DataW.weights]
    · right; exact ih h
theorem strs_of_open {H : Type} {P : Program} {ts : List TypeId} {ds : List (DataW H)} (hsz : (DataW.weightsEach P ts ds).all (· ≤ reachBytes) = true) {j : Nat} {t e : TypeId} {w : World} {x : Addr} {l c : Nat} {zs : List ByteArray} (ht : ts[j]? = some t)
    (hd : ds[j]? = some (.slice (strs (zs.take l)) (strs (zs.drop l)))) (hu : P.underlying t = some (.slice e)) (hby : P.bytesOf e = 16)
    (hl : l ≤ c) (hz : zs.length = c) (hcell : ∀ i, i < zs.length → w.cell? (x.add i) = some (.string (zs.getD i ByteArray.empty))) :
    ∃ ss, StrsAt w (.slice (some x) l c) ss ∧ ss.length ≤ 140737488351232 ∧ ∀ s ∈ ss, s.size ≤ 140737488351232 := by
  have h1 := sized_slice hsz ht hd hu
  rw [hby] at h1
  simp only [strs, List.length_map, List.length_take, List.length_drop, reachBytes] at h1
  refine ⟨zs.take l, ⟨some x, c, by simp; omega, fun k hk => ?_⟩, by simp; omega, fun s hs => ?_⟩
  · have hk' : k < zs.length := by simp at hk; omega
    have hx : x.spot = none := by
      have h0 := hcell 0 (by omega)
      obtain ⟨b, o, sp⟩ := x
      cases sp with
      | none => rfl
      | some q =>
        simp [Addr.add, World.cell?] at h0
        split at h0 <;> simp_all
    obtain ⟨b, o, sp⟩ := x
    simp only at hx
    subst hx
    refine ⟨b, o, rfl, ?_⟩
    have h1 := hcell k hk'
    have e : (⟨b, o, none⟩ : Addr).add k = ⟨b, o + k, none⟩ := by unfold Addr.add; split <;> simp_all
    rw [e] at h1
    rw [h1, List.getElem_take]
    simp [List.getD_eq_getElem?_getD, hk']
  · have := List.all_eq_true.1 hsz _ (DataW.weights_mem_each ht hd s.size (by
      simp only [DataW.weights, hu, List.mem_cons, List.mem_append]; right; left; exact weights_strs hs))
    have := of_decide_eq_true this; simpa [reachBytes] using this

end Go.Proofs.Ytbgooppmhgaicab
