
/-
  PowerNoHigher: what a change that may be leaves; the walk.
-/
import Derived.Test.YtiakfopdohcigaaGreatDoorPwN
namespace Go.Proofs.YtiakfopdohcigaaGreatDoor
set_option maxRecDepth 100000
set_option linter.unusedVariables false
set_option linter.unusedSimpArgs false
open Go.RowKit Rw Go.Shelf
attribute [local go_sem] Oper.semAt_some


theorem ba_inj {a b : ByteArray} (h : a.toList = b.toList) : a = b := by
  rw [ByteArray.toList_eq, ByteArray.toList_eq] at h
  cases a; cases b; simp only [ByteArray.mk.injEq]; exact Array.toList_inj.1 h
theorem own_mem : ∀ {us : List (ByteArray × Int)} {x : ByteArray} {k : Int}, ownL us x = some k → ∃ p ∈ us, p.1 = x ∧ p.2 = k
  | [], _, _, h => by cases h
  | p :: r, x, k, h => by
    unfold ownL at h
    split at h
    · rename_i he
      exact ⟨p, List.mem_cons_self .., ba_inj (beq_iff_eq.1 he), by simpa using h⟩
    · obtain ⟨q, hq, e⟩ := own_mem h
      exact ⟨q, List.mem_cons_of_mem _ hq, e⟩
theorem nh_parts {was is : Lv} {u : ByteArray} (h : chE was is u = 0) : nBad was is (ofL was u) 0 = false ∧ ∀ x ∈ chL was.us is.us, uBad was is u (ofL was u) x = false := by
  unfold chE at h
  split at h
  · split at h
    · cases h
    · rename_i h1
      split at h
      · cases h
      · rename_i h2
        refine ⟨?_, fun x hx => ?_⟩
        · cases hb : nBad was is (ofL was u) 0 with
          | false => rfl
          | true => exact absurd (any_range_at (by omega) hb) h1
        · cases hb : uBad was is u (ofL was u) x with
          | false => rfl
          | true => exact absurd (List.any_eq_true.2 ⟨x, hx, hb⟩) h2
  · cases h
theorem nh_user {was is : Lv} {u x : ByteArray} {lev : Int} (h : uBad was is u lev x = false) : ofL was x ≤ lev ∧ ofL is x ≤ lev := by
  unfold uBad at h
  simp only [Bool.or_eq_false_iff, decide_eq_false_iff_not] at h
  omega
theorem no_higher {was is : Lv} {u : ByteArray} (h : chE was is u = 0) (x : ByteArray) : (ofL was x ≤ ofL was u ∧ ofL is x ≤ ofL was u) ∨ ofL was x = ofL is x := by
  obtain ⟨h0, hu⟩ := nh_parts h
  cases h1 : ownL was.us x with
  | some k =>
    obtain ⟨p, hp, rfl, rfl⟩ := own_mem h1
    cases hf : chF is.us p with
    | true =>
      refine .inl (nh_user (hu p.1 ?_))
      unfold chL chI chW
      refine List.mem_append_left _ (List.mem_map_of_mem (List.mem_filter.2 ⟨?_, hf⟩))
      rw [List.take_length]; exact hp
    | false =>
      unfold chF at hf
      cases h2 : ownL is.us p.1 with
      | none => rw [h2] at hf; cases hf
      | some k =>
        rw [h2] at hf
        have : k = p.2 := by simpa using hf
        refine .inr ?_
        unfold ofL
        rw [h1, h2, this]; rfl
  | none =>
    cases h2 : ownL is.us x with
    | some k =>
      obtain ⟨p, hp, rfl, rfl⟩ := own_mem h2
      refine .inl (nh_user (hu p.1 ?_))
      unfold chL chI
      refine List.mem_append_right _ (List.mem_map_of_mem (List.mem_filter.2 ⟨?_, by unfold chG; rw [h1]; rfl⟩))
      rw [List.take_length]; exact hp
    | none =>
      have e1 : ofL was x = was.a := by unfold ofL; rw [h1]; rfl
      have e2 : ofL is x = is.a := by unfold ofL; rw [h2]; rfl
      rw [e1, e2]
      unfold nBad at h0
      simp only [sixL, List.getD_cons_zero, Bool.and_eq_false_iff, decide_eq_false_iff_not, bne_eq_false_iff_eq] at h0
      rcases h0 with h0 | h0
      · exact .inr h0
      · exact .inl (by omega)

end Go.Proofs.YtiakfopdohcigaaGreatDoor
