
/-
  Plain mathematics of a store behind crashes: what records tell, taken together, cut, and written anew.
-/
import Derived.Test.YtbgooppmhgaicabStoC
namespace Go.Proofs.Ytbgooppmhgaicab
set_option maxRecDepth 100000
set_option linter.unusedVariables false
set_option linter.unusedSimpArgs false
open Go.RowKit

theorem ldF_append (a b : List ByteArray) (es : List ByteArray) (c : Nat) (es' : List ByteArray) (c' : Nat) (h : ldF a es c = (es', c', 0)) : ldF (a ++ b) es c = ldF b es' c' := by
  induction a generalizing es c with
  | nil =>
    simp only [ldF, Prod.mk.injEq, and_true] at h
    obtain ⟨rfl, rfl⟩ := h
    rfl
  | cons x r ih =>
    rw [List.cons_append, ldF]
    rw [ldF] at h
    split at h
    · rename_i h1; rw [if_pos h1]; exact ih _ _ h
    · rename_i h1
      rw [if_neg h1]
      split at h
      · rename_i h2; rw [if_pos h2]; exact ih _ _ h
      · simp at h
/-- What a beginning tells is a beginning. -/
theorem ldF_pre (a b : List ByteArray) (es : List ByteArray) (c : Nat) (es' : List ByteArray) (c' : Nat) (h : ldF (a ++ b) es c = (es', c', 0)) :
    ∃ (e1 : List ByteArray) (c1 : Nat), ldF a es c = (e1, c1, 0) ∧ e1 <+: es' ∧ c ≤ c1 ∧ c1 ≤ c' ∧ es <+: e1 := by
  induction a generalizing es c with
  | nil =>
    refine ⟨es, c, rfl, ?_, Nat.le_refl _, ?_, List.prefix_refl _⟩
    · rw [List.nil_append] at h
      induction b generalizing es c with
      | nil => simp only [ldF, Prod.mk.injEq, and_true] at h; rw [h.1]; exact List.prefix_refl _
      | cons x r ih =>
        rw [ldF] at h
        split at h
        · exact (List.prefix_append _ _).trans (ih _ _ h)
        · split at h
          · exact ih _ _ h
          · simp at h
    · rw [List.nil_append] at h
      induction b generalizing es c with
      | nil => simp only [ldF, Prod.mk.injEq, and_true] at h; rw [h.2]; exact Nat.le_refl _
      | cons x r ih =>
        rw [ldF] at h
        split at h
        · exact ih _ _ h
        · split at h
          · have := ih _ _ h; omega
          · simp at h
  | cons x r ih =>
    rw [List.cons_append, ldF] at h
    rw [ldF]
    split at h
    · rename_i h1
      rw [if_pos h1]
      obtain ⟨e1, c1, p1, p2, p3, p4, p5⟩ := ih _ _ h
      exact ⟨e1, c1, p1, p2, p3, p4, (List.prefix_append _ _).trans p5⟩
    · rename_i h1
      rw [if_neg h1]
      split at h
      · rename_i h2
        rw [if_pos h2]
        obtain ⟨e1, c1, p1, p2, p3, p4, p5⟩ := ih _ _ h
        exact ⟨e1, c1, p1, p2, by omega, p4, p5⟩
      · simp at h
theorem ld_snoc_ent {rs es : List ByteArray} {c : Nat} (h : ld rs = (es, c, 0)) {t : ByteArray} (ht : t.size ≤ 8192) : ld (rs ++ [entR t]) = (es ++ [t], c, 0) := by
  unfold ld at h ⊢
  have hp := prs_ent ht
  rw [ldF_append rs _ [] 0 es c h]
  simp [ldF, hp]
theorem ld_snoc_cnt {rs es : List ByteArray} {c : Nat} (h : ld rs = (es, c, 0)) {n : Nat} (hn : n ≤ 1048576) : ld (rs ++ [cntR n]) = (es, max c n, 0) := by
  unfold ld at h ⊢
  have hp := prs_cnt hn
  rw [ldF_append rs _ [] 0 es c h]
  simp [ldF, hp]
/-- Records between two places tell what lies between. -/
theorem ld_between {rs es : List ByteArray} {c : Nat} (h : ld rs = (es, c, 0)) (p j : Nat) (hpj : p ≤ j) (ep : List ByteArray) (cp : Nat) (hp : ld (rs.take p) = (ep, cp, 0)) :
    ∃ (ej : List ByteArray) (cj : Nat), ld (rs.take j) = (ej, cj, 0) ∧ ej = es.take ej.length ∧ ep.length ≤ ej.length ∧ ej.length ≤ es.length ∧ cp ≤ cj ∧ cj ≤ c := by
  unfold ld at h hp ⊢
  have e1 : rs = rs.take j ++ rs.drop j := (List.take_append_drop j rs).symm
  rw [e1] at h
  obtain ⟨ej, cj, q1, q2, _, q4, _⟩ := ldF_pre _ _ _ _ _ _ h
  have e2 : rs.take j = rs.take p ++ (rs.take j).drop p := by
    conv => lhs; rw [← List.take_append_drop p (rs.take j)]
    rw [List.take_take, Nat.min_eq_left hpj]
  rw [e2] at q1
  obtain ⟨e', c', r1, r2, _, r4, _⟩ := ldF_pre _ _ _ _ _ _ q1
  rw [hp] at r1
  simp only [Prod.mk.injEq, and_true] at r1
  obtain ⟨rfl, rfl⟩ := r1
  rw [← e2] at q1
  refine ⟨ej, cj, q1, ?_, r2.length_le, q2.length_le, r4, q4⟩
  obtain ⟨t, ht⟩ := q2
  rw [← ht, List.take_left]
/-- The records that are written anew. -/
def anew (es : List ByteArray) (c : Nat) : List ByteArray := (if 0 < c then [cntR c] else []) ++ es.map entR
theorem ld_small {rs es : List ByteArray} {c : Nat} (h8 : ∀ t ∈ rs, t.size ≤ 8192) (h : ld rs = (es, c, 0)) : (∀ t ∈ es, (entR t).size ≤ 8192) := by
  unfold ld at h
  have key : ∀ (rs : List ByteArray) (es0 : List ByteArray) (c0 : Nat), (∀ t ∈ rs, t.size ≤ 8192) → (∀ t ∈ es0, (entR t).size ≤ 8192) → ldF rs es0 c0 = (es, c, 0) → ∀ t ∈ es, (entR t).size ≤ 8192 := by
    intro rs
    induction rs with
    | nil => intro es0 c0 _ h0 h; simp only [ldF, Prod.mk.injEq, and_true] at h; rw [← h.1]; exact h0
    | cons x r ih =>
      intro es0 c0 h8 h0 h
      rw [ldF] at h
      split at h
      · rename_i h1
        refine ih _ _ (fun t ht => h8 t (by simp [ht])) ?_ h
        intro t ht
        rcases List.mem_append.1 ht with h' | h'
        · exact h0 t h'
        · simp at h'; subst h'; rw [← (prs_one h1).1]; exact h8 x (by simp)
      · split at h
        · exact ih _ _ (fun t ht => h8 t (by simp [ht])) h0 h
        · simp at h
  exact key rs [] 0 h8 (by simp) h
theorem anew_small {rs es : List ByteArray} {c : Nat} (h8 : ∀ t ∈ rs, t.size ≤ 8192) (h : ld rs = (es, c, 0)) : ∀ t ∈ anew es c, t.size ≤ 8192 := by
  have hc := (ld_bd rs).2.2.1
  rw [h] at hc
  intro t ht
  unfold anew at ht
  rcases List.mem_append.1 ht with h' | h'
  · split at h'
    · simp at h'; subst h'; have := cntR_size (n := c) hc; omega
    · simp at h'
  · obtain ⟨u, hu, rfl⟩ := List.mem_map.1 h'
    exact ld_small h8 h u hu
theorem anew_cat {rs es : List ByteArray} {c : Nat} (h8 : ∀ t ∈ rs, t.size ≤ 8192) (h : ld rs = (es, c, 0)) : datB es c = cat (anew es c) := by
  have hs := ld_small h8 h
  unfold datB datH anew
  rw [cat_append]
  congr 1
  · split
    · simp [cat]
    · rfl
  · clear h
    induction es with
    | nil => rfl
    | cons t es ih =>
      simp only [List.flatMap_cons, List.map_cons, cat_cons]
      rw [ih fun x hx => hs x (by simp [hx])]
      congr 1
      unfold jbL; rw [if_pos (hs t (by simp))]
theorem ld_anew {rs es : List ByteArray} {c : Nat} (h : ld rs = (es, c, 0)) : ld (anew es c) = (es, c, 0) := by
  have hb := ld_bd rs
  rw [h] at hb
  obtain ⟨_, h8, hc, _⟩ := hb
  simp only at h8 hc
  have key : ∀ (l es0 : List ByteArray) (c0 : Nat), (∀ t ∈ l, t.size ≤ 8192) → ldF (l.map entR) es0 c0 = (es0 ++ l, c0, 0) := by
    intro l
    induction l with
    | nil => intro es0 c0 _; simp [ldF]
    | cons t l ih =>
      intro es0 c0 hl
      have hp := prs_ent (hl t (by simp))
      rw [List.map_cons, ldF, hp, if_pos rfl, ih _ _ fun x hx => hl x (by simp [hx])]
      simp
  unfold ld anew
  by_cases h0 : 0 < c
  · rw [if_pos h0, List.singleton_append]
    have hp := prs_cnt hc
    rw [ldF, hp, if_neg (by simp), if_pos rfl, key es [] _ h8]
    simp
  · rw [if_neg h0, List.nil_append, key es [] 0 h8]
    have : c = 0 := by omega
    rw [this]; simp
end Go.Proofs.Ytbgooppmhgaicab
