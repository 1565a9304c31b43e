
/-
  TopKept, in plain words: what is there behind a failure.
-/
import Derived.Test.YtbgooppmhgaicabStoP
namespace Go.Proofs.Ytbgooppmhgaicab.Tk
set_option maxRecDepth 100000
set_option linter.unusedVariables false
set_option linter.unusedSimpArgs false

/-- The records that are written, the entries and the greatest count that they say. -/
structure Kp (rs al : List ByteArray) (mo : Nat) : Prop where
  small : ∀ t ∈ rs, t.size ≤ 8192
  says : ld rs = (al, mo, 0)
theorem Kp.nil : Kp [] [] 0 := ⟨(fun _ h => (by cases h)), rfl⟩
theorem Kp.ent {rs al : List ByteArray} {mo : Nat} (h : Kp rs al mo) {t : ByteArray} (ht : t.size ≤ 8192) (hs : (entR t).size ≤ 8192) : Kp (rs ++ [entR t]) (al ++ [t]) mo :=
  ⟨fun x hx => (List.mem_append.1 hx).elim (h.small x) fun hx => (by rw [List.mem_singleton.1 hx]; exact hs), ld_snoc_ent h.says ht⟩
theorem Kp.cnt {rs al : List ByteArray} {mo : Nat} (h : Kp rs al mo) {n : Nat} (hn : n ≤ 1048576) : Kp (rs ++ [cntR n]) al (max mo n) :=
  ⟨fun x hx => (List.mem_append.1 hx).elim (h.small x) fun hx => (by rw [List.mem_singleton.1 hx]; have := cntR_size hn; omega), ld_snoc_cnt h.says hn⟩
/-- What stays: the records that were synced, and the last one or not. -/
theorem Kp.fell {rs al : List ByteArray} {mo : Nat} (h : Kp rs al mo) {t : ByteArray} {rs' : List ByteArray} (h' : rs' = rs ∨ (rs' = rs ++ [entR t] ∧ t.size ≤ 8192 ∧ (entR t).size ≤ 8192)) {j : Nat} (h1 : rs.length ≤ j) (h2 : j ≤ rs'.length) :
    ∃ es, Kp (rs'.take j) es mo ∧ (es = al ∨ es = al ++ [t]) := by
  rcases h' with rfl | ⟨rfl, ht, hs⟩
  · rw [List.take_of_length_le h1]
    exact ⟨al, h, .inl rfl⟩
  · rw [List.length_append, List.length_singleton] at h2
    rcases (by omega : j = rs.length ∨ j = rs.length + 1) with rfl | rfl
    · rw [List.take_left]
      exact ⟨al, h, .inl rfl⟩
    · rw [List.take_of_length_le (by simp)]
      exact ⟨al ++ [t], h.ent ht hs, .inr rfl⟩
theorem es_len {es al : List ByteArray} {t : ByteArray} (h : es = al ∨ es = al ++ [t]) : al.length ≤ es.length ∧ es.length ≤ al.length + 1 := by
  rcases h with rfl | rfl
  · omega
  · simp
theorem es_old {es al : List ByteArray} {t : ByteArray} (h : es = al ∨ es = al ++ [t]) {i : Nat} (hi : i < al.length) (hj : i < es.length) : es[i] = al[i] := by
  rcases h with rfl | rfl
  · rfl
  · rw [List.getElem_append_left hi]
theorem es_new {es al : List ByteArray} {t : ByteArray} (h : es = al ∨ es = al ++ [t]) (hj : al.length < es.length) : es[al.length] = t := by
  rcases h with rfl | rfl
  · omega
  · rw [List.getElem_append_right (Nat.le_refl _)]; simp
theorem anew_len (es : List ByteArray) (c : Nat) : (anew es c).length = es.length + min c 1 := by
  unfold anew
  rw [List.length_append, List.length_map]
  split
  · simp; omega
  · simp; omega
/-- Written anew, it is whole, and says the same. -/
theorem Kp.again {rs es : List ByteArray} {mo : Nat} (h : Kp rs es mo) : Kp (anew es mo) es mo ∧ datB es mo = cat (anew es mo) :=
  ⟨⟨anew_small h.small h.says, ld_anew h.says⟩, anew_cat h.small h.says⟩
end Go.Proofs.Ytbgooppmhgaicab.Tk
