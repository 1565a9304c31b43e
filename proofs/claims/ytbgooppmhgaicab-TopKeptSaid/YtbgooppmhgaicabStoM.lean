
/-
  Plain mathematics of a store: records of entries and counts, and what records tell.
-/
import Derived.Test.YtbgooppmhgaicabJrnG
namespace Go.Proofs.Ytbgooppmhgaicab
set_option maxRecDepth 100000
set_option linter.unusedVariables false
set_option linter.unusedSimpArgs false
open Go.RowKit

def tE : ByteArray := ⟨#[101]⟩
def tC : ByteArray := ⟨#[99]⟩
/-- An entry's record, a count's. -/
def entR (t : ByteArray) : ByteArray := mkS (encL [tE, t])
def cntR (n : Nat) : ByteArray := mkS (encL [tC, mkS (encN n)])
theorem okE {t : ByteArray} (h : t.size ≤ 8192) : okL [tE, t] := by
  refine ⟨by simp, fun s hs => ?_⟩
  simp at hs
  rcases hs with rfl | rfl
  · decide
  · exact h
theorem okE_no {t : ByteArray} (h : ¬ t.size ≤ 8192) : ¬ okL [tE, t] := fun hk => h (hk.2 t (by simp))
theorem okC {n : Nat} (h : n ≤ 1048576) : okL [tC, mkS (encN n)] := by
  refine ⟨by simp, fun s hs => ?_⟩
  simp at hs
  rcases hs with rfl | rfl
  · decide
  · rw [mkS_size]; have := encN_len64 n (by omega); omega
theorem entR_size {t : ByteArray} (h : t.size ≤ 8192) : (entR t).size ≤ 8300 := by
  unfold entR encL encTs encT
  rw [mkS_size]
  have h1 := encN_len64 t.size (by omega)
  have h2 := encN_len64 [tE, t].length (by simp)
  have h3 := encN_len64 tE.size (by decide)
  have h4 : tE.data.toList.length = 1 := rfl
  have h5 := size_toList t
  simp only [List.flatMap_cons, List.flatMap_nil, List.length_append, List.length_nil]
  omega
theorem cntR_size {n : Nat} (h : n ≤ 1048576) : (cntR n).size ≤ 60 := by
  unfold cntR encL encTs encT
  rw [mkS_size]
  have h0 := encN_len64 n (by omega)
  have h1 := encN_len64 (mkS (encN n)).size (by rw [mkS_size]; omega)
  have h2 := encN_len64 [tC, mkS (encN n)].length (by simp)
  have h3 := encN_len64 tC.size (by decide)
  have h4 : tC.data.toList.length = 1 := rfl
  have h5 : (mkS (encN n)).data.toList.length = (encN n).length := rfl
  simp only [List.flatMap_cons, List.flatMap_nil, List.length_append, List.length_nil]
  omega
/-- The error of a count's text, and its number. -/
def cnE (s : ByteArray) : Nat := if (gn s.data.toList).2.2 ≠ 0 then 6 else if (gn s.data.toList).2.1 < s.size then 6 else if 1048576 < (gn s.data.toList).1 then 6 else 0
def cnN (s : ByteArray) : Nat := if cnE s = 0 then (gn s.data.toList).1 else 0
/-- What a record tells: nothing (0), an entry (1), a count (2). -/
def prs (x : ByteArray) : Nat × ByteArray × Nat :=
  match al x with
  | ([a, b], 0) => if a = tE then (1, b, 0) else if a = tC then (if cnE b = 0 then (2, ⟨#[]⟩, cnN b) else (0, ⟨#[]⟩, 0)) else (0, ⟨#[]⟩, 0)
  | _ => (0, ⟨#[]⟩, 0)
/-- What records tell: the entries, the count, the error. -/
def ldF : List ByteArray → List ByteArray → Nat → List ByteArray × Nat × Nat
  | [], es, c => (es, c, 0)
  | x :: r, es, c => if (prs x).1 = 1 then ldF r (es ++ [(prs x).2.1]) c else if (prs x).1 = 2 then ldF r es (max c (prs x).2.2) else ([], 0, 6)
def ld (rs : List ByteArray) : List ByteArray × Nat × Nat := ldF rs [] 0
theorem al_bd (s : ByteArray) : (al s).1.length ≤ 256 ∧ (al s).2 ≤ 7 ∧ ∀ t ∈ (al s).1, t.size ≤ 8192 := by
  have h := gl_bd s
  unfold al
  split
  · simp; exact h.2.1
  · split
    · simp
    · exact ⟨h.2.2.1, by simp, h.2.2.2⟩
theorem prs_err {x : ByteArray} (h : (al x).2 ≠ 0) : (prs x).1 = 0 := by
  unfold prs
  split
  · rename_i he; rw [he] at h; exact absurd rfl h
  · rfl
theorem prs_len {x : ByteArray} (h : (al x).1.length ≠ 2) : (prs x).1 = 0 := by
  unfold prs
  split
  · rename_i he; rw [he] at h; exact absurd rfl h
  · rfl
theorem prs_two {x a b : ByteArray} (h : al x = ([a, b], 0)) : prs x = if a = tE then (1, b, 0) else if a = tC then (if cnE b = 0 then (2, ⟨#[]⟩, cnN b) else (0, ⟨#[]⟩, 0)) else (0, ⟨#[]⟩, 0) := by
  unfold prs
  split
  · rename_i he
    rw [h] at he
    simp only [Prod.mk.injEq, List.cons.injEq, and_true] at he
    obtain ⟨rfl, rfl⟩ := he
    rfl
  · rename_i hne
    exact absurd h (hne a b)
theorem al_back (ss : List ByteArray) (h : okL ss) : al (mkS (encL ss)) = (ss, 0) := by
  have hg := gl_back ss h []
  rw [List.append_nil] at hg
  unfold al
  rw [hg]
  simp only [ne_eq, not_true_eq_false, if_false]
  rw [if_neg (by rw [mkS_size]; omega)]
theorem cnE_back {n : Nat} (h : n ≤ 1048576) : cnE (mkS (encN n)) = 0 ∧ cnN (mkS (encN n)) = n := by
  have hg := gn_back n [] (by omega)
  rw [List.append_nil] at hg
  have h1 : cnE (mkS (encN n)) = 0 := by
    unfold cnE
    rw [mkS_data, hg]
    simp only [ne_eq, not_true_eq_false, if_false]
    rw [if_neg (by rw [mkS_size]; omega), if_neg (by omega)]
  refine ⟨h1, ?_⟩
  unfold cnN
  rw [if_pos h1, mkS_data, hg]
theorem prs_ent {t : ByteArray} (h : t.size ≤ 8192) : prs (entR t) = (1, t, 0) := by
  have h2 := prs_two (x := entR t) (al_back _ (okE h))
  rw [h2, if_pos rfl]
theorem prs_cnt {n : Nat} (h : n ≤ 1048576) : prs (cntR n) = (2, ⟨#[]⟩, n) := by
  have h2 := prs_two (x := cntR n) (al_back _ (okC h))
  rw [h2, if_neg (by decide), if_pos rfl, if_pos (cnE_back h).1, (cnE_back h).2]
theorem ldF_bd (rs es : List ByteArray) (c : Nat) (he : ∀ t ∈ es, t.size ≤ 8192) (hc : c ≤ 1048576) :
    (ldF rs es c).1.length ≤ es.length + rs.length ∧ (∀ t ∈ (ldF rs es c).1, t.size ≤ 8192) ∧ (ldF rs es c).2.1 ≤ 1048576 ∧ (ldF rs es c).2.2 ≤ 6 := by
  induction rs generalizing es c with
  | nil => simp only [ldF]; exact ⟨by omega, he, hc, by omega⟩
  | cons x r ih =>
    have hp : (prs x).2.1.size ≤ 8192 ∧ (prs x).2.2 ≤ 1048576 := by
      have hb := al_bd x
      unfold prs
      split
      · rename_i a b hx
        rw [hx] at hb
        have hbb := hb.2.2 b (by simp)
        split
        · exact ⟨hbb, by simp⟩
        · split
          · split
            · rename_i hcn
              refine ⟨show (ByteArray.mk #[]).size ≤ 8192 from by decide, ?_⟩
              simp only
              unfold cnN
              rw [if_pos hcn]
              unfold cnE at hcn
              split at hcn
              · cases hcn
              · split at hcn
                · cases hcn
                · split at hcn
                  · cases hcn
                  · omega
            · exact ⟨by decide, by simp⟩
          · exact ⟨by decide, by simp⟩
      · exact ⟨by decide, by simp⟩
    rw [ldF]
    split
    · have := ih (es ++ [(prs x).2.1]) c (fun t ht => by
        rcases List.mem_append.1 ht with h | h
        · exact he t h
        · simp at h; subst h; exact hp.1) hc
      refine ⟨?_, this.2.1, this.2.2.1, this.2.2.2⟩
      have h1 := this.1
      rw [List.length_append] at h1; simp at h1 ⊢; omega
    · split
      · have := ih es (max c (prs x).2.2) he (by have := hp.2; omega)
        refine ⟨by have := this.1; simp; omega, this.2.1, this.2.2.1, this.2.2.2⟩
      · simp
theorem ld_bd (rs : List ByteArray) : (ld rs).1.length ≤ rs.length ∧ (∀ t ∈ (ld rs).1, t.size ≤ 8192) ∧ (ld rs).2.1 ≤ 1048576 ∧ (ld rs).2.2 ≤ 6 := by
  have := ldF_bd rs [] 0 (by simp) (by omega)
  simpa [ld] using this
theorem strsLit2' (w : World) (a b : ByteArray) (e : Nat) : StrsAt (w.alloc (.cells #[.string a, .string b] e)) (.slice (some ⟨w.heap.size, 0, none⟩) 2 2) [a, b] := strsLit2 w a b e
end Go.Proofs.Ytbgooppmhgaicab
