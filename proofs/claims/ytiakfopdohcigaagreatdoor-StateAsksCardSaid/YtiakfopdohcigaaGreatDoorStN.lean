
/-
  state: what the document's loops come to; plain mathematics.
-/
import Derived.Test.YtiakfopdohcigaaGreatDoorStJ
namespace Go.Proofs.YtiakfopdohcigaaGreatDoor
set_option maxRecDepth 100000
set_option linter.unusedVariables false
set_option linter.unusedSimpArgs false
open Go.RowKit Rw
/-- A kind and a key stand ahead of others. -/
def ahB (k : Nat) (a : ByteArray) (l : Nat) (b : ByteArray) : Bool := decide (k < l) || (decide (k = l) && Op.bytesLess a.toList b.toList)
theorem ahB_lt (c d : Ce) : ahB c.k c.y d.k d.y = decide (cmpC c d < 0) := by
  unfold ahB
  rw [bytesLess_eq, Bool.eq_iff_iff]
  simp only [Bool.or_eq_true, Bool.and_eq_true, decide_eq_true_eq]
  rw [cmpC_neg]; rfl
theorem ahB_iff (c d : Ce) : ahB c.k c.y d.k d.y = true ↔ ltC c d := by rw [ahB_lt, decide_eq_true_eq, cmpC_neg]
theorem pos_no {cs : List Ce} {c : Ce} (hp : cs.Pairwise ltC) {j : Nat} (h : posS cs c ≤ j) (hj : j < cs.length) : ¬ ltC cs[j] c := by
  intro g
  have hlt : posS cs c < cs.length := by omega
  rcases Nat.lt_or_ge (posS cs c) j with hl | hg
  · rw [List.pairwise_iff_getElem] at hp
    exact posS_hi hlt (ltC_trans (hp _ _ hlt hj hl) g)
  · have : posS cs c = j := by omega
    subst this; exact posS_hi hlt g
theorem hit_pos {cs : List Ce} {e : Ev} (hp : cs.Pairwise ltC) {i : Nat} (hi : i < cs.length) (hk : cs[i].k = e.kind ∧ cs[i].y = e.key) : posS cs (newC e) = i ∧ fndS cs (newC e) = true := by
  have hn : ¬ ltC cs[i] (newC e) := fun g => ltC_irr ((ltC_key (a := cs[i]) (a' := newC e) hk).1.1 g)
  have hge : posS cs (newC e) ≤ i := by
    rcases Nat.lt_or_ge i (posS cs (newC e)) with h | h
    · exact absurd (posS_lo h hi) hn
    · exact h
  have he : posS cs (newC e) = i := by
    rcases Nat.lt_or_ge (posS cs (newC e)) i with h | h
    · rw [List.pairwise_iff_getElem] at hp
      have h1 := hp _ _ (by omega) hi h
      exact absurd ((ltC_key (a := cs[i]) (a' := newC e) hk).2.1 h1) (posS_hi (by omega))
    · omega
  refine ⟨he, ?_⟩
  unfold fndS
  rw [he, decide_eq_true hi, Bool.true_and, decide_eq_true_eq, getD_ce hi, cmpC_eq]
  exact hk
theorem no_hit {cs : List Ce} {e : Ev} (h : ∀ j, (hj : j < cs.length) → ¬ (cs[j].k = e.kind ∧ cs[j].y = e.key)) : fndS cs (newC e) = false := by
  cases hf : fndS cs (newC e) with
  | false => rfl
  | true =>
    obtain ⟨hlt, hk⟩ := fnd_parts hf
    exact absurd hk (h _ hlt)
/-- The place so far. -/
def atS (cs : List Ce) (e : Ev) (i : Nat) : Nat := min i (posS cs (newC e))
theorem atS_yes {cs : List Ce} {e : Ev} (hp : cs.Pairwise ltC) {i : Nat} (hi : i < cs.length) (h : ahB cs[i].k cs[i].y e.kind e.key = true) : atS cs e (i + 1) = i + 1 := by
  have h1 : ltC cs[i] (newC e) := (ahB_iff cs[i] (newC e)).1 h
  unfold atS
  rcases Nat.lt_or_ge i (posS cs (newC e)) with g | g
  · omega
  · exact absurd h1 (pos_no hp g hi)
theorem atS_no {cs : List Ce} {e : Ev} {i : Nat} (hi : i < cs.length) (h : ahB cs[i].k cs[i].y e.kind e.key = false) : atS cs e (i + 1) = atS cs e i := by
  unfold atS
  rcases Nat.lt_or_ge i (posS cs (newC e)) with g | g
  · have h1 := (ahB_iff cs[i] (newC e)).2 (posS_lo g hi)
    have h2 : ahB cs[i].k cs[i].y (newC e).k (newC e).y = false := h
    rw [h2] at h1; cases h1
  · omega
theorem atS_end (cs : List Ce) (e : Ev) : atS cs e cs.length = posS cs (newC e) := Nat.min_eq_right (posS_le _ _)
/-- The first event of a kind and a key, place by place. -/
theorem firS_hit {cs : List Ce} {k : Nat} {y : ByteArray} {i : Nat} (h : (cs.take i).all (fun c => !isC k y c) = true) (hi : i < cs.length) (hc : isC k y cs[i] = true) : firS cs k y = some cs[i].e := by
  unfold firS
  have e : cs = cs.take i ++ cs[i] :: cs.drop (i + 1) := by rw [← List.drop_eq_getElem_cons hi, List.take_append_drop]
  have h2 : (cs.take i).find? (isC k y) = none := List.find?_eq_none.2 fun c hc => by have := List.all_eq_true.1 h c hc; simpa using this
  conv => lhs; rw [e]
  rw [List.find?_append, h2, List.find?_cons_of_pos hc]; rfl
theorem firS_no {cs : List Ce} {k : Nat} {y : ByteArray} (h : (cs.take cs.length).all (fun c => !isC k y c) = true) : firS cs k y = none := by
  unfold firS
  rw [List.take_length] at h
  rw [List.find?_eq_none.2 fun c hc => by have := List.all_eq_true.1 h c hc; simpa using this]; rfl
theorem noC_succ {cs : List Ce} {k : Nat} {y : ByteArray} {i : Nat} (h : (cs.take i).all (fun c => !isC k y c) = true) (hi : i < cs.length) (hc : isC k y cs[i] = false) : (cs.take (i + 1)).all (fun c => !isC k y c) = true := by
  rw [List.take_add_one, List.getElem?_eq_getElem hi, List.all_append, h]; simp [hc]
/-- The keys of a kind. -/
def kyT (cs : List Ce) (k i : Nat) : List ByteArray := (kiT cs k i).map (·.y)
def kyL (cs : List Ce) (k : Nat) : List ByteArray := (kiL cs k).map (·.y)
theorem kyT_succ {cs : List Ce} {k i : Nat} {c : Ce} (h : i < cs.length) (hc : cs[i] = c) : kyT cs k (i + 1) = kyT cs k i ++ (if c.k = k then [c.y] else []) := by
  unfold kyT
  rw [kiT_succ h hc, List.map_append]
  congr 1
  by_cases hk : c.k = k <;> simp [hk]
theorem kyT_all (cs : List Ce) (k : Nat) : kyT cs k cs.length = kyL cs k := rfl
theorem kiT_len (cs : List Ce) (k i : Nat) : (kiT cs k i).length ≤ cs.length := by
  unfold kiT
  refine Nat.le_trans (List.length_filter_le _ _) ?_
  simp; omega
/-- The document's way to say that a cell may stand at a place. -/
theorem vaC_parts (c : Ce) : vaC c = (stB c.k && evOk c.e && decide (c.e.kind = c.k) && decide (c.e.key = c.y)) := by
  unfold vaC lasB
  by_cases h : c.e.kind = c.k
  · rw [h]
  · rw [decide_eq_false h]; simp
/-- Behind an event that is set. -/
theorem set_one {cs : List Ce} {e : Ev} (h : okS cs = true) (hn : cs.length < 256) :
    okS (setV cs e) = true ∧ (setV cs e).length ≤ cs.length + 1 ∧ (setE cs e = 0 ↔ lasB e = true) ∧ ∀ k y, firS (setV cs e) k y = if lasB e = true ∧ e.kind = k ∧ e.key = y then some e else firS cs k y := by
  cases hl : lasB e with
  | false =>
    obtain ⟨h1, h2⟩ := setV_not h hl
    rw [h1, h2]
    exact ⟨h, by omega, by simp, fun k y => by simp⟩
  | true =>
    have hc : fndS cs (newC e) = true ∨ cs.length ≠ 256 := .inr (by omega)
    have hv : setV cs e = setL cs e := by unfold setV; rw [if_pos h, if_pos hl, if_pos hc]
    have he : setE cs e = 0 := by unfold setE; rw [if_pos h, if_pos hl, if_pos hc]
    rw [hv, he]
    exact ⟨setL_ok h hl hc, setL_len cs e, by simp, fun k y => by rw [setL_fir h]; simp⟩
end Go.Proofs.YtiakfopdohcigaaGreatDoor
