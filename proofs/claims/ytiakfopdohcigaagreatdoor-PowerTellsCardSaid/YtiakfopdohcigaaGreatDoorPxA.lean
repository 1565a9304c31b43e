
/-
  power: what the document's Change comes to; plain mathematics.
-/
import Derived.Test.YtiakfopdohcigaaGreatDoorPwO
import Derived.Sort.Walk0
namespace Go.Proofs.YtiakfopdohcigaaGreatDoor
set_option maxRecDepth 100000
set_option linter.unusedVariables false
set_option linter.unusedSimpArgs false
open Go.RowKit Rw
/-- Names stand in order. -/
def inO (us : List (ByteArray × Int)) : Prop := us.Pairwise fun p q => p.1.toList < q.1.toList
theorem lv_order {l : Lv} (h : lvOk l = true) : inO l.us := by
  unfold lvOk at h
  rw [Bool.and_eq_true, Bool.and_eq_true] at h
  have hu := h.2
  have step : ∀ i (hi : i + 1 < l.us.length), (l.us[i]'(by omega)).1.toList < (l.us[i+1]'hi).1.toList := by
    intro i hi
    have := uTo_le hu hi
    unfold uAt at this
    rw [Bool.and_eq_true, Nat.add_sub_cancel, getU hi, getU (show i < l.us.length by omega), bytesLess_eq] at this
    have h2 := this.2
    simp only [Nat.add_eq_zero_iff, Nat.one_ne_zero, and_false, decide_false, Bool.false_or, decide_eq_true_eq] at h2
    exact h2
  unfold inO
  rw [List.pairwise_iff_getElem]
  intro i j hi hj hij
  induction j with
  | zero => omega
  | succ j ih =>
    rcases Nat.lt_or_ge i j with hlt | hge
    · exact List.lt_trans (ih (by omega) hlt) (step j hj)
    · have : i = j := by omega
      subst this; exact step i hj
theorem inO_one {us : List (ByteArray × Int)} (h : inO us) {p q : ByteArray × Int} (hp : p ∈ us) (hq : q ∈ us) (he : p.1 = q.1) : p = q := by
  obtain ⟨i, hi, rfl⟩ := List.getElem_of_mem hp
  obtain ⟨j, hj, rfl⟩ := List.getElem_of_mem hq
  unfold inO at h
  rw [List.pairwise_iff_getElem] at h
  rcases Nat.lt_trichotomy i j with hlt | heq | hgt
  · have := h i j hi hj hlt
    rw [he] at this; exact absurd this (List.lt_irrefl _)
  · subst heq; rfl
  · have := h j i hj hi hgt
    rw [he] at this; exact absurd this (List.lt_irrefl _)
theorem own_of_mem {us : List (ByteArray × Int)} (h : inO us) {p : ByteArray × Int} (hp : p ∈ us) : ownL us p.1 = some p.2 := by
  cases ho : ownL us p.1 with
  | none =>
    exfalso
    have : ∀ {us : List (ByteArray × Int)} {p : ByteArray × Int}, p ∈ us → ownL us p.1 ≠ none := by
      intro us
      induction us with
      | nil => intro p hp; cases hp
      | cons a r ih =>
        intro p hp
        unfold ownL
        split
        · simp
        · rcases List.mem_cons.1 hp with rfl | hp
          · rename_i hne; exact absurd (by simp) hne
          · exact ih hp
    exact this hp ho
  | some k =>
    obtain ⟨q, hq, e1, e2⟩ := own_mem ho
    have := inO_one h hq hp e1
    subst this; rw [e2]
theorem own_none {us : List (ByteArray × Int)} {x : ByteArray} (h : ownL us x = none) : ∀ p ∈ us, p.1 ≠ x := by
  induction us with
  | nil => intro p hp; cases hp
  | cons a r ih =>
    unfold ownL at h
    split at h
    · cases h
    · rename_i hne
      intro p hp
      rcases List.mem_cons.1 hp with rfl | hp
      · exact fun e => hne (by rw [e]; simp)
      · exact ih h p hp
/-- In a list. -/
def inB (us : List (ByteArray × Int)) (p : ByteArray × Int) : Bool := us.any fun q => decide (q = p)
theorem inB_iff {us : List (ByteArray × Int)} {p : ByteArray × Int} : inB us p = true ↔ p ∈ us := by unfold inB; simp
theorem inB_no {us : List (ByteArray × Int)} {p : ByteArray × Int} (h : p ∉ us) : inB us p = false := by
  cases hb : inB us p with
  | false => rfl
  | true => exact absurd (inB_iff.1 hb) h
/-- In both lists with one number. -/
def bothU (was is : List (ByteArray × Int)) (p : ByteArray × Int) : Bool := inB was p && inB is p
def docU (was is : List (ByteArray × Int)) (bad : ByteArray → Bool) (l : List (ByteArray × Int)) : Bool := l.any fun p => !bothU was is p && bad p.1
theorem doc_users {was is : List (ByteArray × Int)} (hw : inO was) (hi : inO is) (bad : ByteArray → Bool) : docU was is bad (was ++ is) = (chL was is).any bad := by
  rw [Bool.eq_iff_iff]
  unfold docU
  rw [List.any_eq_true, List.any_eq_true]
  have hL : ∀ x, x ∈ chL was is ↔ (∃ p ∈ was, chF is p = true ∧ p.1 = x) ∨ (∃ p ∈ is, chG was p = true ∧ p.1 = x) := by
    intro x
    unfold chL chI chW
    rw [List.take_length, List.take_length, List.mem_append, List.mem_map, List.mem_map]
    simp only [List.mem_filter, and_assoc]
  constructor
  · rintro ⟨p, hp, h⟩
    rw [Bool.and_eq_true, Bool.not_eq_true'] at h
    obtain ⟨h1, h2⟩ := h
    refine ⟨p.1, (hL p.1).2 ?_, h2⟩
    have hnb : ¬ (p ∈ was ∧ p ∈ is) := fun g => by unfold bothU at h1; rw [inB_iff.2 g.1, inB_iff.2 g.2] at h1; cases h1
    have old : ∀ q : ByteArray × Int, q ∈ was → q ∉ is → chF is q = true := by
      intro q hq hn
      unfold chF
      cases ho : ownL is q.1 with
      | none => rfl
      | some k =>
        simp only [bne_iff_ne, ne_eq]
        intro e
        obtain ⟨r, hr, e1, e2⟩ := own_mem ho
        exact hn (by have : q = r := Prod.ext e1.symm (by rw [e2, e]); rw [this]; exact hr)
    rcases List.mem_append.1 hp with hp | hp
    · exact .inl ⟨p, hp, old p hp (fun g => hnb ⟨hp, g⟩), rfl⟩
    · cases ho : ownL was p.1 with
      | none => exact .inr ⟨p, hp, by unfold chG; rw [ho]; rfl, rfl⟩
      | some k =>
        obtain ⟨q, hq, e1, e2⟩ := own_mem ho
        refine .inl ⟨q, hq, old q hq (fun g => ?_), e1⟩
        have := inO_one hi g hp e1
        subst this
        exact hnb ⟨hq, g⟩
  · rintro ⟨x, hx, hb⟩
    rcases (hL x).1 hx with ⟨p, hp, hf, rfl⟩ | ⟨p, hp, hg, rfl⟩
    · refine ⟨p, List.mem_append_left _ hp, ?_⟩
      have : p ∉ is := fun g => by
        unfold chF at hf
        rw [own_of_mem hi g] at hf
        simp at hf
      unfold bothU
      rw [inB_no this, hb]; simp
    · refine ⟨p, List.mem_append_right _ hp, ?_⟩
      have : p ∉ was := fun g => by
        unfold chG at hg
        rw [own_of_mem hw g] at hg
        cases hg
      unfold bothU
      rw [inB_no this, hb]; simp
/-- The six numbers, as the document asks. -/
def sBad (was is : Lv) (lev : Int) (j : Nat) : Bool := ((sixL was).getD j 0 != (sixL is).getD j 0) && (decide ((sixL was).getD j 0 > lev) || decide ((sixL is).getD j 0 > lev))
theorem sBad_eq (was is : Lv) (lev : Int) : sBad was is lev = nBad was is lev := by
  funext j
  unfold sBad nBad
  congr 1
  rw [Bool.eq_iff_iff]
  simp only [Bool.or_eq_true, decide_eq_true_eq]
  omega
theorem chE_doc (was is : Lv) (u : ByteArray) : chE was is u = if (lvOk was && lvOk is) = true then (if (List.range 6).any (sBad was is (ofL was u)) = true then 12 else if docU was.us is.us (uBad was is u (ofL was u)) (was.us ++ is.us) = true then 12 else 0) else 2 := by
  unfold chE
  split
  · rename_i h
    rw [Bool.and_eq_true] at h
    rw [sBad_eq, doc_users (lv_order h.1) (lv_order h.2)]
  · rfl
theorem docU_succ (was is : List (ByteArray × Int)) (bad : ByteArray → Bool) (l : List (ByteArray × Int)) {i : Nat} (h : i < l.length) : docU was is bad (l.take (i + 1)) = (docU was is bad (l.take i) || (!bothU was is l[i] && bad l[i].1)) := by
  unfold docU
  rw [List.take_add_one, List.getElem?_eq_getElem h, List.any_append]; simp
theorem docU_hit {was is : List (ByteArray × Int)} {bad : ByteArray → Bool} {l : List (ByteArray × Int)} {i : Nat} (h : i < l.length) (hb : (!bothU was is l[i] && bad l[i].1) = true) : docU was is bad l = true := by
  unfold docU
  rw [List.any_eq_true]
  exact ⟨_, List.getElem_mem h, hb⟩
theorem inB_step {us : List (ByteArray × Int)} {p : ByteArray × Int} {i : Nat} (h : i < us.length) : inB (us.drop i) p = (decide (us[i] = p) || inB (us.drop (i + 1)) p) := by
  unfold inB
  rw [List.drop_eq_getElem_cons h, List.any_cons]
end Go.Proofs.YtiakfopdohcigaaGreatDoor
