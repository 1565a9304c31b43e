/-
  Joined: StB StC StD StE.
-/
import Derived.Test.YtkcgmimcopoknaaGreatDoorEvAll
import Derived.Test.YtkcgmimcopoknaaGreatDoorBaAll
import Derived.Sort.Walk0
namespace Go.Proofs.YtkcgmimcopoknaaGreatDoor
set_option maxRecDepth 100000
set_option linter.unusedVariables false
set_option linter.unusedSimpArgs false
open Go.RowKit Rw

/-- A cell of a state. -/
structure Ce where
  k : Nat
  y : ByteArray
  e : Ev
/-- An event that changes a state. -/
def lasB (e : Ev) : Bool := stB e.kind && evOk e
def vaC (c : Ce) : Bool := lasB c.e && decide (c.e.kind = c.k) && decide (c.e.key = c.y)
/-- How two cells stand. -/
def cmpS (a b : ByteArray) : Int := if Op.bytesLess a.toList b.toList = true then -1 else if Op.bytesLess b.toList a.toList = true then 1 else 0
def cmpN (a b : Nat) : Int := if a < b then -1 else if b < a then 1 else 0
def cmpC (c d : Ce) : Int := if cmpN c.k d.k = 0 then cmpS c.y d.y else cmpN c.k d.k
theorem bL_irr (a : List UInt8) : Op.bytesLess a a = false := by rw [bytesLess_eq]; simp
theorem cmpS_neg {a b : ByteArray} : cmpS a b < 0 ↔ a.toList < b.toList := by
  unfold cmpS
  rw [bytesLess_eq, bytesLess_eq]
  simp only [decide_eq_true_eq]
  constructor
  · intro h
    split at h
    · assumption
    · split at h <;> omega
  · intro h; rw [if_pos h]; omega
theorem cmpS_pos {a b : ByteArray} : 0 < cmpS a b ↔ b.toList < a.toList := by
  unfold cmpS
  rw [bytesLess_eq, bytesLess_eq]
  simp only [decide_eq_true_eq]
  constructor
  · intro h
    split at h
    · omega
    · split at h
      · assumption
      · omega
  · intro h; rw [if_neg (List.not_lt.2 (List.le_of_lt h)), if_pos h]; omega
theorem ba_inj' {a b : ByteArray} (h : a.toList = b.toList) : a = b := by
  rw [ByteArray.toList_eq, ByteArray.toList_eq] at h
  cases a; cases b; simp only [ByteArray.mk.injEq]; exact Array.toList_inj.1 h
theorem cmpS_eq {a b : ByteArray} : cmpS a b = 0 ↔ a = b := by
  constructor
  · intro h
    have h1 : ¬ a.toList < b.toList := fun g => by have := cmpS_neg.2 g; omega
    have h2 : ¬ b.toList < a.toList := fun g => by have := cmpS_pos.2 g; omega
    exact ba_inj' (List.le_antisymm (List.not_lt.1 h2) (List.not_lt.1 h1))
  · rintro rfl; unfold cmpS; rw [bL_irr]; rfl
theorem cmpN_neg {a b : Nat} : cmpN a b < 0 ↔ a < b := by
  unfold cmpN; constructor
  · intro h; split at h
    · assumption
    · split at h <;> omega
  · intro h; rw [if_pos h]; omega
theorem cmpN_eq {a b : Nat} : cmpN a b = 0 ↔ a = b := by
  unfold cmpN; constructor
  · intro h; split at h
    · omega
    · split at h <;> omega
  · rintro rfl; rw [if_neg (by omega), if_neg (by omega)]
/-- c stands ahead of d. -/
def ltC (c d : Ce) : Prop := c.k < d.k ∨ (c.k = d.k ∧ c.y.toList < d.y.toList)
theorem cmpC_neg {c d : Ce} : cmpC c d < 0 ↔ ltC c d := by
  unfold cmpC ltC
  by_cases h : c.k = d.k
  · rw [if_pos (cmpN_eq.2 h), cmpS_neg]
    constructor
    · exact fun g => .inr ⟨h, g⟩
    · rintro (g | g)
      · omega
      · exact g.2
  · rw [if_neg (fun g => h (cmpN_eq.1 g)), cmpN_neg]
    constructor
    · exact .inl
    · rintro (g | g)
      · exact g
      · exact absurd g.1 h
theorem cmpC_eq {c d : Ce} : cmpC c d = 0 ↔ c.k = d.k ∧ c.y = d.y := by
  unfold cmpC
  by_cases h : c.k = d.k
  · rw [if_pos (cmpN_eq.2 h), cmpS_eq]; simp [h]
  · rw [if_neg (fun g => h (cmpN_eq.1 g))]
    constructor
    · intro g; exact absurd (cmpN_eq.1 g) h
    · intro g; exact absurd g.1 h
theorem ltC_trans {a b c : Ce} (h : ltC a b) (g : ltC b c) : ltC a c := by
  unfold ltC at *
  rcases h with h | h <;> rcases g with g | g
  · exact .inl (by omega)
  · exact .inl (by omega)
  · exact .inl (by omega)
  · exact .inr ⟨by omega, List.lt_trans h.2 g.2⟩
theorem ltC_irr {a : Ce} : ¬ ltC a a := by
  unfold ltC
  rintro (h | h)
  · omega
  · exact absurd h.2 (List.lt_irrefl _)
theorem ltC_tri {a b : Ce} (h1 : ¬ ltC a b) (h2 : ¬ (a.k = b.k ∧ a.y = b.y)) : ltC b a := by
  unfold ltC at *
  by_cases hk : a.k = b.k
  · refine .inr ⟨hk.symm, ?_⟩
    have h3 : ¬ a.y.toList < b.y.toList := fun g => h1 (.inr ⟨hk, g⟩)
    rcases List.le_iff_lt_or_eq.1 (List.not_lt.1 h3) with h | h
    · exact h
    · exact absurd ⟨hk, (ba_inj' h).symm⟩ h2
  · exact .inl (by have := fun g => h1 (.inl g); omega)
theorem ltC_key {a a' b : Ce} (h : a.k = a'.k ∧ a.y = a'.y) : (ltC a b ↔ ltC a' b) ∧ (ltC b a ↔ ltC b a') := by
  unfold ltC; rw [h.1, h.2]; exact ⟨Iff.rfl, Iff.rfl⟩
def cz : Ce := ⟨0, ⟨#[]⟩, ⟨⟨#[]⟩, ⟨#[]⟩, 0, ⟨#[]⟩, ⟨#[]⟩, 0⟩⟩
/-- The cell at place i may stand there. -/
def sAt (cs : List Ce) (i : Nat) : Bool := vaC (cs.getD i cz) && (decide (i = 0) || decide (cmpC (cs.getD (i - 1) cz) (cs.getD i cz) < 0))
def sTo (cs : List Ce) (n : Nat) : Bool := (List.range n).all (sAt cs)
theorem sTo_succ (cs : List Ce) (n : Nat) : sTo cs (n + 1) = (sTo cs n && sAt cs n) := by
  unfold sTo; rw [List.range_succ, List.all_append]; simp
theorem sTo_le {cs : List Ce} {n i : Nat} (h : sTo cs n = true) (hi : i < n) : sAt cs i = true := by
  unfold sTo at h; rw [List.all_eq_true] at h; exact h i (by simpa using hi)
def okS (cs : List Ce) : Bool := decide (cs.length ≤ 256) && sTo cs cs.length
def ckS (cs : List Ce) : Int := if okS cs = true then 0 else 2
theorem getD_ce {cs : List Ce} {i : Nat} (h : i < cs.length) : cs.getD i cz = cs[i] := by rw [List.getD_eq_getElem?_getD, List.getElem?_eq_getElem h]; rfl
theorem ckS_bad {cs : List Ce} {i : Nat} (hi : i < cs.length) (h : sAt cs i = false) : ckS cs = 2 := by
  refine if_neg fun g => ?_
  unfold okS at g
  rw [Bool.and_eq_true] at g
  have := sTo_le g.2 hi
  rw [h] at this; cases this
/-- A list in order, by its parts. -/
theorem okS_iff (cs : List Ce) : okS cs = true ↔ cs.length ≤ 256 ∧ (∀ c ∈ cs, vaC c = true) ∧ cs.Pairwise ltC := by
  unfold okS
  rw [Bool.and_eq_true, decide_eq_true_eq]
  refine and_congr_right fun _ => ?_
  constructor
  · intro h
    have hv : ∀ c ∈ cs, vaC c = true := by
      intro c hc
      obtain ⟨i, hi, rfl⟩ := List.getElem_of_mem hc
      have := sTo_le h hi
      unfold sAt at this
      rw [Bool.and_eq_true, getD_ce hi] at this
      exact this.1
    refine ⟨hv, ?_⟩
    have step : ∀ i (hi : i + 1 < cs.length), ltC (cs[i]'(by omega)) cs[i+1] := by
      intro i hi
      have := sTo_le h hi
      unfold sAt at this
      rw [Bool.and_eq_true, getD_ce hi, Nat.add_sub_cancel, getD_ce (by omega)] at this
      have h2 := this.2
      simp only [Nat.add_eq_zero_iff, Nat.one_ne_zero, and_false, decide_false, Bool.false_or, decide_eq_true_eq] at h2
      exact cmpC_neg.1 h2
    rw [List.pairwise_iff_getElem]
    intro i j hi hj hij
    induction j with
    | zero => omega
    | succ j ih =>
      rcases Nat.lt_or_ge i j with hlt | hge
      · exact ltC_trans (ih (by omega) hlt) (step j hj)
      · have : i = j := by omega
        subst this; exact step i hj
  · rintro ⟨hv, hp⟩
    unfold sTo
    rw [List.all_eq_true]
    intro i hi
    have hi : i < cs.length := by simpa using hi
    unfold sAt
    rw [Bool.and_eq_true, getD_ce hi]
    refine ⟨hv _ (List.getElem_mem hi), ?_⟩
    by_cases h0 : i = 0
    · simp [h0]
    · rw [getD_ce (by omega)]
      rw [List.pairwise_iff_getElem] at hp
      have := hp (i - 1) i (by omega) hi (by omega)
      simp [cmpC_neg.2 this]
/-- Where a cell belongs. -/
def posS (cs : List Ce) (c : Ce) : Nat := cs.findIdx (fun x => decide (0 ≤ cmpC x c))
def fndS (cs : List Ce) (c : Ce) : Bool := decide (posS cs c < cs.length) && decide (cmpC (cs.getD (posS cs c) cz) c = 0)
theorem posS_of {cs : List Ce} {c : Ce} {i : Nat} (hi : i ≤ cs.length) (h1 : ∀ j, j < i → (hj : j < cs.length) → cmpC cs[j] c < 0) (h2 : ∀ j, i ≤ j → (hj : j < cs.length) → 0 ≤ cmpC cs[j] c) : posS cs c = i := by
  unfold posS
  rcases Nat.lt_or_ge i cs.length with h | h
  · exact (List.findIdx_eq h).2 ⟨decide_eq_true (h2 i (Nat.le_refl _) h), fun j hj => by have := h1 j hj (by omega); simp; omega⟩
  · have e : i = cs.length := by omega
    rw [e]
    exact List.findIdx_eq_length.2 fun x hx => by
      obtain ⟨j, hj, rfl⟩ := List.getElem_of_mem hx
      have := h1 j (by omega) hj
      simp; omega
theorem posS_le (cs : List Ce) (c : Ce) : posS cs c ≤ cs.length := List.findIdx_le_length
theorem posS_lo {cs : List Ce} {c : Ce} {j : Nat} (h : j < posS cs c) (hj : j < cs.length) : ltC cs[j] c := by
  have := List.not_of_lt_findIdx h
  simp at this
  exact cmpC_neg.1 this
theorem posS_hi {cs : List Ce} {c : Ce} (h : posS cs c < cs.length) : ¬ ltC cs[posS cs c] c := by
  have h2 : decide (0 ≤ cmpC (cs[posS cs c]) c) = true := List.findIdx_getElem (w := h)
  have h3 := of_decide_eq_true h2
  exact fun g => by have := cmpC_neg.2 g; omega
/-- What a state is behind an event. -/
def newC (e : Ev) : Ce := ⟨e.kind, e.key, e⟩
def setL (cs : List Ce) (e : Ev) : List Ce := if fndS cs (newC e) = true then cs.set (posS cs (newC e)) (newC e) else cs.take (posS cs (newC e)) ++ [newC e] ++ cs.drop (posS cs (newC e))
def setV (cs : List Ce) (e : Ev) : List Ce := if okS cs = true then (if lasB e = true then (if fndS cs (newC e) = true ∨ cs.length ≠ 256 then setL cs e else cs) else cs) else []
def setE (cs : List Ce) (e : Ev) : Int := if okS cs = true then (if lasB e = true then (if fndS cs (newC e) = true ∨ cs.length ≠ 256 then 0 else 8) else 2) else 2
/-- The first event of a kind and a key. -/
def isC (k : Nat) (y : ByteArray) (c : Ce) : Bool := decide (c.k = k) && decide (c.y = y)
def firS (cs : List Ce) (k : Nat) (y : ByteArray) : Option Ev := (cs.find? (isC k y)).map (·.e)
theorem vaC_new {e : Ev} (h : lasB e = true) : vaC (newC e) = true := by unfold vaC newC; simp [h]
theorem newC_key {c : Ce} {e : Ev} (h : cmpC c (newC e) = 0) : c.k = e.kind ∧ c.y = e.key := cmpC_eq.1 h
theorem pos_gt {cs : List Ce} {c : Ce} (hp : cs.Pairwise ltC) (hf : fndS cs c = false) {j : Nat} (h : posS cs c ≤ j) (hj : j < cs.length) : ltC c cs[j] := by
  have hlt : posS cs c < cs.length := by omega
  have h1 := posS_hi hlt
  unfold fndS at hf
  rw [decide_eq_true hlt, Bool.true_and, decide_eq_false_iff_not, getD_ce hlt, cmpC_eq] at hf
  have h2 := ltC_tri h1 hf
  rcases Nat.lt_or_ge (posS cs c) j with hl | hg
  · rw [List.pairwise_iff_getElem] at hp
    exact ltC_trans h2 (hp _ _ hlt hj hl)
  · have : posS cs c = j := by omega
    subst this; exact h2
theorem fnd_parts {cs : List Ce} {c : Ce} (hf : fndS cs c = true) : ∃ h : posS cs c < cs.length, cs[posS cs c].k = c.k ∧ cs[posS cs c].y = c.y := by
  unfold fndS at hf
  rw [Bool.and_eq_true, decide_eq_true_eq, decide_eq_true_eq] at hf
  refine ⟨hf.1, ?_⟩
  have := hf.2
  rw [getD_ce hf.1, cmpC_eq] at this
  exact this
theorem setL_ok {cs : List Ce} {e : Ev} (h : okS cs = true) (hl : lasB e = true) (hn : fndS cs (newC e) = true ∨ cs.length ≠ 256) : okS (setL cs e) = true := by
  obtain ⟨h1, h2, h3⟩ := (okS_iff cs).1 h
  rw [okS_iff]
  unfold setL
  cases hf : fndS cs (newC e) with
  | true =>
    rw [if_pos rfl]
    obtain ⟨hlt, hk⟩ := fnd_parts hf
    refine ⟨by simpa using h1, fun c hc => ?_, ?_⟩
    · rcases List.mem_or_eq_of_mem_set hc with hc | rfl
      · exact h2 c hc
      · exact vaC_new hl
    · rw [List.pairwise_iff_getElem] at h3 ⊢
      intro i j hi hj hij
      rw [List.length_set] at hi hj
      have hij' := h3 i j hi hj hij
      rw [List.getElem_set, List.getElem_set]
      split
      · rename_i e1; subst e1
        rw [if_neg (by omega)]
        exact (ltC_key hk).1.1 hij'
      · split
        · rename_i e2; subst e2
          exact (ltC_key hk).2.1 hij'
        · exact hij'
  | false =>
    rw [if_neg Bool.false_ne_true]
    have hle := posS_le cs (newC e)
    have h256 : cs.length ≠ 256 := by
      rcases hn with hn | hn
      · rw [hf] at hn; cases hn
      · exact hn
    refine ⟨by simp; omega, fun c hc => ?_, ?_⟩
    · simp only [List.mem_append, List.mem_singleton] at hc
      rcases hc with (hc | rfl) | hc
      · exact h2 c (List.mem_of_mem_take hc)
      · exact vaC_new hl
      · exact h2 c (List.mem_of_mem_drop hc)
    · rw [List.pairwise_append, List.pairwise_append]
      refine ⟨⟨h3.sublist (List.take_sublist _ _), List.pairwise_singleton _ _, fun a ha b hb => ?_⟩, h3.sublist (List.drop_sublist _ _), fun a ha b hb => ?_⟩
      · obtain rfl : b = newC e := by simpa using hb
        obtain ⟨j, hj, rfl⟩ := List.getElem_of_mem ha
        rw [List.getElem_take]
        exact posS_lo (by simp at hj; omega) _
      · obtain ⟨j, hj, rfl⟩ := List.getElem_of_mem hb
        rw [List.getElem_drop]
        have hgt := pos_gt h3 hf (j := posS cs (newC e) + j) (by omega) (by simp at hj; omega)
        rcases List.mem_append.1 ha with ha | ha
        · obtain ⟨i, hi, rfl⟩ := List.getElem_of_mem ha
          rw [List.getElem_take]
          exact ltC_trans (posS_lo (by simp at hi; omega) _) hgt
        · obtain rfl : a = newC e := by simpa using ha
          exact hgt
theorem isC_key {k : Nat} {y : ByteArray} {c : Ce} : isC k y c = true ↔ c.k = k ∧ c.y = y := by unfold isC; simp
theorem setL_fir {cs : List Ce} {e : Ev} (h : okS cs = true) (k : Nat) (y : ByteArray) : firS (setL cs e) k y = if e.kind = k ∧ e.key = y then some e else firS cs k y := by
  obtain ⟨h1, h2, h3⟩ := (okS_iff cs).1 h
  have hle := posS_le cs (newC e)
  have hlo : ∀ x ∈ cs.take (posS cs (newC e)), ¬ (x.k = e.kind ∧ x.y = e.key) := by
    intro x hx hk
    obtain ⟨j, hj, rfl⟩ := List.getElem_of_mem hx
    rw [List.getElem_take] at hk
    have := posS_lo (cs := cs) (c := newC e) (j := j) (by simp at hj; omega) (by simp at hj; omega)
    exact ltC_irr ((ltC_key (a := cs[j]'(by simp at hj; omega)) (a' := newC e) hk).1.1 this)
  have hset : setL cs e = cs.take (posS cs (newC e)) ++ newC e :: (if fndS cs (newC e) = true then cs.drop (posS cs (newC e) + 1) else cs.drop (posS cs (newC e))) := by
    unfold setL
    cases hf : fndS cs (newC e) with
    | true =>
      obtain ⟨hlt, hk⟩ := fnd_parts hf
      simp only [if_true]
      rw [List.set_eq_take_append_cons_drop, if_pos hlt]
    | false => simp
  by_cases hk : e.kind = k ∧ e.key = y
  · rw [if_pos hk, hset]
    unfold firS
    rw [List.find?_append, List.find?_eq_none.2 (fun x hx g => hlo x hx (by obtain ⟨g1, g2⟩ := isC_key.1 g; exact ⟨g1.trans hk.1.symm, g2.trans hk.2.symm⟩))]
    rw [List.find?_cons_of_pos (isC_key.2 hk)]
    rfl
  · rw [if_neg hk, hset]
    unfold firS
    have hn : isC k y (newC e) = false := by
      cases hq : isC k y (newC e) with
      | false => rfl
      | true => exact absurd (isC_key.1 hq) hk
    rw [List.find?_append, List.find?_cons_of_neg (by rw [hn]; exact Bool.false_ne_true)]
    congr 1
    cases hf : fndS cs (newC e) with
    | true =>
      obtain ⟨hlt, hkk⟩ := fnd_parts hf
      simp only [if_true]
      have ec : cs = cs.take (posS cs (newC e)) ++ cs[posS cs (newC e)] :: cs.drop (posS cs (newC e) + 1) := by
        rw [← List.drop_eq_getElem_cons hlt, List.take_append_drop]
      have hnn : isC k y cs[posS cs (newC e)] = false := by
        cases hq : isC k y cs[posS cs (newC e)] with
        | false => rfl
        | true =>
          obtain ⟨g1, g2⟩ := isC_key.1 hq
          exact absurd ⟨hkk.1.symm.trans g1, hkk.2.symm.trans g2⟩ hk
      conv => rhs; rw [ec]
      rw [List.find?_append, List.find?_cons_of_neg (by rw [hnn]; exact Bool.false_ne_true)]
    | false =>
      simp only [Bool.false_eq_true, if_false]
      conv => rhs; rw [← List.take_append_drop (posS cs (newC e)) cs]
      rw [List.find?_append]
theorem setL_len (cs : List Ce) (e : Ev) : (setL cs e).length ≤ cs.length + 1 := by
  unfold setL
  split
  · simp
  · have := posS_le cs (newC e); simp; omega

def Ev.row (e : Ev) : List Value := [.string e.room, .string e.sender, .int .u8 (e.kind : Int), .string e.key, .string e.body, .int .i64 e.nonce]
def Ce.row (c : Ce) : List Value := [.int .u8 (c.k : Int), .string c.y, .string c.e.room, .string c.e.sender, .int .u8 (c.e.kind : Int), .string c.e.key, .string c.e.body, .int .i64 c.e.nonce]
structure Ev.ok (e : Ev) : Prop where
  k : e.kind < 256
  r : e.room.size ≤ 281474976710656
  s : e.sender.size ≤ 281474976710656
  y : e.key.size ≤ 281474976710656
  b : e.body.size ≤ 281474976710656
structure Ce.ok (c : Ce) : Prop where
  k : c.k < 256
  y : c.y.size ≤ 281474976710656
  e : c.e.ok
def zE : List Value := [.string ⟨#[]⟩, .string ⟨#[]⟩, .int .u8 0, .string ⟨#[]⟩, .string ⟨#[]⟩, .int .i64 0]
def zC : List Value := [.int .u8 0, .string ⟨#[]⟩, .string ⟨#[]⟩, .string ⟨#[]⟩, .int .u8 0, .string ⟨#[]⟩, .string ⟨#[]⟩, .int .i64 0]
theorem Ev.one (e : Ev) : ∀ v ∈ e.row, v.oneCell' = true := by
  intro v hv; simp [Ev.row] at hv; rcases hv with rfl | rfl | rfl | rfl | rfl | rfl <;> rfl
theorem Ce.one (c : Ce) : ∀ v ∈ c.row, v.oneCell' = true := by
  intro v hv; simp [Ce.row] at hv; rcases hv with rfl | rfl | rfl | rfl | rfl | rfl | rfl | rfl <;> rfl
theorem tyC : RowTy Tryz.prog 22 96 8 104 zC := by
  refine ⟨by decide, by decide, by decide, rfl, by kernel_rfl, by kernel_rfl, ⟨_, Tryz.underlying96⟩, by kernel_rfl⟩
theorem rtC : Rt.RT Tryz.prog 96 8 zC := ⟨rfl, .inl ⟨_, Tryz.underlying96⟩, by kernel_rfl⟩
theorem rtE : Rt.RT Tryz.prog 25 6 zE := ⟨rfl, .inl ⟨_, Tryz.underlying25⟩, by kernel_rfl⟩
theorem naK : Mm.NA Tryz.prog 23 := ⟨_, Tryz.underlying23, rfl⟩
theorem naS : Mm.NA Tryz.prog 9 := ⟨_, Tryz.underlying9, rfl⟩
theorem naInt : Mm.NA Tryz.prog 3 := ⟨_, Tryz.underlying3, rfl⟩
def rowsC (cs : List Ce) : List (List Value) := cs.map Ce.row
theorem rowsC_len (cs : List Ce) : (rowsC cs).length = cs.length := by simp [rowsC]
theorem rowsC_one (cs : List Ce) : One1 (rowsC cs) := by
  intro e he v hv
  simp only [rowsC, List.mem_map] at he
  obtain ⟨g, _, rfl⟩ := he
  exact Ce.one g v hv
theorem rowsC_all (cs : List Ce) : AllK 8 (rowsC cs) := by
  intro e he
  simp only [rowsC, List.mem_map] at he
  obtain ⟨g, hg, rfl⟩ := he
  rfl
/-- Cells in memory. -/
structure CsAt (w : World) (v : Value) (cs : List Ce) : Prop where
  rs : RsAt 8 w v (rowsC cs)
  ok : ∀ c ∈ cs, c.ok
  len : cs.length ≤ 140737488351232
theorem CsAt.to {w w' : World} {v : Value} {cs : List Ce} (h : CsAt w v cs) (hb : Below w.heap.size w w') : CsAt w' v cs := ⟨h.rs.to hb, h.ok, h.len⟩
theorem CsAt.nil (w : World) : CsAt w (.slice none 0 0) [] := ⟨RsAt.nil w, by simp, by simp⟩
theorem CsAt.form {w : World} {v : Value} {cs : List Ce} (h : CsAt w v cs) : ∃ a c, v = .slice a cs.length c := by
  have := h.rs.form; rw [rowsC_len] at this; exact this
theorem CsAt.get {w : World} {v : Value} {cs : List Ce} (h : CsAt w v cs) (hp : 0 < cs.length) : ∃ B o c, v = .slice (some ⟨B, o, none⟩) cs.length c ∧ cs.length ≤ c ∧ B < w.heap.size ∧ ∀ i, (hi : i < cs.length) → w.rangeAt B (o + 8 * i) (cs[i]).row := by
  obtain ⟨B, o, c, e, h1, h2, h3⟩ := h.rs.get (by rw [rowsC_len]; exact hp)
  rw [rowsC_len] at e h1
  refine ⟨B, o, c, e, h1, h2, fun i hi => ?_⟩
  have := rAt_nth h3 h.rs.1 i (by rw [rowsC_len]; exact hi)
  simpa [rowsC] using this
section
variable {P : Program} {T k : Nat} {z : List Value} {ops : Array Oper} {rest : List Oper} {o : Oper} {a : Act} {w : World} {Q : Exit → Act → World → Prop}
/-- A struct within a row is loaded. -/
theorem wpL_mid (R : Rt.RT P T k z) (hgd : o.guard = none) (x : Operand) (b f : Nat) (xs : List Value) (ho : o.op = .load T x) (hx : a.eval x = .pointer (some ⟨b, f, none⟩)) (hl : xs.length = k) (hg : w.rangeAt b f xs)
    (h : wpList P ops Q rest (a.put o.dst (.agg xs.toArray)) w) : wpList P ops Q (o :: rest) a w := by
  rcases R.ut with ⟨fs, hu⟩ | ⟨n, e, hu⟩
  · exact wpList_load_mid hgd T x ho b f hx xs _ hg hu rfl (by have := R.size hl; simpa using this) h
  · exact wpList_load_mid hgd T x ho b f hx xs _ hg hu rfl (by have := R.size hl; simpa using this) h
end
theorem ce_ev {w : World} {b o : Nat} {c : Ce} (h : w.rangeAt b o c.row) : w.rangeAt b (o + 2) c.e.row := by
  have e : c.row = [.int .u8 (c.k : Int), .string c.y] ++ c.e.row := rfl
  rw [e, rAt_app] at h
  exact h.2
theorem ce_evA {w : World} {b t : Nat} {c : Ce} (h : Arr w b t c.row) : w.rangeAt b 2 c.e.row := by
  have := ce_ev h.range; simpa using this
/-- event.Check and event.State at a row. -/
theorem evCheck_ev (w : World) (e : Ev) (h : e.ok) (hI : IT w) : Calls Tryz.prog 27 #[.agg e.row.toArray] w fun x w' => x = .returned (.int .i64 (evE e)) ∧ Below w.heap.size w w' :=
  evCheck_any w e.room e.sender e.kind e.key e.body e.nonce h.k h.r h.s h.y h.b hI

theorem nanK_any (w : World) (k : Int) : Calls Tryz.prog 111 #[.int .u8 k] w fun e w' => e = .returned (.bool false) ∧ w' = w := by
  go_enter Tryz.func111, Tryz.ntmps111
  go_wp2_with fail
  go_ret
  exact ⟨rfl, rfl⟩

theorem nanS_any (w : World) (s : ByteArray) : Calls Tryz.prog 112 #[.string s] w fun e w' => e = .returned (.bool false) ∧ w' = w := by
  have e0 : (s.toList != s.toList) = false := by simp
  go_enter Tryz.func112, Tryz.ntmps112
  go_wp2_with fail
  go_ret
  exact ⟨rfl, rfl⟩

set_option maxHeartbeats 4000000 in
theorem cmpK_any (w : World) (a b : Nat) : Calls Tryz.prog 86 #[.int .u8 (a : Int), .int .u8 (b : Int)] w fun e w' => e = .returned (.int .i64 (cmpN a b)) ∧ w' = w := by
  by_cases h : a < b
  · have d1 : decide ((a : Int) < (b : Int)) = true := by simp; omega
    have n1 : (a : Int) < (b : Int) := by omega
    have HF := hidp (show cmpN a b = -1 from by unfold cmpN; simp [*])
    go_enter Tryz.func86, Tryz.ntmps86
    go_wp2_with (go_at_call 111; refine (nanK_any _ _).mono ?_; rintro e w' ⟨rfl, rfl⟩)
    go_ret
    exact ⟨by rw [HF.out]; rfl, rfl⟩
  · have d1 : decide ((a : Int) < (b : Int)) = false := by simp; omega
    have n1 : ¬ (a : Int) < (b : Int) := by omega
    by_cases h2 : b < a
    · have d2 : decide ((a : Int) > (b : Int)) = true := by simp; omega
      have n2 : (b : Int) < (a : Int) := by omega
      have HF := hidp (show cmpN a b = 1 from by unfold cmpN; simp [*])
      go_enter Tryz.func86, Tryz.ntmps86
      go_wp2_with (go_at_call 111; refine (nanK_any _ _).mono ?_; rintro e w' ⟨rfl, rfl⟩)
      go_ret
      exact ⟨by rw [HF.out]; rfl, rfl⟩
    · have d2 : decide ((a : Int) > (b : Int)) = false := by simp; omega
      have n2 : ¬ (b : Int) < (a : Int) := by omega
      have HF := hidp (show cmpN a b = 0 from by unfold cmpN; simp [*])
      go_enter Tryz.func86, Tryz.ntmps86
      go_wp2_with (go_at_call 111; refine (nanK_any _ _).mono ?_; rintro e w' ⟨rfl, rfl⟩)
      go_ret
      exact ⟨by rw [HF.out]; rfl, rfl⟩

set_option maxHeartbeats 4000000 in
theorem cmpS_any (w : World) (a b : ByteArray) : Calls Tryz.prog 87 #[.string a, .string b] w fun e w' => e = .returned (.int .i64 (cmpS a b)) ∧ w' = w := by
  cases h1 : Op.bytesLess a.toList b.toList with
  | true =>
    have HF := hidp (show cmpS a b = -1 from by unfold cmpS; simp [*])
    go_enter Tryz.func87, Tryz.ntmps87
    go_wp2_with (go_at_call 112; refine (nanS_any _ _).mono ?_; rintro e w' ⟨rfl, rfl⟩)
    go_ret
    exact ⟨by rw [HF.out]; rfl, rfl⟩
  | false =>
    cases h2 : Op.bytesLess b.toList a.toList with
    | true =>
      have h3 : (a.toList == b.toList) = false := by
        rw [beq_eq_false_iff_ne]; intro e; rw [e, bL_irr] at h2; cases h2
      have HF := hidp (show cmpS a b = 1 from by unfold cmpS; simp [*])
      go_enter Tryz.func87, Tryz.ntmps87
      go_wp2_with (go_at_call 112; refine (nanS_any _ _).mono ?_; rintro e w' ⟨rfl, rfl⟩)
      go_ret
      exact ⟨by rw [HF.out]; rfl, rfl⟩
    | false =>
      have h4 : cmpS a b = 0 := by unfold cmpS; rw [h1, h2]; rfl
      have h3 : (a.toList == b.toList) = true := by rw [cmpS_eq.1 h4]; simp
      clear h4
      have HF := hidp (show cmpS a b = 0 from by unfold cmpS; simp [*])
      go_enter Tryz.func87, Tryz.ntmps87
      go_wp2_with (go_at_call 112; refine (nanS_any _ _).mono ?_; rintro e w' ⟨rfl, rfl⟩)
      go_ret
      exact ⟨by rw [HF.out]; rfl, rfl⟩

set_option maxHeartbeats 4000000 in
theorem or_any (w : World) (g t : Nat) (x y : Int) (hg : Arr w g t [.int .i64 x, .int .i64 y]) : Calls Tryz.prog 85 #[.slice (some ⟨g, 0, none⟩) 2 2] w fun e w' => e = .returned (.int .i64 (if x = 0 then y else x)) ∧ w' = w := by
  obtain ⟨c0, c1⟩ := (show w.cell? ⟨g, 0, none⟩ = some (.int .i64 x) ∧ w.cell? ⟨g, 1, none⟩ = some (.int .i64 y) from ⟨hg.cell 0 (by simp), hg.cell 1 (by simp)⟩)
  have HR : Hid (∀ z, (if x = 0 then y else x) = z → (if x = 0 then y else x) = z) := hidp fun _ h => h
  obtain ⟨R, hR⟩ : ∃ z, (if x = 0 then y else x) = z := ⟨_, rfl⟩
  rw [hR]
  have HRR := hidp hR
  clear hR hg HR
  go_enter Tryz.func85, Tryz.ntmps85
  go_wp2_with fail
  go_loopw [8] (fun t8 wr => ∃ i : Nat, t8 = .int .i64 (i : Int) ∧ (i = 0 ∨ (i = 1 ∧ (x == 0) = true) ∨ (i = 2 ∧ (x == 0) = true ∧ (y == 0) = true)) ∧ w = wr) (fun t8 _ => 2 - (intOf t8).toNat)
  case atStart => exact ⟨0, rfl, .inl rfl, rfl⟩
  case round =>
    obtain ⟨i, rfl, hi, rfl⟩ := hrel
    rcases hi with rfl | ⟨rfl, hx⟩ | ⟨rfl, hx, hy⟩
    · cases hx : (x == 0) with
      | true =>
        have hxn : (x != 0) = false := by rw [bne, hx]; rfl
        have hx0 : x = 0 := by simpa using hx
        go_wp2_with fail
        exact ⟨⟨1, by go_num, .inr (.inl ⟨rfl, trivial⟩), trivial⟩, by simp [intOf]⟩
      | false =>
        have hxn : (x != 0) = true := by rw [bne, hx]; rfl
        have hx0 : ¬ x = 0 := by simpa using hx
        have HQ := hidp (show R = x from by rw [← HRR.out, if_neg hx0])
        go_wp2_with fail
        go_ret
        exact ⟨by rw [HQ.out]; rfl, rfl⟩
    · have hx0 : x = 0 := by simpa using hx
      cases hy : (y == 0) with
      | true =>
        have hyn : (y != 0) = false := by rw [bne, hy]; rfl
        have hy0 : y = 0 := by simpa using hy
        have hxx := hidp hx
        clear hx hx0
        go_wp2_with fail
        exact ⟨⟨2, by go_num, .inr (.inr ⟨rfl, hxx.out, trivial⟩), trivial⟩, by simp [intOf]⟩
      | false =>
        have hyn : (y != 0) = true := by rw [bne, hy]; rfl
        have hy0 : ¬ y = 0 := by simpa using hy
        have HQ := hidp (show R = y from by rw [← HRR.out, if_pos hx0])
        clear hx hx0
        go_wp2_with fail
        go_ret
        exact ⟨by rw [HQ.out]; rfl, rfl⟩
    · have hx0 : x = 0 := by simpa using hx
      have hy0 : y = 0 := by simpa using hy
      have HQ := hidp (show R = 0 from by rw [← HRR.out, if_pos hx0, hy0])
      clear hx hx0 hy hy0
      go_wp2_with fail
      go_ret
      exact ⟨by rw [HQ.out]; rfl, rfl⟩
end Go.Proofs.YtkcgmimcopoknaaGreatDoor

namespace Go.Proofs.YtkcgmimcopoknaaGreatDoor
set_option maxRecDepth 100000
set_option linter.unusedVariables false
set_option linter.unusedSimpArgs false
open Go.RowKit Rw


theorem run_bs2 (x y : Int) (w : World) : (Instr.buildSlice 74 2 #[(0, .int .i64 x), (1, .int .i64 y)]).run Tryz.prog w = .ok (.slice (some ⟨w.heap.size, 0, none⟩) 2 2) (w.alloc (.cells #[.int .i64 x, .int .i64 y] 3)) := by
  have hi : (Tryz.prog.info? 3).map (fun i => (i.zero, i.size, i.bytes)) = some (some (.int .i64 0), 1, 8) := by kernel_rfl
  obtain ⟨i0, hi, hz0, hz1, hz2⟩ := info_parts hi
  refine run_buildSlice w 74 3 2 _ _ i0 _ Tryz.underlying74 hi hz0 (by rw [hz1]; omega) (by rw [hz1]; omega) ?_
  have hr : Array.range 2 = #[0, 1] := by decide
  rw [hz1]; simp [Instr.fill, Value.cells, hr]
section
variable {ops : Array Oper} {Q : Exit → Act → World → Prop} {S : World → Prop} {j : Nat} {o : Oper} {a : Act} {w w0 : World} {N : Nat} {L : List Mm.Bx} {K : Act → World → Prop}
theorem o_bs2 (H : Hid (Mm.M N w0 w L)) (hT : ∀ W, Mm.M N w0 W L → S W) (ho : ops[j]? = some o) (hw : Region.wanted o (yielded ops a.tmps) = true) (x y : Operand) (vx vy : Int) (hop : o.op = .buildSlice 74 2 #[(0, x), (1, y)]) (hx : a.eval x = .int .i64 vx) (hy : a.eval y = .int .i64 vy)
    (h : ∀ b W, Hid (Mm.M N w0 W (⟨b, 3, [.int .i64 vx, .int .i64 vy]⟩ :: L)) → Below w.heap.size w W → K (a.put o.dst (.slice (some ⟨b, 0, none⟩) 2 2)) W) : opW Tryz.prog ops Q S j K a w := by
  refine ⟨o, ho, hw, ?_⟩
  have n := Rt.NewAt.mk' w 3 [.int .i64 vx, .int .i64 vy]
  have := h _ _ (hidp (H.out.new n)) n.below
  unfold Oper.wp execOp
  simp only [hop, List.map_toArray, List.map_cons, List.map_nil, hx, hy, Sem.run_bind, run_bs2 vx vy w, Result.andThen_ok]
  exact ⟨hT _ (H.out.new n).tail, this⟩
end

theorem same_bs {f : FuncId} {args : Array Value} {w : World} {v : Value} (h : Calls Tryz.prog f args w fun e w' => e = .returned v ∧ w' = w) : Calls Tryz.prog f args w fun e w' => e = .returned v ∧ Below w.heap.size w w' :=
  h.mono fun e w' ⟨h1, h2⟩ => ⟨h1, h2 ▸ Below.refl _ _⟩
set_option maxHeartbeats 4000000 in
theorem compare_any (w : World) (c d : Ce) : Calls Tryz.prog 56 #[.agg c.row.toArray, .agg d.row.toArray] w fun e w' => e = .returned (.int .i64 (cmpC c d)) ∧ Below w.heap.size w w' := by
  have H := hidp (Mm.M.nil w)
  go_enter Tryz.func56, Tryz.ntmps56
  go_wp2_with (first | (refine Mm.box 96 H rfl (.tmp 0) rfl c.row rfl ?_; clear H; intro b2 _ H nw; have hb := nw.below; clear hb nw) | (refine Mm.box 96 H rfl (.tmp 1) rfl d.row rfl ?_; clear H; intro b3 _ H nw; have hb := nw.below; clear hb nw))
  refine Mm.region H (.take 0 (.take 1 (.take 2 (.take 3 (.take 5 (.take 6 (.take 7 (.take 8 (.one 4 (.one 9 (.one 10 (.one 11 (.take 12 .done))))))))))))) (by kernel_rfl) (by kernel_rfl) (by simp [Scr.depth]) (by kernel_rfl) ?_
  clear H
  intro _ H hb
  clear hb
  apply s_val
  case ho => rfl
  case hw => rfl
  case hv => intro w hw; go_simp; first | done | with_reducible rfl | rfl
  simp only [Act.put, List.getElem_toArray, List.getElem_cons_zero, List.getElem_cons_succ, List.setIfInBounds_toArray, List.set_cons_zero, List.set_cons_succ]
  refine Mm.sld1 naK (fun w h => h) rfl rfl (.tmp 5) 0 (.int .u8 (c.k : Int)) rfl rfl rfl ?_
  simp only [Act.put, List.getElem_toArray, List.getElem_cons_zero, List.getElem_cons_succ, List.setIfInBounds_toArray, List.set_cons_zero, List.set_cons_succ]
  apply s_val
  case ho => rfl
  case hw => rfl
  case hv => intro w hw; go_simp; first | done | with_reducible rfl | rfl
  simp only [Act.put, List.getElem_toArray, List.getElem_cons_zero, List.getElem_cons_succ, List.setIfInBounds_toArray, List.set_cons_zero, List.set_cons_succ]
  refine Mm.sld0 naK (fun w h => h) rfl rfl (.tmp 7) 0 (.int .u8 (d.k : Int)) rfl rfl rfl ?_
  simp only [Act.put, List.getElem_toArray, List.getElem_cons_zero, List.getElem_cons_succ, List.setIfInBounds_toArray, List.set_cons_zero, List.set_cons_succ]
  apply s_val
  case ho => rfl
  case hw => rfl
  case hv => intro w hw; go_simp; first | done | with_reducible rfl | rfl
  simp only [Act.put, List.getElem_toArray, List.getElem_cons_zero, List.getElem_cons_succ, List.setIfInBounds_toArray, List.set_cons_zero, List.set_cons_succ]
  refine Mm.sld1 naS (fun w h => h) rfl rfl (.tmp 10) 1 (.string c.y) rfl rfl rfl ?_
  simp only [Act.put, List.getElem_toArray, List.getElem_cons_zero, List.getElem_cons_succ, List.setIfInBounds_toArray, List.set_cons_zero, List.set_cons_succ]
  apply s_val
  case ho => rfl
  case hw => rfl
  case hv => intro w hw; go_simp; first | done | with_reducible rfl | rfl
  simp only [Act.put, List.getElem_toArray, List.getElem_cons_zero, List.getElem_cons_succ, List.setIfInBounds_toArray, List.set_cons_zero, List.set_cons_succ]
  refine Mm.sld0 naS (fun w h => h) rfl rfl (.tmp 12) 1 (.string d.y) rfl rfl rfl ?_
  simp only [Act.put, List.getElem_toArray, List.getElem_cons_zero, List.getElem_cons_succ, List.setIfInBounds_toArray, List.set_cons_zero, List.set_cons_succ]
  refine Mm.o_callH (v := .int .i64 (cmpN c.k d.k)) H (fun W h => h) rfl rfl 86 (#[.int .u8 (c.k : Int), .int .u8 (d.k : Int)]) (by go_simp; first | done | rfl) (same_bs (cmpK_any _ c.k d.k)) ?_
  clear H
  intro _ H hb
  clear hb
  simp only [Act.put, List.getElem_toArray, List.getElem_cons_zero, List.getElem_cons_succ, List.setIfInBounds_toArray, List.set_cons_zero, List.set_cons_succ]
  refine Mm.o_callH (v := .int .i64 (cmpS c.y d.y)) H (fun W h => h) rfl rfl 87 (#[.string c.y, .string d.y]) (by go_simp; first | done | rfl) (same_bs (cmpS_any _ c.y d.y)) ?_
  clear H
  intro _ H hb
  clear hb
  simp only [Act.put, List.getElem_toArray, List.getElem_cons_zero, List.getElem_cons_succ, List.setIfInBounds_toArray, List.set_cons_zero, List.set_cons_succ]
  refine o_bs2 H (fun W h => h) rfl rfl (.tmp 9) (.tmp 14) (cmpN c.k d.k) (cmpS c.y d.y) rfl rfl rfl ?_
  clear H
  intro b15 _ H hb
  clear hb
  simp only [Act.put, List.getElem_toArray, List.getElem_cons_zero, List.getElem_cons_succ, List.setIfInBounds_toArray, List.set_cons_zero, List.set_cons_succ]
  refine Mm.o_callH (v := .int .i64 (cmpC c d)) H (fun W h => h.tail) rfl rfl 85 (#[.slice (some ⟨b15, 0, none⟩) 2 2]) (by go_simp; first | done | rfl) (same_bs (or_any _ b15 _ _ _ H.out.at0)) ?_
  clear H
  intro _ H hb
  clear hb
  simp only [Act.put, List.getElem_toArray, List.getElem_cons_zero, List.getElem_cons_succ, List.setIfInBounds_toArray, List.set_cons_zero, List.set_cons_succ]
  apply s_val
  case ho => rfl
  case hw => rfl
  case hv => intro w hw; go_simp; first | done | with_reducible rfl | rfl
  simp only [Act.put, List.getElem_toArray, List.getElem_cons_zero, List.getElem_cons_succ, List.setIfInBounds_toArray, List.set_cons_zero, List.set_cons_succ]
  refine NoPanic.normal ?_
  go_wp2_with fail
  go_ret
  exact ⟨rfl, H.out.below⟩

set_option maxHeartbeats 4000000 in
theorem lasting_any (w : World) (e : Ev) (he : e.ok) (hI : IT w) : Calls Tryz.prog 53 #[.agg e.row.toArray] w fun x w' => x = .returned (.bool (lasB e)) ∧ Below w.heap.size w w' := by
  have HI := hidp hI
  have cs := hidp (fun W => state_any W e.kind he.k)
  have ck := hidp (fun W h => evCheck_ev W e he h)
  have H := hidp (Mm.M.nil w)
  clear hI
  cases h1 : stB e.kind with
  | false =>
    rw [h1] at cs
    have HF := hidp (show lasB e = false from by unfold lasB; rw [h1]; rfl)
    clear h1
    go_enter Tryz.func53, Tryz.ntmps53
    go_wp2_with (first | (refine Rt.wpL_skip _ _ rfl rfl ?_) | (refine Mm.box 25 H rfl (.tmp 0) rfl e.row rfl ?_; clear H; intro b1 _ H nw; have hb := nw.below; clear hb nw) | (refine Mm.ld0 naK H rfl (.tmp 3) 2 (.int .u8 (e.kind : Int)) rfl rfl rfl ?_) | (go_at_call 75; refine (same_bs (cs.out _)).mono ?_; rintro e _ ⟨rfl, hb⟩; replace H := hidp (H.out.call hb); clear hb) | (refine Mm.get0 rtE H rfl (.tmp 1) rfl rfl rfl ?_) | (go_at_call 27; refine (ck.out _ (HI.out.below H.out.below (Nat.le_refl _))).mono ?_; rintro e _ ⟨rfl, hb⟩; replace H := hidp (H.out.call hb); clear hb))
    go_ret
    exact ⟨by rw [HF.out]; rfl, H.out.below⟩
  | true =>
    rw [h1] at cs
    cases h2 : evOk e with
    | true =>
      rw [show evE e = 0 from if_pos h2] at ck
      have HF := hidp (show lasB e = true from by unfold lasB; rw [h1, h2]; rfl)
      clear h1 h2
      go_enter Tryz.func53, Tryz.ntmps53
      go_wp2_with (first | (refine Rt.wpL_skip _ _ rfl rfl ?_) | (refine Mm.box 25 H rfl (.tmp 0) rfl e.row rfl ?_; clear H; intro b1 _ H nw; have hb := nw.below; clear hb nw) | (refine Mm.ld0 naK H rfl (.tmp 3) 2 (.int .u8 (e.kind : Int)) rfl rfl rfl ?_) | (go_at_call 75; refine (same_bs (cs.out _)).mono ?_; rintro e _ ⟨rfl, hb⟩; replace H := hidp (H.out.call hb); clear hb) | (refine Mm.get0 rtE H rfl (.tmp 1) rfl rfl rfl ?_) | (go_at_call 27; refine (ck.out _ (HI.out.below H.out.below (Nat.le_refl _))).mono ?_; rintro e _ ⟨rfl, hb⟩; replace H := hidp (H.out.call hb); clear hb))
      go_ret
      exact ⟨by rw [HF.out]; rfl, H.out.below⟩
    | false =>
      rw [show evE e = 2 from if_neg (by rw [h2]; exact Bool.false_ne_true)] at ck
      have HF := hidp (show lasB e = false from by unfold lasB; rw [h1, h2]; rfl)
      clear h1 h2
      go_enter Tryz.func53, Tryz.ntmps53
      go_wp2_with (first | (refine Rt.wpL_skip _ _ rfl rfl ?_) | (refine Mm.box 25 H rfl (.tmp 0) rfl e.row rfl ?_; clear H; intro b1 _ H nw; have hb := nw.below; clear hb nw) | (refine Mm.ld0 naK H rfl (.tmp 3) 2 (.int .u8 (e.kind : Int)) rfl rfl rfl ?_) | (go_at_call 75; refine (same_bs (cs.out _)).mono ?_; rintro e _ ⟨rfl, hb⟩; replace H := hidp (H.out.call hb); clear hb) | (refine Mm.get0 rtE H rfl (.tmp 1) rfl rfl rfl ?_) | (go_at_call 27; refine (ck.out _ (HI.out.below H.out.below (Nat.le_refl _))).mono ?_; rintro e _ ⟨rfl, hb⟩; replace H := hidp (H.out.call hb); clear hb))
      go_ret
      exact ⟨by rw [HF.out]; rfl, H.out.below⟩

set_option maxHeartbeats 4000000 in
theorem valid_cell (w : World) (c : Ce) (hc : c.ok) (hI : IT w) : Calls Tryz.prog 59 #[.agg c.row.toArray] w fun x w' => x = .returned (.bool (vaC c)) ∧ Below w.heap.size w w' := by
  have HI := hidp hI
  have cl := hidp (fun W h => lasting_any W c.e hc.e h)
  have H := hidp (Mm.M.nil w)
  clear hI
  cases h1 : lasB c.e with
  | false =>
    rw [h1] at cl
    have HF := hidp (show vaC c = false from by unfold vaC; rw [h1]; rfl)
    clear h1
    go_enter Tryz.func59, Tryz.ntmps59
    go_wp2_with (first | (refine Rt.wpL_skip _ _ rfl rfl ?_) | (refine Rt.wpL_skipN _ _ rfl rfl ?_) | (refine Mm.box 96 H rfl (.tmp 0) rfl c.row rfl ?_; clear H; intro b1 _ H nw; have hb := nw.below; clear hb nw) | (refine wpL_mid rtE rfl (.tmp 3) b1 2 c.e.row rfl rfl rfl (ce_evA H.out.at0) ?_) | (go_at_call 53; refine (cl.out _ (HI.out.below H.out.below (Nat.le_refl _))).mono ?_; rintro e _ ⟨rfl, hb⟩; replace H := hidp (H.out.call hb); clear hb) | (refine Mm.ld0 naK H rfl (.tmp 8) 4 (.int .u8 (c.e.kind : Int)) rfl rfl rfl ?_) | (refine Mm.ld0 naK H rfl (.tmp 10) 0 (.int .u8 (c.k : Int)) rfl rfl rfl ?_) | (refine Mm.ld0 naS H rfl (.tmp 16) 5 (.string c.e.key) rfl rfl rfl ?_) | (refine Mm.ld0 naS H rfl (.tmp 18) 1 (.string c.y) rfl rfl rfl ?_))
    go_ret
    exact ⟨by rw [HF.out]; rfl, H.out.below⟩
  | true =>
    rw [h1] at cl
    by_cases h2 : c.e.kind = c.k
    · have e2 : ((c.e.kind : Int) == (c.k : Int)) = true := by rw [h2]; simp
      by_cases h3 : c.e.key = c.y
      · have e3 : (c.e.key.toList == c.y.toList) = true := by rw [h3]; simp
        have HF := hidp (show vaC c = true from by unfold vaC; simp [h1, h2, h3])
        clear h1 h2 h3
        go_enter Tryz.func59, Tryz.ntmps59
        go_wp2_with (first | (refine Rt.wpL_skip _ _ rfl rfl ?_) | (refine Rt.wpL_skipN _ _ rfl rfl ?_) | (refine Mm.box 96 H rfl (.tmp 0) rfl c.row rfl ?_; clear H; intro b1 _ H nw; have hb := nw.below; clear hb nw) | (refine wpL_mid rtE rfl (.tmp 3) b1 2 c.e.row rfl rfl rfl (ce_evA H.out.at0) ?_) | (go_at_call 53; refine (cl.out _ (HI.out.below H.out.below (Nat.le_refl _))).mono ?_; rintro e _ ⟨rfl, hb⟩; replace H := hidp (H.out.call hb); clear hb) | (refine Mm.ld0 naK H rfl (.tmp 8) 4 (.int .u8 (c.e.kind : Int)) rfl rfl rfl ?_) | (refine Mm.ld0 naK H rfl (.tmp 10) 0 (.int .u8 (c.k : Int)) rfl rfl rfl ?_) | (refine Mm.ld0 naS H rfl (.tmp 16) 5 (.string c.e.key) rfl rfl rfl ?_) | (refine Mm.ld0 naS H rfl (.tmp 18) 1 (.string c.y) rfl rfl rfl ?_))
        go_ret
        exact ⟨by rw [HF.out]; rfl, H.out.below⟩
      · have e3 : (c.e.key.toList == c.y.toList) = false := by rw [beq_eq_false_iff_ne]; exact fun e => h3 (ba_inj' e)
        have HF := hidp (show vaC c = false from by unfold vaC; simp [h1, h2, h3])
        clear h1 h2 h3
        go_enter Tryz.func59, Tryz.ntmps59
        go_wp2_with (first | (refine Rt.wpL_skip _ _ rfl rfl ?_) | (refine Rt.wpL_skipN _ _ rfl rfl ?_) | (refine Mm.box 96 H rfl (.tmp 0) rfl c.row rfl ?_; clear H; intro b1 _ H nw; have hb := nw.below; clear hb nw) | (refine wpL_mid rtE rfl (.tmp 3) b1 2 c.e.row rfl rfl rfl (ce_evA H.out.at0) ?_) | (go_at_call 53; refine (cl.out _ (HI.out.below H.out.below (Nat.le_refl _))).mono ?_; rintro e _ ⟨rfl, hb⟩; replace H := hidp (H.out.call hb); clear hb) | (refine Mm.ld0 naK H rfl (.tmp 8) 4 (.int .u8 (c.e.kind : Int)) rfl rfl rfl ?_) | (refine Mm.ld0 naK H rfl (.tmp 10) 0 (.int .u8 (c.k : Int)) rfl rfl rfl ?_) | (refine Mm.ld0 naS H rfl (.tmp 16) 5 (.string c.e.key) rfl rfl rfl ?_) | (refine Mm.ld0 naS H rfl (.tmp 18) 1 (.string c.y) rfl rfl rfl ?_))
        go_ret
        exact ⟨by rw [HF.out]; rfl, H.out.below⟩
    · have e2 : ((c.e.kind : Int) == (c.k : Int)) = false := by rw [beq_eq_false_iff_ne]; omega
      have HF := hidp (show vaC c = false from by unfold vaC; simp [h1, h2])
      clear h1 h2
      go_enter Tryz.func59, Tryz.ntmps59
      go_wp2_with (first | (refine Rt.wpL_skip _ _ rfl rfl ?_) | (refine Rt.wpL_skipN _ _ rfl rfl ?_) | (refine Mm.box 96 H rfl (.tmp 0) rfl c.row rfl ?_; clear H; intro b1 _ H nw; have hb := nw.below; clear hb nw) | (refine wpL_mid rtE rfl (.tmp 3) b1 2 c.e.row rfl rfl rfl (ce_evA H.out.at0) ?_) | (go_at_call 53; refine (cl.out _ (HI.out.below H.out.below (Nat.le_refl _))).mono ?_; rintro e _ ⟨rfl, hb⟩; replace H := hidp (H.out.call hb); clear hb) | (refine Mm.ld0 naK H rfl (.tmp 8) 4 (.int .u8 (c.e.kind : Int)) rfl rfl rfl ?_) | (refine Mm.ld0 naK H rfl (.tmp 10) 0 (.int .u8 (c.k : Int)) rfl rfl rfl ?_) | (refine Mm.ld0 naS H rfl (.tmp 16) 5 (.string c.e.key) rfl rfl rfl ?_) | (refine Mm.ld0 naS H rfl (.tmp 18) 1 (.string c.y) rfl rfl rfl ?_))
      go_ret
      exact ⟨by rw [HF.out]; rfl, H.out.below⟩
end Go.Proofs.YtkcgmimcopoknaaGreatDoor

namespace Go.Proofs.YtkcgmimcopoknaaGreatDoor
set_option maxRecDepth 100000
set_option linter.unusedVariables false
set_option linter.unusedSimpArgs false
open Go.RowKit Rw

section
variable {P : Program} {T k : Nat} {z : List Value} {ops : Array Oper} {rest : List Oper} {o : Oper} {a : Act} {w : World} {Q : Exit → Act → World → Prop} {S : World → Prop} {j : Nat} {s : Scr} {K : Act → World → Prop}
theorem s_mid (R : Rt.RT P T k z) (ho : ops[j]? = some o) (hw : Region.wanted o (yielded ops a.tmps) = true) (x : Operand) (b f : Nat) (xs : List Value) (hop : o.op = .load T x) (hx : a.eval x = .pointer (some ⟨b, f, none⟩)) (hl : xs.length = k) (hg : ∀ w, S w → w.rangeAt b f xs)
    (h : wpScr P ops Q s S (a.put o.dst (.agg xs.toArray)) w) : wpScr P ops Q (.take j s) S a w := by
  rcases R.ut with ⟨fs, hu⟩ | ⟨n, e, hu⟩
  · exact s_val ho hw (fun w hS => by
      unfold execOp
      simp only [hop, hx, Sem.run_bind, run_loadAt_mid w b f T xs _ (hg w hS) hu rfl (by have := R.size hl; simpa using this), Result.andThen_ok]
      rfl) h
  · exact s_val ho hw (fun w hS => by
      unfold execOp
      simp only [hop, hx, Sem.run_bind, run_loadAt_mid w b f T xs _ (hg w hS) hu rfl (by have := R.size hl; simpa using this), Result.andThen_ok]
      rfl) h
/-- A struct is stored into a row. -/
theorem run_putAt (R : Rt.RT P T k z) (b f t : Nat) (xs ys : List Value) (hl : xs.length = k) (h1 : ∀ v ∈ xs, v.oneCell' = true) (hg : Arr w b t ys) (hf : f + k ≤ ys.length) :
    (storeVar T ⟨b, f, none⟩ (.agg xs.toArray)).run P w = .ok () (w.setRow b (ys.take f ++ xs ++ ys.drop (f + k)).toArray) := by
  have hr := run_storeCells_at (P := P) b f t xs 0 ys.toArray w hg (by simp; omega) h1
  obtain ⟨i0, hi, hz0, hz1⟩ := R.parts
  simp only [Nat.add_zero, hl] at hr
  simp [storeVar, sizeOf, typeInfo, hi, hz1, Value.cells, hl]
  simpa using hr
theorem wpL_putAt (R : Rt.RT P T k z) (hgd : o.guard = none) (x y : Operand) (b f t : Nat) (xs ys : List Value) (ho : o.op = .store T x y) (hx : a.eval x = .pointer (some ⟨b, f, none⟩)) (hy : a.eval y = .agg xs.toArray) (hl : xs.length = k) (h1 : ∀ v ∈ xs, v.oneCell' = true) (hg : Arr w b t ys) (hf : f + k ≤ ys.length)
    (h : ∀ W, Arr W b t (ys.take f ++ xs ++ ys.drop (f + k)) → Rt.Stp b w W → wpList P ops Q rest (a.put o.dst undef) W) : wpList P ops Q (o :: rest) a w := by
  refine wpList_plain hgd fun K hK => ?_
  have := hK _ _ (h _ (Arr.row hg _) (Rt.Stp.setRow _ _ _))
  unfold Oper.wp execOp
  simp only [ho, hx, hy, Instr.storeAt, Instr.sureAddr, Sem.run_bind, Sem.run_pure, Result.andThen_ok, run_putAt R b f t xs ys hl h1 hg hf]
  exact this
end

set_option maxHeartbeats 16000000 in
theorem stCheck_any (w : World) (v : Value) (cs : List Ce) (hv : CsAt w v cs) (hI : IT w) :
    Calls Tryz.prog 26 #[v] w fun e w' => e = .returned (.int .i64 (ckS cs)) ∧ Below w.heap.size w w' := by
  have HI := hidp hI
  have HV := hidp hv; clear hv hI
  obtain ⟨av, cv0, rfl⟩ := HV.out.form
  have HOKS := hidp HV.out.ok
  have h47 := HV.out.len
  obtain ⟨n, hn⟩ : ∃ n, cs.length = n := ⟨_, rfl⟩
  have HN := hidp hn
  rw [hn] at HV h47 ⊢
  clear hn
  have H := hidp (Mm.M.nil w)
  by_cases h256 : 256 < n
  · have e0 : decide ((n : Int) > 256) = true := by simp; omega
    have HF := hidp (show ckS cs = 2 from if_neg fun h => by unfold okS at h; rw [Bool.and_eq_true, decide_eq_true_eq, HN.out] at h; omega)
    go_enter Tryz.func26, Tryz.ntmps26
    go_wp2_with fail
    go_ret
    exact ⟨by rw [HF.out]; rfl, Below.refl _ _⟩
  · have e0 : decide ((n : Int) > 256) = false := by simp; omega
    have n0 : ¬ 256 < n := h256
    go_enter Tryz.func26, Tryz.ntmps26
    go_wp2_with fail
    go_loopw [10] (fun t10 wr => ∃ i : Nat, t10 = .int .i64 (i : Int) ∧ i ≤ n ∧ sTo cs i = true ∧ Mm.M w.heap.size w wr []) (fun t10 _ => n - (intOf t10).toNat)
    case atStart => exact ⟨0, rfl, by omega, rfl, H.out⟩
    case round =>
      clear H
      obtain ⟨i, rfl, hi, hok, hM⟩ := hrel
      have HOK := hidp hok; have H := hidp hM
      clear hok hM
      by_cases hlt : i < n
      · have e1 : decide ((i : Int) < (n : Int)) = true := by simp; omega
        have hgl : i < cs.length := by rw [HN.out]; exact hlt
        obtain ⟨BK, off, c0, e2, hc, hBK0, hR0⟩ := HV.out.get (by rw [HN.out]; omega)
        rw [HN.out] at e2
        simp only [Value.slice.injEq] at e2
        obtain ⟨rfl, -, rfl⟩ := e2
        have hBK := hidp hBK0
        have HR := hidp hR0
        obtain ⟨c, hge⟩ : ∃ c, cs[i] = c := ⟨_, rfl⟩
        have HRI := hidp (show wr.rangeAt BK (off + 8 * i) c.row from by rw [← hge]; exact rangeAt_below (hR0 i hgl) H.out.below hBK0)
        have hcok := hidp (show c.ok from by rw [← hge]; exact HOKS.out _ (List.getElem_mem hgl))
        have HAT := hidp (show sAt cs i = (vaC c && (decide (i = 0) || decide (cmpC (cs.getD (i - 1) cz) c < 0))) from by unfold sAt; rw [getD_ce hgl, hge])
        have hwi : i ≠ 0 → IntKind.i64.wrap ((i : Int) - 1) = ((i - 1 : Nat) : Int) := fun h => by rw [IntKind.wrap_i64]; omega
        have cv := hidp (fun W h => valid_cell W c hcok.out h)
        clear hR0 hBK0 hge hc
        cases hva : vaC c with
        | false =>
          rw [hva] at cv
          have HF := hidp (show ckS cs = 2 from ckS_bad hgl (by rw [HAT.out, hva]; rfl))
          clear hva
          go_wp2_with (first | (refine wpL_idxR tyC rfl (.tmp 8) (.tmp 10) rfl BK off n _ i rfl rfl hlt ?_) | (refine wpL_atR tyC rfl (.tmp 13) rfl BK (off + 8 * i) c.row rfl rfl HRI.out ?_) | (refine Mm.new rtC H (some 4) rfl rfl rfl ?_; clear H; intro b4 _ H nw; have hb := nw.below; clear hb nw) | (refine Mm.put0 rtC H rfl (.tmp 4) (.tmp 14) c.row rfl rfl rfl rfl (Ce.one c) rfl ?_; intro _ H2 st; clear st H; have H := H2; clear H2))
          refine Mm.region H (.take 0 (.one 1 (.take 2 (.take 3 (.take 4 (.take 5 (.take 6 (.take 7 (.take 8 (.take 9 (.take 10 (.take 11 (.take 12 (.take 13 (.take 14 (.take 15 (.take 16 .done))))))))))))))))) (by kernel_rfl) (by kernel_rfl) (by simp [Scr.depth]) (by kernel_rfl) ?_
          clear H
          intro _ H hb
          clear hb
          refine Mm.sget0 rtC (fun w h => h) rfl rfl (.tmp 4) rfl rfl rfl ?_
          simp only [Act.put, List.getElem_toArray, List.getElem_cons_zero, List.getElem_cons_succ, List.setIfInBounds_toArray, List.set_cons_zero, List.set_cons_succ]
          refine Mm.o_callH (v := .bool false) H (fun W h => h) rfl rfl 59 (#[.agg c.row.toArray]) (by go_simp; first | done | rfl) (cv.out _ (HI.out.below H.out.below (Nat.le_refl _))) ?_
          clear H
          intro _ H hb
          clear hb
          simp only [Act.put, List.getElem_toArray, List.getElem_cons_zero, List.getElem_cons_succ, List.setIfInBounds_toArray, List.set_cons_zero, List.set_cons_succ]
          apply s_val
          case ho => rfl
          case hw => rfl
          case hv => intro w hw; go_simp; first | done | with_reducible rfl | rfl
          simp only [Act.put, List.getElem_toArray, List.getElem_cons_zero, List.getElem_cons_succ, List.setIfInBounds_toArray, List.set_cons_zero, List.set_cons_succ]
          apply s_val
          case ho => rfl
          case hw => rfl
          case hv => intro w hw; go_simp; first | done | with_reducible rfl | rfl
          simp only [Act.put, List.getElem_toArray, List.getElem_cons_zero, List.getElem_cons_succ, List.setIfInBounds_toArray, List.set_cons_zero, List.set_cons_succ]
          refine Rt.s_skip rfl rfl ?_
          simp only [Act.put, List.getElem_toArray, List.getElem_cons_zero, List.getElem_cons_succ, List.setIfInBounds_toArray, List.set_cons_zero, List.set_cons_succ]
          refine Rt.s_skip rfl rfl ?_
          simp only [Act.put, List.getElem_toArray, List.getElem_cons_zero, List.getElem_cons_succ, List.setIfInBounds_toArray, List.set_cons_zero, List.set_cons_succ]
          refine Rt.s_skip rfl rfl ?_
          simp only [Act.put, List.getElem_toArray, List.getElem_cons_zero, List.getElem_cons_succ, List.setIfInBounds_toArray, List.set_cons_zero, List.set_cons_succ]
          refine Rt.s_skip rfl rfl ?_
          simp only [Act.put, List.getElem_toArray, List.getElem_cons_zero, List.getElem_cons_succ, List.setIfInBounds_toArray, List.set_cons_zero, List.set_cons_succ]
          refine Rt.s_skip rfl rfl ?_
          simp only [Act.put, List.getElem_toArray, List.getElem_cons_zero, List.getElem_cons_succ, List.setIfInBounds_toArray, List.set_cons_zero, List.set_cons_succ]
          refine Rt.s_skip rfl rfl ?_
          simp only [Act.put, List.getElem_toArray, List.getElem_cons_zero, List.getElem_cons_succ, List.setIfInBounds_toArray, List.set_cons_zero, List.set_cons_succ]
          refine Rt.s_skip rfl rfl ?_
          simp only [Act.put, List.getElem_toArray, List.getElem_cons_zero, List.getElem_cons_succ, List.setIfInBounds_toArray, List.set_cons_zero, List.set_cons_succ]
          refine Rt.s_skip rfl rfl ?_
          simp only [Act.put, List.getElem_toArray, List.getElem_cons_zero, List.getElem_cons_succ, List.setIfInBounds_toArray, List.set_cons_zero, List.set_cons_succ]
          refine Rt.s_skip rfl rfl ?_
          simp only [Act.put, List.getElem_toArray, List.getElem_cons_zero, List.getElem_cons_succ, List.setIfInBounds_toArray, List.set_cons_zero, List.set_cons_succ]
          refine Rt.s_skip rfl rfl ?_
          simp only [Act.put, List.getElem_toArray, List.getElem_cons_zero, List.getElem_cons_succ, List.setIfInBounds_toArray, List.set_cons_zero, List.set_cons_succ]
          refine Rt.s_skip rfl rfl ?_
          simp only [Act.put, List.getElem_toArray, List.getElem_cons_zero, List.getElem_cons_succ, List.setIfInBounds_toArray, List.set_cons_zero, List.set_cons_succ]
          refine Rt.s_skip rfl rfl ?_
          simp only [Act.put, List.getElem_toArray, List.getElem_cons_zero, List.getElem_cons_succ, List.setIfInBounds_toArray, List.set_cons_zero, List.set_cons_succ]
          apply s_val
          case ho => rfl
          case hw => rfl
          case hv => intro w hw; go_simp; first | done | with_reducible rfl | rfl
          simp only [Act.put, List.getElem_toArray, List.getElem_cons_zero, List.getElem_cons_succ, List.setIfInBounds_toArray, List.set_cons_zero, List.set_cons_succ]
          refine NoPanic.normal ?_
          go_wp2_with fail
          go_ret
          exact ⟨by rw [HF.out]; rfl, H.out.below⟩
        | true =>
          rw [hva] at cv
          by_cases hz : i = 0
          · have ei : decide ((i : Int) > 0) = false := by simp; omega
            have HOK2 := hidp (show sTo cs (i + 1) = true from by rw [sTo_succ, HOK.out, HAT.out, hva, decide_eq_true hz]; rfl)
            clear hva
            go_wp2_with (first | (refine wpL_idxR tyC rfl (.tmp 8) (.tmp 10) rfl BK off n _ i rfl rfl hlt ?_) | (refine wpL_atR tyC rfl (.tmp 13) rfl BK (off + 8 * i) c.row rfl rfl HRI.out ?_) | (refine Mm.new rtC H (some 4) rfl rfl rfl ?_; clear H; intro b4 _ H nw; have hb := nw.below; clear hb nw) | (refine Mm.put0 rtC H rfl (.tmp 4) (.tmp 14) c.row rfl rfl rfl rfl (Ce.one c) rfl ?_; intro _ H2 st; clear st H; have H := H2; clear H2))
            refine Mm.region H (.take 0 (.one 1 (.take 2 (.take 3 (.take 4 (.take 5 (.take 6 (.take 7 (.take 8 (.take 9 (.take 10 (.take 11 (.take 12 (.take 13 (.take 14 (.take 15 (.take 16 .done))))))))))))))))) (by kernel_rfl) (by kernel_rfl) (by simp [Scr.depth]) (by kernel_rfl) ?_
            clear H
            intro _ H hb
            clear hb
            refine Mm.sget0 rtC (fun w h => h) rfl rfl (.tmp 4) rfl rfl rfl ?_
            simp only [Act.put, List.getElem_toArray, List.getElem_cons_zero, List.getElem_cons_succ, List.setIfInBounds_toArray, List.set_cons_zero, List.set_cons_succ]
            refine Mm.o_callH (v := .bool true) H (fun W h => h) rfl rfl 59 (#[.agg c.row.toArray]) (by go_simp; first | done | rfl) (cv.out _ (HI.out.below H.out.below (Nat.le_refl _))) ?_
            clear H
            intro _ H hb
            clear hb
            simp only [Act.put, List.getElem_toArray, List.getElem_cons_zero, List.getElem_cons_succ, List.setIfInBounds_toArray, List.set_cons_zero, List.set_cons_succ]
            apply s_val
            case ho => rfl
            case hw => rfl
            case hv => intro w hw; go_simp; first | done | with_reducible rfl | rfl
            simp only [Act.put, List.getElem_toArray, List.getElem_cons_zero, List.getElem_cons_succ, List.setIfInBounds_toArray, List.set_cons_zero, List.set_cons_succ]
            apply s_val
            case ho => rfl
            case hw => rfl
            case hv => intro w hw; go_simp; first | done | with_reducible rfl | rfl
            simp only [Act.put, List.getElem_toArray, List.getElem_cons_zero, List.getElem_cons_succ, List.setIfInBounds_toArray, List.set_cons_zero, List.set_cons_succ]
            apply s_val
            case ho => rfl
            case hw => rfl
            case hv => intro w hw; go_simp; first | done | with_reducible rfl | rfl
            simp only [Act.put, List.getElem_toArray, List.getElem_cons_zero, List.getElem_cons_succ, List.setIfInBounds_toArray, List.set_cons_zero, List.set_cons_succ]
            apply s_val
            case ho => rfl
            case hw => rfl
            case hv => intro w hw; have q := ei; go_simp; first | done | with_reducible rfl | rfl
            simp only [Act.put, List.getElem_toArray, List.getElem_cons_zero, List.getElem_cons_succ, List.setIfInBounds_toArray, List.set_cons_zero, List.set_cons_succ]
            apply s_val
            case ho => rfl
            case hw => rfl
            case hv => intro w hw; go_simp; first | done | with_reducible rfl | rfl
            simp only [Act.put, List.getElem_toArray, List.getElem_cons_zero, List.getElem_cons_succ, List.setIfInBounds_toArray, List.set_cons_zero, List.set_cons_succ]
            refine Rt.s_skip rfl rfl ?_
            simp only [Act.put, List.getElem_toArray, List.getElem_cons_zero, List.getElem_cons_succ, List.setIfInBounds_toArray, List.set_cons_zero, List.set_cons_succ]
            refine Rt.s_skip rfl rfl ?_
            simp only [Act.put, List.getElem_toArray, List.getElem_cons_zero, List.getElem_cons_succ, List.setIfInBounds_toArray, List.set_cons_zero, List.set_cons_succ]
            refine Rt.s_skip rfl rfl ?_
            simp only [Act.put, List.getElem_toArray, List.getElem_cons_zero, List.getElem_cons_succ, List.setIfInBounds_toArray, List.set_cons_zero, List.set_cons_succ]
            refine Rt.s_skip rfl rfl ?_
            simp only [Act.put, List.getElem_toArray, List.getElem_cons_zero, List.getElem_cons_succ, List.setIfInBounds_toArray, List.set_cons_zero, List.set_cons_succ]
            refine Rt.s_skip rfl rfl ?_
            simp only [Act.put, List.getElem_toArray, List.getElem_cons_zero, List.getElem_cons_succ, List.setIfInBounds_toArray, List.set_cons_zero, List.set_cons_succ]
            refine Rt.s_skip rfl rfl ?_
            simp only [Act.put, List.getElem_toArray, List.getElem_cons_zero, List.getElem_cons_succ, List.setIfInBounds_toArray, List.set_cons_zero, List.set_cons_succ]
            refine Rt.s_skip rfl rfl ?_
            simp only [Act.put, List.getElem_toArray, List.getElem_cons_zero, List.getElem_cons_succ, List.setIfInBounds_toArray, List.set_cons_zero, List.set_cons_succ]
            refine Rt.s_skip rfl rfl ?_
            simp only [Act.put, List.getElem_toArray, List.getElem_cons_zero, List.getElem_cons_succ, List.setIfInBounds_toArray, List.set_cons_zero, List.set_cons_succ]
            apply s_val
            case ho => rfl
            case hw => rfl
            case hv => intro w hw; go_simp; first | done | with_reducible rfl | rfl
            simp only [Act.put, List.getElem_toArray, List.getElem_cons_zero, List.getElem_cons_succ, List.setIfInBounds_toArray, List.set_cons_zero, List.set_cons_succ]
            apply s_val
            case ho => rfl
            case hw => rfl
            case hv => intro w hw; go_simp; first | done | with_reducible rfl | rfl
            simp only [Act.put, List.getElem_toArray, List.getElem_cons_zero, List.getElem_cons_succ, List.setIfInBounds_toArray, List.set_cons_zero, List.set_cons_succ]
            refine NoPanic.normal ?_
            go_wp2_with fail
            exact ⟨⟨i + 1, by go_num, by omega, HOK2.out, H.out.sub (List.nil_sublist _)⟩, by simp [intOf]; omega⟩
          · have hi0 : 0 < i := by omega
            have ei : decide ((i : Int) > 0) = true := by simp; omega
            have hwi := hwi hz
            have hpl : i - 1 < cs.length := by omega
            obtain ⟨p, hpe0⟩ : ∃ p, cs[i - 1] = p := ⟨_, rfl⟩
            have HRP := hidp (show w.rangeAt BK (off + 8 * (i - 1)) p.row from by rw [← hpe0]; exact HR.out (i - 1) hpl)
            have hpd := hidp (show cs.getD (i - 1) cz = p from by rw [getD_ce hpl]; exact hpe0)
            have cc := hidp (fun W => compare_any W p c)
            obtain ⟨Y, hY⟩ : ∃ Y, cmpC p c = Y := ⟨_, rfl⟩
            rw [hY] at cc
            clear hpe0
            by_cases hf : Y < 0
            · have HY := hidp (show decide (Y ≥ 0) = false from by simp; omega)
              have HOK2 := hidp (show sTo cs (i + 1) = true from by rw [sTo_succ, HOK.out, HAT.out, hva, hpd.out, hY, decide_eq_true hf]; simp)
              clear hva hY hf
              go_wp2_with (first | (refine wpL_idxR tyC rfl (.tmp 8) (.tmp 10) rfl BK off n _ i rfl rfl hlt ?_) | (refine wpL_atR tyC rfl (.tmp 13) rfl BK (off + 8 * i) c.row rfl rfl HRI.out ?_) | (refine Mm.new rtC H (some 4) rfl rfl rfl ?_; clear H; intro b4 _ H nw; have hb := nw.below; clear hb nw) | (refine Mm.put0 rtC H rfl (.tmp 4) (.tmp 14) c.row rfl rfl rfl rfl (Ce.one c) rfl ?_; intro _ H2 st; clear st H; have H := H2; clear H2))
              refine Mm.region H (.take 0 (.one 1 (.take 2 (.take 3 (.take 4 (.take 5 (.take 6 (.take 7 (.take 8 (.take 9 (.take 10 (.take 11 (.take 12 (.one 13 (.take 14 (.take 15 (.take 16 .done))))))))))))))))) (by kernel_rfl) (by kernel_rfl) (by simp [Scr.depth]) (by kernel_rfl) ?_
              clear H
              intro _ H hb
              clear hb
              refine Mm.sget0 rtC (fun w h => h) rfl rfl (.tmp 4) rfl rfl rfl ?_
              simp only [Act.put, List.getElem_toArray, List.getElem_cons_zero, List.getElem_cons_succ, List.setIfInBounds_toArray, List.set_cons_zero, List.set_cons_succ]
              refine Mm.o_callH (v := .bool true) H (fun W h => h) rfl rfl 59 (#[.agg c.row.toArray]) (by go_simp; first | done | rfl) (cv.out _ (HI.out.below H.out.below (Nat.le_refl _))) ?_
              clear H
              intro _ H hb
              clear hb
              simp only [Act.put, List.getElem_toArray, List.getElem_cons_zero, List.getElem_cons_succ, List.setIfInBounds_toArray, List.set_cons_zero, List.set_cons_succ]
              apply s_val
              case ho => rfl
              case hw => rfl
              case hv => intro w hw; go_simp; first | done | with_reducible rfl | rfl
              simp only [Act.put, List.getElem_toArray, List.getElem_cons_zero, List.getElem_cons_succ, List.setIfInBounds_toArray, List.set_cons_zero, List.set_cons_succ]
              apply s_val
              case ho => rfl
              case hw => rfl
              case hv => intro w hw; go_simp; first | done | with_reducible rfl | rfl
              simp only [Act.put, List.getElem_toArray, List.getElem_cons_zero, List.getElem_cons_succ, List.setIfInBounds_toArray, List.set_cons_zero, List.set_cons_succ]
              apply s_val
              case ho => rfl
              case hw => rfl
              case hv => intro w hw; go_simp; first | done | with_reducible rfl | rfl
              simp only [Act.put, List.getElem_toArray, List.getElem_cons_zero, List.getElem_cons_succ, List.setIfInBounds_toArray, List.set_cons_zero, List.set_cons_succ]
              apply s_val
              case ho => rfl
              case hw => rfl
              case hv => intro w hw; have q := ei; go_simp; first | done | with_reducible rfl | rfl
              simp only [Act.put, List.getElem_toArray, List.getElem_cons_zero, List.getElem_cons_succ, List.setIfInBounds_toArray, List.set_cons_zero, List.set_cons_succ]
              apply s_val
              case ho => rfl
              case hw => rfl
              case hv => intro w hw; go_simp; first | done | with_reducible rfl | rfl
              simp only [Act.put, List.getElem_toArray, List.getElem_cons_zero, List.getElem_cons_succ, List.setIfInBounds_toArray, List.set_cons_zero, List.set_cons_succ]
              apply s_val
              case ho => rfl
              case hw => rfl
              case hv => intro w hw; go_simp; first | done | with_reducible rfl | rfl
              simp only [Act.put, List.getElem_toArray, List.getElem_cons_zero, List.getElem_cons_succ, List.setIfInBounds_toArray, List.set_cons_zero, List.set_cons_succ]
              apply s_val
              case ho => rfl
              case hw => rfl
              case hv => intro w hw; go_simp; first | done | with_reducible rfl | rfl
              simp only [Act.put, List.getElem_toArray, List.getElem_cons_zero, List.getElem_cons_succ, List.setIfInBounds_toArray, List.set_cons_zero, List.set_cons_succ]
              apply s_val (v := .int .i64 ((i - 1 : Nat) : Int))
              case ho => rfl
              case hw => rfl
              case hv => intro w hw; have q := hwi; go_simp; first | done | with_reducible rfl | rfl
              simp only [Act.put, List.getElem_toArray, List.getElem_cons_zero, List.getElem_cons_succ, List.setIfInBounds_toArray, List.set_cons_zero, List.set_cons_succ]
              refine s_idxR tyC rfl rfl (.tmp 22) (.tmp 24) rfl BK off n _ (i - 1) rfl rfl (by omega) ?_
              simp only [Act.put, List.getElem_toArray, List.getElem_cons_zero, List.getElem_cons_succ, List.setIfInBounds_toArray, List.set_cons_zero, List.set_cons_succ]
              refine s_mid rtC rfl rfl (.tmp 25) BK (off + 8 * (i - 1)) p.row rfl rfl rfl (fun w h => rangeAt_below HRP.out h.below hBK.out) ?_
              simp only [Act.put, List.getElem_toArray, List.getElem_cons_zero, List.getElem_cons_succ, List.setIfInBounds_toArray, List.set_cons_zero, List.set_cons_succ]
              refine Mm.sget0 rtC (fun w h => h) rfl rfl (.tmp 4) rfl rfl rfl ?_
              simp only [Act.put, List.getElem_toArray, List.getElem_cons_zero, List.getElem_cons_succ, List.setIfInBounds_toArray, List.set_cons_zero, List.set_cons_succ]
              refine Mm.o_callH (v := .int .i64 Y) H (fun W h => h) rfl rfl 56 (#[.agg p.row.toArray, .agg c.row.toArray]) (by go_simp; first | done | rfl) (cc.out _) ?_
              clear H
              intro _ H hb
              clear hb
              simp only [Act.put, List.getElem_toArray, List.getElem_cons_zero, List.getElem_cons_succ, List.setIfInBounds_toArray, List.set_cons_zero, List.set_cons_succ]
              apply s_val
              case ho => rfl
              case hw => rfl
              case hv => intro w hw; have q := HY.out; go_simp; first | done | with_reducible rfl | rfl
              simp only [Act.put, List.getElem_toArray, List.getElem_cons_zero, List.getElem_cons_succ, List.setIfInBounds_toArray, List.set_cons_zero, List.set_cons_succ]
              apply s_val
              case ho => rfl
              case hw => rfl
              case hv => intro w hw; go_simp; first | done | with_reducible rfl | rfl
              simp only [Act.put, List.getElem_toArray, List.getElem_cons_zero, List.getElem_cons_succ, List.setIfInBounds_toArray, List.set_cons_zero, List.set_cons_succ]
              apply s_val
              case ho => rfl
              case hw => rfl
              case hv => intro w hw; go_simp; first | done | with_reducible rfl | rfl
              simp only [Act.put, List.getElem_toArray, List.getElem_cons_zero, List.getElem_cons_succ, List.setIfInBounds_toArray, List.set_cons_zero, List.set_cons_succ]
              refine NoPanic.normal ?_
              go_wp2_with fail
              exact ⟨⟨i + 1, by go_num, by omega, HOK2.out, H.out.sub (List.nil_sublist _)⟩, by simp [intOf]; omega⟩
            · have HY := hidp (show decide (Y ≥ 0) = true from by simp; omega)
              have HF := hidp (show ckS cs = 2 from ckS_bad hgl (by rw [HAT.out, hva, hpd.out, hY, decide_eq_false hf, decide_eq_false hz]; rfl))
              clear hva hY hf
              go_wp2_with (first | (refine wpL_idxR tyC rfl (.tmp 8) (.tmp 10) rfl BK off n _ i rfl rfl hlt ?_) | (refine wpL_atR tyC rfl (.tmp 13) rfl BK (off + 8 * i) c.row rfl rfl HRI.out ?_) | (refine Mm.new rtC H (some 4) rfl rfl rfl ?_; clear H; intro b4 _ H nw; have hb := nw.below; clear hb nw) | (refine Mm.put0 rtC H rfl (.tmp 4) (.tmp 14) c.row rfl rfl rfl rfl (Ce.one c) rfl ?_; intro _ H2 st; clear st H; have H := H2; clear H2))
              refine Mm.region H (.take 0 (.one 1 (.take 2 (.take 3 (.take 4 (.take 5 (.take 6 (.take 7 (.take 8 (.take 9 (.take 10 (.take 11 (.take 12 (.one 13 (.take 14 (.take 15 (.take 16 .done))))))))))))))))) (by kernel_rfl) (by kernel_rfl) (by simp [Scr.depth]) (by kernel_rfl) ?_
              clear H
              intro _ H hb
              clear hb
              refine Mm.sget0 rtC (fun w h => h) rfl rfl (.tmp 4) rfl rfl rfl ?_
              simp only [Act.put, List.getElem_toArray, List.getElem_cons_zero, List.getElem_cons_succ, List.setIfInBounds_toArray, List.set_cons_zero, List.set_cons_succ]
              refine Mm.o_callH (v := .bool true) H (fun W h => h) rfl rfl 59 (#[.agg c.row.toArray]) (by go_simp; first | done | rfl) (cv.out _ (HI.out.below H.out.below (Nat.le_refl _))) ?_
              clear H
              intro _ H hb
              clear hb
              simp only [Act.put, List.getElem_toArray, List.getElem_cons_zero, List.getElem_cons_succ, List.setIfInBounds_toArray, List.set_cons_zero, List.set_cons_succ]
              apply s_val
              case ho => rfl
              case hw => rfl
              case hv => intro w hw; go_simp; first | done | with_reducible rfl | rfl
              simp only [Act.put, List.getElem_toArray, List.getElem_cons_zero, List.getElem_cons_succ, List.setIfInBounds_toArray, List.set_cons_zero, List.set_cons_succ]
              apply s_val
              case ho => rfl
              case hw => rfl
              case hv => intro w hw; go_simp; first | done | with_reducible rfl | rfl
              simp only [Act.put, List.getElem_toArray, List.getElem_cons_zero, List.getElem_cons_succ, List.setIfInBounds_toArray, List.set_cons_zero, List.set_cons_succ]
              apply s_val
              case ho => rfl
              case hw => rfl
              case hv => intro w hw; go_simp; first | done | with_reducible rfl | rfl
              simp only [Act.put, List.getElem_toArray, List.getElem_cons_zero, List.getElem_cons_succ, List.setIfInBounds_toArray, List.set_cons_zero, List.set_cons_succ]
              apply s_val
              case ho => rfl
              case hw => rfl
              case hv => intro w hw; have q := ei; go_simp; first | done | with_reducible rfl | rfl
              simp only [Act.put, List.getElem_toArray, List.getElem_cons_zero, List.getElem_cons_succ, List.setIfInBounds_toArray, List.set_cons_zero, List.set_cons_succ]
              apply s_val
              case ho => rfl
              case hw => rfl
              case hv => intro w hw; go_simp; first | done | with_reducible rfl | rfl
              simp only [Act.put, List.getElem_toArray, List.getElem_cons_zero, List.getElem_cons_succ, List.setIfInBounds_toArray, List.set_cons_zero, List.set_cons_succ]
              apply s_val
              case ho => rfl
              case hw => rfl
              case hv => intro w hw; go_simp; first | done | with_reducible rfl | rfl
              simp only [Act.put, List.getElem_toArray, List.getElem_cons_zero, List.getElem_cons_succ, List.setIfInBounds_toArray, List.set_cons_zero, List.set_cons_succ]
              apply s_val
              case ho => rfl
              case hw => rfl
              case hv => intro w hw; go_simp; first | done | with_reducible rfl | rfl
              simp only [Act.put, List.getElem_toArray, List.getElem_cons_zero, List.getElem_cons_succ, List.setIfInBounds_toArray, List.set_cons_zero, List.set_cons_succ]
              apply s_val (v := .int .i64 ((i - 1 : Nat) : Int))
              case ho => rfl
              case hw => rfl
              case hv => intro w hw; have q := hwi; go_simp; first | done | with_reducible rfl | rfl
              simp only [Act.put, List.getElem_toArray, List.getElem_cons_zero, List.getElem_cons_succ, List.setIfInBounds_toArray, List.set_cons_zero, List.set_cons_succ]
              refine s_idxR tyC rfl rfl (.tmp 22) (.tmp 24) rfl BK off n _ (i - 1) rfl rfl (by omega) ?_
              simp only [Act.put, List.getElem_toArray, List.getElem_cons_zero, List.getElem_cons_succ, List.setIfInBounds_toArray, List.set_cons_zero, List.set_cons_succ]
              refine s_mid rtC rfl rfl (.tmp 25) BK (off + 8 * (i - 1)) p.row rfl rfl rfl (fun w h => rangeAt_below HRP.out h.below hBK.out) ?_
              simp only [Act.put, List.getElem_toArray, List.getElem_cons_zero, List.getElem_cons_succ, List.setIfInBounds_toArray, List.set_cons_zero, List.set_cons_succ]
              refine Mm.sget0 rtC (fun w h => h) rfl rfl (.tmp 4) rfl rfl rfl ?_
              simp only [Act.put, List.getElem_toArray, List.getElem_cons_zero, List.getElem_cons_succ, List.setIfInBounds_toArray, List.set_cons_zero, List.set_cons_succ]
              refine Mm.o_callH (v := .int .i64 Y) H (fun W h => h) rfl rfl 56 (#[.agg p.row.toArray, .agg c.row.toArray]) (by go_simp; first | done | rfl) (cc.out _) ?_
              clear H
              intro _ H hb
              clear hb
              simp only [Act.put, List.getElem_toArray, List.getElem_cons_zero, List.getElem_cons_succ, List.setIfInBounds_toArray, List.set_cons_zero, List.set_cons_succ]
              apply s_val
              case ho => rfl
              case hw => rfl
              case hv => intro w hw; have q := HY.out; go_simp; first | done | with_reducible rfl | rfl
              simp only [Act.put, List.getElem_toArray, List.getElem_cons_zero, List.getElem_cons_succ, List.setIfInBounds_toArray, List.set_cons_zero, List.set_cons_succ]
              apply s_val
              case ho => rfl
              case hw => rfl
              case hv => intro w hw; go_simp; first | done | with_reducible rfl | rfl
              simp only [Act.put, List.getElem_toArray, List.getElem_cons_zero, List.getElem_cons_succ, List.setIfInBounds_toArray, List.set_cons_zero, List.set_cons_succ]
              apply s_val
              case ho => rfl
              case hw => rfl
              case hv => intro w hw; go_simp; first | done | with_reducible rfl | rfl
              simp only [Act.put, List.getElem_toArray, List.getElem_cons_zero, List.getElem_cons_succ, List.setIfInBounds_toArray, List.set_cons_zero, List.set_cons_succ]
              refine NoPanic.normal ?_
              go_wp2_with fail
              go_ret
              exact ⟨by rw [HF.out]; rfl, H.out.below⟩
      · have e1 : decide ((i : Int) < (n : Int)) = false := by simp; omega
        have hin : i = n := by omega
        have HF := hidp (show ckS cs = 0 from if_pos (by unfold okS; rw [Bool.and_eq_true, decide_eq_true_eq, HN.out]; exact ⟨by omega, by rw [← hin]; exact HOK.out⟩))
        go_wp2_with fail
        go_ret
        exact ⟨by rw [HF.out]; rfl, H.out.below⟩
end Go.Proofs.YtkcgmimcopoknaaGreatDoor

namespace Go.Proofs.YtkcgmimcopoknaaGreatDoor
set_option maxRecDepth 100000
set_option linter.unusedVariables false
set_option linter.unusedSimpArgs false
open Go.RowKit Rw


theorem search_lo {cs : List Ce} {c : Ce} (hp : cs.Pairwise ltC) {h : Nat} (hh : h < cs.length) (hy : cmpC cs[h] c < 0) : ∀ q, q < h + 1 → (hq : q < cs.length) → cmpC cs[q] c < 0 := by
  intro q hq hql
  rw [List.pairwise_iff_getElem] at hp
  rcases Nat.lt_or_ge q h with hl | hg
  · exact cmpC_neg.2 (ltC_trans (hp q h hql hh hl) (cmpC_neg.1 hy))
  · have : q = h := by omega
    subst this; exact hy
theorem search_hi {cs : List Ce} {c : Ce} (hp : cs.Pairwise ltC) {h : Nat} (hh : h < cs.length) (hy : ¬ cmpC cs[h] c < 0) : ∀ q, h ≤ q → (hq : q < cs.length) → 0 ≤ cmpC cs[q] c := by
  intro q hq hql
  rw [List.pairwise_iff_getElem] at hp
  rcases Nat.lt_or_ge h q with hl | hg
  · refine Int.not_lt.1 fun g => hy (cmpC_neg.2 (ltC_trans (hp h q hh hql hl) (cmpC_neg.1 g)))
  · have : q = h := by omega
    subst this; omega
set_option maxHeartbeats 16000000 in
theorem search_any (w : World) (v : Value) (cs : List Ce) (hv : CsAt w v cs) (c : Ce) (hp : cs.Pairwise ltC) (hn256 : cs.length ≤ 256) :
    Calls Tryz.prog 55 #[v, .agg c.row.toArray, .func (.func 56) #[] #[]] w fun e w' => e = .returned (.tuple #[.int .i64 (posS cs c : Int), .bool (fndS cs c)]) ∧ Below w.heap.size w w' := by
  have HV := hidp hv; clear hv
  have HPW := hidp hp; clear hp
  obtain ⟨av, cv0, rfl⟩ := HV.out.form
  obtain ⟨n, hn⟩ : ∃ n, cs.length = n := ⟨_, rfl⟩
  have HN := hidp hn
  rw [hn] at HV hn256 ⊢
  clear hn
  have H := hidp (Mm.M.nil w)
  go_enter Tryz.func55, Tryz.ntmps55
  go_wp2_with (refine Mm.box 96 H rfl (.tmp 1) rfl c.row rfl ?_; clear H; intro b4 _ H nw; clear nw)
  go_loopw [9, 10] (fun t9 t10 wr => ∃ i j : Nat, t9 = .int .i64 (i : Int) ∧ t10 = .int .i64 (j : Int) ∧ i ≤ j ∧ j ≤ n ∧ Hid (∀ q, q < i → (hq : q < cs.length) → cmpC cs[q] c < 0) ∧ Hid (∀ q, j ≤ q → (hq : q < cs.length) → 0 ≤ cmpC cs[q] c) ∧ Mm.M w.heap.size w wr [⟨b4, 96, c.row⟩]) (fun t9 t10 _ => (intOf t10).toNat - (intOf t9).toNat)
  case atStart => exact ⟨0, n, rfl, rfl, by omega, by omega, hidp (fun q h => absurd h (Nat.not_lt_zero _)), hidp (fun q h hq => by rw [HN.out] at hq; omega), H.out⟩
  case round =>
    clear H
    obtain ⟨i, j, rfl, rfl, hij, hjn, HLO, HHI, hM⟩ := hrel
    have H := hidp hM
    clear hM
    by_cases hlt : i < j
    · have e1 : decide ((i : Int) < (j : Int)) = true := by simp; omega
      obtain ⟨h, hh⟩ : ∃ h, (i + j) / 2 = h := ⟨_, rfl⟩
      have hb1 : i ≤ h := by omega
      have hb2 : h < j := by omega
      have HMID := hidp (show ((i : Int) + (j : Int)) / 2 = (h : Int) from by omega)
      clear hh
      obtain ⟨BK, off, c0, e2, hc, hBK0, hR0⟩ := HV.out.get (by rw [HN.out]; omega)
      rw [HN.out] at e2
      simp only [Value.slice.injEq] at e2
      obtain ⟨rfl, -, rfl⟩ := e2
      have hBK := hidp hBK0
      have hql : h < cs.length := by rw [HN.out]; omega
      obtain ⟨p, hge⟩ : ∃ p, cs[h] = p := ⟨_, rfl⟩
      have HRP := hidp (show w.rangeAt BK (off + 8 * h) p.row from by rw [← hge]; exact hR0 h hql)
      have HGE := hidp (show cs[h] = p from hge)
      have cc := hidp (fun W => compare_any W p c)
      obtain ⟨Y, hY⟩ : ∃ Y, cmpC p c = Y := ⟨_, rfl⟩
      rw [hY] at cc
      clear hR0 hBK0 hge hc
      by_cases hf : Y < 0
      · have HY := hidp (show decide (Y < 0) = true from decide_eq_true hf)
        have HLO2 := hidp (search_lo HPW.out hql (by rw [HGE.out, hY]; exact hf))
        clear hY hf
        go_wp2_with fail
        simp only [HMID.out]
        refine Mm.region H (.take 0 (.take 1 (.take 2 (.take 3 (.take 4 (.take 5 (.one 6 (.take 7 .done)))))))) (by kernel_rfl) (by kernel_rfl) (by simp [Scr.depth]) (by kernel_rfl) ?_
        clear H
        intro _ H hb
        clear hb
        apply s_val
        case ho => rfl
        case hw => rfl
        case hv => intro w hw; go_simp; first | done | with_reducible rfl | rfl
        simp only [Act.put, List.getElem_toArray, List.getElem_cons_zero, List.getElem_cons_succ, List.setIfInBounds_toArray, List.set_cons_zero, List.set_cons_succ]
        apply s_val
        case ho => rfl
        case hw => rfl
        case hv => intro w hw; go_simp; first | done | with_reducible rfl | rfl
        simp only [Act.put, List.getElem_toArray, List.getElem_cons_zero, List.getElem_cons_succ, List.setIfInBounds_toArray, List.set_cons_zero, List.set_cons_succ]
        apply s_val
        case ho => rfl
        case hw => rfl
        case hv => intro w hw; go_simp; first | done | with_reducible rfl | rfl
        simp only [Act.put, List.getElem_toArray, List.getElem_cons_zero, List.getElem_cons_succ, List.setIfInBounds_toArray, List.set_cons_zero, List.set_cons_succ]
        refine s_idxR tyC rfl rfl (.tmp 25) (.tmp 26) rfl BK off n _ h rfl rfl (by omega) ?_
        simp only [Act.put, List.getElem_toArray, List.getElem_cons_zero, List.getElem_cons_succ, List.setIfInBounds_toArray, List.set_cons_zero, List.set_cons_succ]
        refine s_mid rtC rfl rfl (.tmp 27) BK (off + 8 * h) p.row rfl rfl rfl (fun w h => rangeAt_below HRP.out h.below hBK.out) ?_
        simp only [Act.put, List.getElem_toArray, List.getElem_cons_zero, List.getElem_cons_succ, List.setIfInBounds_toArray, List.set_cons_zero, List.set_cons_succ]
        refine Mm.sget0 rtC (fun w h => h) rfl rfl (.tmp 4) rfl rfl rfl ?_
        simp only [Act.put, List.getElem_toArray, List.getElem_cons_zero, List.getElem_cons_succ, List.setIfInBounds_toArray, List.set_cons_zero, List.set_cons_succ]
        refine Mm.o_callH (v := .int .i64 Y) H (fun W h => h) rfl rfl 56 (#[.agg p.row.toArray, .agg c.row.toArray]) (by go_simp; first | done | rfl) (cc.out _) ?_
        clear H
        intro _ H hb
        clear hb
        simp only [Act.put, List.getElem_toArray, List.getElem_cons_zero, List.getElem_cons_succ, List.setIfInBounds_toArray, List.set_cons_zero, List.set_cons_succ]
        apply s_val
        case ho => rfl
        case hw => rfl
        case hv => intro w hw; have q := HY.out; go_simp; first | done | with_reducible rfl | rfl
        simp only [Act.put, List.getElem_toArray, List.getElem_cons_zero, List.getElem_cons_succ, List.setIfInBounds_toArray, List.set_cons_zero, List.set_cons_succ]
        refine NoPanic.normal ?_
        go_wp2_with fail
        exact ⟨⟨h + 1, j, by go_num, rfl, by omega, by omega, HLO2, HHI, H.out⟩, by simp [intOf]; omega⟩
      · have HY := hidp (show decide (Y < 0) = false from decide_eq_false hf)
        have HHI2 := hidp (search_hi HPW.out hql (by rw [HGE.out, hY]; exact hf))
        clear hY hf
        go_wp2_with fail
        simp only [HMID.out]
        refine Mm.region H (.take 0 (.take 1 (.take 2 (.take 3 (.take 4 (.take 5 (.one 6 (.take 7 .done)))))))) (by kernel_rfl) (by kernel_rfl) (by simp [Scr.depth]) (by kernel_rfl) ?_
        clear H
        intro _ H hb
        clear hb
        apply s_val
        case ho => rfl
        case hw => rfl
        case hv => intro w hw; go_simp; first | done | with_reducible rfl | rfl
        simp only [Act.put, List.getElem_toArray, List.getElem_cons_zero, List.getElem_cons_succ, List.setIfInBounds_toArray, List.set_cons_zero, List.set_cons_succ]
        apply s_val
        case ho => rfl
        case hw => rfl
        case hv => intro w hw; go_simp; first | done | with_reducible rfl | rfl
        simp only [Act.put, List.getElem_toArray, List.getElem_cons_zero, List.getElem_cons_succ, List.setIfInBounds_toArray, List.set_cons_zero, List.set_cons_succ]
        apply s_val
        case ho => rfl
        case hw => rfl
        case hv => intro w hw; go_simp; first | done | with_reducible rfl | rfl
        simp only [Act.put, List.getElem_toArray, List.getElem_cons_zero, List.getElem_cons_succ, List.setIfInBounds_toArray, List.set_cons_zero, List.set_cons_succ]
        refine s_idxR tyC rfl rfl (.tmp 25) (.tmp 26) rfl BK off n _ h rfl rfl (by omega) ?_
        simp only [Act.put, List.getElem_toArray, List.getElem_cons_zero, List.getElem_cons_succ, List.setIfInBounds_toArray, List.set_cons_zero, List.set_cons_succ]
        refine s_mid rtC rfl rfl (.tmp 27) BK (off + 8 * h) p.row rfl rfl rfl (fun w h => rangeAt_below HRP.out h.below hBK.out) ?_
        simp only [Act.put, List.getElem_toArray, List.getElem_cons_zero, List.getElem_cons_succ, List.setIfInBounds_toArray, List.set_cons_zero, List.set_cons_succ]
        refine Mm.sget0 rtC (fun w h => h) rfl rfl (.tmp 4) rfl rfl rfl ?_
        simp only [Act.put, List.getElem_toArray, List.getElem_cons_zero, List.getElem_cons_succ, List.setIfInBounds_toArray, List.set_cons_zero, List.set_cons_succ]
        refine Mm.o_callH (v := .int .i64 Y) H (fun W h => h) rfl rfl 56 (#[.agg p.row.toArray, .agg c.row.toArray]) (by go_simp; first | done | rfl) (cc.out _) ?_
        clear H
        intro _ H hb
        clear hb
        simp only [Act.put, List.getElem_toArray, List.getElem_cons_zero, List.getElem_cons_succ, List.setIfInBounds_toArray, List.set_cons_zero, List.set_cons_succ]
        apply s_val
        case ho => rfl
        case hw => rfl
        case hv => intro w hw; have q := HY.out; go_simp; first | done | with_reducible rfl | rfl
        simp only [Act.put, List.getElem_toArray, List.getElem_cons_zero, List.getElem_cons_succ, List.setIfInBounds_toArray, List.set_cons_zero, List.set_cons_succ]
        refine NoPanic.normal ?_
        go_wp2_with fail
        exact ⟨⟨i, h, rfl, by go_num, by omega, by omega, HLO, HHI2, H.out⟩, by simp [intOf]; omega⟩
    · have e1 : decide ((i : Int) < (j : Int)) = false := by simp; omega
      have hij2 : j = i := by omega
      subst hij2
      have HPOS := hidp (posS_of (cs := cs) (c := c) (i := j) (by rw [HN.out]; exact hjn) HLO.out HHI.out)
      obtain ⟨i, hi0⟩ : ∃ i, j = i := ⟨_, rfl⟩
      subst hi0
      by_cases hin : j < n
      · have ei := hidp (show decide ((j : Int) < (n : Int)) = true from by simp; omega)
        obtain ⟨BK, off, c0, e2, hc, hBK0, hR0⟩ := HV.out.get (by rw [HN.out]; omega)
        rw [HN.out] at e2
        simp only [Value.slice.injEq] at e2
        obtain ⟨rfl, -, rfl⟩ := e2
        have hBK := hidp hBK0
        have hql : j < cs.length := by rw [HN.out]; omega
        obtain ⟨p, hge⟩ : ∃ p, cs[j] = p := ⟨_, rfl⟩
        have HRP := hidp (show w.rangeAt BK (off + 8 * j) p.row from by rw [← hge]; exact hR0 j hql)
        have HGE := hidp (show cs[j] = p from hge)
        have cc := hidp (fun W => compare_any W p c)
        obtain ⟨Y, hY⟩ : ∃ Y, cmpC p c = Y := ⟨_, rfl⟩
        rw [hY] at cc
        clear hR0 hBK0 hge hc
        by_cases hf : Y = 0
        · have HY := hidp (show (Y == 0) = true from by simp [hf])
          have HFND := hidp (show fndS cs c = true from by unfold fndS; rw [HPOS.out, getD_ce hql, HGE.out, hY, hf, decide_eq_true hql]; rfl)
          clear hY hf
          go_wp2_with fail
          refine Mm.region H (.take 0 (.take 1 (.take 2 (.take 3 (.take 4 (.take 5 (.take 6 (.take 7 (.take 8 (.take 9 (.take 10 (.one 11 (.take 12 (.take 13 (.take 14 (.take 15 .done)))))))))))))))) (by kernel_rfl) (by kernel_rfl) (by simp [Scr.depth]) (by kernel_rfl) ?_
          clear H
          intro _ H hb
          clear hb
          apply s_val
          case ho => rfl
          case hw => rfl
          case hv => intro w hw; go_simp; first | done | with_reducible rfl | rfl
          simp only [Act.put, List.getElem_toArray, List.getElem_cons_zero, List.getElem_cons_succ, List.setIfInBounds_toArray, List.set_cons_zero, List.set_cons_succ]
          apply s_val
          case ho => rfl
          case hw => rfl
          case hv => intro w hw; go_simp; first | done | with_reducible rfl | rfl
          simp only [Act.put, List.getElem_toArray, List.getElem_cons_zero, List.getElem_cons_succ, List.setIfInBounds_toArray, List.set_cons_zero, List.set_cons_succ]
          apply s_val
          case ho => rfl
          case hw => rfl
          case hv => intro w hw; go_simp; first | done | with_reducible rfl | rfl
          simp only [Act.put, List.getElem_toArray, List.getElem_cons_zero, List.getElem_cons_succ, List.setIfInBounds_toArray, List.set_cons_zero, List.set_cons_succ]
          apply s_val
          case ho => rfl
          case hw => rfl
          case hv => intro w hw; have q := ei.out; go_simp; first | done | with_reducible rfl | rfl
          simp only [Act.put, List.getElem_toArray, List.getElem_cons_zero, List.getElem_cons_succ, List.setIfInBounds_toArray, List.set_cons_zero, List.set_cons_succ]
          apply s_val
          case ho => rfl
          case hw => rfl
          case hv => intro w hw; go_simp; first | done | with_reducible rfl | rfl
          simp only [Act.put, List.getElem_toArray, List.getElem_cons_zero, List.getElem_cons_succ, List.setIfInBounds_toArray, List.set_cons_zero, List.set_cons_succ]
          apply s_val
          case ho => rfl
          case hw => rfl
          case hv => intro w hw; go_simp; first | done | with_reducible rfl | rfl
          simp only [Act.put, List.getElem_toArray, List.getElem_cons_zero, List.getElem_cons_succ, List.setIfInBounds_toArray, List.set_cons_zero, List.set_cons_succ]
          apply s_val
          case ho => rfl
          case hw => rfl
          case hv => intro w hw; go_simp; first | done | with_reducible rfl | rfl
          simp only [Act.put, List.getElem_toArray, List.getElem_cons_zero, List.getElem_cons_succ, List.setIfInBounds_toArray, List.set_cons_zero, List.set_cons_succ]
          apply s_val
          case ho => rfl
          case hw => rfl
          case hv => intro w hw; go_simp; first | done | with_reducible rfl | rfl
          simp only [Act.put, List.getElem_toArray, List.getElem_cons_zero, List.getElem_cons_succ, List.setIfInBounds_toArray, List.set_cons_zero, List.set_cons_succ]
          refine s_idxR tyC rfl rfl (.tmp 41) (.tmp 42) rfl BK off n _ j rfl rfl (by omega) ?_
          simp only [Act.put, List.getElem_toArray, List.getElem_cons_zero, List.getElem_cons_succ, List.setIfInBounds_toArray, List.set_cons_zero, List.set_cons_succ]
          refine s_mid rtC rfl rfl (.tmp 43) BK (off + 8 * j) p.row rfl rfl rfl (fun w h => rangeAt_below HRP.out h.below hBK.out) ?_
          simp only [Act.put, List.getElem_toArray, List.getElem_cons_zero, List.getElem_cons_succ, List.setIfInBounds_toArray, List.set_cons_zero, List.set_cons_succ]
          refine Mm.sget0 rtC (fun w h => h) rfl rfl (.tmp 4) rfl rfl rfl ?_
          simp only [Act.put, List.getElem_toArray, List.getElem_cons_zero, List.getElem_cons_succ, List.setIfInBounds_toArray, List.set_cons_zero, List.set_cons_succ]
          refine Mm.o_callH (v := .int .i64 Y) H (fun W h => h) rfl rfl 56 (#[.agg p.row.toArray, .agg c.row.toArray]) (by go_simp; first | done | rfl) (cc.out _) ?_
          clear H
          intro _ H hb
          clear hb
          simp only [Act.put, List.getElem_toArray, List.getElem_cons_zero, List.getElem_cons_succ, List.setIfInBounds_toArray, List.set_cons_zero, List.set_cons_succ]
          apply s_val
          case ho => rfl
          case hw => rfl
          case hv => intro w hw; have q := HY.out; go_simp; first | done | with_reducible rfl | rfl
          simp only [Act.put, List.getElem_toArray, List.getElem_cons_zero, List.getElem_cons_succ, List.setIfInBounds_toArray, List.set_cons_zero, List.set_cons_succ]
          apply s_val
          case ho => rfl
          case hw => rfl
          case hv => intro w hw; go_simp; first | done | with_reducible rfl | rfl
          simp only [Act.put, List.getElem_toArray, List.getElem_cons_zero, List.getElem_cons_succ, List.setIfInBounds_toArray, List.set_cons_zero, List.set_cons_succ]
          apply s_val
          case ho => rfl
          case hw => rfl
          case hv => intro w hw; go_simp; first | done | with_reducible rfl | rfl
          simp only [Act.put, List.getElem_toArray, List.getElem_cons_zero, List.getElem_cons_succ, List.setIfInBounds_toArray, List.set_cons_zero, List.set_cons_succ]
          apply s_val
          case ho => rfl
          case hw => rfl
          case hv => intro w hw; go_simp; first | done | with_reducible rfl | rfl
          simp only [Act.put, List.getElem_toArray, List.getElem_cons_zero, List.getElem_cons_succ, List.setIfInBounds_toArray, List.set_cons_zero, List.set_cons_succ]
          refine NoPanic.normal ?_
          go_wp2_with fail
          go_ret2
          exact ⟨by rw [HPOS.out, HFND.out]; rfl, H.out.below⟩
        · have HY := hidp (show (Y == 0) = false from by simp [hf])
          have HFND := hidp (show fndS cs c = false from by unfold fndS; rw [HPOS.out, getD_ce hql, HGE.out, hY, decide_eq_false hf, Bool.and_false])
          clear hY hf
          go_wp2_with fail
          refine Mm.region H (.take 0 (.take 1 (.take 2 (.take 3 (.take 4 (.take 5 (.take 6 (.take 7 (.take 8 (.take 9 (.take 10 (.one 11 (.take 12 (.take 13 (.take 14 (.take 15 .done)))))))))))))))) (by kernel_rfl) (by kernel_rfl) (by simp [Scr.depth]) (by kernel_rfl) ?_
          clear H
          intro _ H hb
          clear hb
          apply s_val
          case ho => rfl
          case hw => rfl
          case hv => intro w hw; go_simp; first | done | with_reducible rfl | rfl
          simp only [Act.put, List.getElem_toArray, List.getElem_cons_zero, List.getElem_cons_succ, List.setIfInBounds_toArray, List.set_cons_zero, List.set_cons_succ]
          apply s_val
          case ho => rfl
          case hw => rfl
          case hv => intro w hw; go_simp; first | done | with_reducible rfl | rfl
          simp only [Act.put, List.getElem_toArray, List.getElem_cons_zero, List.getElem_cons_succ, List.setIfInBounds_toArray, List.set_cons_zero, List.set_cons_succ]
          apply s_val
          case ho => rfl
          case hw => rfl
          case hv => intro w hw; go_simp; first | done | with_reducible rfl | rfl
          simp only [Act.put, List.getElem_toArray, List.getElem_cons_zero, List.getElem_cons_succ, List.setIfInBounds_toArray, List.set_cons_zero, List.set_cons_succ]
          apply s_val
          case ho => rfl
          case hw => rfl
          case hv => intro w hw; have q := ei.out; go_simp; first | done | with_reducible rfl | rfl
          simp only [Act.put, List.getElem_toArray, List.getElem_cons_zero, List.getElem_cons_succ, List.setIfInBounds_toArray, List.set_cons_zero, List.set_cons_succ]
          apply s_val
          case ho => rfl
          case hw => rfl
          case hv => intro w hw; go_simp; first | done | with_reducible rfl | rfl
          simp only [Act.put, List.getElem_toArray, List.getElem_cons_zero, List.getElem_cons_succ, List.setIfInBounds_toArray, List.set_cons_zero, List.set_cons_succ]
          apply s_val
          case ho => rfl
          case hw => rfl
          case hv => intro w hw; go_simp; first | done | with_reducible rfl | rfl
          simp only [Act.put, List.getElem_toArray, List.getElem_cons_zero, List.getElem_cons_succ, List.setIfInBounds_toArray, List.set_cons_zero, List.set_cons_succ]
          apply s_val
          case ho => rfl
          case hw => rfl
          case hv => intro w hw; go_simp; first | done | with_reducible rfl | rfl
          simp only [Act.put, List.getElem_toArray, List.getElem_cons_zero, List.getElem_cons_succ, List.setIfInBounds_toArray, List.set_cons_zero, List.set_cons_succ]
          apply s_val
          case ho => rfl
          case hw => rfl
          case hv => intro w hw; go_simp; first | done | with_reducible rfl | rfl
          simp only [Act.put, List.getElem_toArray, List.getElem_cons_zero, List.getElem_cons_succ, List.setIfInBounds_toArray, List.set_cons_zero, List.set_cons_succ]
          refine s_idxR tyC rfl rfl (.tmp 41) (.tmp 42) rfl BK off n _ j rfl rfl (by omega) ?_
          simp only [Act.put, List.getElem_toArray, List.getElem_cons_zero, List.getElem_cons_succ, List.setIfInBounds_toArray, List.set_cons_zero, List.set_cons_succ]
          refine s_mid rtC rfl rfl (.tmp 43) BK (off + 8 * j) p.row rfl rfl rfl (fun w h => rangeAt_below HRP.out h.below hBK.out) ?_
          simp only [Act.put, List.getElem_toArray, List.getElem_cons_zero, List.getElem_cons_succ, List.setIfInBounds_toArray, List.set_cons_zero, List.set_cons_succ]
          refine Mm.sget0 rtC (fun w h => h) rfl rfl (.tmp 4) rfl rfl rfl ?_
          simp only [Act.put, List.getElem_toArray, List.getElem_cons_zero, List.getElem_cons_succ, List.setIfInBounds_toArray, List.set_cons_zero, List.set_cons_succ]
          refine Mm.o_callH (v := .int .i64 Y) H (fun W h => h) rfl rfl 56 (#[.agg p.row.toArray, .agg c.row.toArray]) (by go_simp; first | done | rfl) (cc.out _) ?_
          clear H
          intro _ H hb
          clear hb
          simp only [Act.put, List.getElem_toArray, List.getElem_cons_zero, List.getElem_cons_succ, List.setIfInBounds_toArray, List.set_cons_zero, List.set_cons_succ]
          apply s_val
          case ho => rfl
          case hw => rfl
          case hv => intro w hw; have q := HY.out; go_simp; first | done | with_reducible rfl | rfl
          simp only [Act.put, List.getElem_toArray, List.getElem_cons_zero, List.getElem_cons_succ, List.setIfInBounds_toArray, List.set_cons_zero, List.set_cons_succ]
          apply s_val
          case ho => rfl
          case hw => rfl
          case hv => intro w hw; go_simp; first | done | with_reducible rfl | rfl
          simp only [Act.put, List.getElem_toArray, List.getElem_cons_zero, List.getElem_cons_succ, List.setIfInBounds_toArray, List.set_cons_zero, List.set_cons_succ]
          apply s_val
          case ho => rfl
          case hw => rfl
          case hv => intro w hw; go_simp; first | done | with_reducible rfl | rfl
          simp only [Act.put, List.getElem_toArray, List.getElem_cons_zero, List.getElem_cons_succ, List.setIfInBounds_toArray, List.set_cons_zero, List.set_cons_succ]
          apply s_val
          case ho => rfl
          case hw => rfl
          case hv => intro w hw; go_simp; first | done | with_reducible rfl | rfl
          simp only [Act.put, List.getElem_toArray, List.getElem_cons_zero, List.getElem_cons_succ, List.setIfInBounds_toArray, List.set_cons_zero, List.set_cons_succ]
          refine NoPanic.normal ?_
          go_wp2_with fail
          go_ret2
          exact ⟨by rw [HPOS.out, HFND.out]; rfl, H.out.below⟩
      · have ei := hidp (show decide ((j : Int) < (n : Int)) = false from by simp; omega)
        have HFND := hidp (show fndS cs c = false from by unfold fndS; rw [HPOS.out, decide_eq_false (by rw [HN.out]; exact hin)]; rfl)
        go_wp2_with fail
        refine Mm.region H (.take 0 (.take 1 (.take 2 (.take 3 (.take 4 (.take 5 (.take 6 (.take 7 (.take 8 (.take 9 (.take 10 (.take 11 (.take 12 (.take 13 (.take 14 (.take 15 .done)))))))))))))))) (by kernel_rfl) (by kernel_rfl) (by simp [Scr.depth]) (by kernel_rfl) ?_
        clear H
        intro _ H hb
        clear hb
        apply s_val
        case ho => rfl
        case hw => rfl
        case hv => intro w hw; go_simp; first | done | with_reducible rfl | rfl
        simp only [Act.put, List.getElem_toArray, List.getElem_cons_zero, List.getElem_cons_succ, List.setIfInBounds_toArray, List.set_cons_zero, List.set_cons_succ]
        apply s_val
        case ho => rfl
        case hw => rfl
        case hv => intro w hw; go_simp; first | done | with_reducible rfl | rfl
        simp only [Act.put, List.getElem_toArray, List.getElem_cons_zero, List.getElem_cons_succ, List.setIfInBounds_toArray, List.set_cons_zero, List.set_cons_succ]
        apply s_val
        case ho => rfl
        case hw => rfl
        case hv => intro w hw; go_simp; first | done | with_reducible rfl | rfl
        simp only [Act.put, List.getElem_toArray, List.getElem_cons_zero, List.getElem_cons_succ, List.setIfInBounds_toArray, List.set_cons_zero, List.set_cons_succ]
        apply s_val
        case ho => rfl
        case hw => rfl
        case hv => intro w hw; have q := ei.out; go_simp; first | done | with_reducible rfl | rfl
        simp only [Act.put, List.getElem_toArray, List.getElem_cons_zero, List.getElem_cons_succ, List.setIfInBounds_toArray, List.set_cons_zero, List.set_cons_succ]
        apply s_val
        case ho => rfl
        case hw => rfl
        case hv => intro w hw; go_simp; first | done | with_reducible rfl | rfl
        simp only [Act.put, List.getElem_toArray, List.getElem_cons_zero, List.getElem_cons_succ, List.setIfInBounds_toArray, List.set_cons_zero, List.set_cons_succ]
        refine Rt.s_skip rfl rfl ?_
        simp only [Act.put, List.getElem_toArray, List.getElem_cons_zero, List.getElem_cons_succ, List.setIfInBounds_toArray, List.set_cons_zero, List.set_cons_succ]
        refine Rt.s_skip rfl rfl ?_
        simp only [Act.put, List.getElem_toArray, List.getElem_cons_zero, List.getElem_cons_succ, List.setIfInBounds_toArray, List.set_cons_zero, List.set_cons_succ]
        refine Rt.s_skip rfl rfl ?_
        simp only [Act.put, List.getElem_toArray, List.getElem_cons_zero, List.getElem_cons_succ, List.setIfInBounds_toArray, List.set_cons_zero, List.set_cons_succ]
        refine Rt.s_skip rfl rfl ?_
        simp only [Act.put, List.getElem_toArray, List.getElem_cons_zero, List.getElem_cons_succ, List.setIfInBounds_toArray, List.set_cons_zero, List.set_cons_succ]
        refine Rt.s_skip rfl rfl ?_
        simp only [Act.put, List.getElem_toArray, List.getElem_cons_zero, List.getElem_cons_succ, List.setIfInBounds_toArray, List.set_cons_zero, List.set_cons_succ]
        refine Rt.s_skip rfl rfl ?_
        simp only [Act.put, List.getElem_toArray, List.getElem_cons_zero, List.getElem_cons_succ, List.setIfInBounds_toArray, List.set_cons_zero, List.set_cons_succ]
        refine Rt.s_skip rfl rfl ?_
        simp only [Act.put, List.getElem_toArray, List.getElem_cons_zero, List.getElem_cons_succ, List.setIfInBounds_toArray, List.set_cons_zero, List.set_cons_succ]
        refine Rt.s_skip rfl rfl ?_
        simp only [Act.put, List.getElem_toArray, List.getElem_cons_zero, List.getElem_cons_succ, List.setIfInBounds_toArray, List.set_cons_zero, List.set_cons_succ]
        apply s_val
        case ho => rfl
        case hw => rfl
        case hv => intro w hw; go_simp; first | done | with_reducible rfl | rfl
        simp only [Act.put, List.getElem_toArray, List.getElem_cons_zero, List.getElem_cons_succ, List.setIfInBounds_toArray, List.set_cons_zero, List.set_cons_succ]
        apply s_val
        case ho => rfl
        case hw => rfl
        case hv => intro w hw; go_simp; first | done | with_reducible rfl | rfl
        simp only [Act.put, List.getElem_toArray, List.getElem_cons_zero, List.getElem_cons_succ, List.setIfInBounds_toArray, List.set_cons_zero, List.set_cons_succ]
        apply s_val
        case ho => rfl
        case hw => rfl
        case hv => intro w hw; go_simp; first | done | with_reducible rfl | rfl
        simp only [Act.put, List.getElem_toArray, List.getElem_cons_zero, List.getElem_cons_succ, List.setIfInBounds_toArray, List.set_cons_zero, List.set_cons_succ]
        refine NoPanic.normal ?_
        go_wp2_with fail
        go_ret2
        exact ⟨by rw [HPOS.out, HFND.out]; rfl, H.out.below⟩
end Go.Proofs.YtkcgmimcopoknaaGreatDoor
