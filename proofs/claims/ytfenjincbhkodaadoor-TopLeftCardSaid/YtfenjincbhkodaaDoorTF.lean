/-
  Joined: StB.
-/
import Derived.Test.YtfenjincbhkodaaDoorTE
import Derived.Test.YtfenjincbhkodaaDoorTD
import Derived.Sort.Walk0
namespace Go.Proofs.YtfenjincbhkodaaDoor
set_option maxRecDepth 100000
set_option linter.unusedVariables false
set_option linter.unusedSimpArgs false
open Go.RowKit Rw

/-- A cell of a state. -/
structure Ce where
  k : Nat
  y : ByteArray
  e : Ev
/-- An event that changes a state. -/
def lasB (e : Ev) : Bool := stB e.kind && evOk e
def vaC (c : Ce) : Bool := lasB c.e && decide (c.e.kind = c.k) && decide (c.e.key = c.y)
/-- How two cells stand. -/
def cmpS (a b : ByteArray) : Int := if Op.bytesLess a.toList b.toList = true then -1 else if Op.bytesLess b.toList a.toList = true then 1 else 0
def cmpN (a b : Nat) : Int := if a < b then -1 else if b < a then 1 else 0
def cmpC (c d : Ce) : Int := if cmpN c.k d.k = 0 then cmpS c.y d.y else cmpN c.k d.k
theorem bL_irr (a : List UInt8) : Op.bytesLess a a = false := by rw [bytesLess_eq]; simp
theorem cmpS_neg {a b : ByteArray} : cmpS a b < 0 ↔ a.toList < b.toList := by
  unfold cmpS
  rw [bytesLess_eq, bytesLess_eq]
  simp only [decide_eq_true_eq]
  constructor
  · intro h
    split at h
    · assumption
    · split at h <;> omega
  · intro h; rw [if_pos h]; omega
theorem cmpS_pos {a b : ByteArray} : 0 < cmpS a b ↔ b.toList < a.toList := by
  unfold cmpS
  rw [bytesLess_eq, bytesLess_eq]
  simp only [decide_eq_true_eq]
  constructor
  · intro h
    split at h
    · omega
    · split at h
      · assumption
      · omega
  · intro h; rw [if_neg (List.not_lt.2 (List.le_of_lt h)), if_pos h]; omega
theorem ba_inj' {a b : ByteArray} (h : a.toList = b.toList) : a = b := by
  rw [ByteArray.toList_eq, ByteArray.toList_eq] at h
  cases a; cases b; simp only [ByteArray.mk.injEq]; exact Array.toList_inj.1 h
theorem cmpS_eq {a b : ByteArray} : cmpS a b = 0 ↔ a = b := by
  constructor
  · intro h
    have h1 : ¬ a.toList < b.toList := fun g => by have := cmpS_neg.2 g; omega
    have h2 : ¬ b.toList < a.toList := fun g => by have := cmpS_pos.2 g; omega
    exact ba_inj' (List.le_antisymm (List.not_lt.1 h2) (List.not_lt.1 h1))
  · rintro rfl; unfold cmpS; rw [bL_irr]; rfl
theorem cmpN_neg {a b : Nat} : cmpN a b < 0 ↔ a < b := by
  unfold cmpN; constructor
  · intro h; split at h
    · assumption
    · split at h <;> omega
  · intro h; rw [if_pos h]; omega
theorem cmpN_eq {a b : Nat} : cmpN a b = 0 ↔ a = b := by
  unfold cmpN; constructor
  · intro h; split at h
    · omega
    · split at h <;> omega
  · rintro rfl; rw [if_neg (by omega), if_neg (by omega)]
/-- c stands ahead of d. -/
def ltC (c d : Ce) : Prop := c.k < d.k ∨ (c.k = d.k ∧ c.y.toList < d.y.toList)
theorem cmpC_neg {c d : Ce} : cmpC c d < 0 ↔ ltC c d := by
  unfold cmpC ltC
  by_cases h : c.k = d.k
  · rw [if_pos (cmpN_eq.2 h), cmpS_neg]
    constructor
    · exact fun g => .inr ⟨h, g⟩
    · rintro (g | g)
      · omega
      · exact g.2
  · rw [if_neg (fun g => h (cmpN_eq.1 g)), cmpN_neg]
    constructor
    · exact .inl
    · rintro (g | g)
      · exact g
      · exact absurd g.1 h
theorem cmpC_eq {c d : Ce} : cmpC c d = 0 ↔ c.k = d.k ∧ c.y = d.y := by
  unfold cmpC
  by_cases h : c.k = d.k
  · rw [if_pos (cmpN_eq.2 h), cmpS_eq]; simp [h]
  · rw [if_neg (fun g => h (cmpN_eq.1 g))]
    constructor
    · intro g; exact absurd (cmpN_eq.1 g) h
    · intro g; exact absurd g.1 h
theorem ltC_trans {a b c : Ce} (h : ltC a b) (g : ltC b c) : ltC a c := by
  unfold ltC at *
  rcases h with h | h <;> rcases g with g | g
  · exact .inl (by omega)
  · exact .inl (by omega)
  · exact .inl (by omega)
  · exact .inr ⟨by omega, List.lt_trans h.2 g.2⟩
theorem ltC_tri {a b : Ce} (h1 : ¬ ltC a b) (h2 : ¬ (a.k = b.k ∧ a.y = b.y)) : ltC b a := by
  unfold ltC at *
  by_cases hk : a.k = b.k
  · refine .inr ⟨hk.symm, ?_⟩
    have h3 : ¬ a.y.toList < b.y.toList := fun g => h1 (.inr ⟨hk, g⟩)
    rcases List.le_iff_lt_or_eq.1 (List.not_lt.1 h3) with h | h
    · exact h
    · exact absurd ⟨hk, (ba_inj' h).symm⟩ h2
  · exact .inl (by have := fun g => h1 (.inl g); omega)
theorem ltC_key {a a' b : Ce} (h : a.k = a'.k ∧ a.y = a'.y) : (ltC a b ↔ ltC a' b) ∧ (ltC b a ↔ ltC b a') := by
  unfold ltC; rw [h.1, h.2]; exact ⟨Iff.rfl, Iff.rfl⟩
def cz : Ce := ⟨0, ⟨#[]⟩, ⟨⟨#[]⟩, ⟨#[]⟩, 0, ⟨#[]⟩, ⟨#[]⟩, 0⟩⟩
/-- The cell at place i may stand there. -/
def sAt (cs : List Ce) (i : Nat) : Bool := vaC (cs.getD i cz) && (decide (i = 0) || decide (cmpC (cs.getD (i - 1) cz) (cs.getD i cz) < 0))
def sTo (cs : List Ce) (n : Nat) : Bool := (List.range n).all (sAt cs)
theorem sTo_succ (cs : List Ce) (n : Nat) : sTo cs (n + 1) = (sTo cs n && sAt cs n) := by
  unfold sTo; rw [List.range_succ, List.all_append]; simp
theorem sTo_le {cs : List Ce} {n i : Nat} (h : sTo cs n = true) (hi : i < n) : sAt cs i = true := by
  unfold sTo at h; rw [List.all_eq_true] at h; exact h i (by simpa using hi)
def okS (cs : List Ce) : Bool := decide (cs.length ≤ 256) && sTo cs cs.length
def ckS (cs : List Ce) : Int := if okS cs = true then 0 else 2
theorem getD_ce {cs : List Ce} {i : Nat} (h : i < cs.length) : cs.getD i cz = cs[i] := by rw [List.getD_eq_getElem?_getD, List.getElem?_eq_getElem h]; rfl
theorem ckS_bad {cs : List Ce} {i : Nat} (hi : i < cs.length) (h : sAt cs i = false) : ckS cs = 2 := by
  refine if_neg fun g => ?_
  unfold okS at g
  rw [Bool.and_eq_true] at g
  have := sTo_le g.2 hi
  rw [h] at this; cases this
/-- A list in order, by its parts. -/
theorem okS_iff (cs : List Ce) : okS cs = true ↔ cs.length ≤ 256 ∧ (∀ c ∈ cs, vaC c = true) ∧ cs.Pairwise ltC := by
  unfold okS
  rw [Bool.and_eq_true, decide_eq_true_eq]
  refine and_congr_right fun _ => ?_
  constructor
  · intro h
    have hv : ∀ c ∈ cs, vaC c = true := by
      intro c hc
      obtain ⟨i, hi, rfl⟩ := List.getElem_of_mem hc
      have := sTo_le h hi
      unfold sAt at this
      rw [Bool.and_eq_true, getD_ce hi] at this
      exact this.1
    refine ⟨hv, ?_⟩
    have step : ∀ i (hi : i + 1 < cs.length), ltC (cs[i]'(by omega)) cs[i+1] := by
      intro i hi
      have := sTo_le h hi
      unfold sAt at this
      rw [Bool.and_eq_true, getD_ce hi, Nat.add_sub_cancel, getD_ce (by omega)] at this
      have h2 := this.2
      simp only [Nat.add_eq_zero_iff, Nat.one_ne_zero, and_false, decide_false, Bool.false_or, decide_eq_true_eq] at h2
      exact cmpC_neg.1 h2
    rw [List.pairwise_iff_getElem]
    intro i j hi hj hij
    induction j with
    | zero => omega
    | succ j ih =>
      rcases Nat.lt_or_ge i j with hlt | hge
      · exact ltC_trans (ih (by omega) hlt) (step j hj)
      · have : i = j := by omega
        subst this; exact step i hj
  · rintro ⟨hv, hp⟩
    unfold sTo
    rw [List.all_eq_true]
    intro i hi
    have hi : i < cs.length := by simpa using hi
    unfold sAt
    rw [Bool.and_eq_true, getD_ce hi]
    refine ⟨hv _ (List.getElem_mem hi), ?_⟩
    by_cases h0 : i = 0
    · simp [h0]
    · rw [getD_ce (by omega)]
      rw [List.pairwise_iff_getElem] at hp
      have := hp (i - 1) i (by omega) hi (by omega)
      simp [cmpC_neg.2 this]
/-- Where a cell belongs. -/
def posS (cs : List Ce) (c : Ce) : Nat := cs.findIdx (fun x => decide (0 ≤ cmpC x c))
def fndS (cs : List Ce) (c : Ce) : Bool := decide (posS cs c < cs.length) && decide (cmpC (cs.getD (posS cs c) cz) c = 0)
theorem posS_of {cs : List Ce} {c : Ce} {i : Nat} (hi : i ≤ cs.length) (h1 : ∀ j, j < i → (hj : j < cs.length) → cmpC cs[j] c < 0) (h2 : ∀ j, i ≤ j → (hj : j < cs.length) → 0 ≤ cmpC cs[j] c) : posS cs c = i := by
  unfold posS
  rcases Nat.lt_or_ge i cs.length with h | h
  · exact (List.findIdx_eq h).2 ⟨decide_eq_true (h2 i (Nat.le_refl _) h), fun j hj => by have := h1 j hj (by omega); simp; omega⟩
  · have e : i = cs.length := by omega
    rw [e]
    exact List.findIdx_eq_length.2 fun x hx => by
      obtain ⟨j, hj, rfl⟩ := List.getElem_of_mem hx
      have := h1 j (by omega) hj
      simp; omega
theorem posS_le (cs : List Ce) (c : Ce) : posS cs c ≤ cs.length := List.findIdx_le_length
theorem posS_lo {cs : List Ce} {c : Ce} {j : Nat} (h : j < posS cs c) (hj : j < cs.length) : ltC cs[j] c := by
  have := List.not_of_lt_findIdx h
  simp at this
  exact cmpC_neg.1 this
theorem posS_hi {cs : List Ce} {c : Ce} (h : posS cs c < cs.length) : ¬ ltC cs[posS cs c] c := by
  have h2 : decide (0 ≤ cmpC (cs[posS cs c]) c) = true := List.findIdx_getElem (w := h)
  have h3 := of_decide_eq_true h2
  exact fun g => by have := cmpC_neg.2 g; omega
/-- What a state is behind an event. -/
def newC (e : Ev) : Ce := ⟨e.kind, e.key, e⟩
def setL (cs : List Ce) (e : Ev) : List Ce := if fndS cs (newC e) = true then cs.set (posS cs (newC e)) (newC e) else cs.take (posS cs (newC e)) ++ [newC e] ++ cs.drop (posS cs (newC e))
def setV (cs : List Ce) (e : Ev) : List Ce := if okS cs = true then (if lasB e = true then (if fndS cs (newC e) = true ∨ cs.length ≠ 256 then setL cs e else cs) else cs) else []
def setE (cs : List Ce) (e : Ev) : Int := if okS cs = true then (if lasB e = true then (if fndS cs (newC e) = true ∨ cs.length ≠ 256 then 0 else 8) else 2) else 2
/-- The first event of a kind and a key. -/
def isC (k : Nat) (y : ByteArray) (c : Ce) : Bool := decide (c.k = k) && decide (c.y = y)
def firS (cs : List Ce) (k : Nat) (y : ByteArray) : Option Ev := (cs.find? (isC k y)).map (·.e)
theorem vaC_new {e : Ev} (h : lasB e = true) : vaC (newC e) = true := by unfold vaC newC; simp [h]
theorem pos_gt {cs : List Ce} {c : Ce} (hp : cs.Pairwise ltC) (hf : fndS cs c = false) {j : Nat} (h : posS cs c ≤ j) (hj : j < cs.length) : ltC c cs[j] := by
  have hlt : posS cs c < cs.length := by omega
  have h1 := posS_hi hlt
  unfold fndS at hf
  rw [decide_eq_true hlt, Bool.true_and, decide_eq_false_iff_not, getD_ce hlt, cmpC_eq] at hf
  have h2 := ltC_tri h1 hf
  rcases Nat.lt_or_ge (posS cs c) j with hl | hg
  · rw [List.pairwise_iff_getElem] at hp
    exact ltC_trans h2 (hp _ _ hlt hj hl)
  · have : posS cs c = j := by omega
    subst this; exact h2
theorem fnd_parts {cs : List Ce} {c : Ce} (hf : fndS cs c = true) : ∃ h : posS cs c < cs.length, cs[posS cs c].k = c.k ∧ cs[posS cs c].y = c.y := by
  unfold fndS at hf
  rw [Bool.and_eq_true, decide_eq_true_eq, decide_eq_true_eq] at hf
  refine ⟨hf.1, ?_⟩
  have := hf.2
  rw [getD_ce hf.1, cmpC_eq] at this
  exact this
theorem setL_ok {cs : List Ce} {e : Ev} (h : okS cs = true) (hl : lasB e = true) (hn : fndS cs (newC e) = true ∨ cs.length ≠ 256) : okS (setL cs e) = true := by
  obtain ⟨h1, h2, h3⟩ := (okS_iff cs).1 h
  rw [okS_iff]
  unfold setL
  cases hf : fndS cs (newC e) with
  | true =>
    rw [if_pos rfl]
    obtain ⟨hlt, hk⟩ := fnd_parts hf
    refine ⟨by simpa using h1, fun c hc => ?_, ?_⟩
    · rcases List.mem_or_eq_of_mem_set hc with hc | rfl
      · exact h2 c hc
      · exact vaC_new hl
    · rw [List.pairwise_iff_getElem] at h3 ⊢
      intro i j hi hj hij
      rw [List.length_set] at hi hj
      have hij' := h3 i j hi hj hij
      rw [List.getElem_set, List.getElem_set]
      split
      · rename_i e1; subst e1
        rw [if_neg (by omega)]
        exact (ltC_key hk).1.1 hij'
      · split
        · rename_i e2; subst e2
          exact (ltC_key hk).2.1 hij'
        · exact hij'
  | false =>
    rw [if_neg Bool.false_ne_true]
    have hle := posS_le cs (newC e)
    have h256 : cs.length ≠ 256 := by
      rcases hn with hn | hn
      · rw [hf] at hn; cases hn
      · exact hn
    refine ⟨by simp; omega, fun c hc => ?_, ?_⟩
    · simp only [List.mem_append, List.mem_singleton] at hc
      rcases hc with (hc | rfl) | hc
      · exact h2 c (List.mem_of_mem_take hc)
      · exact vaC_new hl
      · exact h2 c (List.mem_of_mem_drop hc)
    · rw [List.pairwise_append, List.pairwise_append]
      refine ⟨⟨h3.sublist (List.take_sublist _ _), List.pairwise_singleton _ _, fun a ha b hb => ?_⟩, h3.sublist (List.drop_sublist _ _), fun a ha b hb => ?_⟩
      · obtain rfl : b = newC e := by simpa using hb
        obtain ⟨j, hj, rfl⟩ := List.getElem_of_mem ha
        rw [List.getElem_take]
        exact posS_lo (by simp at hj; omega) _
      · obtain ⟨j, hj, rfl⟩ := List.getElem_of_mem hb
        rw [List.getElem_drop]
        have hgt := pos_gt h3 hf (j := posS cs (newC e) + j) (by omega) (by simp at hj; omega)
        rcases List.mem_append.1 ha with ha | ha
        · obtain ⟨i, hi, rfl⟩ := List.getElem_of_mem ha
          rw [List.getElem_take]
          exact ltC_trans (posS_lo (by simp at hi; omega) _) hgt
        · obtain rfl : a = newC e := by simpa using ha
          exact hgt
def Ev.row (e : Ev) : List Value := [.string e.room, .string e.sender, .int .u8 (e.kind : Int), .string e.key, .string e.body, .int .i64 e.nonce]
def Ce.row (c : Ce) : List Value := [.int .u8 (c.k : Int), .string c.y, .string c.e.room, .string c.e.sender, .int .u8 (c.e.kind : Int), .string c.e.key, .string c.e.body, .int .i64 c.e.nonce]
structure Ev.ok (e : Ev) : Prop where
  k : e.kind < 256
  r : e.room.size ≤ 281474976710656
  s : e.sender.size ≤ 281474976710656
  y : e.key.size ≤ 281474976710656
  b : e.body.size ≤ 281474976710656
structure Ce.ok (c : Ce) : Prop where
  k : c.k < 256
  y : c.y.size ≤ 281474976710656
  e : c.e.ok
def zE : List Value := [.string ⟨#[]⟩, .string ⟨#[]⟩, .int .u8 0, .string ⟨#[]⟩, .string ⟨#[]⟩, .int .i64 0]
def zC : List Value := [.int .u8 0, .string ⟨#[]⟩, .string ⟨#[]⟩, .string ⟨#[]⟩, .int .u8 0, .string ⟨#[]⟩, .string ⟨#[]⟩, .int .i64 0]
theorem Ev.one (e : Ev) : ∀ v ∈ e.row, v.oneCell' = true := by
  intro v hv; simp [Ev.row] at hv; rcases hv with rfl | rfl | rfl | rfl | rfl | rfl <;> rfl
theorem Ce.one (c : Ce) : ∀ v ∈ c.row, v.oneCell' = true := by
  intro v hv; simp [Ce.row] at hv; rcases hv with rfl | rfl | rfl | rfl | rfl | rfl | rfl | rfl <;> rfl
theorem tyC : RowTy Tryd.prog 56 68 8 104 zC := by
  refine ⟨by decide, by decide, by decide, rfl, by kernel_rfl, by kernel_rfl, ⟨_, Tryd.underlying68⟩, by kernel_rfl⟩
theorem rtC : Rt.RT Tryd.prog 68 8 zC := ⟨rfl, .inl ⟨_, Tryd.underlying68⟩, by kernel_rfl⟩
theorem rtE : Rt.RT Tryd.prog 59 6 zE := ⟨rfl, .inl ⟨_, Tryd.underlying59⟩, by kernel_rfl⟩
theorem naK : Mm.NA Tryd.prog 57 := ⟨_, Tryd.underlying57, rfl⟩
theorem naS : Mm.NA Tryd.prog 9 := ⟨_, Tryd.underlying9, rfl⟩
def rowsC (cs : List Ce) : List (List Value) := cs.map Ce.row
theorem rowsC_len (cs : List Ce) : (rowsC cs).length = cs.length := by simp [rowsC]
theorem rowsC_one (cs : List Ce) : One1 (rowsC cs) := by
  intro e he v hv
  simp only [rowsC, List.mem_map] at he
  obtain ⟨g, _, rfl⟩ := he
  exact Ce.one g v hv
theorem rowsC_all (cs : List Ce) : AllK 8 (rowsC cs) := by
  intro e he
  simp only [rowsC, List.mem_map] at he
  obtain ⟨g, hg, rfl⟩ := he
  rfl
/-- Cells in memory. -/
structure CsAt (w : World) (v : Value) (cs : List Ce) : Prop where
  rs : RsAt 8 w v (rowsC cs)
  ok : ∀ c ∈ cs, c.ok
  len : cs.length ≤ 140737488351232
theorem CsAt.to {w w' : World} {v : Value} {cs : List Ce} (h : CsAt w v cs) (hb : Below w.heap.size w w') : CsAt w' v cs := ⟨h.rs.to hb, h.ok, h.len⟩
theorem CsAt.nil (w : World) : CsAt w (.slice none 0 0) [] := ⟨RsAt.nil w, by simp, by simp⟩
theorem CsAt.form {w : World} {v : Value} {cs : List Ce} (h : CsAt w v cs) : ∃ a c, v = .slice a cs.length c := by
  have := h.rs.form; rw [rowsC_len] at this; exact this
theorem CsAt.get {w : World} {v : Value} {cs : List Ce} (h : CsAt w v cs) (hp : 0 < cs.length) : ∃ B o c, v = .slice (some ⟨B, o, none⟩) cs.length c ∧ cs.length ≤ c ∧ B < w.heap.size ∧ ∀ i, (hi : i < cs.length) → w.rangeAt B (o + 8 * i) (cs[i]).row := by
  obtain ⟨B, o, c, e, h1, h2, h3⟩ := h.rs.get (by rw [rowsC_len]; exact hp)
  rw [rowsC_len] at e h1
  refine ⟨B, o, c, e, h1, h2, fun i hi => ?_⟩
  have := rAt_nth h3 h.rs.1 i (by rw [rowsC_len]; exact hi)
  simpa [rowsC] using this
section
variable {P : Program} {T k : Nat} {z : List Value} {ops : Array Oper} {rest : List Oper} {o : Oper} {a : Act} {w : World} {Q : Exit → Act → World → Prop}
/-- A struct within a row is loaded. -/
theorem wpL_mid (R : Rt.RT P T k z) (hgd : o.guard = none) (x : Operand) (b f : Nat) (xs : List Value) (ho : o.op = .load T x) (hx : a.eval x = .pointer (some ⟨b, f, none⟩)) (hl : xs.length = k) (hg : w.rangeAt b f xs)
    (h : wpList P ops Q rest (a.put o.dst (.agg xs.toArray)) w) : wpList P ops Q (o :: rest) a w := by
  rcases R.ut with ⟨fs, hu⟩ | ⟨n, e, hu⟩
  · exact wpList_load_mid hgd T x ho b f hx xs _ hg hu rfl (by have := R.size hl; simpa using this) h
  · exact wpList_load_mid hgd T x ho b f hx xs _ hg hu rfl (by have := R.size hl; simpa using this) h
end
theorem ce_ev {w : World} {b o : Nat} {c : Ce} (h : w.rangeAt b o c.row) : w.rangeAt b (o + 2) c.e.row := by
  have e : c.row = [.int .u8 (c.k : Int), .string c.y] ++ c.e.row := rfl
  rw [e, rAt_app] at h
  exact h.2
theorem ce_evA {w : World} {b t : Nat} {c : Ce} (h : Arr w b t c.row) : w.rangeAt b 2 c.e.row := by
  have := ce_ev h.range; simpa using this
/-- event.Check and event.State at a row. -/
theorem evCheck_ev (w : World) (e : Ev) (h : e.ok) (hI : IT w) : Calls Tryd.prog 28 #[.agg e.row.toArray] w fun x w' => x = .returned (.int .i64 (evE e)) ∧ Below w.heap.size w w' :=
  evCheck_any w e.room e.sender e.kind e.key e.body e.nonce h.k h.r h.s h.y h.b hI

theorem nanK_any (w : World) (k : Int) : Calls Tryd.prog 105 #[.int .u8 k] w fun e w' => e = .returned (.bool false) ∧ w' = w := by
  go_enter Tryd.func105, Tryd.ntmps105
  go_wp2_with fail
  go_ret
  exact ⟨rfl, rfl⟩

theorem nanS_any (w : World) (s : ByteArray) : Calls Tryd.prog 106 #[.string s] w fun e w' => e = .returned (.bool false) ∧ w' = w := by
  have e0 : (s.toList != s.toList) = false := by simp
  go_enter Tryd.func106, Tryd.ntmps106
  go_wp2_with fail
  go_ret
  exact ⟨rfl, rfl⟩

set_option maxHeartbeats 4000000 in
theorem cmpK_any (w : World) (a b : Nat) : Calls Tryd.prog 85 #[.int .u8 (a : Int), .int .u8 (b : Int)] w fun e w' => e = .returned (.int .i64 (cmpN a b)) ∧ w' = w := by
  by_cases h : a < b
  · have d1 : decide ((a : Int) < (b : Int)) = true := by simp; omega
    have n1 : (a : Int) < (b : Int) := by omega
    have HF := hidp (show cmpN a b = -1 from by unfold cmpN; simp [*])
    go_enter Tryd.func85, Tryd.ntmps85
    go_wp2_with (go_at_call 105; refine (nanK_any _ _).mono ?_; rintro e w' ⟨rfl, rfl⟩)
    go_ret
    exact ⟨by rw [HF.out]; rfl, rfl⟩
  · have d1 : decide ((a : Int) < (b : Int)) = false := by simp; omega
    have n1 : ¬ (a : Int) < (b : Int) := by omega
    by_cases h2 : b < a
    · have d2 : decide ((a : Int) > (b : Int)) = true := by simp; omega
      have n2 : (b : Int) < (a : Int) := by omega
      have HF := hidp (show cmpN a b = 1 from by unfold cmpN; simp [*])
      go_enter Tryd.func85, Tryd.ntmps85
      go_wp2_with (go_at_call 105; refine (nanK_any _ _).mono ?_; rintro e w' ⟨rfl, rfl⟩)
      go_ret
      exact ⟨by rw [HF.out]; rfl, rfl⟩
    · have d2 : decide ((a : Int) > (b : Int)) = false := by simp; omega
      have n2 : ¬ (b : Int) < (a : Int) := by omega
      have HF := hidp (show cmpN a b = 0 from by unfold cmpN; simp [*])
      go_enter Tryd.func85, Tryd.ntmps85
      go_wp2_with (go_at_call 105; refine (nanK_any _ _).mono ?_; rintro e w' ⟨rfl, rfl⟩)
      go_ret
      exact ⟨by rw [HF.out]; rfl, rfl⟩

set_option maxHeartbeats 4000000 in
theorem cmpS_any (w : World) (a b : ByteArray) : Calls Tryd.prog 86 #[.string a, .string b] w fun e w' => e = .returned (.int .i64 (cmpS a b)) ∧ w' = w := by
  cases h1 : Op.bytesLess a.toList b.toList with
  | true =>
    have HF := hidp (show cmpS a b = -1 from by unfold cmpS; simp [*])
    go_enter Tryd.func86, Tryd.ntmps86
    go_wp2_with (go_at_call 106; refine (nanS_any _ _).mono ?_; rintro e w' ⟨rfl, rfl⟩)
    go_ret
    exact ⟨by rw [HF.out]; rfl, rfl⟩
  | false =>
    cases h2 : Op.bytesLess b.toList a.toList with
    | true =>
      have h3 : (a.toList == b.toList) = false := by
        rw [beq_eq_false_iff_ne]; intro e; rw [e, bL_irr] at h2; cases h2
      have HF := hidp (show cmpS a b = 1 from by unfold cmpS; simp [*])
      go_enter Tryd.func86, Tryd.ntmps86
      go_wp2_with (go_at_call 106; refine (nanS_any _ _).mono ?_; rintro e w' ⟨rfl, rfl⟩)
      go_ret
      exact ⟨by rw [HF.out]; rfl, rfl⟩
    | false =>
      have h4 : cmpS a b = 0 := by unfold cmpS; rw [h1, h2]; rfl
      have h3 : (a.toList == b.toList) = true := by rw [cmpS_eq.1 h4]; simp
      clear h4
      have HF := hidp (show cmpS a b = 0 from by unfold cmpS; simp [*])
      go_enter Tryd.func86, Tryd.ntmps86
      go_wp2_with (go_at_call 106; refine (nanS_any _ _).mono ?_; rintro e w' ⟨rfl, rfl⟩)
      go_ret
      exact ⟨by rw [HF.out]; rfl, rfl⟩

set_option maxHeartbeats 4000000 in
theorem or_any (w : World) (g t : Nat) (x y : Int) (hg : Arr w g t [.int .i64 x, .int .i64 y]) : Calls Tryd.prog 84 #[.slice (some ⟨g, 0, none⟩) 2 2] w fun e w' => e = .returned (.int .i64 (if x = 0 then y else x)) ∧ w' = w := by
  obtain ⟨c0, c1⟩ := (show w.cell? ⟨g, 0, none⟩ = some (.int .i64 x) ∧ w.cell? ⟨g, 1, none⟩ = some (.int .i64 y) from ⟨hg.cell 0 (by simp), hg.cell 1 (by simp)⟩)
  have HR : Hid (∀ z, (if x = 0 then y else x) = z → (if x = 0 then y else x) = z) := hidp fun _ h => h
  obtain ⟨R, hR⟩ : ∃ z, (if x = 0 then y else x) = z := ⟨_, rfl⟩
  rw [hR]
  have HRR := hidp hR
  clear hR hg HR
  go_enter Tryd.func84, Tryd.ntmps84
  go_wp2_with fail
  go_loopw [8] (fun t8 wr => ∃ i : Nat, t8 = .int .i64 (i : Int) ∧ (i = 0 ∨ (i = 1 ∧ (x == 0) = true) ∨ (i = 2 ∧ (x == 0) = true ∧ (y == 0) = true)) ∧ w = wr) (fun t8 _ => 2 - (intOf t8).toNat)
  case atStart => exact ⟨0, rfl, .inl rfl, rfl⟩
  case round =>
    obtain ⟨i, rfl, hi, rfl⟩ := hrel
    rcases hi with rfl | ⟨rfl, hx⟩ | ⟨rfl, hx, hy⟩
    · cases hx : (x == 0) with
      | true =>
        have hxn : (x != 0) = false := by rw [bne, hx]; rfl
        have hx0 : x = 0 := by simpa using hx
        go_wp2_with fail
        exact ⟨⟨1, by go_num, .inr (.inl ⟨rfl, trivial⟩), trivial⟩, by simp [intOf]⟩
      | false =>
        have hxn : (x != 0) = true := by rw [bne, hx]; rfl
        have hx0 : ¬ x = 0 := by simpa using hx
        have HQ := hidp (show R = x from by rw [← HRR.out, if_neg hx0])
        go_wp2_with fail
        go_ret
        exact ⟨by rw [HQ.out]; rfl, rfl⟩
    · have hx0 : x = 0 := by simpa using hx
      cases hy : (y == 0) with
      | true =>
        have hyn : (y != 0) = false := by rw [bne, hy]; rfl
        have hy0 : y = 0 := by simpa using hy
        have hxx := hidp hx
        clear hx hx0
        go_wp2_with fail
        exact ⟨⟨2, by go_num, .inr (.inr ⟨rfl, hxx.out, trivial⟩), trivial⟩, by simp [intOf]⟩
      | false =>
        have hyn : (y != 0) = true := by rw [bne, hy]; rfl
        have hy0 : ¬ y = 0 := by simpa using hy
        have HQ := hidp (show R = y from by rw [← HRR.out, if_pos hx0])
        clear hx hx0
        go_wp2_with fail
        go_ret
        exact ⟨by rw [HQ.out]; rfl, rfl⟩
    · have hx0 : x = 0 := by simpa using hx
      have hy0 : y = 0 := by simpa using hy
      have HQ := hidp (show R = 0 from by rw [← HRR.out, if_pos hx0, hy0])
      clear hx hx0 hy hy0
      go_wp2_with fail
      go_ret
      exact ⟨by rw [HQ.out]; rfl, rfl⟩
end Go.Proofs.YtfenjincbhkodaaDoor
