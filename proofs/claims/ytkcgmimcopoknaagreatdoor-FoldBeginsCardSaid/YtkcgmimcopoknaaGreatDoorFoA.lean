
/-
  fold: plain mathematics of rooms.
-/
import Derived.Test.YtkcgmimcopoknaaGreatDoorAuA
namespace Go.Proofs.YtkcgmimcopoknaaGreatDoor
set_option maxRecDepth 100000
set_option linter.unusedVariables false
set_option linter.unusedSimpArgs false
open Go.RowKit Rw
/-- A room. -/
structure Rm where
  cs : List Ce
  h : Int
  ep : Int
  n : Int
def rm0 : Rm := ⟨[], 0, 0, 0⟩
def hubK (p : Int × Int) (e : Ev) : Int × Int :=
  if e.kind = 1 then (((who 2 e.room).getD 0 : Nat), p.2) else if e.kind = 8 then ((nxO e.body).getD 0, p.2 + 1) else p
def cntR (r : Rm) (e : Ev) : Rm := ⟨r.cs, (hubK (r.h, r.ep) e).1, (hubK (r.h, r.ep) e).2, r.n + 1⟩
def spE (r : Rm) (e : Ev) : Int := if auE r.cs e = 0 then (if r.n = 4096 then 8 else if stB e.kind = true then setE r.cs e else 0) else auE r.cs e
def spC (r : Rm) (e : Ev) : List Ce := if stB e.kind = true then setV r.cs e else r.cs
def spR (r : Rm) (e : Ev) : Rm := if spE r e = 0 then cntR ⟨spC r e, r.h, r.ep, r.n⟩ e else r
/-- What events come to. -/
def rn (r : Rm) : List Ev → Rm × Nat × Int
  | [] => (r, 0, 0)
  | e :: l => if spE r e = 0 then ((rn (spR r e) l).1, (rn (spR r e) l).2.1 + 1, (rn (spR r e) l).2.2) else (r, 0, spE r e)
theorem rn_nil (r : Rm) : rn r [] = (r, 0, 0) := rfl
theorem rn_yes {r : Rm} {e : Ev} {l : List Ev} (h : spE r e = 0) : rn r (e :: l) = ((rn (spR r e) l).1, (rn (spR r e) l).2.1 + 1, (rn (spR r e) l).2.2) := by rw [rn, if_pos h]
theorem rn_no {r : Rm} {e : Ev} {l : List Ev} (h : spE r e ≠ 0) : rn r (e :: l) = (r, 0, spE r e) := by rw [rn, if_neg h]
theorem spR_no {r : Rm} {e : Ev} (h : spE r e ≠ 0) : spR r e = r := by unfold spR; rw [if_neg h]
theorem rn_le : ∀ (l : List Ev) (r : Rm), (rn r l).2.1 ≤ l.length
  | [], r => by simp [rn_nil]
  | e :: l, r => by
    by_cases h : spE r e = 0
    · rw [rn_yes h]; have := rn_le l (spR r e); simp; exact this
    · rw [rn_no h]; simp
theorem rn_all : ∀ (l : List Ev) (r : Rm), (rn r l).2.2 = 0 ↔ (rn r l).2.1 = l.length
  | [], r => by simp [rn_nil]
  | e :: l, r => by
    by_cases h : spE r e = 0
    · rw [rn_yes h]; have := rn_all l (spR r e); simp; exact this
    · rw [rn_no h]; simp [h]
theorem rn_hub : ∀ (l : List Ev) (r : Rm), ((rn r l).1.h, (rn r l).1.ep) = (l.take (rn r l).2.1).foldl hubK (r.h, r.ep) ∧ (rn r l).1.n = r.n + ((rn r l).2.1 : Int)
  | [], r => by simp [rn_nil]
  | e :: l, r => by
    by_cases h : spE r e = 0
    · rw [rn_yes h]
      obtain ⟨h1, h2⟩ := rn_hub l (spR r e)
      have e1 : ((spR r e).h, (spR r e).ep) = hubK (r.h, r.ep) e := by unfold spR; rw [if_pos h]; rfl
      have e2 : (spR r e).n = r.n + 1 := by unfold spR; rw [if_pos h]; rfl
      refine ⟨?_, ?_⟩
      · simp only [List.take_succ_cons, List.foldl_cons]
        rw [← e1]; exact h1
      · simp only
        rw [h2, e2]; omega
    · rw [rn_no h]; simp
theorem rn_app : ∀ (a b : List Ev) (r : Rm), rn r (a ++ b) = if (rn r a).2.2 = 0 then ((rn (rn r a).1 b).1, (rn r a).2.1 + (rn (rn r a).1 b).2.1, (rn (rn r a).1 b).2.2) else rn r a
  | [], b, r => by simp [rn_nil]
  | e :: a, b, r => by
    by_cases h : spE r e = 0
    · rw [List.cons_append, rn_yes h, rn_yes h, rn_app a b (spR r e)]
      by_cases h2 : (rn (spR r e) a).2.2 = 0
      · simp only [if_pos h2]
        simp only [Prod.mk.injEq, true_and]
        exact ⟨by omega, trivial⟩
      · simp only [if_neg h2]
    · rw [List.cons_append, rn_no h, rn_no h]; simp [h]
/-- Where it stops it stops at this event. -/
theorem rn_stop : ∀ (l : List Ev) (r : Rm) (h : (rn r l).2.1 < l.length), spE (rn r l).1 l[(rn r l).2.1] = (rn r l).2.2 ∧ (rn r l).2.2 ≠ 0
  | [], r, h => by simp at h
  | e :: l, r, h => by
    by_cases h0 : spE r e = 0
    · have hh : rn r (e :: l) = _ := rn_yes (l := l) h0
      have h' : (rn (spR r e) l).2.1 < l.length := by rw [hh] at h; simpa using h
      have := rn_stop l (spR r e) h'
      simp only [hh, List.getElem_cons_succ]
      exact this
    · have hh : rn r (e :: l) = _ := rn_no (l := l) h0
      simp only [hh, List.getElem_cons_zero]
      exact ⟨trivial, h0⟩
/-- A state that events have made: right, and no longer than there are. -/
structure Rm.good (r : Rm) (m : Nat) : Prop where
  ok : okS r.cs = true
  le : r.cs.length ≤ m
  n : r.n = (m : Int)
theorem good0 : rm0.good 0 := ⟨by decide, by decide, rfl⟩
theorem las_of {cs : List Ce} {e : Ev} (h : auE cs e = 0) (hs : stB e.kind = true) : lasB e = true := by
  unfold lasB; rw [hs, (au_parts h).2.1]; rfl
theorem setE_small {cs : List Ce} {e : Ev} (ok : okS cs = true) (hl : lasB e = true) (hn : cs.length < 256) : setE cs e = 0 ∧ setV cs e = setL cs e := by
  unfold setE setV
  rw [if_pos ok, if_pos hl, if_pos ok, if_pos hl, if_pos (.inr (by omega)), if_pos (.inr (by omega))]
  exact ⟨rfl, rfl⟩
theorem spE_small {r : Rm} {m : Nat} (g : r.good m) (hm : m < 256) (e : Ev) : spE r e = auE r.cs e := by
  unfold spE
  by_cases h : auE r.cs e = 0
  · rw [if_pos h, if_neg (by rw [g.n]; omega), h]
    split
    · rename_i hs
      exact (setE_small g.ok (las_of h hs) (by have := g.le; omega)).1
    · rfl
  · rw [if_neg h]
theorem spR_good {r : Rm} {m : Nat} (g : r.good m) (hm : m < 256) {e : Ev} (h : spE r e = 0) : (spR r e).good (m + 1) := by
  have ha : auE r.cs e = 0 := by rw [← spE_small g hm e]; exact h
  have hc : okS (spC r e) = true ∧ (spC r e).length ≤ m + 1 := by
    unfold spC
    split
    · rename_i hs
      have hl := las_of ha hs
      rw [(setE_small g.ok hl (by have := g.le; omega)).2]
      exact ⟨setL_ok g.ok hl (.inr (by have := g.le; omega)), by have := setL_len r.cs e; have := g.le; omega⟩
    · exact ⟨g.ok, by have := g.le; omega⟩
  unfold spR
  rw [if_pos h]
  exact ⟨hc.1, hc.2, by show r.n + 1 = _; rw [g.n]; omega⟩
theorem rn_good : ∀ (l : List Ev) (r : Rm) (m : Nat), r.good m → m + l.length ≤ 200 → (rn r l).1.good (m + (rn r l).2.1)
  | [], r, m, g, _ => by rw [rn_nil]; exact g
  | e :: l, r, m, g, hm => by
    simp only [List.length_cons] at hm
    by_cases h : spE r e = 0
    · rw [rn_yes h]
      have := rn_good l (spR r e) (m + 1) (spR_good g (by omega) h) (by omega)
      simp only
      rw [show m + ((rn (spR r e) l).2.1 + 1) = m + 1 + (rn (spR r e) l).2.1 from by omega]
      exact this
    · rw [rn_no h]; exact g
/-- What the law of beginnings asks. -/
theorem begins_short {l : List Ev} {k : Nat} (hk : k ≤ l.length) (h100 : l.length ≤ 100) (hn : (rn rm0 (l.take k)).2.1 < k) :
    rn rm0 l = rn rm0 (l.take k) ∧ (rn rm0 (l.take k)).2.2 ≠ 0 ∧ ∃ h : (rn rm0 (l.take k)).2.1 < l.length, auE (rn rm0 (l.take k)).1.cs l[(rn rm0 (l.take k)).2.1] = (rn rm0 (l.take k)).2.2 := by
  have hl : (l.take k).length = k := by simp; omega
  have hlt : (rn rm0 (l.take k)).2.1 < (l.take k).length := by rw [hl]; exact hn
  obtain ⟨h1, h2⟩ := rn_stop (l.take k) rm0 hlt
  have hg := rn_good (l.take k) rm0 0 good0 (by rw [hl]; omega)
  rw [Nat.zero_add] at hg
  refine ⟨?_, h2, by omega, ?_⟩
  · have := rn_app (l.take k) (l.drop k) rm0
    rw [List.take_append_drop, if_neg h2] at this
    exact this
  · rw [← h1, spE_small hg (by omega)]
    rw [List.getElem_take]
theorem begins_whole {l : List Ev} {k : Nat} (hk : k ≤ l.length) (h100 : l.length ≤ 100) (hn : (rn rm0 (l.take k)).2.1 = k) :
    (rn rm0 (l.take k)).2.2 = 0 ∧ k ≤ (rn rm0 l).2.1 ∧ (rn rm0 l).2.1 ≤ l.length ∧ ∀ h : k < l.length, k < (rn rm0 l).2.1 ↔ auE (rn rm0 (l.take k)).1.cs l[k] = 0 := by
  have hl : (l.take k).length = k := by simp; omega
  have h0 : (rn rm0 (l.take k)).2.2 = 0 := (rn_all _ _).2 (by rw [hl]; exact hn)
  have happ := rn_app (l.take k) (l.drop k) rm0
  rw [List.take_append_drop, if_pos h0, hn] at happ
  refine ⟨h0, by rw [happ]; simp, rn_le l rm0, fun h => ?_⟩
  have hg := rn_good (l.take k) rm0 0 good0 (by rw [hl]; omega)
  rw [hn, Nat.zero_add] at hg
  rw [← spE_small hg (by omega), happ]
  obtain ⟨R, hR⟩ : ∃ R, (rn rm0 (l.take k)).1 = R := ⟨_, rfl⟩
  rw [hR]
  rw [List.drop_eq_getElem_cons h]
  by_cases h1 : spE R l[k] = 0
  · rw [rn_yes h1]; simp [h1]
  · rw [rn_no h1]; simp [h1]
/-- The texts of a state's events are no longer than those of what came. -/
def Ev.fit (e : Ev) : Prop := e.ok ∧ e.body.size ≤ 140737488351232 ∧ e.sender.size ≤ 140737488351232
def fitC (cs : List Ce) : Prop := ∀ c ∈ cs, c.e.body.size ≤ 140737488351232 ∧ c.e.sender.size ≤ 140737488351232
theorem setV_fit {cs : List Ce} {e : Ev} (h : fitC cs) (he : e.fit) : fitC (setV cs e) := by
  intro c hc
  unfold setV at hc
  split at hc
  · split at hc
    · split at hc
      · unfold setL at hc
        split at hc
        · rcases List.mem_or_eq_of_mem_set hc with hc | rfl
          · exact h c hc
          · exact he.2
        · simp only [List.mem_append, List.mem_singleton] at hc
          rcases hc with (hc | rfl) | hc
          · exact h c (List.mem_of_mem_take hc)
          · exact he.2
          · exact h c (List.mem_of_mem_drop hc)
      · exact h c hc
    · exact h c hc
  · cases hc
theorem spR_fit {r : Rm} {e : Ev} (h : fitC r.cs) (he : e.fit) : fitC (spR r e).cs := by
  unfold spR
  split
  · show fitC (spC r e)
    unfold spC
    split
    · exact setV_fit h he
    · exact h
  · exact h
theorem rn_fit : ∀ (l : List Ev) (r : Rm), fitC r.cs → (∀ e ∈ l, e.fit) → fitC (rn r l).1.cs
  | [], r, h, _ => by rw [rn_nil]; exact h
  | e :: l, r, h, hl => by
    by_cases h0 : spE r e = 0
    · rw [rn_yes h0]
      exact rn_fit l (spR r e) (spR_fit h (hl e (List.mem_cons_self ..))) (fun x hx => hl x (List.mem_cons_of_mem _ hx))
    · rw [rn_no h0]; exact h
theorem spR_cs {r : Rm} {e : Ev} (h : spE r e = 0) : (spR r e).cs = spC r e := by unfold spR; rw [if_pos h]; rfl
theorem setV_nil {cs : List Ce} (h : okS cs = false) (e : Ev) : setE cs e ≠ 0 := by unfold setE; rw [h]; simp
end Go.Proofs.YtkcgmimcopoknaaGreatDoor
