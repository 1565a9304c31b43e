
/-
  auth: plain mathematics; users in memory beside boxes.
-/
import Derived.Test.YtkcgmimcopoknaaGreatDoorStZ
import Derived.Test.YtkcgmimcopoknaaGreatDoorPwK
import Derived.Test.YtkcgmimcopoknaaGreatDoorPwV
import Derived.Test.YtkcgmimcopoknaaGreatDoorMbAll
namespace Go.Proofs.YtkcgmimcopoknaaGreatDoor
set_option maxRecDepth 100000
set_option linter.unusedVariables false
set_option linter.unusedSimpArgs false
open Go.RowKit Rw
theorem UsAt.stp {w W : World} {v : Value} {us : List (ByteArray × Int)} {b t : Nat} {xs : List Value} (h : UsAt w v us) (st : Rt.Stp b w W) (ha : Arr w b t xs) (hx : ∀ x ∈ xs, ∀ s, x ≠ .string s) : UsAt W v us := by
  refine ⟨⟨h.rs.1, ?_⟩, h.len, h.sz⟩
  rcases h.rs.2 with h0 | ⟨B, o, c, e, hc, hB, hr⟩
  · exact .inl h0
  · by_cases hn : 0 < us.length
    · refine .inr ⟨B, o, c, e, hc, by rw [st.size]; exact hB, fun j u hj => ?_⟩
      have hne : B ≠ b := by
        rintro rfl
        have h0 := hr 0 (.string us[0].1) (by
          obtain ⟨p, r, rfl⟩ : ∃ p r, us = p :: r := by
            cases us with
            | nil => simp at hn
            | cons p r => exact ⟨p, r, rfl⟩
          rfl)
        have hc0 : w.cell? ⟨B, o + 0, none⟩ = xs[o + 0]? := by simp [World.cell?, show w.heap[B]? = _ from ha]
        rw [hc0] at h0
        exact hx _ (List.mem_of_getElem? h0) _ rfl
      have hcell : W.cell? ⟨B, o + j, none⟩ = w.cell? ⟨B, o + j, none⟩ := World.cell?_of_block (w := w) (st.other B hne)
      rw [hcell]; exact hr j u hj
    · have : us = [] := List.eq_nil_of_length_eq_zero (by omega)
      subst this
      refine .inr ⟨B, o, c, e, hc, by rw [st.size]; exact hB, fun j u hj => by simp [uRs] at hj⟩
theorem UsAt.stpB {w W : World} {us : List (ByteArray × Int)} {B o n c b : Nat} (h : UsAt w (.slice (some ⟨B, o, none⟩) n c) us) (st : Rt.Stp b w W) (hne : B ≠ b) : UsAt W (.slice (some ⟨B, o, none⟩) n c) us := by
  refine ⟨⟨h.rs.1, ?_⟩, h.len, h.sz⟩
  rcases h.rs.2 with ⟨h0, _⟩ | ⟨B', o', c', e, hc, hB, hr⟩
  · cases h0
  · simp only [Value.slice.injEq, Option.some.injEq, Addr.mk.injEq] at e
    obtain ⟨⟨rfl, rfl, -⟩, rfl, rfl⟩ := e
    refine .inr ⟨B, o, c, rfl, hc, by rw [st.size]; exact hB, fun j u hj => ?_⟩
    have hcell : W.cell? ⟨B, o + j, none⟩ = w.cell? ⟨B, o + j, none⟩ := World.cell?_of_block (w := w) (st.other B hne)
    rw [hcell]; exact hr j u hj
theorem UsAt.ltB {w : World} {v : Value} {us : List (ByteArray × Int)} (h : UsAt w v us) : ∀ B o n c, v = Value.slice (some ⟨B, o, none⟩) n c → B < w.heap.size := by
  intro B o n c hv
  rcases h.rs.2 with ⟨h0, _⟩ | ⟨B', o', c', e, hc, hB, hr⟩
  · rw [h0] at hv; cases hv
  · rw [e] at hv
    simp only [Value.slice.injEq, Option.some.injEq, Addr.mk.injEq] at hv
    obtain ⟨⟨rfl, -, -⟩, -, -⟩ := hv
    exact hB
theorem UsAt.stpN {w W : World} {v : Value} {us : List (ByteArray × Int)} {b : Nat} (h : UsAt w v us) (st : Rt.Stp b w W) (hne : ∀ B o n c, v = Value.slice (some ⟨B, o, none⟩) n c → B ≠ b) : UsAt W v us := by
  refine ⟨⟨h.rs.1, ?_⟩, h.len, h.sz⟩
  rcases h.rs.2 with h0 | ⟨B, o, c, e, hc, hB, hr⟩
  · exact .inl h0
  · refine .inr ⟨B, o, c, e, hc, by rw [st.size]; exact hB, fun j u hj => ?_⟩
    have hcell : W.cell? ⟨B, o + j, none⟩ = w.cell? ⟨B, o + j, none⟩ := World.cell?_of_block (w := w) (st.other B (hne _ _ _ _ e))
    rw [hcell]; exact hr j u hj
theorem lv_nostr2 {l : Lv} {v : Value} (h : ∃ a c, v = .slice a l.us.length c) : ∀ x ∈ [.int .i64 l.a, .int .i64 l.s, .int .i64 l.i, .int .i64 l.k, .int .i64 l.b, .int .i64 l.r, v], ∀ s, x ≠ Value.string s := by
  obtain ⟨a, c, rfl⟩ := h
  intro x hx s
  simp at hx
  rcases hx with rfl | rfl | rfl | rfl | rfl | rfl | rfl <;> simp
theorem al_cases (r s a t : ByteArray) (sf iv ki bn ab : Bool) : alE r s a t sf iv ki bn ab = 0 ↔ (ckE r s a t = 0 ∧ mayB r s a t sf iv ki bn ab = true) := by
  unfold alE
  by_cases h : ckE r s a t = 0
  · rw [if_pos h]
    cases mayB r s a t sf iv ki bn ab <;> simp [h]
  · rw [if_neg h]; simp [h]
theorem banned_facts {r s t : ByteArray} {sf iv ki bn ab : Bool} (h : alE r s (⟨#[98, 97, 110]⟩ : ByteArray) t sf iv ki bn ab = 0) :
    sf = false ∧ (s.toList == ([106, 111, 105, 110] : List UInt8)) = true ∧ ab = true ∧ bn = true ∧ ((t.toList == ([108, 101, 97, 118, 101] : List UInt8)) = true ∨ ((t.toList == ([108, 101, 97, 118, 101] : List UInt8)) = false ∧ (t.toList == ([98, 97, 110] : List UInt8)) = true)) := by
  obtain ⟨-, hm⟩ := (al_cases _ _ _ _ _ _ _ _ _).1 h
  obtain ⟨k, hk, hO⟩ := one_of t
  unfold mayB at hm
  obtain ⟨o0, o1, o2, o3, o4⟩ := hO
  rw [o0, o1, o2, o3, o4] at hm
  rw [o2, o3]
  match k, hk with
  | 0, _ => simp [entB, toList_lit, anyW, isB, ruleB, inB, byB, entB, remB] at hm
  | 1, _ => simp [toList_lit, anyW, isB, ruleB, inB, byB, entB, remB] at hm
  | 2, _ => simp [toList_lit, anyW, isB, ruleB, inB, byB, entB, remB] at hm; simp; exact ⟨hm.1.1.1, hm.1.1.2, hm.1.2, hm.2⟩
  | 3, _ => simp [toList_lit, anyW, isB, ruleB, inB, byB, entB, remB] at hm; simp; exact ⟨hm.1.1.1, hm.1.1.2, hm.1.2, hm.2⟩
  | 4, _ => simp [toList_lit, anyW, isB, ruleB, inB, byB, entB, remB] at hm
  | 5, _ => simp at hm
theorem others_facts {r s a t : ByteArray} {sf iv ki bn ab : Bool} (h : alE r s a t sf iv ki bn ab = 0) :
    (sf = true ∧ ((t.toList == ([106, 111, 105, 110] : List UInt8)) = true ∨ ((t.toList == ([106, 111, 105, 110] : List UInt8)) = false ∧ (t.toList == ([108, 101, 97, 118, 101] : List UInt8)) = true) ∨ ((t.toList == ([106, 111, 105, 110] : List UInt8)) = false ∧ (t.toList == ([108, 101, 97, 118, 101] : List UInt8)) = false ∧ (t.toList == ([107, 110, 111, 99, 107] : List UInt8)) = true))) ∨
    (sf = false ∧ (s.toList == ([106, 111, 105, 110] : List UInt8)) = true ∧ (t.toList == ([106, 111, 105, 110] : List UInt8)) = false ∧ (t.toList == ([107, 110, 111, 99, 107] : List UInt8)) = false) := by
  obtain ⟨-, hm⟩ := (al_cases _ _ _ _ _ _ _ _ _).1 h
  obtain ⟨k, hk, hO⟩ := one_of t
  unfold mayB at hm
  obtain ⟨o0, o1, o2, o3, o4⟩ := hO
  rw [o0, o1, o2, o3, o4] at hm
  rw [o0, o2, o4]
  match k, hk with
  | 0, _ => simp at hm; simp [hm.1]
  | 1, _ => simp [byB] at hm; simp [hm.1.1.1, hm.1.1.2]
  | 2, _ => cases sf <;> simp [byB] at hm ⊢; exact hm.1.1
  | 3, _ => simp [byB] at hm; simp [hm.1.1.1, hm.1.1.2]
  | 4, _ => simp at hm; simp [hm.1]
  | 5, _ => simp at hm
def wJoin : ByteArray := ⟨#[106, 111, 105, 110]⟩
def wInvite : ByteArray := ⟨#[105, 110, 118, 105, 116, 101]⟩
/-- The only event of a kind. -/
def onlyS (cs : List Ce) (k : Nat) : Option Ev := (cs.find? fun c => decide (c.k = k)).map (·.e)
def lvS (cs : List Ce) : Lv := match onlyS cs 3 with
  | some e => psV e.body
  | none => match onlyS cs 1 with
    | some c => fsL c.sender
    | none => zLv
def lvX (cs : List Ce) : Int := match onlyS cs 3 with
  | some e => if (psL e.body).isSome = true then 0 else 2
  | none => if (onlyS cs 1).isSome = true then 0 else 3
def ruS (cs : List Ce) : ByteArray := match onlyS cs 4 with
  | some e => if ruleB e.body = true then e.body else ⟨#[]⟩
  | none => wInvite
def ruX (cs : List Ce) : Int := match onlyS cs 4 with
  | some e => if ruleB e.body = true then 0 else 2
  | none => 0
/-- The server that a text tells. -/
def nxO (t : ByteArray) : Option Int := match Lib.atoiAll t.data.toList with
  | .ok v => if 0 ≤ v ∧ v ≤ 63 ∧ (itT v).toList = t.toList then some v else none
  | _ => none
def needE (l : Lv) (u : ByteArray) (n : Int) : Int := if n ≤ ofL l u then 0 else 12
def mvE (cs : List Ce) (e : Ev) (l : Lv) (r : ByteArray) : Int :=
  alE r (memS cs e.sender) (memS cs e.key) e.body (e.sender.toList == e.key.toList) (decide (l.i ≤ ofL l e.sender)) (decide (l.k ≤ ofL l e.sender)) (decide (l.b ≤ ofL l e.sender)) (decide (ofL l e.key < ofL l e.sender))
def mbE (cs : List Ce) (e : Ev) (fo : ByteArray) (l : Lv) (r : ByteArray) : Int :=
  if isB e.body = true then (if cs.length = 1 ∧ e.sender.toList = fo.toList ∧ e.key.toList = fo.toList ∧ e.body.toList = wJoin.toList then 0 else mvE cs e l r) else 2
def deE (cs : List Ce) (e : Ev) (l : Lv) : Int :=
  if (memS cs e.sender).toList = wJoin.toList then
    (if e.kind = 3 then (if (psL e.body).isSome = true then (if needE l e.sender l.s = 0 then chE l (psV e.body) e.sender else 12) else 2)
     else if e.kind = 4 then (if ruleB e.body = true then needE l e.sender l.s else 2)
     else if e.kind = 8 then (if (nxO e.body).isSome = true then needE l e.sender l.s else 2)
     else if e.kind = 5 then needE l e.sender l.s
     else if e.kind = 7 then needE l e.sender l.r
     else 0)
  else 12
def crE (cs : List Ce) (e : Ev) : Int := if cs.length = 0 ∧ (who 2 e.room).getD 0 = (who 1 e.sender).getD 0 then 0 else 12
def auE (cs : List Ce) (e : Ev) : Int :=
  if okS cs = true ∧ evOk e = true then
    (if e.kind = 1 then crE cs e else match onlyS cs 1 with
      | none => 12
      | some c => if c.room.toList = e.room.toList then
          (if lvX cs = 0 then (if ruX cs = 0 then (if e.kind = 2 then mbE cs e c.sender (lvS cs) (ruS cs) else deE cs e (lvS cs)) else ruX cs) else lvX cs)
        else 12)
  else 2
theorem au_parts {cs : List Ce} {e : Ev} (h : auE cs e = 0) : okS cs = true ∧ evOk e = true ∧ ((e.kind = 1 ∧ cs.length = 0) ∨
    (e.kind ≠ 1 ∧ ∃ c, onlyS cs 1 = some c ∧ ((e.kind = 2 ∧ mbE cs e c.sender (lvS cs) (ruS cs) = 0) ∨ (e.kind ≠ 2 ∧ (memS cs e.sender).toList = wJoin.toList)))) := by
  unfold auE at h
  split at h
  · rename_i h0
    refine ⟨h0.1, h0.2, ?_⟩
    split at h
    · rename_i h1
      refine .inl ⟨h1, ?_⟩
      unfold crE at h
      split at h
      · rename_i h2; exact h2.1
      · cases h
    · rename_i h1
      refine .inr ⟨h1, ?_⟩
      split at h
      · cases h
      · rename_i c hc
        refine ⟨c, hc, ?_⟩
        split at h
        · split at h
          · split at h
            · split at h
              · rename_i h2; exact .inl ⟨h2, h⟩
              · rename_i h2
                refine .inr ⟨h2, ?_⟩
                unfold deE at h
                split at h
                · assumption
                · cases h
            · rename_i h2; exact absurd h h2
          · rename_i h2; exact absurd h h2
        · cases h
  · cases h
/-- Who has not joined does nothing but join, knock, or leave, for themselves. -/
theorem joined_facts {cs : List Ce} {e : Ev} (h : auE cs e = 0) (hk : e.kind ≠ 1) (hj : (memS cs e.sender).toList ≠ wJoin.toList) :
    e.kind = 2 ∧ e.sender.toList = e.key.toList ∧ (e.body.toList = wJoin.toList ∨ e.body.toList = ([107, 110, 111, 99, 107] : List UInt8) ∨ e.body.toList = wLeave.toList) := by
  obtain ⟨-, -, h | ⟨-, c, -, ⟨h2, h⟩ | ⟨-, h⟩⟩⟩ := au_parts h
  · exact absurd h.1 hk
  · refine ⟨h2, ?_⟩
    unfold mbE at h
    split at h
    · split at h
      · rename_i h3
        exact ⟨h3.2.1.trans h3.2.2.1.symm, .inl h3.2.2.2⟩
      · unfold mvE at h
        rcases others_facts h with ⟨h3, h4⟩ | ⟨-, h4, -⟩
        · refine ⟨by simpa using h3, ?_⟩
          rcases h4 with h4 | ⟨-, h4⟩ | ⟨-, -, h4⟩
          · exact .inl (by rw [beq_iff_eq.1 h4]; exact (toList_lit _).symm)
          · exact .inr (.inr (by rw [beq_iff_eq.1 h4]; exact (toList_lit _).symm))
          · exact .inr (.inl (beq_iff_eq.1 h4))
        · exact absurd ((beq_iff_eq.1 h4).trans (toList_lit _).symm) hj
    · cases h
  · exact absurd h hj
/-- Who is banned does nothing. -/
theorem banned_none {cs : List Ce} {e : Ev} (hb : (memS cs e.sender).toList = ([98, 97, 110] : List UInt8)) (hn : 2 ≤ cs.length) : auE cs e ≠ 0 := by
  intro h
  have hj : (memS cs e.sender).toList ≠ wJoin.toList := by rw [hb]; unfold wJoin; rw [toList_lit]; decide
  have hp := au_parts h
  obtain ⟨-, -, h1 | ⟨hk, c, -, ⟨h2, h3⟩ | ⟨-, h3⟩⟩⟩ := hp
  · omega
  · obtain ⟨-, hs, -⟩ := joined_facts h hk hj
    unfold mbE at h3
    split at h3
    · rw [if_neg (by omega)] at h3
      unfold mvE at h3
      have hke : e.sender = e.key := ba_inj' hs
      rw [← hke] at h3
      rw [show memS cs e.sender = (⟨#[98, 97, 110]⟩ : ByteArray) from ba_inj' (hb.trans (toList_lit _).symm)] at h3
      have := (banned_facts h3).1
      simp at this
    · cases h3
  · exact hj h3
theorem ok_only {cs : List Ce} {c : Ev} (h : okS cs = true) {k : Nat} (hk : k ≠ 2) (ho : onlyS cs k = some c) : firS cs k ⟨#[]⟩ = some c := by
  obtain ⟨-, hv, -⟩ := (okS_iff cs).1 h
  have e : cs.find? (fun c => decide (c.k = k)) = cs.find? (isC k ⟨#[]⟩) := by
    clear ho h
    induction cs with
    | nil => rfl
    | cons a r ih =>
      have ha := hv a (List.mem_cons_self ..)
      have ih := ih (fun c hc => hv c (List.mem_cons_of_mem _ hc))
      have e1 : decide (a.k = k) = isC k ⟨#[]⟩ a := by
        unfold isC
        by_cases hak : a.k = k
        · unfold vaC lasB at ha
          simp only [Bool.and_eq_true, decide_eq_true_eq] at ha
          obtain ⟨⟨⟨-, h1⟩, h2⟩, h3⟩ := ha
          obtain ⟨-, -, -, -, h5, -⟩ := evOk_parts h1
          unfold keyOk at h5
          rw [if_neg (by omega)] at h5
          have h6 := of_decide_eq_true h5
          have h7 : a.y = ⟨#[]⟩ := by
            rw [← h3]
            have h8 : a.e.key = ⟨#[]⟩ := by
              apply ba_inj'
              rw [(empty_facts h6).1, toList_lit]
            exact h8
          simp [hak, h7]
        · simp [hak]
      rw [List.find?_cons, List.find?_cons, e1, ih]
  unfold firS
  rw [← e]
  exact ho
end Go.Proofs.YtkcgmimcopoknaaGreatDoor
