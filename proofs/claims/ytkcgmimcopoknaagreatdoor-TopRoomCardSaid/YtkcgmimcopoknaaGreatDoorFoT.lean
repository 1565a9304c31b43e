
/-
  TopRoom: what a room that events have made keeps.
-/
import Derived.Test.YtkcgmimcopoknaaGreatDoorFoA
import Derived.Test.YtkcgmimcopoknaaGreatDoorPwV
namespace Go.Proofs.YtkcgmimcopoknaaGreatDoor
set_option maxRecDepth 100000
set_option linter.unusedVariables false
set_option linter.unusedSimpArgs false
open Go.RowKit Rw
theorem only_fir {cs : List Ce} (h : okS cs = true) {k : Nat} (hk : k ≠ 2) : onlyS cs k = firS cs k ⟨#[]⟩ := by
  obtain ⟨-, hv, -⟩ := (okS_iff cs).1 h
  unfold onlyS firS
  congr 1
  clear h
  induction cs with
  | nil => rfl
  | cons a r ih =>
    have ha := hv a (List.mem_cons_self ..)
    have ih := ih (fun c hc => hv c (List.mem_cons_of_mem _ hc))
    have e1 : decide (a.k = k) = isC k ⟨#[]⟩ a := by
      unfold isC
      by_cases hak : a.k = k
      · unfold vaC lasB at ha
        simp only [Bool.and_eq_true, decide_eq_true_eq] at ha
        obtain ⟨⟨⟨-, h1⟩, h2⟩, h3⟩ := ha
        obtain ⟨-, -, -, -, h5, -⟩ := evOk_parts h1
        unfold keyOk at h5
        rw [if_neg (by omega)] at h5
        have h6 := of_decide_eq_true h5
        have h7 : a.y = ⟨#[]⟩ := by
          rw [← h3]
          have h8 : a.e.key = ⟨#[]⟩ := by
            apply ba_inj'
            rw [(empty_facts h6).1, toList_lit]
          exact h8
        simp [hak, h7]
      · simp [hak]
    rw [List.find?_cons, List.find?_cons, e1, ih]
theorem key_none {e : Ev} (h : evOk e = true) (hk : e.kind ≠ 2) : e.key = ⟨#[]⟩ := by
  obtain ⟨-, -, -, -, h5, -⟩ := evOk_parts h
  unfold keyOk at h5
  rw [if_neg hk] at h5
  have h6 := of_decide_eq_true h5
  apply ba_inj'
  rw [(empty_facts h6).1, toList_lit]
theorem only_set {cs : List Ce} {e : Ev} (ok : okS cs = true) (hl : lasB e = true) (hn : cs.length < 256) {k : Nat} (hk : k ≠ 2) : onlyS (setL cs e) k = if e.kind = k then some e else onlyS cs k := by
  have ev : evOk e = true := by unfold lasB at hl; simp at hl; exact hl.2
  rw [only_fir (setL_ok ok hl (.inr (by omega))) hk, setL_fir ok, only_fir ok hk]
  by_cases h : e.kind = k
  · rw [if_pos ⟨h, key_none ev (by omega)⟩, if_pos h]
  · rw [if_neg (fun g => h g.1), if_neg h]
theorem who_63 {q : Nat} {t : ByteArray} : (who q t).getD 0 ≤ 63 := by
  cases h : who q t with
  | none => simp
  | some n =>
    obtain ⟨nm, h1⟩ := who_some h
    simp only [Option.getD_some]
    have := (idOk_name (idP_some h1).1).2.2.1
    omega
theorem nx_63 (t : ByteArray) : 0 ≤ (nxO t).getD 0 ∧ (nxO t).getD 0 ≤ 63 := by
  unfold nxO
  split
  · split
    · rename_i h; exact ⟨h.1, h.2.1⟩
    · simp
  · simp
theorem fs_ok (u : ByteArray) : lvOk (fsL u) = true := by
  unfold fsL lvOk
  cases h : usr u with
  | true => simp [sixL, inR, uTo, uAt, h, List.range_succ]
  | false => simp [sixL, inR, uTo]
theorem fs_100 (u x : ByteArray) : ofL (fsL u) x ≤ 100 := by
  unfold ofL fsL
  cases h : usr u with
  | true =>
    simp only [if_true, ownL]
    split <;> simp
  | false => simp [ownL]
theorem psok_of {t : ByteArray} (h : (psL t).isSome = true) : lvOk (psV t) = true := by
  unfold psV
  unfold psL at h ⊢
  split at h
  · cases h
  · split at h
    · rename_i h1 h2
      rw [if_neg h1, if_pos h2]; exact h2.1
    · cases h
/-- What a room that m events have made keeps. -/
structure Rm.live (r : Rm) (m : Nat) : Prop where
  good : r.good m
  h0 : 0 ≤ r.h
  h1 : r.h ≤ 63
  p0 : 0 ≤ r.ep
  p1 : r.ep ≤ r.n
  made : 0 < m → (∃ c, onlyS r.cs 1 = some c) ∧ lvX r.cs = 0 ∧ lvOk (lvS r.cs) = true ∧ ∀ x, ofL (lvS r.cs) x ≤ 100
theorem live0 : rm0.live 0 := ⟨good0, by decide, by decide, by decide, by decide, fun h => absurd h (by omega)⟩
theorem lv_new {cs cs' : List Ce} (h1 : onlyS cs' 1 = onlyS cs 1) (h3 : onlyS cs' 3 = onlyS cs 3) : lvS cs' = lvS cs ∧ lvX cs' = lvX cs := by
  unfold lvS lvX; rw [h1, h3]; exact ⟨rfl, rfl⟩
theorem au_deed {cs : List Ce} {e : Ev} (h : auE cs e = 0) (hk : e.kind = 3) : (psL e.body).isSome = true ∧ chE (lvS cs) (psV e.body) e.sender = 0 := by
  unfold auE at h
  split at h
  · rw [if_neg (by omega)] at h
    split at h
    · cases h
    · split at h
      · split at h
        · split at h
          · rw [if_neg (by omega)] at h
            unfold deE at h
            split at h
            · split at h
              · rename_i hp
                split at h
                · exact ⟨hp, h⟩
                · cases h
              · cases h
            · cases h
          · rename_i g; exact absurd h g
        · rename_i g; exact absurd h g
      · cases h
  · cases h
theorem au_first {cs : List Ce} {e : Ev} (h : auE cs e = 0) : e.kind = 1 ∧ cs = [] ∨ e.kind ≠ 1 ∧ ∃ c, onlyS cs 1 = some c := by
  obtain ⟨-, -, ⟨h1, h2⟩ | ⟨h1, c, h2, -⟩⟩ := au_parts h
  · exact .inl ⟨h1, List.eq_nil_of_length_eq_zero h2⟩
  · exact .inr ⟨h1, c, h2⟩
theorem live_step {r : Rm} {m : Nat} (g : r.live m) (hm : m < 256) {e : Ev} (h : spE r e = 0) : (spR r e).live (m + 1) := by
  have ha : auE r.cs e = 0 := by rw [← spE_small g.good hm e]; exact h
  have hg := spR_good g.good hm h
  have e1 : ((spR r e).h, (spR r e).ep) = hubK (r.h, r.ep) e := by unfold spR; rw [if_pos h]; rfl
  have e2 : (spR r e).n = r.n + 1 := by unfold spR; rw [if_pos h]; rfl
  have hh : 0 ≤ (hubK (r.h, r.ep) e).1 ∧ (hubK (r.h, r.ep) e).1 ≤ 63 ∧ 0 ≤ (hubK (r.h, r.ep) e).2 ∧ (hubK (r.h, r.ep) e).2 ≤ r.n + 1 := by
    have := g.h0; have := g.h1; have := g.p0; have := g.p1
    unfold hubK
    split
    · have := @who_63 2 e.room
      refine ⟨by simp only; omega, by simp only; omega, by simp only; omega, by simp only; omega⟩
    · split
      · have := nx_63 e.body
        refine ⟨this.1, this.2, by simp only; omega, by simp only; omega⟩
      · refine ⟨by simp only; omega, by simp only; omega, by simp only; omega, by simp only; omega⟩
  rw [← e1] at hh
  refine ⟨hg, hh.1, hh.2.1, hh.2.2.1, by rw [e2]; exact hh.2.2.2, fun _ => ?_⟩
  rw [spR_cs h]
  have hlen : r.cs.length < 256 := by have := g.good.le; omega
  have hset : ∀ k, k ≠ 2 → onlyS (spC r e) k = if e.kind = k ∧ stB e.kind = true then some e else onlyS r.cs k := by
    intro k hk
    unfold spC
    by_cases hs : stB e.kind = true
    · rw [if_pos hs, (setE_small g.good.ok (las_of ha hs) hlen).2, only_set g.good.ok (las_of ha hs) hlen hk]
      simp [hs]
    · rw [if_neg hs, if_neg (fun q => hs q.2)]
  rcases au_first ha with ⟨hk, hc⟩ | ⟨hk, c, hc⟩
  · have s1 : stB e.kind = true := by rw [hk]; rfl
    have o1 := hset 1 (by decide)
    rw [if_pos ⟨hk, s1⟩] at o1
    have o3 := hset 3 (by decide)
    rw [if_neg (by omega), hc] at o3
    have o3' : onlyS (spC r e) 3 = none := o3
    refine ⟨⟨e, o1⟩, ?_, ?_, ?_⟩
    · unfold lvX; rw [o3', o1]; rfl
    · unfold lvS; rw [o3', o1]; exact fs_ok _
    · unfold lvS; rw [o3', o1]; exact fs_100 _
  · have hm0 : 0 < m := by
      rcases Nat.eq_zero_or_pos m with h0 | h0
      · have := g.good.le
        have hn : r.cs = [] := List.eq_nil_of_length_eq_zero (by omega)
        rw [hn] at hc; cases hc
      · exact h0
    obtain ⟨-, hx, ho, hof⟩ := g.made hm0
    have o1 := hset 1 (by decide)
    rw [if_neg (fun q => hk q.1)] at o1
    refine ⟨⟨c, by rw [o1]; exact hc⟩, ?_⟩
    have o3 := hset 3 (by decide)
    by_cases h3 : e.kind = 3
    · have s3 : stB e.kind = true := by rw [h3]; rfl
      rw [if_pos ⟨h3, s3⟩] at o3
      obtain ⟨hp, hch⟩ := au_deed ha h3
      have el : lvS (spC r e) = psV e.body := by unfold lvS; rw [o3]
      refine ⟨by unfold lvX; rw [o3]; simp [hp], by rw [el]; exact psok_of hp, fun x => ?_⟩
      rw [el]
      exact keep_most hch hof x
    · rw [if_neg (fun q => h3 q.1)] at o3
      obtain ⟨q1, q2⟩ := lv_new o1 o3
      rw [q1, q2]
      exact ⟨hx, ho, hof⟩
theorem rn_live : ∀ (l : List Ev) (r : Rm) (m : Nat), r.live m → m + l.length ≤ 200 → (rn r l).1.live (m + (rn r l).2.1)
  | [], r, m, g, _ => by rw [rn_nil]; exact g
  | e :: l, r, m, g, hm => by
    simp only [List.length_cons] at hm
    by_cases h : spE r e = 0
    · rw [rn_yes h]
      have := rn_live l (spR r e) (m + 1) (live_step g (by omega) h) (by omega)
      simp only
      rw [show m + ((rn (spR r e) l).2.1 + 1) = m + 1 + (rn (spR r e) l).2.1 from by omega]
      exact this
    · rw [rn_no h]; exact g
/-- A round of the law: what is asked of the next event. -/
theorem room_event {r : Rm} {m : Nat} (g : r.live m) {e : Ev} (ha : auE r.cs e = 0) :
    (m = 0 ↔ e.kind = 1) ∧ (0 < m → e.kind ≠ 2 → (memS r.cs e.sender).toList = wJoin.toList) ∧ (0 < m → (memS r.cs e.sender).toList ≠ ([98, 97, 110] : List UInt8)) := by
  have hfirst : m = 0 ↔ e.kind = 1 := by
    constructor
    · intro h0
      rcases au_first ha with h | ⟨-, c, hc⟩
      · exact h.1
      · have := g.good.le
        have hn : r.cs = [] := List.eq_nil_of_length_eq_zero (by omega)
        rw [hn] at hc; cases hc
    · intro hk
      rcases au_first ha with ⟨-, hn⟩ | h
      · rcases Nat.eq_zero_or_pos m with h0 | h0
        · exact h0
        · obtain ⟨⟨c, hc⟩, -⟩ := g.made h0
          rw [hn] at hc; cases hc
      · exact absurd hk h.1
  refine ⟨hfirst, fun h0 h2 => ?_, fun h0 hb => ?_⟩
  · obtain ⟨-, -, ⟨h1, h3⟩ | ⟨h1, c, h3, ⟨h4, -⟩ | ⟨-, h4⟩⟩⟩ := au_parts ha
    · have := hfirst.2 h1; omega
    · exact absurd h4 h2
    · exact h4
  · rcases Nat.lt_or_ge r.cs.length 2 with hl | hl
    · obtain ⟨⟨c, hc⟩, -⟩ := g.made h0
      match hcs : r.cs, hl with
      | [], _ => rw [hcs] at hc; cases hc
      | [x], _ =>
        rw [hcs] at hc hb
        have hx : x.k = 1 := by
          unfold onlyS at hc
          rw [List.find?_cons] at hc
          by_cases hq : x.k = 1
          · exact hq
          · simp [hq] at hc
        have : memS [x] e.sender = wLeave := by
          unfold memS firS isC
          rw [List.find?_cons]
          simp [hx]
        rw [this] at hb
        revert hb
        unfold wLeave
        rw [toList_lit]; decide
      | _ :: _ :: _, hl => exact absurd hl (by simp only [List.length_cons]; omega)
    · exact banned_none hb hl ha
end Go.Proofs.YtkcgmimcopoknaaGreatDoor
