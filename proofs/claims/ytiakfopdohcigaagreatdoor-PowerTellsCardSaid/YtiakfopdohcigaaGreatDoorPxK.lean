
/-
  power: what the document's Parse comes to; plain mathematics.
-/
import Derived.Test.YtiakfopdohcigaaGreatDoorPxI
import Derived.Test.YtiakfopdohcigaaGreatDoorPwK
namespace Go.Proofs.YtiakfopdohcigaaGreatDoor
set_option maxRecDepth 100000
set_option linter.unusedVariables false
set_option linter.unusedSimpArgs false
open Go.RowKit Rw
def usQ (P : List ByteArray) (m : Nat) : List (ByteArray × Int) := (List.range m).map fun j => (wAt P (6 + 2 * j), nAt P (7 + 2 * j))
theorem usN_Q (P : List ByteArray) (m : Nat) : usN P m = usQ P m := by
  unfold usN usQ
  refine List.ext_getElem (by simp) fun i h1 h2 => ?_
  simp
theorem usQ_succ (P : List ByteArray) (m : Nat) : usQ P (m + 1) = usQ P m ++ [(wAt P (6 + 2 * m), nAt P (7 + 2 * m))] := by
  unfold usQ; rw [List.range_succ, List.map_append]; rfl
theorem usQ_len (P : List ByteArray) (m : Nat) : (usQ P m).length = m := by unfold usQ; simp
def nsQ (P : List ByteArray) (i : Nat) : List Value := (List.range (min i 6)).map fun j => .int .i64 (nAt P j)
theorem nsQ_succ (P : List ByteArray) {i : Nat} (h : i < 6) : nsQ P (i + 1) = nsQ P i ++ [.int .i64 (nAt P i)] := by
  unfold nsQ
  rw [Nat.min_eq_left (by omega), Nat.min_eq_left (by omega), List.range_succ, List.map_append]; rfl
theorem nsQ_full (P : List ByteArray) {i : Nat} (h : 6 ≤ i) : nsQ P (i + 1) = nsQ P i := by
  unfold nsQ; rw [Nat.min_eq_right (by omega), Nat.min_eq_right h]
theorem nsQ_len (P : List ByteArray) (i : Nat) : (nsQ P i).length ≤ 6 := by unfold nsQ; simp; omega
theorem nsQ_end (P : List ByteArray) {i : Nat} (h : 6 ≤ i) : nsQ P i = [.int .i64 (nAt P 0), .int .i64 (nAt P 1), .int .i64 (nAt P 2), .int .i64 (nAt P 3), .int .i64 (nAt P 4), .int .i64 (nAt P 5)] := by
  unfold nsQ; rw [Nat.min_eq_right h]; rfl
/-- Places of numbers. -/
def cntd (j : Nat) : Prop := j < 6 ∨ j % 2 = 1
def pcOk (ws : List ByteArray) (i : Nat) : Prop := ∀ j, j < i → cntd j → (cntC (wAt ws j)).isSome = true
theorem nAt_cnt {ws : List ByteArray} {j m : Nat} (h : cntC (wAt ws j) = some m) : nAt ws j = (m : Int) ∧ itT (nAt ws j) = wAt ws j := by
  obtain ⟨h1, h2⟩ := cntC_some h
  have h3 : nAt ws j = (m : Int) := by
    unfold nAt
    rw [← h2]
    exact (num_it (by unfold inR; simp; omega)).1
  exact ⟨h3, by rw [h3, h2]⟩
theorem wAt_get {ws : List ByteArray} {j : Nat} (h : j < ws.length) : wAt ws j = ws[j] := by
  unfold wAt; rw [List.getD_eq_getElem?_getD, List.getElem?_eq_getElem h]; rfl
theorem cand_words {ws : List ByteArray} (h6 : 6 ≤ ws.length) (h2 : ws.length % 2 = 0) (hc : pcOk ws ws.length) : wordsL (candL ws) = ws := by
  have hit : ∀ j, j < ws.length → cntd j → itT (nAt ws j) = wAt ws j := fun j hj hd => by
    cases ho : cntC (wAt ws j) with
    | none => have := hc j hj hd; rw [ho] at this; cases this
    | some m => exact (nAt_cnt ho).2
  have hus : (candL ws).us = usQ ws ((ws.length - 6) / 2) := usN_Q _ _
  have hlen : (wordsL (candL ws)).length = ws.length := by rw [words_len, hus, usQ_len]; omega
  refine List.ext_getElem hlen fun j hj1 hj2 => ?_
  have e0 : (wordsL (candL ws))[j]? = some ws[j] := by
    rw [← wAt_get hj2]
    unfold wordsL
    by_cases h : j < 6
    · rw [List.getElem?_append_left (by simpa [sixL] using h)]
      have hh := hit j hj2 (.inl h)
      match j, h with
      | 0, _ => exact congrArg some hh
      | 1, _ => exact congrArg some hh
      | 2, _ => exact congrArg some hh
      | 3, _ => exact congrArg some hh
      | 4, _ => exact congrArg some hh
      | 5, _ => exact congrArg some hh
    · have hl6 : ((sixL (candL ws)).map itT).length = 6 := rfl
      rw [List.getElem?_append_right (by rw [hl6]; omega), hl6]
      rcases Nat.mod_two_eq_zero_or_one j with hm | hm
      · obtain ⟨q, hq⟩ : ∃ q, j - 6 = 2 * q := ⟨(j - 6) / 2, by omega⟩
        have hql : q < (candL ws).us.length := by rw [hus, usQ_len]; omega
        rw [hq, (flat_get _ q hql).1]
        congr 1
        simp only [hus]
        unfold usQ
        simp only [List.getElem_map, List.getElem_range]
        rw [show 6 + 2 * q = j from by omega]
      · obtain ⟨q, hq⟩ : ∃ q, j - 6 = 2 * q + 1 := ⟨(j - 7) / 2, by omega⟩
        have hql : q < (candL ws).us.length := by rw [hus, usQ_len]; omega
        rw [hq, (flat_get _ q hql).2]
        congr 1
        simp only [hus]
        unfold usQ
        simp only [List.getElem_map, List.getElem_range]
        rw [show 7 + 2 * q = j from by omega]
        exact hit j hj2 (.inr hm)
  rw [List.getElem?_eq_getElem hj1] at e0
  exact Option.some.inj e0
theorem ps_yes {t : ByteArray} (h6 : 6 ≤ (wdL t).length) (h2 : (wdL t).length % 2 = 0) (hc : pcOk (wdL t) (wdL t).length) (hok : lvOk (candL (wdL t)) = true) : psL t = some (candL (wdL t)) := by
  have h1 : txL (candL (wdL t)) = t := by unfold txL; rw [cand_words h6 h2 hc, wdL_join]
  have := ps_tx hok
  rw [h1] at this
  exact this
theorem ps_lv {t : ByteArray} {l : Lv} (h : psL t = some l) : lvOk l = true ∧ txL l = t := by
  unfold psL at h
  split at h
  · cases h
  · split at h
    · rename_i h2
      obtain rfl := Option.some.inj h
      exact ⟨h2.1, ba_inj h2.2⟩
    · cases h
theorem ps_facts {t : ByteArray} {l : Lv} (h : psL t = some l) : 6 ≤ (wdL t).length ∧ (wdL t).length % 2 = 0 ∧ pcOk (wdL t) (wdL t).length ∧ lvOk (candL (wdL t)) = true := by
  obtain ⟨hok, htx⟩ := ps_lv h
  rw [wdL_words hok htx]
  have hl := words_len l
  have hp := lvOk_parts hok
  refine ⟨by omega, by omega, ?_, by rw [cand_tx hp]; exact hok⟩
  intro j hj hd
  have hin : ∃ z, wAt (wordsL l) j = itT z ∧ inR z = true := by
    rw [wAt_get hj]
    have hall : ∀ z ∈ sixL l, inR z = true := by
      have h1 := hok; unfold lvOk at h1; simp only [Bool.and_eq_true] at h1
      exact List.all_eq_true.1 h1.1.1
    have hus : ∀ i (hi : i < l.us.length), inR l.us[i].2 = true := by
      intro i hi
      have h1 := hok; unfold lvOk at h1; simp only [Bool.and_eq_true] at h1
      have h2 := uTo_le h1.2 hi
      unfold uAt at h2
      rw [getU hi] at h2
      simp only [Bool.and_eq_true] at h2
      exact h2.1.2
    have key : ∃ z, (wordsL l)[j]? = some (itT z) ∧ inR z = true := by
      unfold wordsL
      have hl6 : ((sixL l).map itT).length = 6 := rfl
      by_cases h6 : j < 6
      · rw [List.getElem?_append_left (by rw [hl6]; exact h6), List.getElem?_map]
        have hjl : j < (sixL l).length := h6
        rw [List.getElem?_eq_getElem hjl]
        exact ⟨_, rfl, hall _ (List.getElem_mem hjl)⟩
      · have hm : j % 2 = 1 := by rcases hd with h | h; exact absurd h h6; exact h
        rw [List.getElem?_append_right (by rw [hl6]; omega), hl6]
        obtain ⟨q, hq⟩ : ∃ q, j - 6 = 2 * q + 1 := ⟨(j - 7) / 2, by omega⟩
        have hql : q < l.us.length := by omega
        rw [hq, (flat_get _ q hql).2]
        exact ⟨_, rfl, hus q hql⟩
    obtain ⟨z, h1, h2⟩ := key
    rw [List.getElem?_eq_getElem hj] at h1
    exact ⟨z, Option.some.inj h1, h2⟩
  obtain ⟨z, h1, h2⟩ := hin
  rw [h1]
  obtain ⟨m, hm1, hm⟩ : ∃ m : Nat, z = (m : Int) ∧ m ≤ 100 := by
    unfold inR at h2
    simp only [Bool.and_eq_true, decide_eq_true_eq] at h2
    exact ⟨z.toNat, by omega, by omega⟩
  rw [hm1, cntC_it hm]; rfl
theorem ps_none {t : ByteArray} (h : ¬ (6 ≤ (wdL t).length ∧ (wdL t).length % 2 = 0 ∧ pcOk (wdL t) (wdL t).length ∧ lvOk (candL (wdL t)) = true)) : psL t = none := by
  cases hp : psL t with
  | none => rfl
  | some l => exact absurd (ps_facts hp) h
theorem psV_none {t : ByteArray} (h : psL t = none) : psV t = zLv ∧ psX t = 6 := by unfold psV psX; rw [h]; exact ⟨rfl, rfl⟩
theorem psV_some {t : ByteArray} {l : Lv} (h : psL t = some l) : psV t = l ∧ psX t = 0 := by unfold psV psX; rw [h]; exact ⟨rfl, rfl⟩
theorem pcOk_succ {ws : List ByteArray} {i : Nat} (h : pcOk ws i) (hi : cntd i → (cntC (wAt ws i)).isSome = true) : pcOk ws (i + 1) := by
  intro j hj hd
  rcases Nat.lt_or_ge j i with g | g
  · exact h j g hd
  · obtain rfl : j = i := by omega
    exact hi hd
end Go.Proofs.YtiakfopdohcigaaGreatDoor
