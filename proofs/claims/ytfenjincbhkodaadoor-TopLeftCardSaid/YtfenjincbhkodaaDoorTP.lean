/-
  Joined: TlM.
-/
import Derived.Test.YtfenjincbhkodaaDoorTK
import Derived.Test.YtfenjincbhkodaaDoorTN
namespace Go.Proofs.YtfenjincbhkodaaDoor.Tl
set_option maxRecDepth 100000
set_option linter.unusedVariables false
set_option linter.unusedSimpArgs false

/-- What remains of an event; of a cell. -/
def rdE (e : Ev) : Ev := ⟨e.room, e.sender, e.kind, e.key, rdb e.kind e.body, e.nonce⟩
def rdC (c : Ce) : Ce := ⟨c.k, c.y, rdE c.e⟩
theorem rdE_evOk {e : Ev} (h : evOk e = true) : evOk (rdE e) = true := rd_ok _ _ _ _ _ _ h
theorem rdE_ok {e : Ev} (h : e.ok) : (rdE e).ok := ⟨h.k, h.r, h.s, h.y, by have := h.b; have := rdb_size e.kind e.body; show (rdb e.kind e.body).size ≤ _; omega⟩
theorem rdE_twice (e : Ev) : rdE (rdE e) = rdE e := by unfold rdE; simp only [rdb_twice]
theorem rdC_cz : rdC cz = cz := by simp [rdC, rdE, rdb, cz]
theorem getD_rd (cs : List Ce) (i : Nat) : (cs.map rdC).getD i cz = rdC (cs.getD i cz) := by
  rw [List.getD_eq_getElem?_getD, List.getD_eq_getElem?_getD, List.getElem?_map]
  cases cs[i]? with
  | none => exact rdC_cz.symm
  | some x => rfl
theorem posS_rd (cs : List Ce) (c : Ce) : posS (cs.map rdC) (rdC c) = posS cs c := by
  unfold posS; rw [List.findIdx_map]; rfl
theorem fndS_rd (cs : List Ce) (c : Ce) : fndS (cs.map rdC) (rdC c) = fndS cs c := by
  unfold fndS; rw [posS_rd, List.length_map, getD_rd]; rfl
theorem vaC_rd {c : Ce} (h : vaC c = true) : vaC (rdC c) = true := by
  unfold vaC lasB at *
  simp only [Bool.and_eq_true] at *
  exact ⟨⟨⟨h.1.1.1, rdE_evOk h.1.1.2⟩, h.1.2⟩, h.2⟩
theorem vaC_ev {c : Ce} (h : vaC c = true) : evOk c.e = true ∧ c.e.kind = c.k := by
  unfold vaC lasB at h
  simp only [Bool.and_eq_true, decide_eq_true_eq] at h
  exact ⟨h.1.1.2, h.1.2⟩
theorem okS_rd {cs : List Ce} (h : okS cs = true) : okS (cs.map rdC) = true := by
  obtain ⟨h1, h2, h3⟩ := (okS_iff cs).1 h
  refine (okS_iff _).2 ⟨by rw [List.length_map]; exact h1, fun c hc => ?_, ?_⟩
  · obtain ⟨x, hx, rfl⟩ := List.mem_map.1 hc
    exact vaC_rd (h2 x hx)
  · rw [List.pairwise_map]; exact h3
theorem setL_rd (cs : List Ce) (e : Ev) : setL (cs.map rdC) (rdE e) = (setL cs e).map rdC := by
  unfold setL
  rw [show newC (rdE e) = rdC (newC e) from rfl, fndS_rd, posS_rd]
  split
  · rw [List.map_set]
  · simp [List.map_take, List.map_drop]
theorem lasB_rd {e : Ev} (h : evOk e = true) : lasB (rdE e) = lasB e := by
  unfold lasB; rw [h, rdE_evOk h]; rfl
theorem set_rd {cs : List Ce} (h : okS cs = true) {e : Ev} (he : evOk e = true) : setE (cs.map rdC) (rdE e) = setE cs e ∧ setV (cs.map rdC) (rdE e) = (setV cs e).map rdC := by
  unfold setE setV
  rw [if_pos (okS_rd h), if_pos h, if_pos (okS_rd h), if_pos h, lasB_rd he, show newC (rdE e) = rdC (newC e) from rfl, fndS_rd, List.length_map, setL_rd]
  refine ⟨rfl, ?_⟩
  repeat' split
  all_goals rfl
theorem setV_ok {cs : List Ce} (h : okS cs = true) (e : Ev) : okS (setV cs e) = true := by
  unfold setV
  rw [if_pos h]
  split
  · rename_i h1
    split
    · rename_i h2; exact setL_ok h h1 h2
    · exact h
  · exact h
/-- What an event that is none does. -/
theorem set_no {cs : List Ce} {e : Ev} (he : ¬ evOk e = true) : setE cs e = 2 := by
  unfold setE lasB
  have : evOk e = false := by simpa using he
  rw [this]; simp
theorem ref_rd {e : Ev} (h : evOk e = true) : refH (rdE e).room (rdE e).sender (rdE e).kind (rdE e).key (rdE e).body (rdE e).nonce = refH e.room e.sender e.kind e.key e.body e.nonce := by
  unfold refH
  rw [if_pos (show evOk (⟨e.room, e.sender, e.kind, e.key, e.body, e.nonce⟩ : Ev) = true from h), if_pos (show evOk (rdE e) = true from rdE_evOk h)]
  exact congrArg (markH 6) (rdE_twice e)
theorem firS_rd (cs : List Ce) (k : Nat) (y : ByteArray) : firS (cs.map rdC) k y = (firS cs k y).map rdE := by
  unfold firS
  rw [List.find?_map, show (isC k y ∘ rdC) = isC k y from rfl]
  cases cs.find? (isC k y) <;> rfl
theorem memS_rd {cs : List Ce} (h : okS cs = true) (u : ByteArray) : memS (cs.map rdC) u = memS cs u := by
  obtain ⟨-, h2, -⟩ := (okS_iff cs).1 h
  unfold memS
  rw [firS_rd]
  unfold firS
  cases hf : cs.find? (isC 2 u) with
  | none => rfl
  | some c =>
    have hk := (vaC_ev (h2 c (List.mem_of_find?_eq_some hf))).2
    have hc := List.find?_some hf
    unfold isC at hc
    simp only [Bool.and_eq_true, decide_eq_true_eq] at hc
    show rdb c.e.kind c.e.body = c.e.body
    unfold rdb
    rw [if_neg (by omega)]
end Go.Proofs.YtfenjincbhkodaaDoor.Tl
