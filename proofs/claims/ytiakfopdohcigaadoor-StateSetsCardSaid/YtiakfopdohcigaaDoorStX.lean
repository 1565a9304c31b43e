
/-
  state: the document's Set.
-/
import Derived.Test.YtiakfopdohcigaaDoorStU
import Derived.Test.YtiakfopdohcigaaDoorStG
import Derived.Laws.OwnMore
namespace Go.Proofs.YtiakfopdohcigaaDoor
set_option maxRecDepth 100000
set_option linter.unusedVariables false
set_option linter.unusedSimpArgs false
open Go.RowKit Rw
open List (getElem_toArray getElem_cons_zero getElem_cons_succ setIfInBounds_toArray set_cons_zero set_cons_succ)

section
variable {P : Program} {ST T k by_ : Nat} {z : List Value} {ops : Array Oper} {rest : List Oper} {o : Oper} {a : Act} {w : World} {Q : Exit → Act → World → Prop}
/-- Rows in memory, or none, are appended to a row of one's own. -/
theorem wpL_appQ (R : RowTy P ST T k by_ z) (hgd : o.guard = none) (s x : Operand) (ho : o.op = .call { callee := .builtin .append, args := #[s, x], argTypes := #[ST, ST] }) (B : Nat) (v u : Value) (es fs : List (List Value))
    (hv : a.eval s = v) (hx : a.eval x = u) (hown : OwnR T k w B v es) (hne : v ≠ .slice none 0 0) (hu : RsAt k w u fs) (h1 : One1 fs) (hB : B ≤ w.heap.size) (hn : es.length + fs.length ≤ 1048576)
    (h : ∀ v' W, OwnR T k W B v' (es ++ fs) → v' ≠ .slice none 0 0 → Below B w W → wpList P ops Q rest (a.put o.dst v') W) : wpList P ops Q (o :: rest) a w := by
  obtain ⟨i0, hi, hz0, hz1, hz2⟩ := info_parts R.info
  rcases hu.2 with ⟨rfl, rfl⟩ | ⟨g, off, c, rfl, hc, hg, hr⟩
  · exact wpL_appRun hgd s x ST ST ho v _ hv hx (run_append_owned_none w B ST o.type T i0 k R.us hi v es.length es.flatten hown.2) (h v w (by simpa using hown) hne (Below.refl _ _))
  · have hb := R.bm
    refine wpList_append_own w hgd s x ST ho B T i0 _ k by_ R.us hi hz0 hz1 hz2 (by simp [Value.cells, R.zl]) R.kp v es.length es.flatten hv hown.2 ⟨g, off, none⟩ fs.length c fs.flatten hx ?_ ?_ h1.flat ?_ ?_ hB ?_
    · rw [flat_len hu.1, Nat.mul_comm]
    · intro j u hj
      rw [addr_addR]; exact hr j u hj
    · unfold maxLen; omega
    · have h1 : (es.length + fs.length) * by_ ≤ 1048576 * 65536 := Nat.mul_le_mul hn hb
      omega
    · intro v' W h1 h2 h3
      refine h v' W ⟨hown.1.app hu.1, ?_⟩ (fun e => hne ((h3.1 e).1)) ((Below.refl B w).grown h2 hB fun k hk => (World.ownsRow.lt hown.2 k hk).1)
      rw [List.length_append, List.flatten_append]; exact h1
theorem OwnR.blkQ {w : World} {B : Nat} {v : Value} {es : List (List Value)} (h : OwnR T k w B v es) (hne : v ≠ .slice none 0 0) :
    ∃ g cap cur, v = .slice (some ⟨g, 0, none⟩) es.length cap ∧ B ≤ g ∧ Arr w g T cur ∧ es.length ≤ cap ∧ cap ≤ maxLen ∧ cur.length = cap * k ∧ cur.take (k * es.length) = es.flatten := by
  rcases h.2.2 with ⟨h0, _⟩ | ⟨g, cap, cur, e, hB, hg, h1, h2, h3, h4⟩
  · exact absurd h0 hne
  · exact ⟨g, cap, cur.toList, e, hB, by unfold Arr; simpa using hg, h1, h2, by simpa using h3, by rw [Nat.mul_comm]; exact h4⟩
end
/-- Cells in a row. -/
structure CuAt (w : World) (g cap : Nat) (cur : List Value) (cs : List Ce) : Prop where
  arr : Arr w g 42 cur
  le : cs.length ≤ cap
  cm : cap ≤ maxLen
  len : cur.length = cap * 8
  ct : cur.take (8 * cs.length) = (rowsC cs).flatten
theorem CuAt.own {w : World} {g cap B : Nat} {cur : List Value} {cs : List Ce} (h : CuAt w g cap cur cs) (hB : B ≤ g) : OwnR 42 8 w B (.slice (some ⟨g, 0, none⟩) cs.length cap) (rowsC cs) := by
  have := OwnR.of_arr (k := 8) (T := 42) (B := B) (cap := cap) (es := rowsC cs) (rowsC_all _) h.arr hB (by rw [rowsC_len]; exact h.le) h.cm h.len (by rw [rowsC_len]; exact h.ct)
  rw [rowsC_len] at this; exact this
theorem CuAt.cs {w : World} {g cap : Nat} {cur : List Value} {cs : List Ce} (h : CuAt w g cap cur cs) (ok : ∀ c ∈ cs, c.ok) (hl : cs.length ≤ 140737488351232) : CsAt w (.slice (some ⟨g, 0, none⟩) cs.length cap) cs := cs_own (h.own (Nat.zero_le _)) ok hl
theorem CuAt.at_ {w W : World} {g cap : Nat} {cur : List Value} {cs : List Ce} (h : CuAt w g cap cur cs) (ha : Arr W g 42 cur) : CuAt W g cap cur cs := ⟨ha, h.le, h.cm, h.len, h.ct⟩
theorem CuAt.rs_take {w : World} {g cap : Nat} {cur : List Value} {cs : List Ce} (h : CuAt w g cap cur cs) (p : Nat) (hp : p ≤ cs.length) : RsAt 8 w (.slice (some ⟨g, 0, none⟩) p cap) ((rowsC cs).take p) := by
  have h1 := (h.own (Nat.zero_le g)).rs
  have hl : ((rowsC cs).take p).length = p := by rw [List.length_take, rowsC_len]; omega
  rcases h1.2 with ⟨e, -⟩ | ⟨B, o, c, e, hc, hB, hr⟩
  · cases e
  · simp only [Value.slice.injEq, Option.some.injEq, Addr.mk.injEq] at e
    obtain ⟨⟨rfl, rfl, -⟩, -, rfl⟩ := e
    exact ⟨h1.1.take p, .inr ⟨g, 0, cap, by rw [hl], by rw [hl]; have := h.le; omega, hB, rAt_take hr p⟩⟩
theorem CuAt.rs_drop {w : World} {g cap : Nat} {cur : List Value} {cs : List Ce} (h : CuAt w g cap cur cs) (p : Nat) (hp : p ≤ cs.length) : RsAt 8 w (.slice (some ⟨g, if cap = p then 0 else 0 + 8 * p, none⟩) (cs.length - p) (cap - p)) ((rowsC cs).drop p) := by
  have h1 := (h.own (Nat.zero_le g)).rs
  have hl : ((rowsC cs).drop p).length = cs.length - p := by rw [List.length_drop, rowsC_len]
  have hle := h.le
  rcases h1.2 with ⟨e, -⟩ | ⟨B, o, c, e, hc, hB, hr⟩
  · cases e
  · simp only [Value.slice.injEq, Option.some.injEq, Addr.mk.injEq] at e
    obtain ⟨⟨rfl, rfl, -⟩, -, rfl⟩ := e
    refine ⟨h1.1.drop p, .inr ⟨g, if cap = p then 0 else 0 + 8 * p, cap - p, by rw [hl], by rw [hl]; omega, hB, ?_⟩⟩
    by_cases hc : cap = p
    · have : (rowsC cs).drop p = [] := List.drop_eq_nil_of_le (by rw [rowsC_len]; omega)
      rw [this]; intro j u hj; simp at hj
    · rw [if_neg hc]
      exact rAt_drop hr h1.1 p (by rw [rowsC_len]; exact hp)
/-- The event of a cell is stored where it stood. -/
theorem CuAt.put {w W : World} {g cap i : Nat} {cur : List Value} {cs : List Ce} {e : Ev} (h : CuAt w g cap cur cs) (hi : i < cs.length) (hk : cs[i].k = e.kind ∧ cs[i].y = e.key) (ha : Arr W g 42 (cur.take (8 * i + 2) ++ e.row ++ cur.drop (8 * i + 2 + 6))) : CuAt W g cap (cur.take (8 * i + 2) ++ e.row ++ cur.drop (8 * i + 2 + 6)) (cs.set i (newC e)) := by
  have hle := h.le; have hlen := h.len
  have h8 : 8 * i + 8 ≤ cur.length := by omega
  have hr := own_row h.ct hi
  have e1 : cur.take (8 * i + 2) ++ e.row = cur.take (8 * i) ++ (newC e).row := by
    have e2 : cur.take (8 * i + 2) = cur.take (8 * i) ++ (cur.drop (8 * i)).take 2 := by rw [List.take_add]
    have e3 : (cur.drop (8 * i)).take 2 = [.int .u8 (e.kind : Int), .string e.key] := by
      have e4 : (cur.drop (8 * i)).take 2 = ((cur.drop (8 * i)).take 8).take 2 := by rw [List.take_take]; rfl
      rw [e4, hr]
      show [Value.int .u8 (cs[i].k : Int), Value.string cs[i].y] = _
      rw [hk.1, hk.2]
    rw [e2, e3, List.append_assoc]; rfl
  have hl2 : (cs.set i (newC e)).length = cs.length := List.length_set
  refine ⟨ha, by rw [hl2]; exact hle, h.cm, ?_, ?_⟩
  · simp [Ev.row]; omega
  · rw [hl2, e1, rowsC_set cs i _ hi, ← h.ct]
    have h2 : 8 * cs.length ≤ cur.length := by omega
    rw [List.take_take, Nat.min_eq_left (by omega)]
    rw [List.append_assoc, List.take_append, List.take_of_length_le (by simp; omega)]
    rw [List.append_assoc]
    congr 1
    rw [List.take_append, List.take_of_length_le (by simp [newC, Ce.row]; omega)]
    congr 1
    rw [List.drop_take, List.length_take, Nat.min_eq_left (by omega)]
    congr 1
theorem rs_one {w : World} {b : Nat} {l : List Value} (ha : Arr w b 42 l) (hl : l.length = 8) : RsAt 8 w (.slice (some ⟨b, 0, none⟩) 1 1) [l] :=
  ⟨AllK.one hl, .inr ⟨b, 0, 1, rfl, Nat.le_refl _, ha.lt, by simpa using ha.range⟩⟩

set_option maxHeartbeats 32000000 in
theorem rset_any (w : World) (v : Value) (cs : List Ce) (hv : CsAt w v cs) (e : Ev) (he : e.ok) :
    Calls Tryd.prog 6 #[v, .agg e.row.toArray] w fun x w' => ∃ v', x = .returned (.tuple #[v', .int .i64 (setE cs e)]) ∧ CsAt w' v' (setV cs e) ∧ Below w.heap.size w w' := by
  have HV := hidp hv; have HOK := hidp hv.ok
  clear hv
  have ck := hidp (fun W h => rstCheck_any W v cs h)
  have cv := hidp (fun W => revCheck_ev W e he); have cs9 := hidp (fun W => rstate_any W e.kind he.k)
  obtain ⟨av, cv0, rfl⟩ := HV.out.form
  have h47 := HV.out.len
  obtain ⟨n, hn⟩ : ∃ n, cs.length = n := ⟨_, rfl⟩
  have HN := hidp hn
  have H := hidp (Mm.M.nil w)
  cases hok : okS cs with
  | false =>
    rw [show ckS cs = 2 from if_neg (by rw [hok]; exact Bool.false_ne_true)] at ck
    have HSV := hidp (setV_bad (e := e) hok).1; have HSE := hidp (setV_bad (e := e) hok).2
    rw [hn] at ck ⊢
    rw [hn] at HV
    clear hok hn
    go_enter Tryd.func6, Tryd.ntmps6
    have tk0 := hidp trivial
    go_wp2_with (first | (clear tk0; (refine Mm.box 25 H rfl (.tmp 1) rfl e.row rfl ?_; clear H; intro b3 _ H nw; have hb := nw.below; clear hb nw); (try simp only [Act.put, setIfInBounds_toArray, set_cons_zero, set_cons_succ]); have tk1 := hidp trivial) | (clear tk1; (go_at_call 9; refine (ck.out _ (HV.out.to H.out.below)).mono ?_; rintro e _ ⟨rfl, hb⟩; replace H := hidp (H.out.call hb); clear ck; clear hb); (try simp only [Act.put, setIfInBounds_toArray, set_cons_zero, set_cons_succ]); have tk2 := hidp trivial))
    try clear tk2
    go_ret2
    exact ⟨_, by rw [HSE.out]; rfl, by rw [HSV.out]; exact CsAt.nil _, H.out.below⟩
  | true =>
    rw [show ckS cs = 0 from if_pos hok] at ck
    obtain ⟨hn256, hva, hp⟩ := (okS_iff cs).1 hok
    have HP := hidp hp
    cases hev : evOk e with
    | false =>
      rw [show evE e = 2 from by unfold evE; rw [hev]; rfl] at cv
      have hla : lasB e = false := by unfold lasB; rw [hev, Bool.and_false]
      have HSV := hidp (setV_not hok hla).1; have HSE := hidp (setV_not hok hla).2
      rw [hn] at ck hn256 ⊢
      rw [hn] at HV
      clear hok hn hla hva hp hev
      go_enter Tryd.func6, Tryd.ntmps6
      have tk0 := hidp trivial
      go_wp2_with (first | (clear tk0; (refine Mm.box 25 H rfl (.tmp 1) rfl e.row rfl ?_; clear H; intro b3 _ H nw; have hb := nw.below; clear hb nw); (try simp only [Act.put, setIfInBounds_toArray, set_cons_zero, set_cons_succ]); have tk1 := hidp trivial) | (clear tk1; (go_at_call 9; refine (ck.out _ (HV.out.to H.out.below)).mono ?_; rintro e _ ⟨rfl, hb⟩; replace H := hidp (H.out.call hb); clear ck; clear hb); (try simp only [Act.put, setIfInBounds_toArray, set_cons_zero, set_cons_succ]); have tk2 := hidp trivial) | (clear tk2; (refine wpL_bs0R tyC rfl rfl ?_; intro b14 _ nw; have HE := hidp (OwnR.empty (k := 8) nw.arr nw.le); have HB1 := hidp nw.below; clear nw); (try simp only [Act.put, setIfInBounds_toArray, set_cons_zero, set_cons_succ]); have tk3 := hidp trivial) | (clear tk3; (at_builtin; (refine wpL_appQ tyC rfl (.tmp 14) (.tmp 15) rfl _ (.slice (some ⟨b14, 0, none⟩) 0 0) (.slice av n cv0) [] (rowsC cs) rfl rfl HE.out (by simp) (HV.out.to (H.out.call HB1.out).below).rs (rowsC_one _) HB1.out.size (by simp only [rowsC_len, HN.out, List.length_nil]; omega) ?_; intro v16 _ ho hne hb; simp only [List.nil_append] at ho; obtain ⟨g, cap, cur, rfl, hBg, ha, h1, h2, h3, h4⟩ := OwnR.blkQ ho hne; rw [rowsC_len] at h1 h4 ⊢; have HCU0 := (⟨ha, h1, h2, h3, h4⟩ : CuAt _ g cap cur cs); have HCU := hidp HCU0; rw [HN.out] at h1 ⊢; replace H := hidp (Mm.M.add (m := 0) H.out (HB1.out.trans hb) hBg ha); clear HE HB1 ho hne hb hBg ha h1 h2 h3 h4 HCU0)); (try simp only [Act.put, setIfInBounds_toArray, set_cons_zero, set_cons_succ]); have tk4 := hidp trivial) | (clear tk4; (refine Mm.get1 rtE H rfl (.tmp 3) rfl rfl rfl ?_); (try simp only [Act.put, setIfInBounds_toArray, set_cons_zero, set_cons_succ]); have tk5 := hidp trivial) | (clear tk5; (go_at_call 20; refine (cv.out _).mono ?_; rintro e _ ⟨rfl, hb⟩; replace H := hidp (H.out.call hb); clear cv; clear hb); (try simp only [Act.put, setIfInBounds_toArray, set_cons_zero, set_cons_succ]); have tk6 := hidp trivial) | (clear tk6; (refine Mm.skipd 21 rfl _ _ rfl rfl ?_); (try simp only [Act.put, setIfInBounds_toArray, set_cons_zero, set_cons_succ]); have tk7 := hidp trivial) | (clear tk7; (refine Mm.skipd 22 rfl _ _ rfl rfl ?_); (try simp only [Act.put, setIfInBounds_toArray, set_cons_zero, set_cons_succ]); have tk8 := hidp trivial) | (clear tk8; (refine Mm.skipd 23 rfl _ _ rfl rfl ?_); (try simp only [Act.put, setIfInBounds_toArray, set_cons_zero, set_cons_succ]); have tk9 := hidp trivial) | (clear tk9; (refine Mm.skipd 24 rfl _ _ rfl rfl ?_); (try simp only [Act.put, setIfInBounds_toArray, set_cons_zero, set_cons_succ]); have tk10 := hidp trivial))
      try clear tk10
      go_ret2
      refine ⟨_, by rw [HSE.out]; rfl, ?_, H.out.below⟩
      rw [HSV.out]
      have := (HCU.out.at_ H.out.at0).cs HOK.out h47
      rw [HN.out] at this; exact this
    | true =>
      rw [show evE e = 0 from by unfold evE; rw [hev]; rfl] at cv
      cases hst : stB e.kind with
      | false =>
        rw [hst] at cs9
        have hla : lasB e = false := by unfold lasB; rw [hst]; rfl
        have HSV := hidp (setV_not hok hla).1; have HSE := hidp (setV_not hok hla).2
        rw [hn] at ck hn256 ⊢
        rw [hn] at HV
        clear hok hn hla hva hp hev hst
        go_enter Tryd.func6, Tryd.ntmps6
        have tk0 := hidp trivial
        go_wp2_with (first | (clear tk0; (refine Mm.box 25 H rfl (.tmp 1) rfl e.row rfl ?_; clear H; intro b3 _ H nw; have hb := nw.below; clear hb nw); (try simp only [Act.put, setIfInBounds_toArray, set_cons_zero, set_cons_succ]); have tk1 := hidp trivial) | (clear tk1; (go_at_call 9; refine (ck.out _ (HV.out.to H.out.below)).mono ?_; rintro e _ ⟨rfl, hb⟩; replace H := hidp (H.out.call hb); clear ck; clear hb); (try simp only [Act.put, setIfInBounds_toArray, set_cons_zero, set_cons_succ]); have tk2 := hidp trivial) | (clear tk2; (refine wpL_bs0R tyC rfl rfl ?_; intro b14 _ nw; have HE := hidp (OwnR.empty (k := 8) nw.arr nw.le); have HB1 := hidp nw.below; clear nw); (try simp only [Act.put, setIfInBounds_toArray, set_cons_zero, set_cons_succ]); have tk3 := hidp trivial) | (clear tk3; (at_builtin; (refine wpL_appQ tyC rfl (.tmp 14) (.tmp 15) rfl _ (.slice (some ⟨b14, 0, none⟩) 0 0) (.slice av n cv0) [] (rowsC cs) rfl rfl HE.out (by simp) (HV.out.to (H.out.call HB1.out).below).rs (rowsC_one _) HB1.out.size (by simp only [rowsC_len, HN.out, List.length_nil]; omega) ?_; intro v16 _ ho hne hb; simp only [List.nil_append] at ho; obtain ⟨g, cap, cur, rfl, hBg, ha, h1, h2, h3, h4⟩ := OwnR.blkQ ho hne; rw [rowsC_len] at h1 h4 ⊢; have HCU0 := (⟨ha, h1, h2, h3, h4⟩ : CuAt _ g cap cur cs); have HCU := hidp HCU0; rw [HN.out] at h1 ⊢; replace H := hidp (Mm.M.add (m := 0) H.out (HB1.out.trans hb) hBg ha); clear HE HB1 ho hne hb hBg ha h1 h2 h3 h4 HCU0)); (try simp only [Act.put, setIfInBounds_toArray, set_cons_zero, set_cons_succ]); have tk4 := hidp trivial) | (clear tk4; (refine Mm.get1 rtE H rfl (.tmp 3) rfl rfl rfl ?_); (try simp only [Act.put, setIfInBounds_toArray, set_cons_zero, set_cons_succ]); have tk5 := hidp trivial) | (clear tk5; (go_at_call 20; refine (cv.out _).mono ?_; rintro e _ ⟨rfl, hb⟩; replace H := hidp (H.out.call hb); clear cv; clear hb); (try simp only [Act.put, setIfInBounds_toArray, set_cons_zero, set_cons_succ]); have tk6 := hidp trivial) | (clear tk6; (refine Mm.ld1 naK H rfl (.tmp 21) 2 (.int .u8 (e.kind : Int)) rfl rfl rfl ?_); (try simp only [Act.put, setIfInBounds_toArray, set_cons_zero, set_cons_succ]); have tk7 := hidp trivial) | (clear tk7; (go_at_call 21; refine (cs9.out _).mono ?_; rintro e _ ⟨rfl, hb⟩; replace H := hidp (H.out.call hb); clear cs9; clear hb); (try simp only [Act.put, setIfInBounds_toArray, set_cons_zero, set_cons_succ]); have tk8 := hidp trivial))
        try clear tk8
        go_ret2
        refine ⟨_, by rw [HSE.out]; rfl, ?_, H.out.below⟩
        rw [HSV.out]
        have := (HCU.out.at_ H.out.at0).cs HOK.out h47
        rw [HN.out] at this; exact this
      | true =>
        rw [hst] at cs9
        have hla : lasB e = true := by unfold lasB; rw [hst, hev]; rfl
        have HLA := hidp hla; have HOKS := hidp hok
        rw [hn] at ck hn256 ⊢
        rw [hn] at HV
        clear hok hn hla hva hp hev hst
        go_enter Tryd.func6, Tryd.ntmps6
        have tk0 := hidp trivial
        go_wp2_with (first | (clear tk0; (refine Mm.box 25 H rfl (.tmp 1) rfl e.row rfl ?_; clear H; intro b3 _ H nw; have hb := nw.below; clear hb nw); (try simp only [Act.put, setIfInBounds_toArray, set_cons_zero, set_cons_succ]); have tk1 := hidp trivial) | (clear tk1; (go_at_call 9; refine (ck.out _ (HV.out.to H.out.below)).mono ?_; rintro e _ ⟨rfl, hb⟩; replace H := hidp (H.out.call hb); clear ck; clear hb); (try simp only [Act.put, setIfInBounds_toArray, set_cons_zero, set_cons_succ]); have tk2 := hidp trivial) | (clear tk2; (refine wpL_bs0R tyC rfl rfl ?_; intro b14 _ nw; have HE := hidp (OwnR.empty (k := 8) nw.arr nw.le); have HB1 := hidp nw.below; clear nw); (try simp only [Act.put, setIfInBounds_toArray, set_cons_zero, set_cons_succ]); have tk3 := hidp trivial) | (clear tk3; (at_builtin; (refine wpL_appQ tyC rfl (.tmp 14) (.tmp 15) rfl _ (.slice (some ⟨b14, 0, none⟩) 0 0) (.slice av n cv0) [] (rowsC cs) rfl rfl HE.out (by simp) (HV.out.to (H.out.call HB1.out).below).rs (rowsC_one _) HB1.out.size (by simp only [rowsC_len, HN.out, List.length_nil]; omega) ?_; intro v16 _ ho hne hb; simp only [List.nil_append] at ho; obtain ⟨g, cap, cur, rfl, hBg, ha, h1, h2, h3, h4⟩ := OwnR.blkQ ho hne; rw [rowsC_len] at h1 h4 ⊢; have HCU0 := (⟨ha, h1, h2, h3, h4⟩ : CuAt _ g cap cur cs); have HCU := hidp HCU0; rw [HN.out] at h1 ⊢; replace H := hidp (Mm.M.add (m := 0) H.out (HB1.out.trans hb) hBg ha); clear HE HB1 ho hne hb hBg ha h1 h2 h3 h4 HCU0)); (try simp only [Act.put, setIfInBounds_toArray, set_cons_zero, set_cons_succ]); have tk4 := hidp trivial) | (clear tk4; (refine Mm.get1 rtE H rfl (.tmp 3) rfl rfl rfl ?_); (try simp only [Act.put, setIfInBounds_toArray, set_cons_zero, set_cons_succ]); have tk5 := hidp trivial) | (clear tk5; (go_at_call 20; refine (cv.out _).mono ?_; rintro e _ ⟨rfl, hb⟩; replace H := hidp (H.out.call hb); clear cv; clear hb); (try simp only [Act.put, setIfInBounds_toArray, set_cons_zero, set_cons_succ]); have tk6 := hidp trivial) | (clear tk6; (refine Mm.ld1 naK H rfl (.tmp 21) 2 (.int .u8 (e.kind : Int)) rfl rfl rfl ?_); (try simp only [Act.put, setIfInBounds_toArray, set_cons_zero, set_cons_succ]); have tk7 := hidp trivial) | (clear tk7; (go_at_call 21; refine (cs9.out _).mono ?_; rintro e _ ⟨rfl, hb⟩; replace H := hidp (H.out.call hb); clear cs9; clear hb); (try simp only [Act.put, setIfInBounds_toArray, set_cons_zero, set_cons_succ]); have tk8 := hidp trivial))
        try clear tk8
        have HBG := hidp (H.out.ge ⟨g, 42, cur⟩ (by simp))
        go_loopw [7, 29] (fun t7 t29 wr => ∃ i : Nat, t29 = .int .i64 (i : Int) ∧ i ≤ n ∧ t7 = .int .i64 (atS cs e i : Nat) ∧ (∀ j, j < i → (hj : j < cs.length) → ¬ (cs[j].k = e.kind ∧ cs[j].y = e.key)) ∧ Mm.M w.heap.size w wr [⟨g, 42, cur⟩, ⟨b3, 25, e.row⟩]) (fun _ t29 _ => n - (intOf t29).toNat)
        case atStart => exact ⟨0, rfl, by omega, by simp [atS], (fun j hj => by omega), H.out⟩
        case round =>
          clear H
          obtain ⟨i, rfl, hi, rfl, hnh, hM⟩ := hrel
          have HNO := hidp hnh; have H := hidp hM
          clear hnh hM
          by_cases hlt : i < n
          · have e1 : decide ((i : Int) < (n : Int)) = true := by simp; omega
            have hgl : i < cs.length := by rw [HN.out]; exact hlt
            obtain ⟨c, hge⟩ : ∃ c, cs[i] = c := ⟨_, rfl⟩
            have HRW := hidp (fun W (h : Arr W g 42 cur) => show W.rangeAt g (0 + 8 * i) c.row from by rw [← hge]; exact own_range h HCU.out.ct hgl)
            have hwi : IntKind.i64.wrap ((i : Int) + 1) = ((i + 1 : Nat) : Int) := by rw [IntKind.wrap_i64]; omega
            by_cases hk : c.k = e.kind
            · have ek : ((c.k : Int) == (e.kind : Int)) = true := by rw [hk]; simp
              by_cases hy : c.y = e.key
              · have ey : (c.y.toList == e.key.toList) = true := by rw [hy]; simp
                have HIL := hidp hgl
                have HKY := hidp (show (cs[i]'hgl).k = e.kind ∧ (cs[i]'hgl).y = e.key from ⟨(congrArg Ce.k hge).trans hk, (congrArg Ce.y hge).trans hy⟩)
                obtain ⟨p1, p2⟩ := hit_pos HP.out hgl HKY.out
                have hs := setV_fnd HOKS.out HLA.out p2
                rw [p1] at hs
                have HSV := hidp hs.1; have HSE := hidp hs.2
                clear hk hy hge p1 p2 hs
                have tk0 := hidp trivial
                go_wp2_with (first | (clear tk0; (refine wpL_idxR tyC rfl (.tmp 27) (.tmp 29) rfl g 0 n cap i rfl rfl hlt ?_); (try simp only [Act.put, setIfInBounds_toArray, set_cons_zero, set_cons_succ]); have tk1 := hidp trivial) | (clear tk1; (refine wpL_atR tyC rfl (.tmp 32) rfl g (0 + 8 * i) c.row rfl rfl (HRW.out _ H.out.at0) ?_); (try simp only [Act.put, setIfInBounds_toArray, set_cons_zero, set_cons_succ]); have tk2 := hidp trivial) | (clear tk2; (refine Mm.new rtC H (some 9) rfl rfl rfl ?_; clear H; intro b9 _ H nw; have hb := nw.below; clear hb nw); (try simp only [Act.put, setIfInBounds_toArray, set_cons_zero, set_cons_succ]); have tk3 := hidp trivial) | (clear tk3; (refine Mm.put0 rtC H rfl (.tmp 9) (.tmp 33) c.row rfl rfl rfl rfl (Ce.one c) rfl ?_; intro _ H2 st; clear st H; have H := H2; clear H2); (try simp only [Act.put, setIfInBounds_toArray, set_cons_zero, set_cons_succ]); have tk4 := hidp trivial) | (clear tk4; (refine Mm.ld0 naK H rfl (.tmp 34) 0 (.int .u8 (c.k : Int)) rfl rfl rfl ?_); (try simp only [Act.put, setIfInBounds_toArray, set_cons_zero, set_cons_succ]); have tk5 := hidp trivial) | (clear tk5; (refine Mm.ld2 naK H rfl (.tmp 36) 2 (.int .u8 (e.kind : Int)) rfl rfl rfl ?_); (try simp only [Act.put, setIfInBounds_toArray, set_cons_zero, set_cons_succ]); have tk6 := hidp trivial) | (clear tk6; (refine Mm.ld0 naS H rfl (.tmp 40) 1 (.string c.y) rfl rfl rfl ?_); (try simp only [Act.put, setIfInBounds_toArray, set_cons_zero, set_cons_succ]); have tk7 := hidp trivial) | (clear tk7; (refine Mm.ld2 naS H rfl (.tmp 42) 3 (.string e.key) rfl rfl rfl ?_); (try simp only [Act.put, setIfInBounds_toArray, set_cons_zero, set_cons_succ]); have tk8 := hidp trivial) | (clear tk8; (refine Mm.get2 rtE H rfl (.tmp 3) rfl rfl rfl ?_); (try simp only [Act.put, setIfInBounds_toArray, set_cons_zero, set_cons_succ]); have tk9 := hidp trivial) | (clear tk9; (refine wpL_idxR tyC rfl (.tmp 46) (.tmp 47) rfl g 0 n cap i rfl rfl hlt ?_); (try simp only [Act.put, setIfInBounds_toArray, set_cons_zero, set_cons_succ]); have tk10 := hidp trivial) | (clear tk10; (refine wpL_putAt rtE rfl (.tmp 50) (.tmp 48) g (8 * i + 2) 42 e.row cur rfl rfl rfl rfl (Ev.one _) H.out.at1 (by have h1 := HCU.out.len; have h2 := HCU.out.le; rw [HN.out] at h2; omega) ?_; intro W9 ha st; have HNW := hidp (HCU.out.put HIL.out HKY.out ha); have HBW := hidp (st.below' H.out.below HBG.out); clear ha st); (try simp only [Act.put, setIfInBounds_toArray, set_cons_zero, set_cons_succ]); have tk11 := hidp trivial))
                try clear tk11
                go_ret2
                refine ⟨_, by rw [HSE.out]; rfl, ?_, HBW.out⟩
                rw [HSV.out]
                have := HNW.out.cs (fun c hc => (List.mem_or_eq_of_mem_set hc).elim (HOK.out c) (fun h => h ▸ newC_ok he)) (by rw [List.length_set, HN.out]; omega)
                rw [List.length_set, HN.out] at this; exact this
              · have ey : (c.y.toList == e.key.toList) = false := by rw [beq_eq_false_iff_ne]; exact fun g => hy (ba_inj' g)
                have HNH := hidp (show ∀ j, j < i + 1 → (hj : j < cs.length) → ¬ (cs[j].k = e.kind ∧ cs[j].y = e.key) from fun j hj hjl => by
                  rcases Nat.lt_or_ge j i with h | h
                  · exact HNO.out j h hjl
                  · have : j = i := by omega
                    subst this; exact fun g => hy ((congrArg Ce.y hge).symm.trans g.2))
                clear hk hy
                have ca := hidp (fun W => rahead_any W c.k e.kind c.y e.key)
                have hy1 := fun h => atS_yes (e := e) HP.out hgl h; have hn1 := fun h => atS_no (cs := cs) (e := e) hgl h
                rw [hge] at hy1 hn1
                obtain ⟨X, hX⟩ : ∃ X, ahB c.k c.y e.kind e.key = X := ⟨_, rfl⟩
                rw [hX] at ca hy1 hn1
                cases X with
                | true =>
                  have HAS := hidp (hy1 rfl)
                  clear hX hy1 hn1 hge hgl
                  have tk0 := hidp trivial
                  go_wp2_with (first | (clear tk0; (refine wpL_idxR tyC rfl (.tmp 27) (.tmp 29) rfl g 0 n cap i rfl rfl hlt ?_); (try simp only [Act.put, setIfInBounds_toArray, set_cons_zero, set_cons_succ]); have tk1 := hidp trivial) | (clear tk1; (refine wpL_atR tyC rfl (.tmp 32) rfl g (0 + 8 * i) c.row rfl rfl (HRW.out _ H.out.at0) ?_); (try simp only [Act.put, setIfInBounds_toArray, set_cons_zero, set_cons_succ]); have tk2 := hidp trivial) | (clear tk2; (refine Mm.new rtC H (some 9) rfl rfl rfl ?_; clear H; intro b9 _ H nw; have hb := nw.below; clear hb nw); (try simp only [Act.put, setIfInBounds_toArray, set_cons_zero, set_cons_succ]); have tk3 := hidp trivial) | (clear tk3; (refine Mm.put0 rtC H rfl (.tmp 9) (.tmp 33) c.row rfl rfl rfl rfl (Ce.one c) rfl ?_; intro _ H2 st; clear st H; have H := H2; clear H2); (try simp only [Act.put, setIfInBounds_toArray, set_cons_zero, set_cons_succ]); have tk4 := hidp trivial) | (clear tk4; (refine Mm.ld0 naK H rfl (.tmp 34) 0 (.int .u8 (c.k : Int)) rfl rfl rfl ?_); (try simp only [Act.put, setIfInBounds_toArray, set_cons_zero, set_cons_succ]); have tk5 := hidp trivial) | (clear tk5; (refine Mm.ld2 naK H rfl (.tmp 36) 2 (.int .u8 (e.kind : Int)) rfl rfl rfl ?_); (try simp only [Act.put, setIfInBounds_toArray, set_cons_zero, set_cons_succ]); have tk6 := hidp trivial) | (clear tk6; (refine Mm.ld0 naS H rfl (.tmp 40) 1 (.string c.y) rfl rfl rfl ?_); (try simp only [Act.put, setIfInBounds_toArray, set_cons_zero, set_cons_succ]); have tk7 := hidp trivial) | (clear tk7; (refine Mm.ld2 naS H rfl (.tmp 42) 3 (.string e.key) rfl rfl rfl ?_); (try simp only [Act.put, setIfInBounds_toArray, set_cons_zero, set_cons_succ]); have tk8 := hidp trivial) | (clear tk8; (refine Mm.ld0 naK H rfl (.tmp 52) 0 (.int .u8 (c.k : Int)) rfl rfl rfl ?_); (try simp only [Act.put, setIfInBounds_toArray, set_cons_zero, set_cons_succ]); have tk9 := hidp trivial) | (clear tk9; (refine Mm.ld0 naS H rfl (.tmp 54) 1 (.string c.y) rfl rfl rfl ?_); (try simp only [Act.put, setIfInBounds_toArray, set_cons_zero, set_cons_succ]); have tk10 := hidp trivial) | (clear tk10; (refine Mm.ld2 naK H rfl (.tmp 56) 2 (.int .u8 (e.kind : Int)) rfl rfl rfl ?_); (try simp only [Act.put, setIfInBounds_toArray, set_cons_zero, set_cons_succ]); have tk11 := hidp trivial) | (clear tk11; (refine Mm.ld2 naS H rfl (.tmp 58) 3 (.string e.key) rfl rfl rfl ?_); (try simp only [Act.put, setIfInBounds_toArray, set_cons_zero, set_cons_succ]); have tk12 := hidp trivial) | (clear tk12; (go_at_call 22; refine (ca.out _).mono ?_; rintro e _ ⟨rfl, hb⟩; replace H := hidp (H.out.call hb); clear ca; clear hb); (try simp only [Act.put, setIfInBounds_toArray, set_cons_zero, set_cons_succ]); have tk13 := hidp trivial))
                  try clear tk13
                  exact ⟨⟨i + 1, by go_num, by omega, by rw [HAS.out]; first | done | rfl | (push_cast; rfl), HNH.out, H.out.tail⟩, by simp [intOf]; omega⟩
                | false =>
                  have HAS := hidp (hn1 rfl)
                  clear hX hy1 hn1 hge hgl
                  have tk0 := hidp trivial
                  go_wp2_with (first | (clear tk0; (refine wpL_idxR tyC rfl (.tmp 27) (.tmp 29) rfl g 0 n cap i rfl rfl hlt ?_); (try simp only [Act.put, setIfInBounds_toArray, set_cons_zero, set_cons_succ]); have tk1 := hidp trivial) | (clear tk1; (refine wpL_atR tyC rfl (.tmp 32) rfl g (0 + 8 * i) c.row rfl rfl (HRW.out _ H.out.at0) ?_); (try simp only [Act.put, setIfInBounds_toArray, set_cons_zero, set_cons_succ]); have tk2 := hidp trivial) | (clear tk2; (refine Mm.new rtC H (some 9) rfl rfl rfl ?_; clear H; intro b9 _ H nw; have hb := nw.below; clear hb nw); (try simp only [Act.put, setIfInBounds_toArray, set_cons_zero, set_cons_succ]); have tk3 := hidp trivial) | (clear tk3; (refine Mm.put0 rtC H rfl (.tmp 9) (.tmp 33) c.row rfl rfl rfl rfl (Ce.one c) rfl ?_; intro _ H2 st; clear st H; have H := H2; clear H2); (try simp only [Act.put, setIfInBounds_toArray, set_cons_zero, set_cons_succ]); have tk4 := hidp trivial) | (clear tk4; (refine Mm.ld0 naK H rfl (.tmp 34) 0 (.int .u8 (c.k : Int)) rfl rfl rfl ?_); (try simp only [Act.put, setIfInBounds_toArray, set_cons_zero, set_cons_succ]); have tk5 := hidp trivial) | (clear tk5; (refine Mm.ld2 naK H rfl (.tmp 36) 2 (.int .u8 (e.kind : Int)) rfl rfl rfl ?_); (try simp only [Act.put, setIfInBounds_toArray, set_cons_zero, set_cons_succ]); have tk6 := hidp trivial) | (clear tk6; (refine Mm.ld0 naS H rfl (.tmp 40) 1 (.string c.y) rfl rfl rfl ?_); (try simp only [Act.put, setIfInBounds_toArray, set_cons_zero, set_cons_succ]); have tk7 := hidp trivial) | (clear tk7; (refine Mm.ld2 naS H rfl (.tmp 42) 3 (.string e.key) rfl rfl rfl ?_); (try simp only [Act.put, setIfInBounds_toArray, set_cons_zero, set_cons_succ]); have tk8 := hidp trivial) | (clear tk8; (refine Mm.ld0 naK H rfl (.tmp 52) 0 (.int .u8 (c.k : Int)) rfl rfl rfl ?_); (try simp only [Act.put, setIfInBounds_toArray, set_cons_zero, set_cons_succ]); have tk9 := hidp trivial) | (clear tk9; (refine Mm.ld0 naS H rfl (.tmp 54) 1 (.string c.y) rfl rfl rfl ?_); (try simp only [Act.put, setIfInBounds_toArray, set_cons_zero, set_cons_succ]); have tk10 := hidp trivial) | (clear tk10; (refine Mm.ld2 naK H rfl (.tmp 56) 2 (.int .u8 (e.kind : Int)) rfl rfl rfl ?_); (try simp only [Act.put, setIfInBounds_toArray, set_cons_zero, set_cons_succ]); have tk11 := hidp trivial) | (clear tk11; (refine Mm.ld2 naS H rfl (.tmp 58) 3 (.string e.key) rfl rfl rfl ?_); (try simp only [Act.put, setIfInBounds_toArray, set_cons_zero, set_cons_succ]); have tk12 := hidp trivial) | (clear tk12; (go_at_call 22; refine (ca.out _).mono ?_; rintro e _ ⟨rfl, hb⟩; replace H := hidp (H.out.call hb); clear ca; clear hb); (try simp only [Act.put, setIfInBounds_toArray, set_cons_zero, set_cons_succ]); have tk13 := hidp trivial))
                  try clear tk13
                  exact ⟨⟨i + 1, by go_num, by omega, by rw [HAS.out]; first | done | rfl | (push_cast; rfl), HNH.out, H.out.tail⟩, by simp [intOf]; omega⟩
            · have ek : ((c.k : Int) == (e.kind : Int)) = false := by rw [beq_eq_false_iff_ne]; omega
              have HNH := hidp (show ∀ j, j < i + 1 → (hj : j < cs.length) → ¬ (cs[j].k = e.kind ∧ cs[j].y = e.key) from fun j hj hjl => by
                rcases Nat.lt_or_ge j i with h | h
                · exact HNO.out j h hjl
                · have : j = i := by omega
                  subst this; exact fun g => hk ((congrArg Ce.k hge).symm.trans g.1))
              clear hk
              have ca := hidp (fun W => rahead_any W c.k e.kind c.y e.key)
              have hy1 := fun h => atS_yes (e := e) HP.out hgl h; have hn1 := fun h => atS_no (cs := cs) (e := e) hgl h
              rw [hge] at hy1 hn1
              obtain ⟨X, hX⟩ : ∃ X, ahB c.k c.y e.kind e.key = X := ⟨_, rfl⟩
              rw [hX] at ca hy1 hn1
              cases X with
              | true =>
                have HAS := hidp (hy1 rfl)
                clear hX hy1 hn1 hge hgl
                have tk0 := hidp trivial
                go_wp2_with (first | (clear tk0; (refine wpL_idxR tyC rfl (.tmp 27) (.tmp 29) rfl g 0 n cap i rfl rfl hlt ?_); (try simp only [Act.put, setIfInBounds_toArray, set_cons_zero, set_cons_succ]); have tk1 := hidp trivial) | (clear tk1; (refine wpL_atR tyC rfl (.tmp 32) rfl g (0 + 8 * i) c.row rfl rfl (HRW.out _ H.out.at0) ?_); (try simp only [Act.put, setIfInBounds_toArray, set_cons_zero, set_cons_succ]); have tk2 := hidp trivial) | (clear tk2; (refine Mm.new rtC H (some 9) rfl rfl rfl ?_; clear H; intro b9 _ H nw; have hb := nw.below; clear hb nw); (try simp only [Act.put, setIfInBounds_toArray, set_cons_zero, set_cons_succ]); have tk3 := hidp trivial) | (clear tk3; (refine Mm.put0 rtC H rfl (.tmp 9) (.tmp 33) c.row rfl rfl rfl rfl (Ce.one c) rfl ?_; intro _ H2 st; clear st H; have H := H2; clear H2); (try simp only [Act.put, setIfInBounds_toArray, set_cons_zero, set_cons_succ]); have tk4 := hidp trivial) | (clear tk4; (refine Mm.ld0 naK H rfl (.tmp 34) 0 (.int .u8 (c.k : Int)) rfl rfl rfl ?_); (try simp only [Act.put, setIfInBounds_toArray, set_cons_zero, set_cons_succ]); have tk5 := hidp trivial) | (clear tk5; (refine Mm.ld2 naK H rfl (.tmp 36) 2 (.int .u8 (e.kind : Int)) rfl rfl rfl ?_); (try simp only [Act.put, setIfInBounds_toArray, set_cons_zero, set_cons_succ]); have tk6 := hidp trivial) | (clear tk6; (refine Mm.skipd 40 rfl _ _ rfl rfl ?_); (try simp only [Act.put, setIfInBounds_toArray, set_cons_zero, set_cons_succ]); have tk7 := hidp trivial) | (clear tk7; (refine Mm.skipd 41 rfl _ _ rfl rfl ?_); (try simp only [Act.put, setIfInBounds_toArray, set_cons_zero, set_cons_succ]); have tk8 := hidp trivial) | (clear tk8; (refine Mm.skipd 42 rfl _ _ rfl rfl ?_); (try simp only [Act.put, setIfInBounds_toArray, set_cons_zero, set_cons_succ]); have tk9 := hidp trivial) | (clear tk9; (refine Mm.skipd 43 rfl _ _ rfl rfl ?_); (try simp only [Act.put, setIfInBounds_toArray, set_cons_zero, set_cons_succ]); have tk10 := hidp trivial) | (clear tk10; (refine Mm.skipd 44 rfl _ _ rfl rfl ?_); (try simp only [Act.put, setIfInBounds_toArray, set_cons_zero, set_cons_succ]); have tk11 := hidp trivial) | (clear tk11; (refine Mm.ld0 naK H rfl (.tmp 52) 0 (.int .u8 (c.k : Int)) rfl rfl rfl ?_); (try simp only [Act.put, setIfInBounds_toArray, set_cons_zero, set_cons_succ]); have tk12 := hidp trivial) | (clear tk12; (refine Mm.ld0 naS H rfl (.tmp 54) 1 (.string c.y) rfl rfl rfl ?_); (try simp only [Act.put, setIfInBounds_toArray, set_cons_zero, set_cons_succ]); have tk13 := hidp trivial) | (clear tk13; (refine Mm.ld2 naK H rfl (.tmp 56) 2 (.int .u8 (e.kind : Int)) rfl rfl rfl ?_); (try simp only [Act.put, setIfInBounds_toArray, set_cons_zero, set_cons_succ]); have tk14 := hidp trivial) | (clear tk14; (refine Mm.ld2 naS H rfl (.tmp 58) 3 (.string e.key) rfl rfl rfl ?_); (try simp only [Act.put, setIfInBounds_toArray, set_cons_zero, set_cons_succ]); have tk15 := hidp trivial) | (clear tk15; (go_at_call 22; refine (ca.out _).mono ?_; rintro e _ ⟨rfl, hb⟩; replace H := hidp (H.out.call hb); clear ca; clear hb); (try simp only [Act.put, setIfInBounds_toArray, set_cons_zero, set_cons_succ]); have tk16 := hidp trivial))
                try clear tk16
                exact ⟨⟨i + 1, by go_num, by omega, by rw [HAS.out]; first | done | rfl | (push_cast; rfl), HNH.out, H.out.tail⟩, by simp [intOf]; omega⟩
              | false =>
                have HAS := hidp (hn1 rfl)
                clear hX hy1 hn1 hge hgl
                have tk0 := hidp trivial
                go_wp2_with (first | (clear tk0; (refine wpL_idxR tyC rfl (.tmp 27) (.tmp 29) rfl g 0 n cap i rfl rfl hlt ?_); (try simp only [Act.put, setIfInBounds_toArray, set_cons_zero, set_cons_succ]); have tk1 := hidp trivial) | (clear tk1; (refine wpL_atR tyC rfl (.tmp 32) rfl g (0 + 8 * i) c.row rfl rfl (HRW.out _ H.out.at0) ?_); (try simp only [Act.put, setIfInBounds_toArray, set_cons_zero, set_cons_succ]); have tk2 := hidp trivial) | (clear tk2; (refine Mm.new rtC H (some 9) rfl rfl rfl ?_; clear H; intro b9 _ H nw; have hb := nw.below; clear hb nw); (try simp only [Act.put, setIfInBounds_toArray, set_cons_zero, set_cons_succ]); have tk3 := hidp trivial) | (clear tk3; (refine Mm.put0 rtC H rfl (.tmp 9) (.tmp 33) c.row rfl rfl rfl rfl (Ce.one c) rfl ?_; intro _ H2 st; clear st H; have H := H2; clear H2); (try simp only [Act.put, setIfInBounds_toArray, set_cons_zero, set_cons_succ]); have tk4 := hidp trivial) | (clear tk4; (refine Mm.ld0 naK H rfl (.tmp 34) 0 (.int .u8 (c.k : Int)) rfl rfl rfl ?_); (try simp only [Act.put, setIfInBounds_toArray, set_cons_zero, set_cons_succ]); have tk5 := hidp trivial) | (clear tk5; (refine Mm.ld2 naK H rfl (.tmp 36) 2 (.int .u8 (e.kind : Int)) rfl rfl rfl ?_); (try simp only [Act.put, setIfInBounds_toArray, set_cons_zero, set_cons_succ]); have tk6 := hidp trivial) | (clear tk6; (refine Mm.skipd 40 rfl _ _ rfl rfl ?_); (try simp only [Act.put, setIfInBounds_toArray, set_cons_zero, set_cons_succ]); have tk7 := hidp trivial) | (clear tk7; (refine Mm.skipd 41 rfl _ _ rfl rfl ?_); (try simp only [Act.put, setIfInBounds_toArray, set_cons_zero, set_cons_succ]); have tk8 := hidp trivial) | (clear tk8; (refine Mm.skipd 42 rfl _ _ rfl rfl ?_); (try simp only [Act.put, setIfInBounds_toArray, set_cons_zero, set_cons_succ]); have tk9 := hidp trivial) | (clear tk9; (refine Mm.skipd 43 rfl _ _ rfl rfl ?_); (try simp only [Act.put, setIfInBounds_toArray, set_cons_zero, set_cons_succ]); have tk10 := hidp trivial) | (clear tk10; (refine Mm.skipd 44 rfl _ _ rfl rfl ?_); (try simp only [Act.put, setIfInBounds_toArray, set_cons_zero, set_cons_succ]); have tk11 := hidp trivial) | (clear tk11; (refine Mm.ld0 naK H rfl (.tmp 52) 0 (.int .u8 (c.k : Int)) rfl rfl rfl ?_); (try simp only [Act.put, setIfInBounds_toArray, set_cons_zero, set_cons_succ]); have tk12 := hidp trivial) | (clear tk12; (refine Mm.ld0 naS H rfl (.tmp 54) 1 (.string c.y) rfl rfl rfl ?_); (try simp only [Act.put, setIfInBounds_toArray, set_cons_zero, set_cons_succ]); have tk13 := hidp trivial) | (clear tk13; (refine Mm.ld2 naK H rfl (.tmp 56) 2 (.int .u8 (e.kind : Int)) rfl rfl rfl ?_); (try simp only [Act.put, setIfInBounds_toArray, set_cons_zero, set_cons_succ]); have tk14 := hidp trivial) | (clear tk14; (refine Mm.ld2 naS H rfl (.tmp 58) 3 (.string e.key) rfl rfl rfl ?_); (try simp only [Act.put, setIfInBounds_toArray, set_cons_zero, set_cons_succ]); have tk15 := hidp trivial) | (clear tk15; (go_at_call 22; refine (ca.out _).mono ?_; rintro e _ ⟨rfl, hb⟩; replace H := hidp (H.out.call hb); clear ca; clear hb); (try simp only [Act.put, setIfInBounds_toArray, set_cons_zero, set_cons_succ]); have tk16 := hidp trivial))
                try clear tk16
                exact ⟨⟨i + 1, by go_num, by omega, by rw [HAS.out]; first | done | rfl | (push_cast; rfl), HNH.out, H.out.tail⟩, by simp [intOf]; omega⟩
          · have e1 : decide ((i : Int) < (n : Int)) = false := by simp; omega
            have hin : i = n := by omega
            have hf := no_hit (cs := cs) (e := e) fun j hj => HNO.out j (by rw [hin, ← HN.out]; exact hj) hj
            have hat : atS cs e i = posS cs (newC e) := by rw [hin, ← HN.out]; exact atS_end cs e
            obtain ⟨ps, hps⟩ : ∃ p, posS cs (newC e) = p := ⟨_, rfl⟩
            have hple := posS_le cs (newC e)
            rw [hps, HN.out] at hple
            rw [hat, hps]
            by_cases h256 : n = 256
            · have e256 : ((n : Int) == 256) = true := by rw [h256]; rfl
              have hs := setV_full HOKS.out HLA.out hf (HN.out.trans h256)
              have HSV := hidp hs.1; have HSE := hidp hs.2
              clear hs hf hat hps hin h256 HNO
              go_wp2_with fail
              go_ret2
              refine ⟨_, by rw [HSE.out]; rfl, ?_, H.out.below⟩
              rw [HSV.out]
              have := (HCU.out.at_ H.out.at0).cs HOK.out h47
              rw [HN.out] at this; exact this
            · have e256 : ((n : Int) == 256) = false := by simp; omega
              have hs := setV_ins HOKS.out HLA.out hf (by rw [HN.out]; exact h256)
              rw [hps] at hs
              have HSV := hidp hs.1; have HSE := hidp hs.2
              have hpc : ps ≤ cap := by have := HCU.out.le; rw [HN.out] at this; omega
              have hpl := hidp (show ps ≤ cs.length from by rw [HN.out]; exact hple)
              obtain ⟨v85, hv85⟩ : ∃ v, Value.slice (some ⟨g, if cap = ps then 0 else 0 + 8 * ps, none⟩) (n - ps) (cap - ps) = v := ⟨_, rfl⟩
              have HDR := hidp (fun W (h : Arr W g 42 cur) => show RsAt 8 W v85 ((rowsC cs).drop ps) from by rw [← hv85, ← HN.out]; exact (HCU.out.at_ h).rs_drop ps hpl.out)
              have HB0 := H
              clear hs hf hat hps hin HNO
              have tk0 := hidp trivial
              go_wp2_with (first | (clear tk0; (refine wpL_bs0R tyC rfl rfl ?_; intro b68 _ nw; have HE := hidp (OwnR.empty (k := 8) nw.arr nw.le); have HNE := hidp (show (Value.slice (some ⟨b68, 0, none⟩) 0 0) ≠ .slice none 0 0 from by simp); have HBX := hidp nw.below; replace H := hidp (H.out.call nw.below); clear nw); (try simp only [Act.put, setIfInBounds_toArray, set_cons_zero, set_cons_succ]); have tk1 := hidp trivial) | (clear tk1; (refine wpL_toR tyC rfl (.tmp 69) (.tmp 70) rfl g 0 n cap ps rfl rfl hpc ?_); (try simp only [Act.put, setIfInBounds_toArray, set_cons_zero, set_cons_succ]); have tk2 := hidp trivial) | (clear tk2; (at_builtin; (refine wpL_appQ tyC rfl (.tmp 68) (.tmp 71) rfl _ (.slice (some ⟨b68, 0, none⟩) 0 0) (.slice (some ⟨g, 0, none⟩) ps cap) [] ((rowsC cs).take ps) rfl rfl HE.out HNE.out ((HCU.out.at_ H.out.at0).rs_take ps hpl.out) ((rowsC_one _).take _) HBX.out.size (by simp only [List.length_nil, List.length_take, rowsC_len, HN.out]; omega) ?_; intro v72 _ ho hne hb; simp only [List.nil_append] at ho; replace HBX := hidp (HBX.out.trans hb); replace H := hidp (HB0.out.call HBX.out); clear HE HNE; have HE := hidp ho; have HNE := hidp hne; clear ho hne hb)); (try simp only [Act.put, setIfInBounds_toArray, set_cons_zero, set_cons_succ]); have tk3 := hidp trivial) | (clear tk3; (refine Mm.ld1 naK H rfl (.tmp 74) 2 (.int .u8 (e.kind : Int)) rfl rfl rfl ?_); (try simp only [Act.put, setIfInBounds_toArray, set_cons_zero, set_cons_succ]); have tk4 := hidp trivial) | (clear tk4; (refine Mm.ld1 naS H rfl (.tmp 76) 3 (.string e.key) rfl rfl rfl ?_); (try simp only [Act.put, setIfInBounds_toArray, set_cons_zero, set_cons_succ]); have tk5 := hidp trivial) | (clear tk5; (refine Mm.get1 rtE H rfl (.tmp 3) rfl rfl rfl ?_); (try simp only [Act.put, setIfInBounds_toArray, set_cons_zero, set_cons_succ]); have tk6 := hidp trivial) | (clear tk6; (refine Rt.wpL_build rfl 42 _ rfl (newC e).row (by kernel_rfl) ?_); (try simp only [Act.put, setIfInBounds_toArray, set_cons_zero, set_cons_succ]); have tk7 := hidp trivial) | (clear tk7; (refine wpL_bs1R tyC rfl (.tmp 79) rfl (newC e).row rfl rfl ?_; intro b80 _ nw; have HNB := hidp nw.arr; replace HBX := hidp (HBX.out.trans (nw.below.mono HBX.out.size)); replace H := hidp (HB0.out.call HBX.out); replace HE := hidp (HE.out.to nw.below (Nat.le_refl _)); clear nw); (try simp only [Act.put, setIfInBounds_toArray, set_cons_zero, set_cons_succ]); have tk8 := hidp trivial) | (clear tk8; (at_builtin; (refine wpL_appQ tyC rfl (.tmp 73) (.tmp 80) rfl _ v72 (.slice (some ⟨b80, 0, none⟩) 1 1) ((rowsC cs).take ps) [(newC e).row] rfl rfl HE.out HNE.out (rs_one HNB.out rfl) (fun x hx => by simp only [List.mem_singleton] at hx; subst hx; exact Ce.one _) HBX.out.size (by simp only [List.length_cons, List.length_nil, List.length_take, rowsC_len, HN.out]; omega) ?_; intro v81 _ ho hne hb; replace HBX := hidp (HBX.out.trans hb); replace H := hidp (HB0.out.call HBX.out); clear HE HNE HNB; have HE := hidp ho; have HNE := hidp hne; clear ho hne hb)); (try simp only [Act.put, setIfInBounds_toArray, set_cons_zero, set_cons_succ]); have tk9 := hidp trivial) | (clear tk9; (refine wpL_fromV tyC rfl (.tmp 83) (.tmp 84) rfl g 0 n cap ps rfl rfl hple v85 hv85 ?_); (try simp only [Act.put, setIfInBounds_toArray, set_cons_zero, set_cons_succ]); have tk10 := hidp trivial) | (clear tk10; (at_builtin; (refine wpL_appQ tyC rfl (.tmp 82) (.tmp 85) rfl _ v81 v85 ((rowsC cs).take ps ++ [(newC e).row]) ((rowsC cs).drop ps) rfl rfl HE.out HNE.out (HDR.out _ H.out.at0) ((rowsC_one _).drop _) HBX.out.size (by simp only [List.length_append, List.length_cons, List.length_nil, List.length_take, List.length_drop, rowsC_len, HN.out]; omega) ?_; intro v86 _ ho hne hb; replace HBX := hidp (HBX.out.trans hb); clear HE HNE; have HE := hidp ho; clear ho hne hb)); (try simp only [Act.put, setIfInBounds_toArray, set_cons_zero, set_cons_succ]); have tk11 := hidp trivial))
              try clear tk11
              go_ret2
              refine ⟨_, by rw [HSE.out]; rfl, ?_, HB0.out.below.trans (HBX.out.mono HB0.out.le)⟩
              have hh := HE.out
              rw [rowsC_ins] at hh
              rw [HSV.out]
              refine cs_own hh (fun c hc => ?_) (by have := HN.out; simp; omega)
              simp only [List.mem_append, List.mem_singleton] at hc
              rcases hc with (hc | rfl) | hc
              · exact HOK.out c (List.mem_of_mem_take hc)
              · exact newC_ok he
              · exact HOK.out c (List.mem_of_mem_drop hc)
end Go.Proofs.YtiakfopdohcigaaDoor
