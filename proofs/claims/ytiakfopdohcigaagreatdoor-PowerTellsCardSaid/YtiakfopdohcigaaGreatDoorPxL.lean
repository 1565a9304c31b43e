
/-
  power: the document's Parse, walked.
-/
import Derived.Test.YtiakfopdohcigaaGreatDoorPxC
import Derived.Test.YtiakfopdohcigaaGreatDoorPxJ
import Derived.Test.YtiakfopdohcigaaGreatDoorPxK
import Derived.Test.YtiakfopdohcigaaGreatDoorPxF
namespace Go.Proofs.YtiakfopdohcigaaGreatDoor
set_option maxRecDepth 100000
set_option linter.unusedVariables false
set_option linter.unusedSimpArgs false
open Go.RowKit Rw
open List (getElem_toArray getElem_cons_zero getElem_cons_succ setIfInBounds_toArray set_cons_zero set_cons_succ)

attribute [local go_sem] Oper.semAt_some
theorem infoIx : (Tryz.prog.info? 3).map (fun i => (i.zero, i.size, i.bytes)) = some (some (.int .i64 0), 1, 8) := by kernel_rfl
theorem run_oneIx (s : Int) (w : World) : (Instr.buildSlice 63 1 #[(0, .int .i64 s)]).run Tryz.prog w = .ok (.slice (some ⟨w.heap.size, 0, none⟩) 1 1) (w.alloc (.cells #[.int .i64 s] 3)) := by
  obtain ⟨i0, hi, hz0, hz1, hz2⟩ := info_parts infoIx
  refine run_buildSlice w 63 3 1 _ _ i0 _ Tryz.underlying63 hi hz0 (by rw [hz1]; omega) (by rw [hz1]; omega) ?_
  have hr : Array.range 1 = #[0] := by decide
  rw [hz1]; simp [Instr.fill, Value.cells, hr]
section
variable {ops : Array Oper} {rest : List Oper} {o : Oper} {a : Act} {w w0 : World} {Q : Exit → Act → World → Prop} {N : Nat} {L : List Mm.Bx}
theorem wpL_oneIx (H : Hid (Mm.M N w0 w L)) (hgd : o.guard = none) (x : Operand) (s : Int) (ho : o.op = .buildSlice 63 1 #[(0, x)]) (hx : a.eval x = .int .i64 s)
    (h : ∀ b W, Hid (Mm.M N w0 W (⟨b, 3, [.int .i64 s]⟩ :: L)) → Rt.NewAt w W b 3 [.int .i64 s] → wpList Tryz.prog ops Q rest (a.put o.dst (.slice (some ⟨b, 0, none⟩) 1 1)) W) : wpList Tryz.prog ops Q (o :: rest) a w := by
  refine wpList_plain hgd fun K hK => ?_
  have n := Rt.NewAt.mk' w 3 [.int .i64 s]
  have := hK _ _ (h _ _ (hidp (H.out.new n)) n)
  unfold Oper.wp execOp
  simp only [ho, List.map_toArray, List.map_cons, List.map_nil, hx, Sem.run_bind, run_oneIx s w, Result.andThen_ok]
  exact this
theorem wpL_appIx (hgd : o.guard = none) (s x : Operand) (ho : o.op = .call { callee := .builtin .append, args := #[s, x], argTypes := #[63, 63] }) (B : Nat) (v : Value) (l : List Value) (b t : Nat) (u : Value) (hs : a.eval s = v) (hx : a.eval x = .slice (some ⟨b, 0, none⟩) 1 1)
    (hown : OwnV w B 3 v l) (hc : Arr w b t [u]) (hu : u.oneCell' = true) (hlen : l.length ≤ 1000000) (hB : B ≤ w.heap.size)
    (h : ∀ v' w', OwnV w' B 3 v' (l ++ [u]) → w.grownBy w' v.ownBlock → Below B w w' → wpList Tryz.prog ops Q rest (a.put o.dst v') w') : wpList Tryz.prog ops Q (o :: rest) a w := by
  obtain ⟨i0, hi, hz0, hz1, hz2⟩ := info_parts infoIx
  refine wpList_append_own w hgd s x 63 ho B 3 i0 (.int .i64 0) 1 8 Tryz.underlying63 hi hz0 hz1 hz2 rfl (by decide) v l.length l hs hown ⟨b, 0, none⟩ 1 1 [u] hx rfl ?_ ?_ (by simp [maxLen]; omega) (by omega) hB ?_
  · intro j y hj
    match j, hj with
    | 0, hj => simp at hj; subst hj; simpa [Addr.add] using hc.cell 0 (by simp)
  · intro y hy; simp at hy; subst hy; exact hu
  · intro v' w' h1 h2 _
    refine h v' w' ?_ h2 ((Below.refl B w).grown h2 hB fun k hk => (World.ownsRow.lt hown k hk).1)
    unfold OwnV; rw [List.length_append]; exact h1
end
theorem OwnR.keepsV {w W : World} {B C : Nat} {v u : Value} {es : List (List Value)} {l : List Value} (h : OwnR 83 2 w B v es) (ho : OwnV w C 3 u l) (hg : w.grownBy W u.ownBlock) : OwnR 83 2 W B v es := by
  refine ⟨h.1, h.2.1, ?_⟩
  rcases h.2.2 with h0 | ⟨g, cap, cur, e, hB, hc, r⟩
  · exact .inl h0
  · refine .inr ⟨g, cap, cur, e, hB, ?_, r⟩
    have h1 : Arr w g 83 cur.toList := by unfold Arr; simpa using hc
    have h2 := ho.keeps hg h1 (by decide)
    unfold Arr at h2; simpa using h2
theorem OwnV.keepsR {w W : World} {B C : Nat} {v u : Value} {es : List (List Value)} {l : List Value} (h : OwnV w B 3 v l) (ho : OwnR 83 2 w C u es) (hg : w.grownBy W u.ownBlock) : OwnV W B 3 v l := by
  refine ⟨h.1, ?_⟩
  rcases h.2 with h0 | ⟨g, cap, cur, e, hB, hc, r⟩
  · exact .inl h0
  · refine .inr ⟨g, cap, cur, e, hB, (hg.block g (Array.getElem?_eq_some_iff.1 hc).1 fun e2 => ?_).trans hc, r⟩
    rcases ho.2.2 with ⟨h0, _⟩ | ⟨g2, cap2, cur2, e3, _, hc2, _⟩
    · rw [h0] at e2; cases e2
    · subst e3
      obtain rfl : g = g2 := by simpa [Value.ownBlock] using e2
      have h1 := Option.some.inj (hc2.symm.trans hc)
      injection h1 with _ h2
      exact absurd h2 (by decide)
theorem OwnR.stpT {w W : World} {B b t : Nat} {v : Value} {es : List (List Value)} {xs : List Value} (h : OwnR 83 2 w B v es) (st : Rt.Stp b w W) (ha : Arr w b t xs) (hne : t ≠ 83) : OwnR 83 2 W B v es := by
  refine ⟨h.1, h.2.1, ?_⟩
  rcases h.2.2 with h0 | ⟨g, cap, cur, e, hB, hg, r⟩
  · exact .inl h0
  · refine .inr ⟨g, cap, cur, e, hB, (st.other g ?_).trans hg, r⟩
    rintro rfl
    have h1 := Option.some.inj (hg.symm.trans ha)
    injection h1 with _ h2
    exact hne h2.symm
theorem strs_pos {w : World} {v : Value} {ss : List ByteArray} (h : StrsAt w v ss) (hl : 0 < ss.length) : ∃ g off c, v = .slice (some ⟨g, off, none⟩) ss.length c ∧ g < w.heap.size ∧ ∀ i, i < ss.length → w.cell? ⟨g, off + i, none⟩ = some (.string (wAt ss i)) := by
  obtain ⟨x, c, rfl, hc⟩ := h
  obtain ⟨g, off, rfl, h0⟩ := hc 0 hl
  refine ⟨g, off, c, rfl, by have := World.block_lt_of_cell? w _ h0; simpa using this, fun i hi => ?_⟩
  obtain ⟨g2, o2, e, h2⟩ := hc i hi
  simp only [Option.some.injEq, Addr.mk.injEq, and_true] at e
  obtain ⟨rfl, rfl⟩ := e
  rw [wAt_get hi]; exact h2
theorem OwnV.blkI {w : World} {B : Nat} {v : Value} {a b c d e f : Value} (h : OwnV w B 3 v [a, b, c, d, e, f]) : ∃ g cap cur, v = .slice (some ⟨g, 0, none⟩) 6 cap ∧ B ≤ g ∧ Arr w g 3 cur ∧ ∀ W, Arr W g 3 cur → W.cell? ⟨g, 0, none⟩ = some a ∧ W.cell? ⟨g, 1, none⟩ = some b ∧ W.cell? ⟨g, 2, none⟩ = some c ∧ W.cell? ⟨g, 3, none⟩ = some d ∧ W.cell? ⟨g, 4, none⟩ = some e ∧ W.cell? ⟨g, 5, none⟩ = some f := by
  rcases h.2 with ⟨_, h0⟩ | ⟨g, cap, cur, hv, hB, hg, h1, h2, h3, h4⟩
  · simp at h0
  · refine ⟨g, cap, cur.toList, hv, hB, by unfold Arr; simpa using hg, fun W hW => ?_⟩
    simp only [List.length_cons, List.length_nil, Nat.zero_add, Nat.reduceAdd, Nat.mul_one] at h1 h3 h4
    have key : ∀ j (hj : j < 6), W.cell? ⟨g, j, none⟩ = some ([a, b, c, d, e, f][j]'(by simpa using hj)) := by
      intro j hj
      have hl : j < cur.toList.length := by simp; omega
      have h5 := hW.cell j hl
      have h6 : cur.toList[j]'hl = ([a, b, c, d, e, f][j]'(by simpa using hj)) := by
        have := congrArg (·[j]?) h4
        simp only [List.getElem?_take, if_pos hj] at this
        rw [List.getElem?_eq_getElem hl, List.getElem?_eq_getElem (by simpa using hj)] at this
        exact Option.some.inj this
      rw [← h6]; exact h5
    exact ⟨key 0 (by omega), key 1 (by omega), key 2 (by omega), key 3 (by omega), key 4 (by omega), key 5 (by omega)⟩
theorem ws_size (t : ByteArray) (ht : t.size ≤ 4096) (i : Nat) : (wAt (wdL t) i).size ≤ 4096 := by
  by_cases h : i < (wdL t).length
  · rw [wAt_get h]; exact Nat.le_trans (wdT_sz t t.size _ (List.getElem_mem h)) ht
  · unfold wAt; rw [List.getD_eq_getElem?_getD, List.getElem?_eq_none (by omega)]; decide

set_option maxHeartbeats 64000000 in
theorem rlvParse_any (w : World) (t : ByteArray) (ht : t.size ≤ 4096) :
    Calls Tryz.prog 21 #[.string t] w fun e w' => ∃ v, e = .returned (.tuple #[.agg #[.int .i64 (psV t).a, .int .i64 (psV t).s, .int .i64 (psV t).i, .int .i64 (psV t).k, .int .i64 (psV t).b, .int .i64 (psV t).r, v], .int .i64 (psX t)]) ∧ UsAt w' v (psV t).us ∧ Below w.heap.size w w' := by
  have cw := hidp (fun W => rwords_any W t ht)
  have HSZ := hidp (show ∀ i, (wAt (wdL t) i).size ≤ 4096 from ws_size t ht)
  have hln := wdT_len t t.size
  have HNO := hidp (fun h => ps_none (t := t) h)
  have HYES := hidp (fun h6 h2 hc ho => ps_yes (t := t) h6 h2 hc ho)
  have hln2 : (wdL t).length ≤ 4097 ∧ 1 ≤ (wdL t).length := ⟨by unfold wdL; omega, by unfold wdL; omega⟩
  obtain ⟨ws, hws⟩ : ∃ ws, wdL t = ws := ⟨_, rfl⟩
  rw [hws] at cw HSZ HNO HYES hln2
  clear hws hln
  have HPO := hidp (show 0 < ws.length from hln2.2)
  obtain ⟨n, hn⟩ : ∃ n, ws.length = n := ⟨_, rfl⟩
  have HN := hidp hn
  rw [hn] at HNO HYES hln2
  have h4097 := hln2.1
  clear hn hln2
  have H := hidp (Mm.M.nil w)
  by_cases h6 : n < 6
  · have e1 : decide ((n : Int) < 6) = true := by simp; omega
    have e1n : (n : Int) < 6 := by omega
    have hno := HNO.out (fun h => absurd h.1 (by omega))
    have HV := hidp (psV_none hno).1; have HX := hidp (psV_none hno).2
    clear hno HNO HYES
    go_enter Tryz.func21, Tryz.ntmps21
    have tk0 := hidp trivial
    go_wp2_with (first | (clear tk0; (refine Mm.new tyL H (some 2) rfl rfl rfl ?_; clear H; intro b2 _ H nw; have hb := nw.below; clear hb nw); (try simp only [Act.put, setIfInBounds_toArray, set_cons_zero, set_cons_succ]); have tk1 := hidp trivial) | (clear tk1; (go_at_call 69; refine (cw.out _).mono ?_; rintro e w4 ⟨v4, rfl, hs, hb⟩; obtain ⟨g, off, c, rfl, hgl, hcs⟩ := strs_pos hs HPO.out; rw [HN.out]; clear hs; have H0 := hidp (H.out.call hb); clear H hb cw; have HG := hidp hgl; have HC := hidp hcs; clear hgl hcs; have H := hidp (Mm.M.nil w4)); (try simp only [Act.put, setIfInBounds_toArray, set_cons_zero, set_cons_succ]); have tk2 := hidp trivial) | (clear tk2; (have H := hidp (H0.out.call H.out.below); refine Rt.wpL_build rfl 37 _ rfl zL (by kernel_rfl) ?_); (try simp only [Act.put, setIfInBounds_toArray, set_cons_zero, set_cons_succ]); have tk3 := hidp trivial) | (clear tk3; (refine Mm.put0 tyL H rfl (.tmp 2) (.tmp 23) zL rfl rfl rfl rfl (by simp [zL, Value.oneCell']) rfl ?_; intro _ H2 st; clear st H; have H := H2; clear H2); (try simp only [Act.put, setIfInBounds_toArray, set_cons_zero, set_cons_succ]); have tk4 := hidp trivial))
    try clear tk4
    refine bodyPost_ret (Mm.ret_rowv tyL Tryz.results21 _ b2 _ _ rfl rfl H.out.at0 rfl) rfl ⟨_, by rw [HV.out, HX.out]; rfl, by rw [HV.out]; exact UsAt.nil _, H.out.below⟩
  · have e1 : decide ((n : Int) < 6) = false := by simp; omega
    have e1n : ¬ (n : Int) < 6 := by omega
    by_cases h2 : ¬ n % 2 = 0
    · have e3 : Int.tmod (n : Int) 2 = 1 := by rw [Int.tmod_eq_emod_of_nonneg (by omega)]; omega
      have e4 : (n : Int) % 2 = 1 := by omega
      have hno := HNO.out (fun h => h2 h.2.1)
      have HV := hidp (psV_none hno).1; have HX := hidp (psV_none hno).2
      clear hno HNO HYES
      go_enter Tryz.func21, Tryz.ntmps21
      have tk0 := hidp trivial
      go_wp2_with (first | (clear tk0; (refine Mm.new tyL H (some 2) rfl rfl rfl ?_; clear H; intro b2 _ H nw; have hb := nw.below; clear hb nw); (try simp only [Act.put, setIfInBounds_toArray, set_cons_zero, set_cons_succ]); have tk1 := hidp trivial) | (clear tk1; (go_at_call 69; refine (cw.out _).mono ?_; rintro e w4 ⟨v4, rfl, hs, hb⟩; obtain ⟨g, off, c, rfl, hgl, hcs⟩ := strs_pos hs HPO.out; rw [HN.out]; clear hs; have H0 := hidp (H.out.call hb); clear H hb cw; have HG := hidp hgl; have HC := hidp hcs; clear hgl hcs; have H := hidp (Mm.M.nil w4)); (try simp only [Act.put, setIfInBounds_toArray, set_cons_zero, set_cons_succ]); have tk2 := hidp trivial) | (clear tk2; (have H := hidp (H0.out.call H.out.below); refine Rt.wpL_build rfl 37 _ rfl zL (by kernel_rfl) ?_); (try simp only [Act.put, setIfInBounds_toArray, set_cons_zero, set_cons_succ]); have tk3 := hidp trivial) | (clear tk3; (refine Mm.put0 tyL H rfl (.tmp 2) (.tmp 23) zL rfl rfl rfl rfl (by simp [zL, Value.oneCell']) rfl ?_; intro _ H2 st; clear st H; have H := H2; clear H2); (try simp only [Act.put, setIfInBounds_toArray, set_cons_zero, set_cons_succ]); have tk4 := hidp trivial))
      try clear tk4
      refine bodyPost_ret (Mm.ret_rowv tyL Tryz.results21 _ b2 _ _ rfl rfl H.out.at0 rfl) rfl ⟨_, by rw [HV.out, HX.out]; rfl, by rw [HV.out]; exact UsAt.nil _, H.out.below⟩
    · replace h2 : n % 2 = 0 := Decidable.not_not.1 h2
      have e3 : Int.tmod (n : Int) 2 = 0 := by rw [Int.tmod_eq_emod_of_nonneg (by omega)]; omega
      have e4 : (n : Int) % 2 = 0 := by omega
      have HYES2 := hidp (fun hc ho => HYES.out (by omega) h2 hc ho)
      have H62 := hidp (show 6 ≤ n ∧ n % 2 = 0 from ⟨by omega, h2⟩)
      clear HYES h6 h2
      go_enter Tryz.func21, Tryz.ntmps21
      have tk0 := hidp trivial
      go_wp2_with (first | (clear tk0; (refine Mm.new tyL H (some 2) rfl rfl rfl ?_; clear H; intro b2 _ H nw; have hb := nw.below; clear hb nw); (try simp only [Act.put, setIfInBounds_toArray, set_cons_zero, set_cons_succ]); have tk1 := hidp trivial) | (clear tk1; (go_at_call 69; refine (cw.out _).mono ?_; rintro e w4 ⟨v4, rfl, hs, hb⟩; obtain ⟨g, off, c, rfl, hgl, hcs⟩ := strs_pos hs HPO.out; rw [HN.out]; clear hs; have H0 := hidp (H.out.call hb); clear H hb cw; have HG := hidp hgl; have HC := hidp hcs; clear hgl hcs; have H := hidp (Mm.M.nil w4)); (try simp only [Act.put, setIfInBounds_toArray, set_cons_zero, set_cons_succ]); have tk2 := hidp trivial))
      try clear tk2
      go_loopw [5, 6, 26] (fun t5 t6 t26 wr => ∃ i : Nat, t26 = .int .i64 (i : Int) ∧ i ≤ n ∧ pcOk ws i ∧ OwnV wr w4.heap.size 3 t5 (nsQ ws i) ∧ OwnR 83 2 wr w4.heap.size t6 (uRs (usQ ws ((i - 6) / 2))) ∧ Mm.M w4.heap.size w4 wr []) (fun _ _ t26 _ => n - (intOf t26).toNat)
      case atStart => exact ⟨0, rfl, by omega, fun j h => by omega, OwnV.nil _ _ _, OwnR.nil _ _, H.out⟩
      case round =>
        clear H
        obtain ⟨i, rfl, hi, hpc, hI, hU, hM⟩ := hrel
        have H := hidp hM; have HI := hidp hI; have HU := hidp hU; have HPC := hidp hpc
        have HLI := hidp (show (nsQ ws i).length ≤ 1000000 from by have := nsQ_len ws i; omega)
        have HLU := hidp (show (uRs (usQ ws ((i - 6) / 2))).length + 1 ≤ 1048576 from by rw [uRs_len, usQ_len]; omega)
        clear hM hI hU hpc
        by_cases hlt : i < n
        · have d1 : decide ((i : Int) < (n : Int)) = true := by simp; omega
          have d2 : (i : Int) < (n : Int) := by omega
          have d3 : (0 : Int) ≤ (i : Int) := by omega
          have hcell : wr.cell? ⟨g, off + i, none⟩ = some (.string (wAt ws i)) := (H.out.below.cell (p := ⟨g, off + i, none⟩) HG.out).trans (HC.out i (by rw [HN.out]; exact hlt))
          have HPS := hidp (pcOk_succ (ws := ws) (i := i) HPC.out)
          have HNA := hidp (fun m h => nAt_cnt (ws := ws) (j := i) (m := m) h)
          have hxs : (wAt ws i).size ≤ 4096 := HSZ.out i
          have cc := hidp (fun W => rcountC_any W (wAt ws i) (by omega))
          have HBAD := hidp (show cntd i → cntC (wAt ws i) = none → ¬ pcOk ws n from fun hd hn hp => by have := hp i hlt hd; rw [hn] at this; cases this)
          obtain ⟨x, hx⟩ : ∃ x, wAt ws i = x := ⟨_, rfl⟩
          rw [hx] at hcell cc HPS HNA HBAD
          clear hxs
          by_cases h6i : 6 ≤ i
          · have f1 : decide ((6 : Int) ≤ (i : Int)) = true := by simp; omega
            have f1n : (6 : Int) ≤ (i : Int) := by omega
            by_cases hev : i % 2 = 0
            · have e3 : Int.tmod (i : Int) 2 = 0 := by rw [Int.tmod_eq_emod_of_nonneg (by omega)]; omega
              have e4 : (i : Int) % 2 = 0 := by omega
              have HPC2 := hidp (HPS.out (fun h => by rcases h with h | h <;> omega))
              have HN1 := hidp (nsQ_full ws h6i)
              have HU1 := hidp (show usQ ws ((i + 1 - 6) / 2) = usQ ws ((i - 6) / 2) from by rw [show (i + 1 - 6) / 2 = (i - 6) / 2 by omega])
              clear HPS HNA HBAD cc hx hev h6i
              go_wp2_with fail
              exact ⟨⟨i + 1, by go_num, by omega, HPC2.out, by rw [HN1.out]; exact HI.out, by rw [HU1.out]; exact HU.out, H.out⟩, by simp [intOf]; omega⟩
            · have e3 : Int.tmod (i : Int) 2 = 1 := by rw [Int.tmod_eq_emod_of_nonneg (by omega)]; omega
              have e4 : (i : Int) % 2 = 1 := by omega
              have f2 : decide ((i : Int) < 6) = false := by simp; omega
              have f2n : ¬ (i : Int) < 6 := by omega
              cases hc : cntC x with
              | none =>
                rw [hc, show whoV none = .tuple #[.int .i64 0, .bool false] from rfl] at cc
                have hno := HNO.out (fun h => HBAD.out (.inr (by omega)) hc h.2.2.1)
                have HV := hidp (psV_none hno).1; have HX := hidp (psV_none hno).2
                clear hno HNO
                clear HPS HNA HBAD hx hev h6i hc
                have tk0 := hidp trivial
                go_wp2_with (first | (clear tk0; (go_at_call 70; refine (cc.out _).mono ?_; rintro e _ ⟨rfl, rfl⟩; clear cc); (try simp only [Act.put, setIfInBounds_toArray, set_cons_zero, set_cons_succ]); have tk1 := hidp trivial) | (clear tk1; (have H := hidp (H0.out.call H.out.below); refine Rt.wpL_build rfl 37 _ rfl zL (by kernel_rfl) ?_); (try simp only [Act.put, setIfInBounds_toArray, set_cons_zero, set_cons_succ]); have tk2 := hidp trivial) | (clear tk2; (refine Mm.put0 tyL H rfl (.tmp 2) (.tmp 45) zL rfl rfl rfl rfl (by simp [zL, Value.oneCell']) rfl ?_; intro _ H2 st; clear st H; have H := H2; clear H2); (try simp only [Act.put, setIfInBounds_toArray, set_cons_zero, set_cons_succ]); have tk3 := hidp trivial))
                try clear tk3
                refine bodyPost_ret (Mm.ret_rowv tyL Tryz.results21 _ b2 _ _ rfl rfl H.out.at0 rfl) rfl ⟨_, by rw [HV.out, HX.out]; rfl, by rw [HV.out]; exact UsAt.nil _, H.out.below⟩
              | some m =>
                rw [hc, show whoV (some m) = .tuple #[.int .i64 (m : Int), .bool true] from rfl] at cc
                have HPC2 := hidp (HPS.out (fun h => by rw [hc]; rfl))
                have HN1 := hidp (nsQ_full ws h6i)
                obtain ⟨j, hj⟩ : ∃ j, i = j + 1 := ⟨i - 1, by omega⟩
                have hjw : IntKind.i64.wrap ((i : Int) - 1) = (j : Int) := by rw [IntKind.wrap_i64]; omega
                have g2 : (j : Int) < (n : Int) := by omega
                have g3 : (0 : Int) ≤ (j : Int) := by omega
                have hcellj : wr.cell? ⟨g, off + j, none⟩ = some (.string (wAt ws j)) := (H.out.below.cell (p := ⟨g, off + j, none⟩) HG.out).trans (HC.out j (by rw [HN.out]; omega))
                have HU1 := hidp (show usQ ws ((i + 1 - 6) / 2) = usQ ws ((i - 6) / 2) ++ [(wAt ws j, (m : Int))] from by
                  rw [show (i + 1 - 6) / 2 = (i - 6) / 2 + 1 by omega, usQ_succ, show 6 + 2 * ((i - 6) / 2) = j by omega, show 7 + 2 * ((i - 6) / 2) = i by omega, (HNA.out m hc).1])
                obtain ⟨y, hy⟩ : ∃ y, wAt ws j = y := ⟨_, rfl⟩
                rw [hy] at hcellj HU1
                clear HPS HNA HBAD hx hev h6i hc hy hj
                have tk0 := hidp trivial
                go_wp2_with (first | (clear tk0; (go_at_call 70; refine (cc.out _).mono ?_; rintro e _ ⟨rfl, rfl⟩; clear cc); (try simp only [Act.put, setIfInBounds_toArray, set_cons_zero, set_cons_succ]); have tk1 := hidp trivial) | (clear tk1; (refine wpL_bs1R tyU rfl (.tmp 59) rfl (uR (y, (m : Int))) rfl rfl ?_; intro b60 _ nw; replace HI := hidp (HI.out.kept nw.below (Nat.le_refl _)); replace HU := hidp (HU.out.to nw.below (Nat.le_refl _)); replace H := hidp (H.out.new nw); clear nw); (try simp only [Act.put, setIfInBounds_toArray, set_cons_zero, set_cons_succ]); have tk2 := hidp trivial) | (clear tk2; (at_builtin; (refine wpL_appR tyU rfl (.tmp 52) (.tmp 60) rfl w4.heap.size b60 0 1 _ _ [uR (y, (m : Int))] 1 rfl rfl rfl HU.out (by rw [List.flatten_singleton]; exact H.out.at0.range) (uRs_all [(y, (m : Int))]) (uRs_one [(y, (m : Int))]) H.out.le HLU.out ?_; intro v9 w9 ho9 hg9 hb9; have HB9 := hidp (H.out.below.trans hb9); replace HI := hidp (HI.out.keepsR HU.out hg9); have HO9 := hidp ho9; clear ho9 hb9 hg9 HU)); (try simp only [Act.put, setIfInBounds_toArray, set_cons_zero, set_cons_succ]); have tk3 := hidp trivial))
                try clear tk3
                exact ⟨⟨i + 1, by go_num, by omega, HPC2.out, by rw [HN1.out]; exact HI.out, by rw [HU1.out, uRs_app]; exact HO9.out, ⟨HB9.out, HB9.out.size, by simp, List.Pairwise.nil, by simp⟩⟩, by simp [intOf]; omega⟩
          · have f1 : decide ((6 : Int) ≤ (i : Int)) = false := by simp; omega
            have f1n : ¬ (6 : Int) ≤ (i : Int) := by omega
            have f2 : decide ((i : Int) < 6) = true := by simp; omega
            have f2n : (i : Int) < 6 := by omega
            cases hc : cntC x with
            | none =>
              rw [hc, show whoV none = .tuple #[.int .i64 0, .bool false] from rfl] at cc
              have hno := HNO.out (fun h => HBAD.out (.inl (by omega)) hc h.2.2.1)
              have HV := hidp (psV_none hno).1; have HX := hidp (psV_none hno).2
              clear hno HNO
              clear HPS HNA HBAD hx h6i hc
              have tk0 := hidp trivial
              go_wp2_with (first | (clear tk0; (go_at_call 70; refine (cc.out _).mono ?_; rintro e _ ⟨rfl, rfl⟩; clear cc); (try simp only [Act.put, setIfInBounds_toArray, set_cons_zero, set_cons_succ]); have tk1 := hidp trivial) | (clear tk1; (have H := hidp (H0.out.call H.out.below); refine Rt.wpL_build rfl 37 _ rfl zL (by kernel_rfl) ?_); (try simp only [Act.put, setIfInBounds_toArray, set_cons_zero, set_cons_succ]); have tk2 := hidp trivial) | (clear tk2; (refine Mm.put0 tyL H rfl (.tmp 2) (.tmp 45) zL rfl rfl rfl rfl (by simp [zL, Value.oneCell']) rfl ?_; intro _ H2 st; clear st H; have H := H2; clear H2); (try simp only [Act.put, setIfInBounds_toArray, set_cons_zero, set_cons_succ]); have tk3 := hidp trivial))
              try clear tk3
              refine bodyPost_ret (Mm.ret_rowv tyL Tryz.results21 _ b2 _ _ rfl rfl H.out.at0 rfl) rfl ⟨_, by rw [HV.out, HX.out]; rfl, by rw [HV.out]; exact UsAt.nil _, H.out.below⟩
            | some m =>
              rw [hc, show whoV (some m) = .tuple #[.int .i64 (m : Int), .bool true] from rfl] at cc
              have HPC2 := hidp (HPS.out (fun h => by rw [hc]; rfl))
              have HN1 := hidp (show nsQ ws (i + 1) = nsQ ws i ++ [.int .i64 (m : Int)] from by rw [nsQ_succ ws (by omega), (HNA.out m hc).1])
              have HU1 := hidp (show usQ ws ((i + 1 - 6) / 2) = usQ ws ((i - 6) / 2) from by rw [show (i + 1 - 6) / 2 = (i - 6) / 2 by omega])
              clear HPS HNA HBAD hx h6i hc
              have tk0 := hidp trivial
              go_wp2_with (first | (clear tk0; (go_at_call 70; refine (cc.out _).mono ?_; rintro e _ ⟨rfl, rfl⟩; clear cc); (try simp only [Act.put, setIfInBounds_toArray, set_cons_zero, set_cons_succ]); have tk1 := hidp trivial) | (clear tk1; (refine wpL_oneIx H rfl (.tmp 49) (m : Int) rfl rfl ?_; clear H; intro b50 _ H nw; replace HI := hidp (HI.out.kept nw.below (Nat.le_refl _)); replace HU := hidp (HU.out.to nw.below (Nat.le_refl _)); clear nw); (try simp only [Act.put, setIfInBounds_toArray, set_cons_zero, set_cons_succ]); have tk2 := hidp trivial) | (clear tk2; (at_builtin; (refine wpL_appIx rfl (.tmp 48) (.tmp 50) rfl w4.heap.size _ _ b50 _ (.int .i64 (m : Int)) rfl rfl HI.out H.out.at0 rfl HLI.out H.out.le ?_; intro v9 w9 ho9 hg9 hb9; have HB9 := hidp (H.out.below.trans hb9); replace HU := hidp (OwnR.keepsV HU.out HI.out hg9); have HO9 := hidp ho9; clear ho9 hb9 hg9 HI)); (try simp only [Act.put, setIfInBounds_toArray, set_cons_zero, set_cons_succ]); have tk3 := hidp trivial))
              try clear tk3
              exact ⟨⟨i + 1, by go_num, by omega, HPC2.out, by rw [HN1.out]; exact HO9.out, by rw [HU1.out]; exact HU.out, ⟨HB9.out, HB9.out.size, by simp, List.Pairwise.nil, by simp⟩⟩, by simp [intOf]; omega⟩
        · have d1 : decide ((i : Int) < (n : Int)) = false := by simp; omega
          have hin : i = n := by omega
          subst hin
          have HI2 := hidp (show OwnV wr w4.heap.size 3 _ _ from by have := HI.out; rw [nsQ_end ws H62.out.1] at this; exact this)
          have HPC9 := hidp (show pcOk ws ws.length from by rw [HN.out]; exact HPC.out)
          have HYES3 := hidp (fun ho => HYES2.out HPC.out ho)
          have HNO2 := hidp (fun (h : ¬ lvOk (candL ws) = true) => HNO.out (fun q => h q.2.2.2))
          have hus : (candL ws).us = usQ ws ((i - 6) / 2) := by rw [← usN_Q]; unfold candL; simp only [HN.out]
          have HUL := hidp (show (usQ ws ((i - 6) / 2)).length ≤ 1000000 from by rw [usQ_len]; omega)
          have HUZ := hidp (show ∀ p ∈ usQ ws ((i - 6) / 2), p.1.size ≤ 140737488351232 from fun p hp => by
            unfold usQ at hp
            obtain ⟨q, -, rfl⟩ := List.mem_map.1 hp
            exact Nat.le_trans (HSZ.out _) (by omega))
          clear HI HLI HLU HPC HPC9 HNO HYES2
          have HI := HI2
          clear HI2
          have hrow : (nAt ws 0 = (candL ws).a ∧ nAt ws 1 = (candL ws).s ∧ nAt ws 2 = (candL ws).i ∧ nAt ws 3 = (candL ws).k ∧ nAt ws 4 = (candL ws).b ∧ nAt ws 5 = (candL ws).r) := ⟨rfl, rfl, rfl, rfl, rfl, rfl⟩
          obtain ⟨l, hl⟩ : ∃ l, candL ws = l := ⟨_, rfl⟩
          rw [hl] at hus hrow HYES3 HNO2
          rw [← hus] at HU HUL HUZ
          rw [hrow.1, hrow.2.1, hrow.2.2.1, hrow.2.2.2.1, hrow.2.2.2.2.1, hrow.2.2.2.2.2] at HI
          obtain ⟨gi, cap, cur, rfl, hgi, hai, hcu⟩ := OwnV.blkI HI.out
          have hcur := hidp hcu
          obtain ⟨av, cv, hf⟩ := HU.out.rs.form
          rw [uRs_len] at hf
          obtain ⟨m, hm⟩ : ∃ m, l.us.length = m := ⟨_, rfl⟩
          rw [hm] at hf
          subst hf
          clear hus hrow hl hcu HI hm HSZ
          have H2 := hidp (show Mm.M w4.heap.size w4 wr [⟨gi, 3, cur⟩] from ⟨H.out.below, H.out.le, by intro x hx; simp at hx; subst hx; exact hgi, List.pairwise_singleton _ _, by intro x hx; simp at hx; subst hx; exact hai⟩)
          clear H hgi hai
          have H := H2
          clear H2
          go_wp2_with fail
          refine Mm.region H (.take 0 (.take 1 (.take 2 (.take 3 (.take 4 (.take 5 (.take 6 (.take 7 (.take 8 (.take 9 (.take 10 (.take 11 (.take 12 (.take 13 (.take 14 (.take 15 (.take 16 (.take 17 (.take 18 (.take 19 (.one 20 (.one 21 .done)))))))))))))))))))))) (by kernel_rfl) (by kernel_rfl) (by simp [Scr.depth]) (by kernel_rfl) ?_
          clear H
          intro _ H hb
          replace HU := hidp (HU.out.to hb (Nat.le_refl _)); clear hb
          apply s_val
          case ho | hw => rfl
          case hv => intro w hw; go_simp; first | done | rfl
          simp only [Act.put, getElem_toArray, getElem_cons_zero, getElem_cons_succ, setIfInBounds_toArray, set_cons_zero, set_cons_succ]
          apply s_val
          case ho | hw => rfl
          case hv => intro w hw; go_simp; first | done | rfl
          simp only [Act.put, getElem_toArray, getElem_cons_zero, getElem_cons_succ, setIfInBounds_toArray, set_cons_zero, set_cons_succ]
          refine Mm.s_ldc naIx rfl rfl (.tmp 64) ⟨gi, 0, none⟩ (.int .i64 l.a) rfl rfl (fun w h => (hcur.out w h.at0).1) ?_
          simp only [Act.put, getElem_toArray, getElem_cons_zero, getElem_cons_succ, setIfInBounds_toArray, set_cons_zero, set_cons_succ]
          apply s_val
          case ho | hw => rfl
          case hv => intro w hw; go_simp; first | done | rfl
          simp only [Act.put, getElem_toArray, getElem_cons_zero, getElem_cons_succ, setIfInBounds_toArray, set_cons_zero, set_cons_succ]
          apply s_val
          case ho | hw => rfl
          case hv => intro w hw; go_simp; first | done | rfl
          simp only [Act.put, getElem_toArray, getElem_cons_zero, getElem_cons_succ, setIfInBounds_toArray, set_cons_zero, set_cons_succ]
          refine Mm.s_ldc naIx rfl rfl (.tmp 67) ⟨gi, 1, none⟩ (.int .i64 l.s) rfl rfl (fun w h => (hcur.out w h.at0).2.1) ?_
          simp only [Act.put, getElem_toArray, getElem_cons_zero, getElem_cons_succ, setIfInBounds_toArray, set_cons_zero, set_cons_succ]
          apply s_val
          case ho | hw => rfl
          case hv => intro w hw; go_simp; first | done | rfl
          simp only [Act.put, getElem_toArray, getElem_cons_zero, getElem_cons_succ, setIfInBounds_toArray, set_cons_zero, set_cons_succ]
          apply s_val
          case ho | hw => rfl
          case hv => intro w hw; go_simp; first | done | rfl
          simp only [Act.put, getElem_toArray, getElem_cons_zero, getElem_cons_succ, setIfInBounds_toArray, set_cons_zero, set_cons_succ]
          refine Mm.s_ldc naIx rfl rfl (.tmp 70) ⟨gi, 2, none⟩ (.int .i64 l.i) rfl rfl (fun w h => (hcur.out w h.at0).2.2.1) ?_
          simp only [Act.put, getElem_toArray, getElem_cons_zero, getElem_cons_succ, setIfInBounds_toArray, set_cons_zero, set_cons_succ]
          apply s_val
          case ho | hw => rfl
          case hv => intro w hw; go_simp; first | done | rfl
          simp only [Act.put, getElem_toArray, getElem_cons_zero, getElem_cons_succ, setIfInBounds_toArray, set_cons_zero, set_cons_succ]
          apply s_val
          case ho | hw => rfl
          case hv => intro w hw; go_simp; first | done | rfl
          simp only [Act.put, getElem_toArray, getElem_cons_zero, getElem_cons_succ, setIfInBounds_toArray, set_cons_zero, set_cons_succ]
          refine Mm.s_ldc naIx rfl rfl (.tmp 73) ⟨gi, 3, none⟩ (.int .i64 l.k) rfl rfl (fun w h => (hcur.out w h.at0).2.2.2.1) ?_
          simp only [Act.put, getElem_toArray, getElem_cons_zero, getElem_cons_succ, setIfInBounds_toArray, set_cons_zero, set_cons_succ]
          apply s_val
          case ho | hw => rfl
          case hv => intro w hw; go_simp; first | done | rfl
          simp only [Act.put, getElem_toArray, getElem_cons_zero, getElem_cons_succ, setIfInBounds_toArray, set_cons_zero, set_cons_succ]
          apply s_val
          case ho | hw => rfl
          case hv => intro w hw; go_simp; first | done | rfl
          simp only [Act.put, getElem_toArray, getElem_cons_zero, getElem_cons_succ, setIfInBounds_toArray, set_cons_zero, set_cons_succ]
          refine Mm.s_ldc naIx rfl rfl (.tmp 76) ⟨gi, 4, none⟩ (.int .i64 l.b) rfl rfl (fun w h => (hcur.out w h.at0).2.2.2.2.1) ?_
          simp only [Act.put, getElem_toArray, getElem_cons_zero, getElem_cons_succ, setIfInBounds_toArray, set_cons_zero, set_cons_succ]
          apply s_val
          case ho | hw => rfl
          case hv => intro w hw; go_simp; first | done | rfl
          simp only [Act.put, getElem_toArray, getElem_cons_zero, getElem_cons_succ, setIfInBounds_toArray, set_cons_zero, set_cons_succ]
          apply s_val
          case ho | hw => rfl
          case hv => intro w hw; go_simp; first | done | rfl
          simp only [Act.put, getElem_toArray, getElem_cons_zero, getElem_cons_succ, setIfInBounds_toArray, set_cons_zero, set_cons_succ]
          refine Mm.s_ldc naIx rfl rfl (.tmp 79) ⟨gi, 5, none⟩ (.int .i64 l.r) rfl rfl (fun w h => (hcur.out w h.at0).2.2.2.2.2) ?_
          simp only [Act.put, getElem_toArray, getElem_cons_zero, getElem_cons_succ, setIfInBounds_toArray, set_cons_zero, set_cons_succ]
          apply s_val
          case ho | hw => rfl
          case hv => intro w hw; go_simp; first | done | rfl
          simp only [Act.put, getElem_toArray, getElem_cons_zero, getElem_cons_succ, setIfInBounds_toArray, set_cons_zero, set_cons_succ]
          apply s_val
          case ho | hw => rfl
          case hv => intro w hw; go_simp; first | done | rfl
          simp only [Act.put, getElem_toArray, getElem_cons_zero, getElem_cons_succ, setIfInBounds_toArray, set_cons_zero, set_cons_succ]
          refine Mm.o_newH tyL H (fun W h => h) rfl rfl rfl ?_
          clear H
          intro b11 _ H nw
          have hb := nw.below

          replace HU := hidp (HU.out.to hb (Nat.le_refl _)); clear hb nw
          simp only [Act.put, getElem_toArray, getElem_cons_zero, getElem_cons_succ, setIfInBounds_toArray, set_cons_zero, set_cons_succ]
          refine Mm.oput0 tyL H [.int .i64 l.a, .int .i64 l.s, .int .i64 l.i, .int .i64 l.k, .int .i64 l.b, .int .i64 l.r, .slice av m cv] (fun W h => h.tail) rfl rfl (.tmp 11) (.tmp 82) rfl rfl rfl rfl (by simp [Value.oneCell']) rfl ?_
          intro _ H2 st
          replace HU := hidp (OwnR.stpT HU.out st H.out.at0 (by decide)); clear st H
          have H := H2
          clear H2
          simp only [Act.put, getElem_toArray, getElem_cons_zero, getElem_cons_succ, setIfInBounds_toArray, set_cons_zero, set_cons_succ]
          refine NoPanic.normal ?_
          have HUV := hidp (us_of HU.out (by have := HUL.out; omega) HUZ.out)
          have H2 := hidp (Mm.M.add (m := 0) H0.out H.out.below (H.out.ge _ (List.mem_cons_self ..)) H.out.at0)
          clear H
          have H := H2
          clear H2
          have cl := hidp (fun W h => rlvCheck_any W l (.slice av m cv) h)
          cases hok : lvOk l with
          | false =>
            rw [show lvE l = 2 from by unfold lvE; rw [hok]; rfl] at cl
            have hno := HNO2.out (by rw [hok]; decide)
            have HV := hidp (psV_none hno).1; have HX := hidp (psV_none hno).2
            clear hno hok HNO2 HYES3
            have tk0 := hidp trivial
            go_wp2_with (first | (clear tk0; (refine Mm.get0 tyL H rfl (.tmp 11) rfl rfl rfl ?_); (try simp only [Act.put, setIfInBounds_toArray, set_cons_zero, set_cons_succ]); have tk1 := hidp trivial) | (clear tk1; (go_at_call 23; refine (cl.out _ HUV.out).mono ?_; rintro e _ ⟨rfl, hb⟩; replace H := hidp (H.out.call hb); clear cl; replace HU := hidp (HU.out.to hb (Nat.le_refl _)); clear hb); (try simp only [Act.put, setIfInBounds_toArray, set_cons_zero, set_cons_succ]); have tk2 := hidp trivial) | (clear tk2; (refine Rt.wpL_build rfl 37 _ rfl zL (by kernel_rfl) ?_); (try simp only [Act.put, setIfInBounds_toArray, set_cons_zero, set_cons_succ]); have tk3 := hidp trivial) | (clear tk3; (refine Mm.put1 tyL H rfl (.tmp 2) (.tmp 86) zL rfl rfl rfl rfl (by simp [zL, Value.oneCell']) rfl ?_; intro _ H2 st; replace HU := hidp (OwnR.stpT HU.out st H.out.at1 (by decide)); clear st H; have H := H2; clear H2); (try simp only [Act.put, setIfInBounds_toArray, set_cons_zero, set_cons_succ]); have tk4 := hidp trivial))
            try clear tk4
            refine bodyPost_ret (Mm.ret_rowv tyL Tryz.results21 _ b2 _ _ rfl rfl H.out.at1 rfl) rfl ⟨_, by rw [HV.out, HX.out]; rfl, by rw [HV.out]; exact UsAt.nil _, H.out.below⟩
          | true =>
            rw [show lvE l = 0 from by unfold lvE; rw [hok]; rfl] at cl
            have hyes := HYES3.out hok
            have HV := hidp (psV_some hyes).1; have HX := hidp (psV_some hyes).2
            clear hyes hok HNO2 HYES3
            have tk0 := hidp trivial
            go_wp2_with (first | (clear tk0; (refine Mm.get0 tyL H rfl (.tmp 11) rfl rfl rfl ?_); (try simp only [Act.put, setIfInBounds_toArray, set_cons_zero, set_cons_succ]); have tk1 := hidp trivial) | (clear tk1; (go_at_call 23; refine (cl.out _ HUV.out).mono ?_; rintro e _ ⟨rfl, hb⟩; replace H := hidp (H.out.call hb); clear cl; replace HU := hidp (HU.out.to hb (Nat.le_refl _)); clear hb); (try simp only [Act.put, setIfInBounds_toArray, set_cons_zero, set_cons_succ]); have tk2 := hidp trivial) | (clear tk2; (refine Mm.get0 tyL H rfl (.tmp 11) rfl rfl rfl ?_); (try simp only [Act.put, setIfInBounds_toArray, set_cons_zero, set_cons_succ]); have tk3 := hidp trivial) | (clear tk3; (refine Mm.put1 tyL H rfl (.tmp 2) (.tmp 87) [.int .i64 l.a, .int .i64 l.s, .int .i64 l.i, .int .i64 l.k, .int .i64 l.b, .int .i64 l.r, .slice av m cv] rfl rfl rfl rfl (by simp [Value.oneCell']) rfl ?_; intro _ H2 st; replace HU := hidp (OwnR.stpT HU.out st H.out.at1 (by decide)); clear st H; have H := H2; clear H2); (try simp only [Act.put, setIfInBounds_toArray, set_cons_zero, set_cons_succ]); have tk4 := hidp trivial))
            try clear tk4
            refine bodyPost_ret (Mm.ret_rowv tyL Tryz.results21 _ b2 _ _ rfl rfl H.out.at1 rfl) rfl ⟨_, by rw [HV.out, HX.out]; rfl, by rw [HV.out]; exact us_of HU.out (by have := HUL.out; omega) HUZ.out, H.out.below⟩
end Go.Proofs.YtiakfopdohcigaaGreatDoor
