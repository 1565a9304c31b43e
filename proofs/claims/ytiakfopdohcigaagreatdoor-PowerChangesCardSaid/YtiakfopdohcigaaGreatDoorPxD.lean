
/-
  power: the document's Change.
-/
import Derived.Test.YtiakfopdohcigaaGreatDoorPxC
import Derived.Test.YtiakfopdohcigaaGreatDoorPxQ
namespace Go.Proofs.YtiakfopdohcigaaGreatDoor
set_option maxRecDepth 100000
set_option linter.unusedVariables false
set_option linter.unusedSimpArgs false
open Go.RowKit Rw
open List (getElem_toArray getElem_cons_zero getElem_cons_succ setIfInBounds_toArray set_cons_zero set_cons_succ)

section
variable {P : Program} {ST T k by_ : Nat} {z : List Value} {ops : Array Oper} {o : Oper} {a : Act} {w : World} {Q : Exit → Act → World → Prop} {S : World → Prop} {j : Nat} {K : Act → World → Prop}
theorem o_bs0R (R : RowTy P ST T k by_ z) (ho : ops[j]? = some o) (hw : Region.wanted o (yielded ops a.tmps) = true) (hop : o.op = .buildSlice ST 0 #[])
    (h : ∀ b W, Rt.NewAt w W b T [] → S W ∧ K (a.put o.dst (.slice (some ⟨b, 0, none⟩) 0 0)) W) : opW P ops Q S j K a w := by
  obtain ⟨i0, hi, hz0, hz1, hz2⟩ := info_parts R.info
  refine ⟨o, ho, hw, ?_⟩
  have := h w.heap.size (w.alloc (.cells #[] T)) (Rt.NewAt.mk' w T [])
  unfold Oper.wp execOp
  simp only [hop, List.map_toArray, List.map_nil, Sem.run_bind]
  simp [Instr.buildSlice, run_underlying R.us, sizeOf, typeInfo, zeroValue, hi, hz0, hz1, newRow, Instr.fill, show Array.range 0 = #[] from rfl]
  exact this
theorem run_appQ (R : RowTy P ST T k by_ z) (ty : TypeId) (B : Nat) (v u : Value) (es fs : List (List Value)) (hown : OwnR T k w B v es) (hne : v ≠ .slice none 0 0) (hu : RsAt k w u fs) (h1 : One1 fs) (hB : B ≤ w.heap.size) (hn : es.length + fs.length ≤ 1048576) :
    ∃ v' W, (Builtin.append_ #[ST, ST] ty #[v, u]).run P w = .ok v' W ∧ OwnR T k W B v' (es ++ fs) ∧ v' ≠ .slice none 0 0 ∧ Below B w W := by
  obtain ⟨i0, hi, hz0, hz1, hz2⟩ := info_parts R.info
  rcases hu.2 with ⟨rfl, rfl⟩ | ⟨g, off, c, rfl, hc, hg, hr⟩
  · exact ⟨v, w, run_append_owned_none w B ST ty T i0 k R.us hi v es.length es.flatten hown.2, by simpa using hown, hne, Below.refl _ _⟩
  · have hb := R.bm
    have h2 : (es.length + fs.length) * by_ ≤ 1048576 * 65536 := Nat.mul_le_mul hn hb
    obtain ⟨v', w', hrun, r1, r2, r3, -⟩ := run_append_own_at (P := P) (w := w) B ST ty T i0 _ k by_ R.us hi hz0 hz1 hz2 (by simp [Value.cells, R.zl]) R.kp v es.length es.flatten hown.2 ⟨g, off, none⟩ fs.length c fs.flatten (by rw [flat_len hu.1, Nat.mul_comm])
      (fun j u hj => by rw [addr_addR]; exact hr j u hj) h1.flat (by unfold maxLen; omega) (by omega) hB
    refine ⟨v', w', hrun, ⟨hown.1.app hu.1, ?_⟩, fun e => hne ((r3.1 e).1), (Below.refl B w).grown r2 hB fun k hk => (World.ownsRow.lt hown.2 k hk).1⟩
    rw [List.length_append, List.flatten_append]; exact r1
theorem o_appQ (R : RowTy P ST T k by_ z) (ho : ops[j]? = some o) (hw : Region.wanted o (yielded ops a.tmps) = true) (s x : Operand) (hop : o.op = .call { callee := .builtin .append, args := #[s, x], argTypes := #[ST, ST] }) (B : Nat) (v u : Value) (es fs : List (List Value))
    (hv : a.eval s = v) (hx : a.eval x = u) (hown : OwnR T k w B v es) (hne : v ≠ .slice none 0 0) (hu : RsAt k w u fs) (h1 : One1 fs) (hB : B ≤ w.heap.size) (hn : es.length + fs.length ≤ 1048576)
    (h : ∀ v' W, OwnR T k W B v' (es ++ fs) → v' ≠ .slice none 0 0 → Below B w W → S W ∧ K (a.put o.dst v') W) : opW P ops Q S j K a w := by
  obtain ⟨v', W, hrun, r1, r2, r3⟩ := run_appQ R o.type B v u es fs hown hne hu h1 hB hn
  refine ⟨o, ho, hw, ?_⟩
  unfold Oper.wp
  simp [execOp, hop, resolve, invoke, builtin, hv, hx, hrun, Result.andThen]
  exact h v' W r1 r2 r3
end
/-- The cells of a user in a row of users. -/
theorem row_users {w : World} {g : Nat} {us : List (ByteArray × Int)} {cur : List Value} (ha : Arr w g 83 cur) (h : cur.take (2 * (uRs us).length) = (uRs us).flatten) {i : Nat} (hi : i < us.length) : w.rangeAt g (0 + 2 * i) (uR us[i]) := by
  have hr : w.rangeAt g 0 (uRs us).flatten := by
    rw [← h]
    intro j v hv
    rw [List.getElem?_take] at hv
    split at hv
    · exact ha.range j v hv
    · cases hv
  have := rAt_nth hr (uRs_all us) i (by rw [uRs_len]; exact hi)
  simpa [uRs] using this

set_option maxHeartbeats 64000000 in
theorem rchange_any (w : World) (was is : Lv) (vw vi : Value) (u : ByteArray) (hvw : UsAt w vw was.us) (hvi : UsAt w vi is.us) :
    Calls Tryz.prog 30 #[.agg #[.int .i64 was.a, .int .i64 was.s, .int .i64 was.i, .int .i64 was.k, .int .i64 was.b, .int .i64 was.r, vw], .agg #[.int .i64 is.a, .int .i64 is.s, .int .i64 is.i, .int .i64 is.k, .int .i64 is.b, .int .i64 is.r, vi], .string u] w fun e w' => e = .returned (.int .i64 (chE was is u)) ∧ Below w.heap.size w w' := by
  have HVW := hidp hvw; have HVI := hidp hvi
  have cw := hidp (fun W h => rlvCheck_any W was vw h); have ci9 := hidp (fun W h => rlvCheck_any W is vi h)
  have co := hidp (fun W h => rof_any W was vw u h)
  have s6w := hidp (fun W => six2_any W was vw); have s6i := hidp (fun W => six2_any W is vi)
  have hCH := hidp (chE_doc was is u)
  obtain ⟨aw, cw0, hfw⟩ := hvw.form
  obtain ⟨ai, ci0, hfi⟩ := hvi.form
  obtain ⟨nw, hnw⟩ : ∃ z, was.us.length = z := ⟨_, rfl⟩
  obtain ⟨ni, hni⟩ : ∃ z, is.us.length = z := ⟨_, rfl⟩
  have HNW := hidp hnw; have HNI := hidp hni
  rw [hnw] at hfw
  rw [hni] at hfi
  subst hfw hfi
  clear hvw hvi hnw hni
  have H := hidp (Mm.M.nil w)
  cases hw0 : lvOk was with
  | false =>
    rw [show lvE was = 2 from by unfold lvE; rw [hw0]; rfl] at cw
    have HF := hidp (show chE was is u = 2 from by rw [hCH.out, hw0]; rfl)
    clear hw0
    go_enter Tryz.func30, Tryz.ntmps30
    have tk0 := hidp trivial
    go_wp2_with (first | (clear tk0; (refine Mm.box 37 H rfl (.tmp 0) rfl [.int .i64 was.a, .int .i64 was.s, .int .i64 was.i, .int .i64 was.k, .int .i64 was.b, .int .i64 was.r, .slice aw nw cw0] rfl ?_; clear H; intro b3 _ H nw; have hb := nw.below; clear hb nw); (try simp only [Act.put, setIfInBounds_toArray, set_cons_zero, set_cons_succ]); have tk1 := hidp trivial) | (clear tk1; (refine Mm.box 37 H rfl (.tmp 1) rfl [.int .i64 is.a, .int .i64 is.s, .int .i64 is.i, .int .i64 is.k, .int .i64 is.b, .int .i64 is.r, .slice ai ni ci0] rfl ?_; clear H; intro b4 _ H nw; have hb := nw.below; clear hb nw); (try simp only [Act.put, setIfInBounds_toArray, set_cons_zero, set_cons_succ]); have tk2 := hidp trivial) | (clear tk2; (refine Mm.get1 tyL H rfl (.tmp 3) rfl rfl rfl ?_); (try simp only [Act.put, setIfInBounds_toArray, set_cons_zero, set_cons_succ]); have tk3 := hidp trivial) | (clear tk3; (go_at_call 23; refine (cw.out _ (HVW.out.to H.out.below)).mono ?_; rintro e _ ⟨rfl, hb⟩; replace H := hidp (H.out.call hb); clear cw; clear hb); (try simp only [Act.put, setIfInBounds_toArray, set_cons_zero, set_cons_succ]); have tk4 := hidp trivial) | (clear tk4; (refine Mm.skipd 19 rfl _ _ rfl rfl ?_); (try simp only [Act.put, setIfInBounds_toArray, set_cons_zero, set_cons_succ]); have tk5 := hidp trivial) | (clear tk5; (refine Mm.skipd 20 rfl _ _ rfl rfl ?_); (try simp only [Act.put, setIfInBounds_toArray, set_cons_zero, set_cons_succ]); have tk6 := hidp trivial) | (clear tk6; (refine Mm.skipd 21 rfl _ _ rfl rfl ?_); (try simp only [Act.put, setIfInBounds_toArray, set_cons_zero, set_cons_succ]); have tk7 := hidp trivial))
    try clear tk7
    go_ret
    exact ⟨by rw [HF.out]; rfl, H.out.below⟩
  | true =>
    rw [show lvE was = 0 from by unfold lvE; rw [hw0]; rfl] at cw
    cases hi0 : lvOk is with
    | false =>
      rw [show lvE is = 2 from by unfold lvE; rw [hi0]; rfl] at ci9
      have HF := hidp (show chE was is u = 2 from by rw [hCH.out, hw0, hi0]; rfl)
      clear hw0 hi0
      go_enter Tryz.func30, Tryz.ntmps30
      have tk0 := hidp trivial
      go_wp2_with (first | (clear tk0; (refine Mm.box 37 H rfl (.tmp 0) rfl [.int .i64 was.a, .int .i64 was.s, .int .i64 was.i, .int .i64 was.k, .int .i64 was.b, .int .i64 was.r, .slice aw nw cw0] rfl ?_; clear H; intro b3 _ H nw; have hb := nw.below; clear hb nw); (try simp only [Act.put, setIfInBounds_toArray, set_cons_zero, set_cons_succ]); have tk1 := hidp trivial) | (clear tk1; (refine Mm.box 37 H rfl (.tmp 1) rfl [.int .i64 is.a, .int .i64 is.s, .int .i64 is.i, .int .i64 is.k, .int .i64 is.b, .int .i64 is.r, .slice ai ni ci0] rfl ?_; clear H; intro b4 _ H nw; have hb := nw.below; clear hb nw); (try simp only [Act.put, setIfInBounds_toArray, set_cons_zero, set_cons_succ]); have tk2 := hidp trivial) | (clear tk2; (refine Mm.get1 tyL H rfl (.tmp 3) rfl rfl rfl ?_); (try simp only [Act.put, setIfInBounds_toArray, set_cons_zero, set_cons_succ]); have tk3 := hidp trivial) | (clear tk3; (go_at_call 23; refine (cw.out _ (HVW.out.to H.out.below)).mono ?_; rintro e _ ⟨rfl, hb⟩; replace H := hidp (H.out.call hb); clear cw; clear hb); (try simp only [Act.put, setIfInBounds_toArray, set_cons_zero, set_cons_succ]); have tk4 := hidp trivial) | (clear tk4; (refine Mm.get0 tyL H rfl (.tmp 4) rfl rfl rfl ?_); (try simp only [Act.put, setIfInBounds_toArray, set_cons_zero, set_cons_succ]); have tk5 := hidp trivial) | (clear tk5; (go_at_call 23; refine (ci9.out _ (HVI.out.to H.out.below)).mono ?_; rintro e _ ⟨rfl, hb⟩; replace H := hidp (H.out.call hb); clear ci9; clear hb); (try simp only [Act.put, setIfInBounds_toArray, set_cons_zero, set_cons_succ]); have tk6 := hidp trivial))
      try clear tk6
      go_ret
      exact ⟨by rw [HF.out]; rfl, H.out.below⟩
    | true =>
      rw [show lvE is = 0 from by unfold lvE; rw [hi0]; rfl] at ci9
      have HC2 := hidp (show chE was is u = if (List.range 6).any (sBad was is (ofL was u)) = true then 12 else if docU was.us is.us (uBad was is u (ofL was u)) (was.us ++ is.us) = true then 12 else 0 from by rw [hCH.out, hw0, hi0]; rfl)
      have h16w : nw ≤ 16 := by have := hw0; unfold lvOk at this; simp only [Bool.and_eq_true, decide_eq_true_eq] at this; have h2 := HNW.out; omega
      have h16i : ni ≤ 16 := by have := hi0; unfold lvOk at this; simp only [Bool.and_eq_true, decide_eq_true_eq] at this; have h2 := HNI.out; omega
      obtain ⟨lev, hlev⟩ : ∃ z, ofL was u = z := ⟨_, rfl⟩
      have HL := hidp hlev
      rw [hlev] at co HC2
      clear hw0 hi0 hlev hCH
      go_enter Tryz.func30, Tryz.ntmps30
      have tk0 := hidp trivial
      go_wp2_with (first | (clear tk0; (refine Mm.box 37 H rfl (.tmp 0) rfl [.int .i64 was.a, .int .i64 was.s, .int .i64 was.i, .int .i64 was.k, .int .i64 was.b, .int .i64 was.r, .slice aw nw cw0] rfl ?_; clear H; intro b3 _ H nw; have hb := nw.below; clear hb nw); (try simp only [Act.put, setIfInBounds_toArray, set_cons_zero, set_cons_succ]); have tk1 := hidp trivial) | (clear tk1; (refine Mm.box 37 H rfl (.tmp 1) rfl [.int .i64 is.a, .int .i64 is.s, .int .i64 is.i, .int .i64 is.k, .int .i64 is.b, .int .i64 is.r, .slice ai ni ci0] rfl ?_; clear H; intro b4 _ H nw; have hb := nw.below; clear hb nw); (try simp only [Act.put, setIfInBounds_toArray, set_cons_zero, set_cons_succ]); have tk2 := hidp trivial) | (clear tk2; (refine Mm.get1 tyL H rfl (.tmp 3) rfl rfl rfl ?_); (try simp only [Act.put, setIfInBounds_toArray, set_cons_zero, set_cons_succ]); have tk3 := hidp trivial) | (clear tk3; (go_at_call 23; refine (cw.out _ (HVW.out.to H.out.below)).mono ?_; rintro e _ ⟨rfl, hb⟩; replace H := hidp (H.out.call hb); clear cw; clear hb); (try simp only [Act.put, setIfInBounds_toArray, set_cons_zero, set_cons_succ]); have tk4 := hidp trivial) | (clear tk4; (refine Mm.get0 tyL H rfl (.tmp 4) rfl rfl rfl ?_); (try simp only [Act.put, setIfInBounds_toArray, set_cons_zero, set_cons_succ]); have tk5 := hidp trivial) | (clear tk5; (go_at_call 23; refine (ci9.out _ (HVI.out.to H.out.below)).mono ?_; rintro e _ ⟨rfl, hb⟩; replace H := hidp (H.out.call hb); clear ci9; clear hb); (try simp only [Act.put, setIfInBounds_toArray, set_cons_zero, set_cons_succ]); have tk6 := hidp trivial) | (clear tk6; (refine Mm.get1 tyL H rfl (.tmp 3) rfl rfl rfl ?_); (try simp only [Act.put, setIfInBounds_toArray, set_cons_zero, set_cons_succ]); have tk7 := hidp trivial) | (clear tk7; (go_at_call 28; refine (co.out _ (HVW.out.to H.out.below)).mono ?_; rintro e _ ⟨rfl, hb⟩; replace H := hidp (H.out.call hb); clear co; clear hb); (try simp only [Act.put, setIfInBounds_toArray, set_cons_zero, set_cons_succ]); have tk8 := hidp trivial))
      try clear tk8
      refine Mm.region H (.take 0 (.take 2 (.one 1 (.one 3 (.take 4 (.take 5 .done)))))) (by kernel_rfl) (by kernel_rfl) (by simp [Scr.depth]) (by kernel_rfl) ?_
      clear H
      intro _ H hb
      clear hb
      refine Mm.sget1 tyL (fun w h => h) rfl rfl (.tmp 3) rfl rfl rfl ?_
      simp only [Act.put, getElem_toArray, getElem_cons_zero, getElem_cons_succ, setIfInBounds_toArray, set_cons_zero, set_cons_succ]
      refine Mm.sget0 tyL (fun w h => h) rfl rfl (.tmp 4) rfl rfl rfl ?_
      simp only [Act.put, getElem_toArray, getElem_cons_zero, getElem_cons_succ, setIfInBounds_toArray, set_cons_zero, set_cons_succ]
      have HPRE := H
      refine Mm.o_callX H (fun W h => h) rfl rfl 63 (#[.agg #[.int .i64 was.a, .int .i64 was.s, .int .i64 was.i, .int .i64 was.k, .int .i64 was.b, .int .i64 was.r, .slice aw nw cw0]]) (by go_simp; first | done | rfl) (s6w.out _) ?_
      clear H
      intro vA _ H hr hb
      obtain ⟨gA, rfl, hge, hg⟩ := hr
      replace H := hidp (Mm.M.add (m := 0) HPRE.out hb hge hg)
      clear HPRE hg hge hb
      simp only [Act.put, getElem_toArray, getElem_cons_zero, getElem_cons_succ, setIfInBounds_toArray, set_cons_zero, set_cons_succ]
      have HPRE := H
      refine Mm.o_callX H (fun W h => h.tail) rfl rfl 63 (#[.agg #[.int .i64 is.a, .int .i64 is.s, .int .i64 is.i, .int .i64 is.k, .int .i64 is.b, .int .i64 is.r, .slice ai ni ci0]]) (by go_simp; first | done | rfl) (s6i.out _) ?_
      clear H
      intro vB _ H hr hb
      obtain ⟨gB, rfl, hge, hg⟩ := hr
      replace H := hidp (Mm.M.add (m := 0) HPRE.out hb hge hg)
      clear HPRE hg hge hb
      simp only [Act.put, getElem_toArray, getElem_cons_zero, getElem_cons_succ, setIfInBounds_toArray, set_cons_zero, set_cons_succ]
      apply s_val
      case ho | hw => rfl
      case hv => intro w hw; go_simp; first | done | rfl
      simp only [Act.put, getElem_toArray, getElem_cons_zero, getElem_cons_succ, setIfInBounds_toArray, set_cons_zero, set_cons_succ]
      apply s_val
      case ho | hw => rfl
      case hv => intro w hw; go_simp; first | done | rfl
      simp only [Act.put, getElem_toArray, getElem_cons_zero, getElem_cons_succ, setIfInBounds_toArray, set_cons_zero, set_cons_succ]
      refine NoPanic.normal ?_
      go_wp2_with fail
      go_loopw [32] (fun t32 wr => ∃ i : Nat, t32 = .int .i64 (i : Int) ∧ i ≤ 6 ∧ (List.range i).any (sBad was is lev) = false ∧ Mm.M w.heap.size w wr [⟨gB, 3, [.int .i64 is.a, .int .i64 is.s, .int .i64 is.i, .int .i64 is.k, .int .i64 is.b, .int .i64 is.r]⟩, ⟨gA, 3, [.int .i64 was.a, .int .i64 was.s, .int .i64 was.i, .int .i64 was.k, .int .i64 was.b, .int .i64 was.r]⟩, ⟨b4, 37, [.int .i64 is.a, .int .i64 is.s, .int .i64 is.i, .int .i64 is.k, .int .i64 is.b, .int .i64 is.r, .slice ai ni ci0]⟩, ⟨b3, 37, [.int .i64 was.a, .int .i64 was.s, .int .i64 was.i, .int .i64 was.k, .int .i64 was.b, .int .i64 was.r, .slice aw nw cw0]⟩]) (fun t32 _ => 6 - (intOf t32).toNat)
      case atStart => exact ⟨0, rfl, by omega, rfl, H.out⟩
      case round =>
        clear H
        obtain ⟨i, rfl, hi, hok, hM⟩ := hrel
        have HOK := hidp hok; have H := hidp hM
        clear hok hM
        by_cases hlt : i < 6
        · have e1 : decide ((i : Int) < 6) = true := by simp; omega
          have e1n : (i : Int) < 6 := by omega
          obtain ⟨A, hA0⟩ : ∃ z, (sixL was).getD i 0 = z := ⟨_, rfl⟩
          obtain ⟨B, hB0⟩ : ∃ z, (sixL is).getD i 0 = z := ⟨_, rfl⟩
          have hA := hidp (fun W (h : Arr W gA 3 [.int .i64 was.a, .int .i64 was.s, .int .i64 was.i, .int .i64 was.k, .int .i64 was.b, .int .i64 was.r]) => show W.cell? ⟨gA, i, none⟩ = some (.int .i64 A) from by rw [← hA0]; exact six_cellI h hlt)
          have hB := hidp (fun W (h : Arr W gB 3 [.int .i64 is.a, .int .i64 is.s, .int .i64 is.i, .int .i64 is.k, .int .i64 is.b, .int .i64 is.r]) => show W.cell? ⟨gB, i, none⟩ = some (.int .i64 B) from by rw [← hB0]; exact six_cellI h hlt)
          have hs := any_range_succ (sBad was is lev) i
          have hbad := fun h : sBad was is lev i = true => any_range_at (f := sBad was is lev) hlt h
          have hsb : sBad was is lev i = ((A != B) && (decide (A > lev) || decide (B > lev))) := by unfold sBad; rw [hA0, hB0]
          rw [hsb, HOK.out] at hs
          rw [hsb] at hbad
          clear hsb hA0 hB0
          by_cases hne : A = B
          · have ne1 : (A != B) = false := by simp [hne]
            have HOK2 := hidp (show (List.range (i + 1)).any (sBad was is lev) = false from by rw [hs, ne1]; rfl)
            clear hs hbad hne
            go_wp2_with fail
            refine Mm.region H (.take 0 (.take 1 (.take 2 (.take 3 (.take 4 (.take 5 (.take 6 (.take 7 (.take 8 (.take 9 (.take 10 (.take 11 (.take 12 (.take 13 (.take 14 (.take 15 (.take 16 (.take 17 (.take 18 (.take 19 (.take 20 (.take 21 (.take 22 (.take 23 (.take 24 .done))))))))))))))))))))))))) (by kernel_rfl) (by kernel_rfl) (by simp [Scr.depth]) (by kernel_rfl) ?_
            clear H
            intro _ H hb
            clear hb
            apply s_val
            case ho | hw => rfl
            case hv => intro w hw; go_simp; first | done | rfl
            simp only [Act.put, getElem_toArray, getElem_cons_zero, getElem_cons_succ, setIfInBounds_toArray, set_cons_zero, set_cons_succ]
            apply s_val
            case ho | hw => rfl
            case hv => intro w hw; go_simp; first | done | rfl
            simp only [Act.put, getElem_toArray, getElem_cons_zero, getElem_cons_succ, setIfInBounds_toArray, set_cons_zero, set_cons_succ]
            apply s_val
            case ho | hw => rfl
            case hv => intro w hw; have q := e1n; go_simp; first | done | rfl
            simp only [Act.put, getElem_toArray, getElem_cons_zero, getElem_cons_succ, setIfInBounds_toArray, set_cons_zero, set_cons_succ]
            refine Mm.s_ldc naIx rfl rfl (.tmp 37) ⟨gA, i, none⟩ (.int .i64 A) rfl rfl (fun w h => hA.out w h.at1) ?_
            simp only [Act.put, getElem_toArray, getElem_cons_zero, getElem_cons_succ, setIfInBounds_toArray, set_cons_zero, set_cons_succ]
            apply s_val
            case ho | hw => rfl
            case hv => intro w hw; go_simp; first | done | rfl
            simp only [Act.put, getElem_toArray, getElem_cons_zero, getElem_cons_succ, setIfInBounds_toArray, set_cons_zero, set_cons_succ]
            apply s_val
            case ho | hw => rfl
            case hv => intro w hw; go_simp; first | done | rfl
            simp only [Act.put, getElem_toArray, getElem_cons_zero, getElem_cons_succ, setIfInBounds_toArray, set_cons_zero, set_cons_succ]
            apply s_val
            case ho | hw => rfl
            case hv => intro w hw; have q := e1n; go_simp; first | done | rfl
            simp only [Act.put, getElem_toArray, getElem_cons_zero, getElem_cons_succ, setIfInBounds_toArray, set_cons_zero, set_cons_succ]
            refine Mm.s_ldc naIx rfl rfl (.tmp 41) ⟨gB, i, none⟩ (.int .i64 B) rfl rfl (fun w h => hB.out w h.at0) ?_
            simp only [Act.put, getElem_toArray, getElem_cons_zero, getElem_cons_succ, setIfInBounds_toArray, set_cons_zero, set_cons_succ]
            apply s_val
            case ho | hw => rfl
            case hv => intro w hw; have q := ne1; go_simp; first | done | rfl
            simp only [Act.put, getElem_toArray, getElem_cons_zero, getElem_cons_succ, setIfInBounds_toArray, set_cons_zero, set_cons_succ]
            apply s_val
            case ho | hw => rfl
            case hv => intro w hw; go_simp; first | done | rfl
            simp only [Act.put, getElem_toArray, getElem_cons_zero, getElem_cons_succ, setIfInBounds_toArray, set_cons_zero, set_cons_succ]
            refine Rt.s_skip rfl rfl ?_
            simp only [Act.put, getElem_toArray, getElem_cons_zero, getElem_cons_succ, setIfInBounds_toArray, set_cons_zero, set_cons_succ]
            refine Rt.s_skip rfl rfl ?_
            simp only [Act.put, getElem_toArray, getElem_cons_zero, getElem_cons_succ, setIfInBounds_toArray, set_cons_zero, set_cons_succ]
            refine Rt.s_skip rfl rfl ?_
            simp only [Act.put, getElem_toArray, getElem_cons_zero, getElem_cons_succ, setIfInBounds_toArray, set_cons_zero, set_cons_succ]
            refine Rt.s_skip rfl rfl ?_
            simp only [Act.put, getElem_toArray, getElem_cons_zero, getElem_cons_succ, setIfInBounds_toArray, set_cons_zero, set_cons_succ]
            refine Rt.s_skip rfl rfl ?_
            simp only [Act.put, getElem_toArray, getElem_cons_zero, getElem_cons_succ, setIfInBounds_toArray, set_cons_zero, set_cons_succ]
            refine Rt.s_skip rfl rfl ?_
            simp only [Act.put, getElem_toArray, getElem_cons_zero, getElem_cons_succ, setIfInBounds_toArray, set_cons_zero, set_cons_succ]
            refine Rt.s_skip rfl rfl ?_
            simp only [Act.put, getElem_toArray, getElem_cons_zero, getElem_cons_succ, setIfInBounds_toArray, set_cons_zero, set_cons_succ]
            refine Rt.s_skip rfl rfl ?_
            simp only [Act.put, getElem_toArray, getElem_cons_zero, getElem_cons_succ, setIfInBounds_toArray, set_cons_zero, set_cons_succ]
            refine Rt.s_skip rfl rfl ?_
            simp only [Act.put, getElem_toArray, getElem_cons_zero, getElem_cons_succ, setIfInBounds_toArray, set_cons_zero, set_cons_succ]
            refine Rt.s_skip rfl rfl ?_
            simp only [Act.put, getElem_toArray, getElem_cons_zero, getElem_cons_succ, setIfInBounds_toArray, set_cons_zero, set_cons_succ]
            refine Rt.s_skip rfl rfl ?_
            simp only [Act.put, getElem_toArray, getElem_cons_zero, getElem_cons_succ, setIfInBounds_toArray, set_cons_zero, set_cons_succ]
            refine Rt.s_skip rfl rfl ?_
            simp only [Act.put, getElem_toArray, getElem_cons_zero, getElem_cons_succ, setIfInBounds_toArray, set_cons_zero, set_cons_succ]
            refine Rt.s_skip rfl rfl ?_
            simp only [Act.put, getElem_toArray, getElem_cons_zero, getElem_cons_succ, setIfInBounds_toArray, set_cons_zero, set_cons_succ]
            refine Rt.s_skip rfl rfl ?_
            simp only [Act.put, getElem_toArray, getElem_cons_zero, getElem_cons_succ, setIfInBounds_toArray, set_cons_zero, set_cons_succ]
            apply s_val
            case ho | hw => rfl
            case hv => intro w hw; go_simp; first | done | rfl
            simp only [Act.put, getElem_toArray, getElem_cons_zero, getElem_cons_succ, setIfInBounds_toArray, set_cons_zero, set_cons_succ]
            refine NoPanic.normal ?_
            go_wp2_with fail
            exact ⟨⟨i + 1, by go_num, by omega, HOK2.out, H.out⟩, by simp [intOf]; omega⟩
          · have ne1 : (A != B) = true := by simpa using hne
            by_cases ga : A > lev
            · have gt1 : decide (A > lev) = true := decide_eq_true ga
              have HF := hidp (show chE was is u = 12 from by rw [HC2.out, if_pos (hbad (by rw [ne1, gt1]; rfl))])
              clear hs hbad hne ga
              go_wp2_with fail
              refine Mm.region H (.take 0 (.take 1 (.take 2 (.take 3 (.take 4 (.take 5 (.take 6 (.take 7 (.take 8 (.take 9 (.take 10 (.take 11 (.take 12 (.take 13 (.take 14 (.take 15 (.take 16 (.take 17 (.take 18 (.take 19 (.take 20 (.take 21 (.take 22 (.take 23 (.take 24 .done))))))))))))))))))))))))) (by kernel_rfl) (by kernel_rfl) (by simp [Scr.depth]) (by kernel_rfl) ?_
              clear H
              intro _ H hb
              clear hb
              apply s_val
              case ho | hw => rfl
              case hv => intro w hw; go_simp; first | done | rfl
              simp only [Act.put, getElem_toArray, getElem_cons_zero, getElem_cons_succ, setIfInBounds_toArray, set_cons_zero, set_cons_succ]
              apply s_val
              case ho | hw => rfl
              case hv => intro w hw; go_simp; first | done | rfl
              simp only [Act.put, getElem_toArray, getElem_cons_zero, getElem_cons_succ, setIfInBounds_toArray, set_cons_zero, set_cons_succ]
              apply s_val
              case ho | hw => rfl
              case hv => intro w hw; have q := e1n; go_simp; first | done | rfl
              simp only [Act.put, getElem_toArray, getElem_cons_zero, getElem_cons_succ, setIfInBounds_toArray, set_cons_zero, set_cons_succ]
              refine Mm.s_ldc naIx rfl rfl (.tmp 37) ⟨gA, i, none⟩ (.int .i64 A) rfl rfl (fun w h => hA.out w h.at1) ?_
              simp only [Act.put, getElem_toArray, getElem_cons_zero, getElem_cons_succ, setIfInBounds_toArray, set_cons_zero, set_cons_succ]
              apply s_val
              case ho | hw => rfl
              case hv => intro w hw; go_simp; first | done | rfl
              simp only [Act.put, getElem_toArray, getElem_cons_zero, getElem_cons_succ, setIfInBounds_toArray, set_cons_zero, set_cons_succ]
              apply s_val
              case ho | hw => rfl
              case hv => intro w hw; go_simp; first | done | rfl
              simp only [Act.put, getElem_toArray, getElem_cons_zero, getElem_cons_succ, setIfInBounds_toArray, set_cons_zero, set_cons_succ]
              apply s_val
              case ho | hw => rfl
              case hv => intro w hw; have q := e1n; go_simp; first | done | rfl
              simp only [Act.put, getElem_toArray, getElem_cons_zero, getElem_cons_succ, setIfInBounds_toArray, set_cons_zero, set_cons_succ]
              refine Mm.s_ldc naIx rfl rfl (.tmp 41) ⟨gB, i, none⟩ (.int .i64 B) rfl rfl (fun w h => hB.out w h.at0) ?_
              simp only [Act.put, getElem_toArray, getElem_cons_zero, getElem_cons_succ, setIfInBounds_toArray, set_cons_zero, set_cons_succ]
              apply s_val
              case ho | hw => rfl
              case hv => intro w hw; have q := ne1; go_simp; first | done | rfl
              simp only [Act.put, getElem_toArray, getElem_cons_zero, getElem_cons_succ, setIfInBounds_toArray, set_cons_zero, set_cons_succ]
              apply s_val
              case ho | hw => rfl
              case hv => intro w hw; go_simp; first | done | rfl
              simp only [Act.put, getElem_toArray, getElem_cons_zero, getElem_cons_succ, setIfInBounds_toArray, set_cons_zero, set_cons_succ]
              apply s_val
              case ho | hw => rfl
              case hv => intro w hw; go_simp; first | done | rfl
              simp only [Act.put, getElem_toArray, getElem_cons_zero, getElem_cons_succ, setIfInBounds_toArray, set_cons_zero, set_cons_succ]
              apply s_val
              case ho | hw => rfl
              case hv => intro w hw; go_simp; first | done | rfl
              simp only [Act.put, getElem_toArray, getElem_cons_zero, getElem_cons_succ, setIfInBounds_toArray, set_cons_zero, set_cons_succ]
              apply s_val
              case ho | hw => rfl
              case hv => intro w hw; have q := e1n; go_simp; first | done | rfl
              simp only [Act.put, getElem_toArray, getElem_cons_zero, getElem_cons_succ, setIfInBounds_toArray, set_cons_zero, set_cons_succ]
              refine Mm.s_ldc naIx rfl rfl (.tmp 47) ⟨gA, i, none⟩ (.int .i64 A) rfl rfl (fun w h => hA.out w h.at1) ?_
              simp only [Act.put, getElem_toArray, getElem_cons_zero, getElem_cons_succ, setIfInBounds_toArray, set_cons_zero, set_cons_succ]
              apply s_val
              case ho | hw => rfl
              case hv => intro w hw; go_simp; first | done | rfl
              simp only [Act.put, getElem_toArray, getElem_cons_zero, getElem_cons_succ, setIfInBounds_toArray, set_cons_zero, set_cons_succ]
              apply s_val
              case ho | hw => rfl
              case hv => intro w hw; have q := gt1; go_simp; first | done | rfl
              simp only [Act.put, getElem_toArray, getElem_cons_zero, getElem_cons_succ, setIfInBounds_toArray, set_cons_zero, set_cons_succ]
              apply s_val
              case ho | hw => rfl
              case hv => intro w hw; go_simp; first | done | rfl
              simp only [Act.put, getElem_toArray, getElem_cons_zero, getElem_cons_succ, setIfInBounds_toArray, set_cons_zero, set_cons_succ]
              refine Rt.s_skip rfl rfl ?_
              simp only [Act.put, getElem_toArray, getElem_cons_zero, getElem_cons_succ, setIfInBounds_toArray, set_cons_zero, set_cons_succ]
              refine Rt.s_skip rfl rfl ?_
              simp only [Act.put, getElem_toArray, getElem_cons_zero, getElem_cons_succ, setIfInBounds_toArray, set_cons_zero, set_cons_succ]
              refine Rt.s_skip rfl rfl ?_
              simp only [Act.put, getElem_toArray, getElem_cons_zero, getElem_cons_succ, setIfInBounds_toArray, set_cons_zero, set_cons_succ]
              refine Rt.s_skip rfl rfl ?_
              simp only [Act.put, getElem_toArray, getElem_cons_zero, getElem_cons_succ, setIfInBounds_toArray, set_cons_zero, set_cons_succ]
              refine Rt.s_skip rfl rfl ?_
              simp only [Act.put, getElem_toArray, getElem_cons_zero, getElem_cons_succ, setIfInBounds_toArray, set_cons_zero, set_cons_succ]
              refine Rt.s_skip rfl rfl ?_
              simp only [Act.put, getElem_toArray, getElem_cons_zero, getElem_cons_succ, setIfInBounds_toArray, set_cons_zero, set_cons_succ]
              apply s_val
              case ho | hw => rfl
              case hv => intro w hw; go_simp; first | done | rfl
              simp only [Act.put, getElem_toArray, getElem_cons_zero, getElem_cons_succ, setIfInBounds_toArray, set_cons_zero, set_cons_succ]
              apply s_val
              case ho | hw => rfl
              case hv => intro w hw; go_simp; first | done | rfl
              simp only [Act.put, getElem_toArray, getElem_cons_zero, getElem_cons_succ, setIfInBounds_toArray, set_cons_zero, set_cons_succ]
              refine NoPanic.normal ?_
              go_wp2_with fail
              go_ret
              exact ⟨by rw [HF.out]; rfl, H.out.below⟩
            · have gt1 : decide (A > lev) = false := decide_eq_false ga
              by_cases gb : B > lev
              · have gt2 : decide (B > lev) = true := decide_eq_true gb
                have HF := hidp (show chE was is u = 12 from by rw [HC2.out, if_pos (hbad (by rw [ne1, gt1, gt2]; rfl))])
                clear hs hbad hne ga gb
                go_wp2_with fail
                refine Mm.region H (.take 0 (.take 1 (.take 2 (.take 3 (.take 4 (.take 5 (.take 6 (.take 7 (.take 8 (.take 9 (.take 10 (.take 11 (.take 12 (.take 13 (.take 14 (.take 15 (.take 16 (.take 17 (.take 18 (.take 19 (.take 20 (.take 21 (.take 22 (.take 23 (.take 24 .done))))))))))))))))))))))))) (by kernel_rfl) (by kernel_rfl) (by simp [Scr.depth]) (by kernel_rfl) ?_
                clear H
                intro _ H hb
                clear hb
                apply s_val
                case ho | hw => rfl
                case hv => intro w hw; go_simp; first | done | rfl
                simp only [Act.put, getElem_toArray, getElem_cons_zero, getElem_cons_succ, setIfInBounds_toArray, set_cons_zero, set_cons_succ]
                apply s_val
                case ho | hw => rfl
                case hv => intro w hw; go_simp; first | done | rfl
                simp only [Act.put, getElem_toArray, getElem_cons_zero, getElem_cons_succ, setIfInBounds_toArray, set_cons_zero, set_cons_succ]
                apply s_val
                case ho | hw => rfl
                case hv => intro w hw; have q := e1n; go_simp; first | done | rfl
                simp only [Act.put, getElem_toArray, getElem_cons_zero, getElem_cons_succ, setIfInBounds_toArray, set_cons_zero, set_cons_succ]
                refine Mm.s_ldc naIx rfl rfl (.tmp 37) ⟨gA, i, none⟩ (.int .i64 A) rfl rfl (fun w h => hA.out w h.at1) ?_
                simp only [Act.put, getElem_toArray, getElem_cons_zero, getElem_cons_succ, setIfInBounds_toArray, set_cons_zero, set_cons_succ]
                apply s_val
                case ho | hw => rfl
                case hv => intro w hw; go_simp; first | done | rfl
                simp only [Act.put, getElem_toArray, getElem_cons_zero, getElem_cons_succ, setIfInBounds_toArray, set_cons_zero, set_cons_succ]
                apply s_val
                case ho | hw => rfl
                case hv => intro w hw; go_simp; first | done | rfl
                simp only [Act.put, getElem_toArray, getElem_cons_zero, getElem_cons_succ, setIfInBounds_toArray, set_cons_zero, set_cons_succ]
                apply s_val
                case ho | hw => rfl
                case hv => intro w hw; have q := e1n; go_simp; first | done | rfl
                simp only [Act.put, getElem_toArray, getElem_cons_zero, getElem_cons_succ, setIfInBounds_toArray, set_cons_zero, set_cons_succ]
                refine Mm.s_ldc naIx rfl rfl (.tmp 41) ⟨gB, i, none⟩ (.int .i64 B) rfl rfl (fun w h => hB.out w h.at0) ?_
                simp only [Act.put, getElem_toArray, getElem_cons_zero, getElem_cons_succ, setIfInBounds_toArray, set_cons_zero, set_cons_succ]
                apply s_val
                case ho | hw => rfl
                case hv => intro w hw; have q := ne1; go_simp; first | done | rfl
                simp only [Act.put, getElem_toArray, getElem_cons_zero, getElem_cons_succ, setIfInBounds_toArray, set_cons_zero, set_cons_succ]
                apply s_val
                case ho | hw => rfl
                case hv => intro w hw; go_simp; first | done | rfl
                simp only [Act.put, getElem_toArray, getElem_cons_zero, getElem_cons_succ, setIfInBounds_toArray, set_cons_zero, set_cons_succ]
                apply s_val
                case ho | hw => rfl
                case hv => intro w hw; go_simp; first | done | rfl
                simp only [Act.put, getElem_toArray, getElem_cons_zero, getElem_cons_succ, setIfInBounds_toArray, set_cons_zero, set_cons_succ]
                apply s_val
                case ho | hw => rfl
                case hv => intro w hw; go_simp; first | done | rfl
                simp only [Act.put, getElem_toArray, getElem_cons_zero, getElem_cons_succ, setIfInBounds_toArray, set_cons_zero, set_cons_succ]
                apply s_val
                case ho | hw => rfl
                case hv => intro w hw; have q := e1n; go_simp; first | done | rfl
                simp only [Act.put, getElem_toArray, getElem_cons_zero, getElem_cons_succ, setIfInBounds_toArray, set_cons_zero, set_cons_succ]
                refine Mm.s_ldc naIx rfl rfl (.tmp 47) ⟨gA, i, none⟩ (.int .i64 A) rfl rfl (fun w h => hA.out w h.at1) ?_
                simp only [Act.put, getElem_toArray, getElem_cons_zero, getElem_cons_succ, setIfInBounds_toArray, set_cons_zero, set_cons_succ]
                apply s_val
                case ho | hw => rfl
                case hv => intro w hw; go_simp; first | done | rfl
                simp only [Act.put, getElem_toArray, getElem_cons_zero, getElem_cons_succ, setIfInBounds_toArray, set_cons_zero, set_cons_succ]
                apply s_val
                case ho | hw => rfl
                case hv => intro w hw; have q := gt1; go_simp; first | done | rfl
                simp only [Act.put, getElem_toArray, getElem_cons_zero, getElem_cons_succ, setIfInBounds_toArray, set_cons_zero, set_cons_succ]
                apply s_val
                case ho | hw => rfl
                case hv => intro w hw; go_simp; first | done | rfl
                simp only [Act.put, getElem_toArray, getElem_cons_zero, getElem_cons_succ, setIfInBounds_toArray, set_cons_zero, set_cons_succ]
                apply s_val
                case ho | hw => rfl
                case hv => intro w hw; go_simp; first | done | rfl
                simp only [Act.put, getElem_toArray, getElem_cons_zero, getElem_cons_succ, setIfInBounds_toArray, set_cons_zero, set_cons_succ]
                apply s_val
                case ho | hw => rfl
                case hv => intro w hw; go_simp; first | done | rfl
                simp only [Act.put, getElem_toArray, getElem_cons_zero, getElem_cons_succ, setIfInBounds_toArray, set_cons_zero, set_cons_succ]
                apply s_val
                case ho | hw => rfl
                case hv => intro w hw; have q := e1n; go_simp; first | done | rfl
                simp only [Act.put, getElem_toArray, getElem_cons_zero, getElem_cons_succ, setIfInBounds_toArray, set_cons_zero, set_cons_succ]
                refine Mm.s_ldc naIx rfl rfl (.tmp 54) ⟨gB, i, none⟩ (.int .i64 B) rfl rfl (fun w h => hB.out w h.at0) ?_
                simp only [Act.put, getElem_toArray, getElem_cons_zero, getElem_cons_succ, setIfInBounds_toArray, set_cons_zero, set_cons_succ]
                apply s_val
                case ho | hw => rfl
                case hv => intro w hw; go_simp; first | done | rfl
                simp only [Act.put, getElem_toArray, getElem_cons_zero, getElem_cons_succ, setIfInBounds_toArray, set_cons_zero, set_cons_succ]
                apply s_val
                case ho | hw => rfl
                case hv => intro w hw; have q := gt2; go_simp; first | done | rfl
                simp only [Act.put, getElem_toArray, getElem_cons_zero, getElem_cons_succ, setIfInBounds_toArray, set_cons_zero, set_cons_succ]
                apply s_val
                case ho | hw => rfl
                case hv => intro w hw; go_simp; first | done | rfl
                simp only [Act.put, getElem_toArray, getElem_cons_zero, getElem_cons_succ, setIfInBounds_toArray, set_cons_zero, set_cons_succ]
                apply s_val
                case ho | hw => rfl
                case hv => intro w hw; go_simp; first | done | rfl
                simp only [Act.put, getElem_toArray, getElem_cons_zero, getElem_cons_succ, setIfInBounds_toArray, set_cons_zero, set_cons_succ]
                refine NoPanic.normal ?_
                go_wp2_with fail
                go_ret
                exact ⟨by rw [HF.out]; rfl, H.out.below⟩
              · have gt2 : decide (B > lev) = false := decide_eq_false gb
                have HOK2 := hidp (show (List.range (i + 1)).any (sBad was is lev) = false from by rw [hs, ne1, gt1, gt2]; rfl)
                clear hs hbad hne ga gb
                go_wp2_with fail
                refine Mm.region H (.take 0 (.take 1 (.take 2 (.take 3 (.take 4 (.take 5 (.take 6 (.take 7 (.take 8 (.take 9 (.take 10 (.take 11 (.take 12 (.take 13 (.take 14 (.take 15 (.take 16 (.take 17 (.take 18 (.take 19 (.take 20 (.take 21 (.take 22 (.take 23 (.take 24 .done))))))))))))))))))))))))) (by kernel_rfl) (by kernel_rfl) (by simp [Scr.depth]) (by kernel_rfl) ?_
                clear H
                intro _ H hb
                clear hb
                apply s_val
                case ho | hw => rfl
                case hv => intro w hw; go_simp; first | done | rfl
                simp only [Act.put, getElem_toArray, getElem_cons_zero, getElem_cons_succ, setIfInBounds_toArray, set_cons_zero, set_cons_succ]
                apply s_val
                case ho | hw => rfl
                case hv => intro w hw; go_simp; first | done | rfl
                simp only [Act.put, getElem_toArray, getElem_cons_zero, getElem_cons_succ, setIfInBounds_toArray, set_cons_zero, set_cons_succ]
                apply s_val
                case ho | hw => rfl
                case hv => intro w hw; have q := e1n; go_simp; first | done | rfl
                simp only [Act.put, getElem_toArray, getElem_cons_zero, getElem_cons_succ, setIfInBounds_toArray, set_cons_zero, set_cons_succ]
                refine Mm.s_ldc naIx rfl rfl (.tmp 37) ⟨gA, i, none⟩ (.int .i64 A) rfl rfl (fun w h => hA.out w h.at1) ?_
                simp only [Act.put, getElem_toArray, getElem_cons_zero, getElem_cons_succ, setIfInBounds_toArray, set_cons_zero, set_cons_succ]
                apply s_val
                case ho | hw => rfl
                case hv => intro w hw; go_simp; first | done | rfl
                simp only [Act.put, getElem_toArray, getElem_cons_zero, getElem_cons_succ, setIfInBounds_toArray, set_cons_zero, set_cons_succ]
                apply s_val
                case ho | hw => rfl
                case hv => intro w hw; go_simp; first | done | rfl
                simp only [Act.put, getElem_toArray, getElem_cons_zero, getElem_cons_succ, setIfInBounds_toArray, set_cons_zero, set_cons_succ]
                apply s_val
                case ho | hw => rfl
                case hv => intro w hw; have q := e1n; go_simp; first | done | rfl
                simp only [Act.put, getElem_toArray, getElem_cons_zero, getElem_cons_succ, setIfInBounds_toArray, set_cons_zero, set_cons_succ]
                refine Mm.s_ldc naIx rfl rfl (.tmp 41) ⟨gB, i, none⟩ (.int .i64 B) rfl rfl (fun w h => hB.out w h.at0) ?_
                simp only [Act.put, getElem_toArray, getElem_cons_zero, getElem_cons_succ, setIfInBounds_toArray, set_cons_zero, set_cons_succ]
                apply s_val
                case ho | hw => rfl
                case hv => intro w hw; have q := ne1; go_simp; first | done | rfl
                simp only [Act.put, getElem_toArray, getElem_cons_zero, getElem_cons_succ, setIfInBounds_toArray, set_cons_zero, set_cons_succ]
                apply s_val
                case ho | hw => rfl
                case hv => intro w hw; go_simp; first | done | rfl
                simp only [Act.put, getElem_toArray, getElem_cons_zero, getElem_cons_succ, setIfInBounds_toArray, set_cons_zero, set_cons_succ]
                apply s_val
                case ho | hw => rfl
                case hv => intro w hw; go_simp; first | done | rfl
                simp only [Act.put, getElem_toArray, getElem_cons_zero, getElem_cons_succ, setIfInBounds_toArray, set_cons_zero, set_cons_succ]
                apply s_val
                case ho | hw => rfl
                case hv => intro w hw; go_simp; first | done | rfl
                simp only [Act.put, getElem_toArray, getElem_cons_zero, getElem_cons_succ, setIfInBounds_toArray, set_cons_zero, set_cons_succ]
                apply s_val
                case ho | hw => rfl
                case hv => intro w hw; have q := e1n; go_simp; first | done | rfl
                simp only [Act.put, getElem_toArray, getElem_cons_zero, getElem_cons_succ, setIfInBounds_toArray, set_cons_zero, set_cons_succ]
                refine Mm.s_ldc naIx rfl rfl (.tmp 47) ⟨gA, i, none⟩ (.int .i64 A) rfl rfl (fun w h => hA.out w h.at1) ?_
                simp only [Act.put, getElem_toArray, getElem_cons_zero, getElem_cons_succ, setIfInBounds_toArray, set_cons_zero, set_cons_succ]
                apply s_val
                case ho | hw => rfl
                case hv => intro w hw; go_simp; first | done | rfl
                simp only [Act.put, getElem_toArray, getElem_cons_zero, getElem_cons_succ, setIfInBounds_toArray, set_cons_zero, set_cons_succ]
                apply s_val
                case ho | hw => rfl
                case hv => intro w hw; have q := gt1; go_simp; first | done | rfl
                simp only [Act.put, getElem_toArray, getElem_cons_zero, getElem_cons_succ, setIfInBounds_toArray, set_cons_zero, set_cons_succ]
                apply s_val
                case ho | hw => rfl
                case hv => intro w hw; go_simp; first | done | rfl
                simp only [Act.put, getElem_toArray, getElem_cons_zero, getElem_cons_succ, setIfInBounds_toArray, set_cons_zero, set_cons_succ]
                apply s_val
                case ho | hw => rfl
                case hv => intro w hw; go_simp; first | done | rfl
                simp only [Act.put, getElem_toArray, getElem_cons_zero, getElem_cons_succ, setIfInBounds_toArray, set_cons_zero, set_cons_succ]
                apply s_val
                case ho | hw => rfl
                case hv => intro w hw; go_simp; first | done | rfl
                simp only [Act.put, getElem_toArray, getElem_cons_zero, getElem_cons_succ, setIfInBounds_toArray, set_cons_zero, set_cons_succ]
                apply s_val
                case ho | hw => rfl
                case hv => intro w hw; have q := e1n; go_simp; first | done | rfl
                simp only [Act.put, getElem_toArray, getElem_cons_zero, getElem_cons_succ, setIfInBounds_toArray, set_cons_zero, set_cons_succ]
                refine Mm.s_ldc naIx rfl rfl (.tmp 54) ⟨gB, i, none⟩ (.int .i64 B) rfl rfl (fun w h => hB.out w h.at0) ?_
                simp only [Act.put, getElem_toArray, getElem_cons_zero, getElem_cons_succ, setIfInBounds_toArray, set_cons_zero, set_cons_succ]
                apply s_val
                case ho | hw => rfl
                case hv => intro w hw; go_simp; first | done | rfl
                simp only [Act.put, getElem_toArray, getElem_cons_zero, getElem_cons_succ, setIfInBounds_toArray, set_cons_zero, set_cons_succ]
                apply s_val
                case ho | hw => rfl
                case hv => intro w hw; have q := gt2; go_simp; first | done | rfl
                simp only [Act.put, getElem_toArray, getElem_cons_zero, getElem_cons_succ, setIfInBounds_toArray, set_cons_zero, set_cons_succ]
                apply s_val
                case ho | hw => rfl
                case hv => intro w hw; go_simp; first | done | rfl
                simp only [Act.put, getElem_toArray, getElem_cons_zero, getElem_cons_succ, setIfInBounds_toArray, set_cons_zero, set_cons_succ]
                apply s_val
                case ho | hw => rfl
                case hv => intro w hw; go_simp; first | done | rfl
                simp only [Act.put, getElem_toArray, getElem_cons_zero, getElem_cons_succ, setIfInBounds_toArray, set_cons_zero, set_cons_succ]
                refine NoPanic.normal ?_
                go_wp2_with fail
                exact ⟨⟨i + 1, by go_num, by omega, HOK2.out, H.out⟩, by simp [intOf]; omega⟩
        · have e1 : decide ((i : Int) < 6) = false := by simp; omega
          obtain rfl : i = 6 := by omega
          have HC3 := hidp (show chE was is u = if docU was.us is.us (uBad was is u lev) (was.us ++ is.us) = true then 12 else 0 from by rw [HC2.out, HOK.out]; rfl)
          obtain ⟨n, hn⟩ : ∃ z, nw + ni = z := ⟨_, rfl⟩
          have HUL := hidp (show (was.us ++ is.us).length = n from by rw [List.length_append, HNW.out, HNI.out]; exact hn)
          have hn32 : n ≤ 32 := by omega
          clear HC2 HOK hn hlt e1
          go_wp2_with fail
          refine Mm.region H (.take 1 (.take 2 (.take 4 (.take 5 (.take 8 (.one 0 (.one 3 (.one 6 (.take 7 .done))))))))) (by kernel_rfl) (by kernel_rfl) (by simp [Scr.depth]) (by kernel_rfl) ?_
          clear H
          intro _ H hb
          clear hb
          apply s_val
          case ho | hw => rfl
          case hv => intro w hw; go_simp; first | done | rfl
          simp only [Act.put, getElem_toArray, getElem_cons_zero, getElem_cons_succ, setIfInBounds_toArray, set_cons_zero, set_cons_succ]
          refine Mm.sld3 naSU (fun w h => h) rfl rfl (.tmp 62) 6 (.slice aw nw cw0) rfl rfl rfl ?_
          simp only [Act.put, getElem_toArray, getElem_cons_zero, getElem_cons_succ, setIfInBounds_toArray, set_cons_zero, set_cons_succ]
          apply s_val
          case ho | hw => rfl
          case hv => intro w hw; go_simp; first | done | rfl
          simp only [Act.put, getElem_toArray, getElem_cons_zero, getElem_cons_succ, setIfInBounds_toArray, set_cons_zero, set_cons_succ]
          refine Mm.sld2 naSU (fun w h => h) rfl rfl (.tmp 65) 6 (.slice ai ni ci0) rfl rfl rfl ?_
          simp only [Act.put, getElem_toArray, getElem_cons_zero, getElem_cons_succ, setIfInBounds_toArray, set_cons_zero, set_cons_succ]
          apply s_val
          case ho | hw => rfl
          case hv => intro w hw; go_simp; first | done | rfl
          simp only [Act.put, getElem_toArray, getElem_cons_zero, getElem_cons_succ, setIfInBounds_toArray, set_cons_zero, set_cons_succ]
          refine o_bs0R tyU rfl rfl rfl ?_
          intro b61 _ nw
          have HE := hidp (OwnR.emptyP (k := 2) nw.arr nw.le); have HNE := hidp (show (Value.slice (some ⟨b61, 0, none⟩) 0 0) ≠ .slice none 0 0 from by simp); have HBX := hidp nw.below; have HB0 := H; replace H := hidp (H.out.call nw.below); clear nw
          refine ⟨H.out, ?_⟩
          simp only [Act.put, getElem_toArray, getElem_cons_zero, getElem_cons_succ, setIfInBounds_toArray, set_cons_zero, set_cons_succ]
          refine o_appQ tyU rfl rfl (.tmp 61) (.tmp 63) rfl _ (.slice (some ⟨b61, 0, none⟩) 0 0) (.slice aw nw cw0) [] (uRs was.us) rfl rfl HE.out HNE.out (HVW.out.to H.out.below).rs (uRs_one _) HBX.out.size (by simp only [List.length_nil, uRs_len, HNW.out]; omega) ?_
          intro v61 _ ho hne hb
          simp only [List.nil_append] at ho
          replace HBX := hidp (HBX.out.trans hb); replace H := hidp (HB0.out.call HBX.out); clear HE HNE; have HE := hidp ho; have HNE := hidp hne; clear ho hne hb
          refine ⟨H.out, ?_⟩
          simp only [Act.put, getElem_toArray, getElem_cons_zero, getElem_cons_succ, setIfInBounds_toArray, set_cons_zero, set_cons_succ]
          refine o_appQ tyU rfl rfl (.tmp 64) (.tmp 66) rfl _ v61 (.slice ai ni ci0) (uRs was.us) (uRs is.us) rfl rfl HE.out HNE.out (HVI.out.to H.out.below).rs (uRs_one _) HBX.out.size (by simp only [uRs_len, HNW.out, HNI.out]; omega) ?_
          intro v67 _ ho hne hb
          rw [show uRs was.us ++ uRs is.us = uRs (was.us ++ is.us) from by simp [uRs]] at ho
          obtain ⟨g, cap, cur, rfl, hBg, ha, h1, h2, h3, h4⟩ := OwnR.blkP ho hne
          rw [uRs_len, HUL.out] at h1 ⊢
          replace HBX := hidp (HBX.out.trans hb); replace H := hidp (Mm.M.add (m := 0) HB0.out HBX.out hBg ha); have HCT := hidp h4
          clear HE HNE ho hne hb hBg ha h2 h3 h4 h1
          refine ⟨H.out.tail, ?_⟩
          simp only [Act.put, getElem_toArray, getElem_cons_zero, getElem_cons_succ, setIfInBounds_toArray, set_cons_zero, set_cons_succ]
          apply s_val
          case ho | hw => rfl
          case hv => intro w hw; go_simp; first | done | rfl
          simp only [Act.put, getElem_toArray, getElem_cons_zero, getElem_cons_succ, setIfInBounds_toArray, set_cons_zero, set_cons_succ]
          refine NoPanic.normal ?_
          go_wp2_with fail
          go_loopw [69] (fun t69 wr => ∃ i : Nat, t69 = .int .i64 (i : Int) ∧ i ≤ n ∧ docU was.us is.us (uBad was is u lev) ((was.us ++ is.us).take i) = false ∧ Mm.M w.heap.size w wr [⟨g, 83, cur⟩, ⟨b4, 37, [.int .i64 is.a, .int .i64 is.s, .int .i64 is.i, .int .i64 is.k, .int .i64 is.b, .int .i64 is.r, .slice ai ni ci0]⟩, ⟨b3, 37, [.int .i64 was.a, .int .i64 was.s, .int .i64 was.i, .int .i64 was.k, .int .i64 was.b, .int .i64 was.r, .slice aw nw cw0]⟩]) (fun t69 _ => n - (intOf t69).toNat)
          case atStart => exact ⟨0, rfl, by omega, rfl, H.out.sub ((List.Sublist.cons _ (List.Sublist.cons _ (List.Sublist.refl _))).cons_cons _)⟩
          case round =>
            clear H
            obtain ⟨i, rfl, hi, hok, hM⟩ := hrel
            have HOK := hidp hok; have H := hidp hM
            clear hok hM
            by_cases hlt : i < n
            · have e1 : decide ((i : Int) < (n : Int)) = true := by simp; omega
              have hgl : i < (was.us ++ is.us).length := by rw [HUL.out]; exact hlt
              obtain ⟨p, hpe⟩ : ∃ p, (was.us ++ is.us)[i] = p := ⟨_, rfl⟩
              have HRW := hidp (fun W (h : Arr W g 83 cur) => show W.rangeAt g (0 + 2 * i) (uR p) from by rw [← hpe]; exact row_users h HCT.out hgl)
              have hs := docU_succ was.us is.us (uBad was is u lev) (was.us ++ is.us) hgl
              have hh := fun h => docU_hit (was := was.us) (is := is.us) (bad := uBad was is u lev) hgl h
              rw [hpe, HOK.out] at hs
              rw [hpe] at hh
              have nw9 := hidp (fun W h => rin_any W was.us (.slice aw nw cw0) p h); have ni9 := hidp (fun W h => rin_any W is.us (.slice ai ni ci0) p h)
              have hbo : bothU was.us is.us p = (inB was.us p && inB is.us p) := rfl
              clear hpe hgl
              cases hiw : inB was.us p with
              | false =>
                rw [hiw] at nw9 hbo
                have HFB := hidp (fun h : uBad was is u lev p.1 = true => show chE was is u = 12 from by rw [HC3.out, if_pos (hh (by rw [hbo, h]; rfl))])
                have HNB := hidp (fun h : uBad was is u lev p.1 = false => show docU was.us is.us (uBad was is u lev) ((was.us ++ is.us).take (i + 1)) = false from by rw [hs, hbo, h]; rfl)
                clear hs hh hbo hiw ni9
                have ow := hidp (fun W h => rof_any W was (.slice aw nw cw0) p.1 h); have oi := hidp (fun W h => rof_any W is (.slice ai ni ci0) p.1 h)
                obtain ⟨X, hX⟩ : ∃ z, ofL was p.1 = z := ⟨_, rfl⟩
                obtain ⟨Y, hY⟩ : ∃ z, ofL is p.1 = z := ⟨_, rfl⟩
                have HX := hidp hX; have HY := hidp hY
                rw [hX] at ow
                rw [hY] at oi
                clear hX hY
                by_cases g1 : X > lev
                · have d1 : decide (X > lev) = true := decide_eq_true g1
                  have HF := hidp (HFB.out (by unfold uBad; rw [HX.out, HY.out]; rw [decide_eq_true g1]; rfl))
                  clear HNB HFB g1
                  have tk0 := hidp trivial
                  go_wp2_with (first | (clear tk0; (refine wpL_idxR tyU rfl (.tmp 67) (.tmp 69) rfl g 0 n cap i rfl rfl hlt ?_); (try simp only [Act.put, setIfInBounds_toArray, set_cons_zero, set_cons_succ]); have tk1 := hidp trivial) | (clear tk1; (refine wpL_atR tyU rfl (.tmp 71) rfl g (0 + 2 * i) (uR p) rfl rfl (HRW.out _ H.out.at0) ?_); (try simp only [Act.put, setIfInBounds_toArray, set_cons_zero, set_cons_succ]); have tk2 := hidp trivial) | (clear tk2; (refine Mm.new tyP H (some 12) rfl rfl rfl ?_; clear H; intro b12 _ H nw; have hb := nw.below; clear hb nw); (try simp only [Act.put, setIfInBounds_toArray, set_cons_zero, set_cons_succ]); have tk3 := hidp trivial) | (clear tk3; (refine Mm.put0 tyP H rfl (.tmp 12) (.tmp 72) (uR p) rfl rfl rfl rfl (uR_one p) rfl ?_; intro _ H2 st; clear st H; have H := H2; clear H2); (try simp only [Act.put, setIfInBounds_toArray, set_cons_zero, set_cons_succ]); have tk4 := hidp trivial) | (clear tk4; (refine Mm.ld3 naSU H rfl (.tmp 73) 6 (.slice aw nw cw0) rfl rfl rfl ?_); (try simp only [Act.put, setIfInBounds_toArray, set_cons_zero, set_cons_succ]); have tk5 := hidp trivial) | (clear tk5; (refine Mm.get0 tyP H rfl (.tmp 12) rfl rfl rfl ?_); (try simp only [Act.put, setIfInBounds_toArray, set_cons_zero, set_cons_succ]); have tk6 := hidp trivial) | (clear tk6; (go_at_call 77; refine (nw9.out _ (HVW.out.to H.out.below)).mono ?_; rintro e _ ⟨rfl, hb⟩; replace H := hidp (H.out.call hb); clear nw9; clear hb); (try simp only [Act.put, setIfInBounds_toArray, set_cons_zero, set_cons_succ]); have tk7 := hidp trivial) | (clear tk7; (refine Mm.skipd 78 rfl _ _ rfl rfl ?_); (try simp only [Act.put, setIfInBounds_toArray, set_cons_zero, set_cons_succ]); have tk8 := hidp trivial) | (clear tk8; (refine Mm.skipd 79 rfl _ _ rfl rfl ?_); (try simp only [Act.put, setIfInBounds_toArray, set_cons_zero, set_cons_succ]); have tk9 := hidp trivial) | (clear tk9; (refine Mm.skipd 80 rfl _ _ rfl rfl ?_); (try simp only [Act.put, setIfInBounds_toArray, set_cons_zero, set_cons_succ]); have tk10 := hidp trivial) | (clear tk10; (refine Mm.skipd 81 rfl _ _ rfl rfl ?_); (try simp only [Act.put, setIfInBounds_toArray, set_cons_zero, set_cons_succ]); have tk11 := hidp trivial))
                  try clear tk11
                  refine Mm.region H (.take 0 (.take 1 (.take 2 (.take 4 (.take 5 (.take 6 (.one 3 (.one 7 (.take 8 (.take 9 .done)))))))))) (by kernel_rfl) (by kernel_rfl) (by simp [Scr.depth]) (by kernel_rfl) ?_
                  clear H
                  intro _ H hb
                  clear hb
                  refine Mm.sget3 tyL (fun w h => h) rfl rfl (.tmp 3) rfl rfl rfl ?_
                  simp only [Act.put, getElem_toArray, getElem_cons_zero, getElem_cons_succ, setIfInBounds_toArray, set_cons_zero, set_cons_succ]
                  apply s_val
                  case ho | hw => rfl
                  case hv => intro w hw; go_simp; first | done | rfl
                  simp only [Act.put, getElem_toArray, getElem_cons_zero, getElem_cons_succ, setIfInBounds_toArray, set_cons_zero, set_cons_succ]
                  refine Mm.sld0 naSx (fun w h => h) rfl rfl (.tmp 84) 0 (.string p.1) rfl rfl rfl ?_
                  simp only [Act.put, getElem_toArray, getElem_cons_zero, getElem_cons_succ, setIfInBounds_toArray, set_cons_zero, set_cons_succ]
                  refine Mm.sget2 tyL (fun w h => h) rfl rfl (.tmp 4) rfl rfl rfl ?_
                  simp only [Act.put, getElem_toArray, getElem_cons_zero, getElem_cons_succ, setIfInBounds_toArray, set_cons_zero, set_cons_succ]
                  apply s_val
                  case ho | hw => rfl
                  case hv => intro w hw; go_simp; first | done | rfl
                  simp only [Act.put, getElem_toArray, getElem_cons_zero, getElem_cons_succ, setIfInBounds_toArray, set_cons_zero, set_cons_succ]
                  refine Mm.sld0 naSx (fun w h => h) rfl rfl (.tmp 88) 0 (.string p.1) rfl rfl rfl ?_
                  simp only [Act.put, getElem_toArray, getElem_cons_zero, getElem_cons_succ, setIfInBounds_toArray, set_cons_zero, set_cons_succ]
                  refine Mm.o_callH (v := .int .i64 X) H (fun W h => h) rfl rfl 28 (#[.agg #[.int .i64 was.a, .int .i64 was.s, .int .i64 was.i, .int .i64 was.k, .int .i64 was.b, .int .i64 was.r, .slice aw nw cw0], .string p.1]) (by go_simp; first | done | rfl) (ow.out _ (HVW.out.to H.out.below)) ?_
                  clear H
                  intro _ H hb
                  clear hb
                  simp only [Act.put, getElem_toArray, getElem_cons_zero, getElem_cons_succ, setIfInBounds_toArray, set_cons_zero, set_cons_succ]
                  refine Mm.o_callH (v := .int .i64 Y) H (fun W h => h) rfl rfl 28 (#[.agg #[.int .i64 is.a, .int .i64 is.s, .int .i64 is.i, .int .i64 is.k, .int .i64 is.b, .int .i64 is.r, .slice ai ni ci0], .string p.1]) (by go_simp; first | done | rfl) (oi.out _ (HVI.out.to H.out.below)) ?_
                  clear H
                  intro _ H hb
                  clear hb
                  simp only [Act.put, getElem_toArray, getElem_cons_zero, getElem_cons_succ, setIfInBounds_toArray, set_cons_zero, set_cons_succ]
                  apply s_val
                  case ho | hw => rfl
                  case hv => intro w hw; go_simp; first | done | rfl
                  simp only [Act.put, getElem_toArray, getElem_cons_zero, getElem_cons_succ, setIfInBounds_toArray, set_cons_zero, set_cons_succ]
                  apply s_val
                  case ho | hw => rfl
                  case hv => intro w hw; go_simp; first | done | rfl
                  simp only [Act.put, getElem_toArray, getElem_cons_zero, getElem_cons_succ, setIfInBounds_toArray, set_cons_zero, set_cons_succ]
                  refine NoPanic.normal ?_
                  have tk0 := hidp trivial
                  go_wp2_with (first | (clear tk0; (refine Mm.skipd 95 rfl _ _ rfl rfl ?_); (try simp only [Act.put, setIfInBounds_toArray, set_cons_zero, set_cons_succ]); have tk1 := hidp trivial) | (clear tk1; (refine Mm.skipd 96 rfl _ _ rfl rfl ?_); (try simp only [Act.put, setIfInBounds_toArray, set_cons_zero, set_cons_succ]); have tk2 := hidp trivial) | (clear tk2; (refine Mm.skipd 97 rfl _ _ rfl rfl ?_); (try simp only [Act.put, setIfInBounds_toArray, set_cons_zero, set_cons_succ]); have tk3 := hidp trivial) | (clear tk3; (refine Mm.skipd 98 rfl _ _ rfl rfl ?_); (try simp only [Act.put, setIfInBounds_toArray, set_cons_zero, set_cons_succ]); have tk4 := hidp trivial) | (clear tk4; (refine Mm.skipd 99 rfl _ _ rfl rfl ?_); (try simp only [Act.put, setIfInBounds_toArray, set_cons_zero, set_cons_succ]); have tk5 := hidp trivial) | (clear tk5; (refine Mm.skipd 100 rfl _ _ rfl rfl ?_); (try simp only [Act.put, setIfInBounds_toArray, set_cons_zero, set_cons_succ]); have tk6 := hidp trivial) | (clear tk6; (refine Mm.skipd 101 rfl _ _ rfl rfl ?_); (try simp only [Act.put, setIfInBounds_toArray, set_cons_zero, set_cons_succ]); have tk7 := hidp trivial) | (clear tk7; (refine Mm.skipd 102 rfl _ _ rfl rfl ?_); (try simp only [Act.put, setIfInBounds_toArray, set_cons_zero, set_cons_succ]); have tk8 := hidp trivial) | (clear tk8; (refine Mm.skipd 103 rfl _ _ rfl rfl ?_); (try simp only [Act.put, setIfInBounds_toArray, set_cons_zero, set_cons_succ]); have tk9 := hidp trivial) | (clear tk9; (refine Mm.skipd 106 rfl _ _ rfl rfl ?_); (try simp only [Act.put, setIfInBounds_toArray, set_cons_zero, set_cons_succ]); have tk10 := hidp trivial) | (clear tk10; (refine Mm.skipd 107 rfl _ _ rfl rfl ?_); (try simp only [Act.put, setIfInBounds_toArray, set_cons_zero, set_cons_succ]); have tk11 := hidp trivial) | (clear tk11; (refine Mm.skipd 108 rfl _ _ rfl rfl ?_); (try simp only [Act.put, setIfInBounds_toArray, set_cons_zero, set_cons_succ]); have tk12 := hidp trivial))
                  try clear tk12
                  go_ret
                  exact ⟨by rw [HF.out]; rfl, H.out.below⟩
                · have d1 : decide (X > lev) = false := decide_eq_false g1
                  by_cases g3 : Y > lev
                  · have d3 : decide (Y > lev) = true := decide_eq_true g3
                    have HF := hidp (HFB.out (by unfold uBad; rw [HX.out, HY.out]; rw [decide_eq_true g3, Bool.or_true]))
                    by_cases g2 : X = lev
                    · have d2 : (X == lev) = true := by simp [g2]
                      cases hs : (p.1.toList == u.toList) with
                      | true =>
                        have hsn : (p.1.toList != u.toList) = false := by simp [bne, hs]
                        clear HNB HFB g1 g2 g3
                        have tk0 := hidp trivial
                        go_wp2_with (first | (clear tk0; (refine wpL_idxR tyU rfl (.tmp 67) (.tmp 69) rfl g 0 n cap i rfl rfl hlt ?_); (try simp only [Act.put, setIfInBounds_toArray, set_cons_zero, set_cons_succ]); have tk1 := hidp trivial) | (clear tk1; (refine wpL_atR tyU rfl (.tmp 71) rfl g (0 + 2 * i) (uR p) rfl rfl (HRW.out _ H.out.at0) ?_); (try simp only [Act.put, setIfInBounds_toArray, set_cons_zero, set_cons_succ]); have tk2 := hidp trivial) | (clear tk2; (refine Mm.new tyP H (some 12) rfl rfl rfl ?_; clear H; intro b12 _ H nw; have hb := nw.below; clear hb nw); (try simp only [Act.put, setIfInBounds_toArray, set_cons_zero, set_cons_succ]); have tk3 := hidp trivial) | (clear tk3; (refine Mm.put0 tyP H rfl (.tmp 12) (.tmp 72) (uR p) rfl rfl rfl rfl (uR_one p) rfl ?_; intro _ H2 st; clear st H; have H := H2; clear H2); (try simp only [Act.put, setIfInBounds_toArray, set_cons_zero, set_cons_succ]); have tk4 := hidp trivial) | (clear tk4; (refine Mm.ld3 naSU H rfl (.tmp 73) 6 (.slice aw nw cw0) rfl rfl rfl ?_); (try simp only [Act.put, setIfInBounds_toArray, set_cons_zero, set_cons_succ]); have tk5 := hidp trivial) | (clear tk5; (refine Mm.get0 tyP H rfl (.tmp 12) rfl rfl rfl ?_); (try simp only [Act.put, setIfInBounds_toArray, set_cons_zero, set_cons_succ]); have tk6 := hidp trivial) | (clear tk6; (go_at_call 77; refine (nw9.out _ (HVW.out.to H.out.below)).mono ?_; rintro e _ ⟨rfl, hb⟩; replace H := hidp (H.out.call hb); clear nw9; clear hb); (try simp only [Act.put, setIfInBounds_toArray, set_cons_zero, set_cons_succ]); have tk7 := hidp trivial) | (clear tk7; (refine Mm.skipd 78 rfl _ _ rfl rfl ?_); (try simp only [Act.put, setIfInBounds_toArray, set_cons_zero, set_cons_succ]); have tk8 := hidp trivial) | (clear tk8; (refine Mm.skipd 79 rfl _ _ rfl rfl ?_); (try simp only [Act.put, setIfInBounds_toArray, set_cons_zero, set_cons_succ]); have tk9 := hidp trivial) | (clear tk9; (refine Mm.skipd 80 rfl _ _ rfl rfl ?_); (try simp only [Act.put, setIfInBounds_toArray, set_cons_zero, set_cons_succ]); have tk10 := hidp trivial) | (clear tk10; (refine Mm.skipd 81 rfl _ _ rfl rfl ?_); (try simp only [Act.put, setIfInBounds_toArray, set_cons_zero, set_cons_succ]); have tk11 := hidp trivial))
                        try clear tk11
                        refine Mm.region H (.take 0 (.take 1 (.take 2 (.take 4 (.take 5 (.take 6 (.one 3 (.one 7 (.take 8 (.take 9 .done)))))))))) (by kernel_rfl) (by kernel_rfl) (by simp [Scr.depth]) (by kernel_rfl) ?_
                        clear H
                        intro _ H hb
                        clear hb
                        refine Mm.sget3 tyL (fun w h => h) rfl rfl (.tmp 3) rfl rfl rfl ?_
                        simp only [Act.put, getElem_toArray, getElem_cons_zero, getElem_cons_succ, setIfInBounds_toArray, set_cons_zero, set_cons_succ]
                        apply s_val
                        case ho | hw => rfl
                        case hv => intro w hw; go_simp; first | done | rfl
                        simp only [Act.put, getElem_toArray, getElem_cons_zero, getElem_cons_succ, setIfInBounds_toArray, set_cons_zero, set_cons_succ]
                        refine Mm.sld0 naSx (fun w h => h) rfl rfl (.tmp 84) 0 (.string p.1) rfl rfl rfl ?_
                        simp only [Act.put, getElem_toArray, getElem_cons_zero, getElem_cons_succ, setIfInBounds_toArray, set_cons_zero, set_cons_succ]
                        refine Mm.sget2 tyL (fun w h => h) rfl rfl (.tmp 4) rfl rfl rfl ?_
                        simp only [Act.put, getElem_toArray, getElem_cons_zero, getElem_cons_succ, setIfInBounds_toArray, set_cons_zero, set_cons_succ]
                        apply s_val
                        case ho | hw => rfl
                        case hv => intro w hw; go_simp; first | done | rfl
                        simp only [Act.put, getElem_toArray, getElem_cons_zero, getElem_cons_succ, setIfInBounds_toArray, set_cons_zero, set_cons_succ]
                        refine Mm.sld0 naSx (fun w h => h) rfl rfl (.tmp 88) 0 (.string p.1) rfl rfl rfl ?_
                        simp only [Act.put, getElem_toArray, getElem_cons_zero, getElem_cons_succ, setIfInBounds_toArray, set_cons_zero, set_cons_succ]
                        refine Mm.o_callH (v := .int .i64 X) H (fun W h => h) rfl rfl 28 (#[.agg #[.int .i64 was.a, .int .i64 was.s, .int .i64 was.i, .int .i64 was.k, .int .i64 was.b, .int .i64 was.r, .slice aw nw cw0], .string p.1]) (by go_simp; first | done | rfl) (ow.out _ (HVW.out.to H.out.below)) ?_
                        clear H
                        intro _ H hb
                        clear hb
                        simp only [Act.put, getElem_toArray, getElem_cons_zero, getElem_cons_succ, setIfInBounds_toArray, set_cons_zero, set_cons_succ]
                        refine Mm.o_callH (v := .int .i64 Y) H (fun W h => h) rfl rfl 28 (#[.agg #[.int .i64 is.a, .int .i64 is.s, .int .i64 is.i, .int .i64 is.k, .int .i64 is.b, .int .i64 is.r, .slice ai ni ci0], .string p.1]) (by go_simp; first | done | rfl) (oi.out _ (HVI.out.to H.out.below)) ?_
                        clear H
                        intro _ H hb
                        clear hb
                        simp only [Act.put, getElem_toArray, getElem_cons_zero, getElem_cons_succ, setIfInBounds_toArray, set_cons_zero, set_cons_succ]
                        apply s_val
                        case ho | hw => rfl
                        case hv => intro w hw; go_simp; first | done | rfl
                        simp only [Act.put, getElem_toArray, getElem_cons_zero, getElem_cons_succ, setIfInBounds_toArray, set_cons_zero, set_cons_succ]
                        apply s_val
                        case ho | hw => rfl
                        case hv => intro w hw; go_simp; first | done | rfl
                        simp only [Act.put, getElem_toArray, getElem_cons_zero, getElem_cons_succ, setIfInBounds_toArray, set_cons_zero, set_cons_succ]
                        refine NoPanic.normal ?_
                        have tk0 := hidp trivial
                        go_wp2_with (first | (clear tk0; (refine Mm.ld0 naSx H rfl (.tmp 99) 0 (.string p.1) rfl rfl rfl ?_); (try simp only [Act.put, setIfInBounds_toArray, set_cons_zero, set_cons_succ]); have tk1 := hidp trivial))
                        try clear tk1
                        go_ret
                        exact ⟨by rw [HF.out]; rfl, H.out.below⟩
                      | false =>
                        have hsn : (p.1.toList != u.toList) = true := by simp [bne, hs]
                        clear HNB HFB g1 g2 g3
                        have tk0 := hidp trivial
                        go_wp2_with (first | (clear tk0; (refine wpL_idxR tyU rfl (.tmp 67) (.tmp 69) rfl g 0 n cap i rfl rfl hlt ?_); (try simp only [Act.put, setIfInBounds_toArray, set_cons_zero, set_cons_succ]); have tk1 := hidp trivial) | (clear tk1; (refine wpL_atR tyU rfl (.tmp 71) rfl g (0 + 2 * i) (uR p) rfl rfl (HRW.out _ H.out.at0) ?_); (try simp only [Act.put, setIfInBounds_toArray, set_cons_zero, set_cons_succ]); have tk2 := hidp trivial) | (clear tk2; (refine Mm.new tyP H (some 12) rfl rfl rfl ?_; clear H; intro b12 _ H nw; have hb := nw.below; clear hb nw); (try simp only [Act.put, setIfInBounds_toArray, set_cons_zero, set_cons_succ]); have tk3 := hidp trivial) | (clear tk3; (refine Mm.put0 tyP H rfl (.tmp 12) (.tmp 72) (uR p) rfl rfl rfl rfl (uR_one p) rfl ?_; intro _ H2 st; clear st H; have H := H2; clear H2); (try simp only [Act.put, setIfInBounds_toArray, set_cons_zero, set_cons_succ]); have tk4 := hidp trivial) | (clear tk4; (refine Mm.ld3 naSU H rfl (.tmp 73) 6 (.slice aw nw cw0) rfl rfl rfl ?_); (try simp only [Act.put, setIfInBounds_toArray, set_cons_zero, set_cons_succ]); have tk5 := hidp trivial) | (clear tk5; (refine Mm.get0 tyP H rfl (.tmp 12) rfl rfl rfl ?_); (try simp only [Act.put, setIfInBounds_toArray, set_cons_zero, set_cons_succ]); have tk6 := hidp trivial) | (clear tk6; (go_at_call 77; refine (nw9.out _ (HVW.out.to H.out.below)).mono ?_; rintro e _ ⟨rfl, hb⟩; replace H := hidp (H.out.call hb); clear nw9; clear hb); (try simp only [Act.put, setIfInBounds_toArray, set_cons_zero, set_cons_succ]); have tk7 := hidp trivial) | (clear tk7; (refine Mm.skipd 78 rfl _ _ rfl rfl ?_); (try simp only [Act.put, setIfInBounds_toArray, set_cons_zero, set_cons_succ]); have tk8 := hidp trivial) | (clear tk8; (refine Mm.skipd 79 rfl _ _ rfl rfl ?_); (try simp only [Act.put, setIfInBounds_toArray, set_cons_zero, set_cons_succ]); have tk9 := hidp trivial) | (clear tk9; (refine Mm.skipd 80 rfl _ _ rfl rfl ?_); (try simp only [Act.put, setIfInBounds_toArray, set_cons_zero, set_cons_succ]); have tk10 := hidp trivial) | (clear tk10; (refine Mm.skipd 81 rfl _ _ rfl rfl ?_); (try simp only [Act.put, setIfInBounds_toArray, set_cons_zero, set_cons_succ]); have tk11 := hidp trivial))
                        try clear tk11
                        refine Mm.region H (.take 0 (.take 1 (.take 2 (.take 4 (.take 5 (.take 6 (.one 3 (.one 7 (.take 8 (.take 9 .done)))))))))) (by kernel_rfl) (by kernel_rfl) (by simp [Scr.depth]) (by kernel_rfl) ?_
                        clear H
                        intro _ H hb
                        clear hb
                        refine Mm.sget3 tyL (fun w h => h) rfl rfl (.tmp 3) rfl rfl rfl ?_
                        simp only [Act.put, getElem_toArray, getElem_cons_zero, getElem_cons_succ, setIfInBounds_toArray, set_cons_zero, set_cons_succ]
                        apply s_val
                        case ho | hw => rfl
                        case hv => intro w hw; go_simp; first | done | rfl
                        simp only [Act.put, getElem_toArray, getElem_cons_zero, getElem_cons_succ, setIfInBounds_toArray, set_cons_zero, set_cons_succ]
                        refine Mm.sld0 naSx (fun w h => h) rfl rfl (.tmp 84) 0 (.string p.1) rfl rfl rfl ?_
                        simp only [Act.put, getElem_toArray, getElem_cons_zero, getElem_cons_succ, setIfInBounds_toArray, set_cons_zero, set_cons_succ]
                        refine Mm.sget2 tyL (fun w h => h) rfl rfl (.tmp 4) rfl rfl rfl ?_
                        simp only [Act.put, getElem_toArray, getElem_cons_zero, getElem_cons_succ, setIfInBounds_toArray, set_cons_zero, set_cons_succ]
                        apply s_val
                        case ho | hw => rfl
                        case hv => intro w hw; go_simp; first | done | rfl
                        simp only [Act.put, getElem_toArray, getElem_cons_zero, getElem_cons_succ, setIfInBounds_toArray, set_cons_zero, set_cons_succ]
                        refine Mm.sld0 naSx (fun w h => h) rfl rfl (.tmp 88) 0 (.string p.1) rfl rfl rfl ?_
                        simp only [Act.put, getElem_toArray, getElem_cons_zero, getElem_cons_succ, setIfInBounds_toArray, set_cons_zero, set_cons_succ]
                        refine Mm.o_callH (v := .int .i64 X) H (fun W h => h) rfl rfl 28 (#[.agg #[.int .i64 was.a, .int .i64 was.s, .int .i64 was.i, .int .i64 was.k, .int .i64 was.b, .int .i64 was.r, .slice aw nw cw0], .string p.1]) (by go_simp; first | done | rfl) (ow.out _ (HVW.out.to H.out.below)) ?_
                        clear H
                        intro _ H hb
                        clear hb
                        simp only [Act.put, getElem_toArray, getElem_cons_zero, getElem_cons_succ, setIfInBounds_toArray, set_cons_zero, set_cons_succ]
                        refine Mm.o_callH (v := .int .i64 Y) H (fun W h => h) rfl rfl 28 (#[.agg #[.int .i64 is.a, .int .i64 is.s, .int .i64 is.i, .int .i64 is.k, .int .i64 is.b, .int .i64 is.r, .slice ai ni ci0], .string p.1]) (by go_simp; first | done | rfl) (oi.out _ (HVI.out.to H.out.below)) ?_
                        clear H
                        intro _ H hb
                        clear hb
                        simp only [Act.put, getElem_toArray, getElem_cons_zero, getElem_cons_succ, setIfInBounds_toArray, set_cons_zero, set_cons_succ]
                        apply s_val
                        case ho | hw => rfl
                        case hv => intro w hw; go_simp; first | done | rfl
                        simp only [Act.put, getElem_toArray, getElem_cons_zero, getElem_cons_succ, setIfInBounds_toArray, set_cons_zero, set_cons_succ]
                        apply s_val
                        case ho | hw => rfl
                        case hv => intro w hw; go_simp; first | done | rfl
                        simp only [Act.put, getElem_toArray, getElem_cons_zero, getElem_cons_succ, setIfInBounds_toArray, set_cons_zero, set_cons_succ]
                        refine NoPanic.normal ?_
                        have tk0 := hidp trivial
                        go_wp2_with (first | (clear tk0; (refine Mm.ld0 naSx H rfl (.tmp 99) 0 (.string p.1) rfl rfl rfl ?_); (try simp only [Act.put, setIfInBounds_toArray, set_cons_zero, set_cons_succ]); have tk1 := hidp trivial) | (clear tk1; (refine Mm.skipd 106 rfl _ _ rfl rfl ?_); (try simp only [Act.put, setIfInBounds_toArray, set_cons_zero, set_cons_succ]); have tk2 := hidp trivial) | (clear tk2; (refine Mm.skipd 107 rfl _ _ rfl rfl ?_); (try simp only [Act.put, setIfInBounds_toArray, set_cons_zero, set_cons_succ]); have tk3 := hidp trivial) | (clear tk3; (refine Mm.skipd 108 rfl _ _ rfl rfl ?_); (try simp only [Act.put, setIfInBounds_toArray, set_cons_zero, set_cons_succ]); have tk4 := hidp trivial))
                        try clear tk4
                        go_ret
                        exact ⟨by rw [HF.out]; rfl, H.out.below⟩
                    · have d2 : (X == lev) = false := by simpa using g2
                      clear HNB HFB g1 g2 g3
                      have tk0 := hidp trivial
                      go_wp2_with (first | (clear tk0; (refine wpL_idxR tyU rfl (.tmp 67) (.tmp 69) rfl g 0 n cap i rfl rfl hlt ?_); (try simp only [Act.put, setIfInBounds_toArray, set_cons_zero, set_cons_succ]); have tk1 := hidp trivial) | (clear tk1; (refine wpL_atR tyU rfl (.tmp 71) rfl g (0 + 2 * i) (uR p) rfl rfl (HRW.out _ H.out.at0) ?_); (try simp only [Act.put, setIfInBounds_toArray, set_cons_zero, set_cons_succ]); have tk2 := hidp trivial) | (clear tk2; (refine Mm.new tyP H (some 12) rfl rfl rfl ?_; clear H; intro b12 _ H nw; have hb := nw.below; clear hb nw); (try simp only [Act.put, setIfInBounds_toArray, set_cons_zero, set_cons_succ]); have tk3 := hidp trivial) | (clear tk3; (refine Mm.put0 tyP H rfl (.tmp 12) (.tmp 72) (uR p) rfl rfl rfl rfl (uR_one p) rfl ?_; intro _ H2 st; clear st H; have H := H2; clear H2); (try simp only [Act.put, setIfInBounds_toArray, set_cons_zero, set_cons_succ]); have tk4 := hidp trivial) | (clear tk4; (refine Mm.ld3 naSU H rfl (.tmp 73) 6 (.slice aw nw cw0) rfl rfl rfl ?_); (try simp only [Act.put, setIfInBounds_toArray, set_cons_zero, set_cons_succ]); have tk5 := hidp trivial) | (clear tk5; (refine Mm.get0 tyP H rfl (.tmp 12) rfl rfl rfl ?_); (try simp only [Act.put, setIfInBounds_toArray, set_cons_zero, set_cons_succ]); have tk6 := hidp trivial) | (clear tk6; (go_at_call 77; refine (nw9.out _ (HVW.out.to H.out.below)).mono ?_; rintro e _ ⟨rfl, hb⟩; replace H := hidp (H.out.call hb); clear nw9; clear hb); (try simp only [Act.put, setIfInBounds_toArray, set_cons_zero, set_cons_succ]); have tk7 := hidp trivial) | (clear tk7; (refine Mm.skipd 78 rfl _ _ rfl rfl ?_); (try simp only [Act.put, setIfInBounds_toArray, set_cons_zero, set_cons_succ]); have tk8 := hidp trivial) | (clear tk8; (refine Mm.skipd 79 rfl _ _ rfl rfl ?_); (try simp only [Act.put, setIfInBounds_toArray, set_cons_zero, set_cons_succ]); have tk9 := hidp trivial) | (clear tk9; (refine Mm.skipd 80 rfl _ _ rfl rfl ?_); (try simp only [Act.put, setIfInBounds_toArray, set_cons_zero, set_cons_succ]); have tk10 := hidp trivial) | (clear tk10; (refine Mm.skipd 81 rfl _ _ rfl rfl ?_); (try simp only [Act.put, setIfInBounds_toArray, set_cons_zero, set_cons_succ]); have tk11 := hidp trivial))
                      try clear tk11
                      refine Mm.region H (.take 0 (.take 1 (.take 2 (.take 4 (.take 5 (.take 6 (.one 3 (.one 7 (.take 8 (.take 9 .done)))))))))) (by kernel_rfl) (by kernel_rfl) (by simp [Scr.depth]) (by kernel_rfl) ?_
                      clear H
                      intro _ H hb
                      clear hb
                      refine Mm.sget3 tyL (fun w h => h) rfl rfl (.tmp 3) rfl rfl rfl ?_
                      simp only [Act.put, getElem_toArray, getElem_cons_zero, getElem_cons_succ, setIfInBounds_toArray, set_cons_zero, set_cons_succ]
                      apply s_val
                      case ho | hw => rfl
                      case hv => intro w hw; go_simp; first | done | rfl
                      simp only [Act.put, getElem_toArray, getElem_cons_zero, getElem_cons_succ, setIfInBounds_toArray, set_cons_zero, set_cons_succ]
                      refine Mm.sld0 naSx (fun w h => h) rfl rfl (.tmp 84) 0 (.string p.1) rfl rfl rfl ?_
                      simp only [Act.put, getElem_toArray, getElem_cons_zero, getElem_cons_succ, setIfInBounds_toArray, set_cons_zero, set_cons_succ]
                      refine Mm.sget2 tyL (fun w h => h) rfl rfl (.tmp 4) rfl rfl rfl ?_
                      simp only [Act.put, getElem_toArray, getElem_cons_zero, getElem_cons_succ, setIfInBounds_toArray, set_cons_zero, set_cons_succ]
                      apply s_val
                      case ho | hw => rfl
                      case hv => intro w hw; go_simp; first | done | rfl
                      simp only [Act.put, getElem_toArray, getElem_cons_zero, getElem_cons_succ, setIfInBounds_toArray, set_cons_zero, set_cons_succ]
                      refine Mm.sld0 naSx (fun w h => h) rfl rfl (.tmp 88) 0 (.string p.1) rfl rfl rfl ?_
                      simp only [Act.put, getElem_toArray, getElem_cons_zero, getElem_cons_succ, setIfInBounds_toArray, set_cons_zero, set_cons_succ]
                      refine Mm.o_callH (v := .int .i64 X) H (fun W h => h) rfl rfl 28 (#[.agg #[.int .i64 was.a, .int .i64 was.s, .int .i64 was.i, .int .i64 was.k, .int .i64 was.b, .int .i64 was.r, .slice aw nw cw0], .string p.1]) (by go_simp; first | done | rfl) (ow.out _ (HVW.out.to H.out.below)) ?_
                      clear H
                      intro _ H hb
                      clear hb
                      simp only [Act.put, getElem_toArray, getElem_cons_zero, getElem_cons_succ, setIfInBounds_toArray, set_cons_zero, set_cons_succ]
                      refine Mm.o_callH (v := .int .i64 Y) H (fun W h => h) rfl rfl 28 (#[.agg #[.int .i64 is.a, .int .i64 is.s, .int .i64 is.i, .int .i64 is.k, .int .i64 is.b, .int .i64 is.r, .slice ai ni ci0], .string p.1]) (by go_simp; first | done | rfl) (oi.out _ (HVI.out.to H.out.below)) ?_
                      clear H
                      intro _ H hb
                      clear hb
                      simp only [Act.put, getElem_toArray, getElem_cons_zero, getElem_cons_succ, setIfInBounds_toArray, set_cons_zero, set_cons_succ]
                      apply s_val
                      case ho | hw => rfl
                      case hv => intro w hw; go_simp; first | done | rfl
                      simp only [Act.put, getElem_toArray, getElem_cons_zero, getElem_cons_succ, setIfInBounds_toArray, set_cons_zero, set_cons_succ]
                      apply s_val
                      case ho | hw => rfl
                      case hv => intro w hw; go_simp; first | done | rfl
                      simp only [Act.put, getElem_toArray, getElem_cons_zero, getElem_cons_succ, setIfInBounds_toArray, set_cons_zero, set_cons_succ]
                      refine NoPanic.normal ?_
                      have tk0 := hidp trivial
                      go_wp2_with (first | (clear tk0; (refine Mm.skipd 99 rfl _ _ rfl rfl ?_); (try simp only [Act.put, setIfInBounds_toArray, set_cons_zero, set_cons_succ]); have tk1 := hidp trivial) | (clear tk1; (refine Mm.skipd 100 rfl _ _ rfl rfl ?_); (try simp only [Act.put, setIfInBounds_toArray, set_cons_zero, set_cons_succ]); have tk2 := hidp trivial) | (clear tk2; (refine Mm.skipd 101 rfl _ _ rfl rfl ?_); (try simp only [Act.put, setIfInBounds_toArray, set_cons_zero, set_cons_succ]); have tk3 := hidp trivial) | (clear tk3; (refine Mm.skipd 102 rfl _ _ rfl rfl ?_); (try simp only [Act.put, setIfInBounds_toArray, set_cons_zero, set_cons_succ]); have tk4 := hidp trivial))
                      try clear tk4
                      go_ret
                      exact ⟨by rw [HF.out]; rfl, H.out.below⟩
                  · have d3 : decide (Y > lev) = false := decide_eq_false g3
                    by_cases g2 : X = lev
                    · have d2 : (X == lev) = true := by simp [g2]
                      cases hs : (p.1.toList == u.toList) with
                      | true =>
                        have hsn : (p.1.toList != u.toList) = false := by simp [bne, hs]
                        have HOK2 := hidp (HNB.out (by unfold uBad; rw [HX.out, HY.out]; rw [d1, d3, hsn, Bool.and_false]; rfl))
                        clear HNB HFB g1 g2 g3
                        have tk0 := hidp trivial
                        go_wp2_with (first | (clear tk0; (refine wpL_idxR tyU rfl (.tmp 67) (.tmp 69) rfl g 0 n cap i rfl rfl hlt ?_); (try simp only [Act.put, setIfInBounds_toArray, set_cons_zero, set_cons_succ]); have tk1 := hidp trivial) | (clear tk1; (refine wpL_atR tyU rfl (.tmp 71) rfl g (0 + 2 * i) (uR p) rfl rfl (HRW.out _ H.out.at0) ?_); (try simp only [Act.put, setIfInBounds_toArray, set_cons_zero, set_cons_succ]); have tk2 := hidp trivial) | (clear tk2; (refine Mm.new tyP H (some 12) rfl rfl rfl ?_; clear H; intro b12 _ H nw; have hb := nw.below; clear hb nw); (try simp only [Act.put, setIfInBounds_toArray, set_cons_zero, set_cons_succ]); have tk3 := hidp trivial) | (clear tk3; (refine Mm.put0 tyP H rfl (.tmp 12) (.tmp 72) (uR p) rfl rfl rfl rfl (uR_one p) rfl ?_; intro _ H2 st; clear st H; have H := H2; clear H2); (try simp only [Act.put, setIfInBounds_toArray, set_cons_zero, set_cons_succ]); have tk4 := hidp trivial) | (clear tk4; (refine Mm.ld3 naSU H rfl (.tmp 73) 6 (.slice aw nw cw0) rfl rfl rfl ?_); (try simp only [Act.put, setIfInBounds_toArray, set_cons_zero, set_cons_succ]); have tk5 := hidp trivial) | (clear tk5; (refine Mm.get0 tyP H rfl (.tmp 12) rfl rfl rfl ?_); (try simp only [Act.put, setIfInBounds_toArray, set_cons_zero, set_cons_succ]); have tk6 := hidp trivial) | (clear tk6; (go_at_call 77; refine (nw9.out _ (HVW.out.to H.out.below)).mono ?_; rintro e _ ⟨rfl, hb⟩; replace H := hidp (H.out.call hb); clear nw9; clear hb); (try simp only [Act.put, setIfInBounds_toArray, set_cons_zero, set_cons_succ]); have tk7 := hidp trivial) | (clear tk7; (refine Mm.skipd 78 rfl _ _ rfl rfl ?_); (try simp only [Act.put, setIfInBounds_toArray, set_cons_zero, set_cons_succ]); have tk8 := hidp trivial) | (clear tk8; (refine Mm.skipd 79 rfl _ _ rfl rfl ?_); (try simp only [Act.put, setIfInBounds_toArray, set_cons_zero, set_cons_succ]); have tk9 := hidp trivial) | (clear tk9; (refine Mm.skipd 80 rfl _ _ rfl rfl ?_); (try simp only [Act.put, setIfInBounds_toArray, set_cons_zero, set_cons_succ]); have tk10 := hidp trivial) | (clear tk10; (refine Mm.skipd 81 rfl _ _ rfl rfl ?_); (try simp only [Act.put, setIfInBounds_toArray, set_cons_zero, set_cons_succ]); have tk11 := hidp trivial))
                        try clear tk11
                        refine Mm.region H (.take 0 (.take 1 (.take 2 (.take 4 (.take 5 (.take 6 (.one 3 (.one 7 (.take 8 (.take 9 .done)))))))))) (by kernel_rfl) (by kernel_rfl) (by simp [Scr.depth]) (by kernel_rfl) ?_
                        clear H
                        intro _ H hb
                        clear hb
                        refine Mm.sget3 tyL (fun w h => h) rfl rfl (.tmp 3) rfl rfl rfl ?_
                        simp only [Act.put, getElem_toArray, getElem_cons_zero, getElem_cons_succ, setIfInBounds_toArray, set_cons_zero, set_cons_succ]
                        apply s_val
                        case ho | hw => rfl
                        case hv => intro w hw; go_simp; first | done | rfl
                        simp only [Act.put, getElem_toArray, getElem_cons_zero, getElem_cons_succ, setIfInBounds_toArray, set_cons_zero, set_cons_succ]
                        refine Mm.sld0 naSx (fun w h => h) rfl rfl (.tmp 84) 0 (.string p.1) rfl rfl rfl ?_
                        simp only [Act.put, getElem_toArray, getElem_cons_zero, getElem_cons_succ, setIfInBounds_toArray, set_cons_zero, set_cons_succ]
                        refine Mm.sget2 tyL (fun w h => h) rfl rfl (.tmp 4) rfl rfl rfl ?_
                        simp only [Act.put, getElem_toArray, getElem_cons_zero, getElem_cons_succ, setIfInBounds_toArray, set_cons_zero, set_cons_succ]
                        apply s_val
                        case ho | hw => rfl
                        case hv => intro w hw; go_simp; first | done | rfl
                        simp only [Act.put, getElem_toArray, getElem_cons_zero, getElem_cons_succ, setIfInBounds_toArray, set_cons_zero, set_cons_succ]
                        refine Mm.sld0 naSx (fun w h => h) rfl rfl (.tmp 88) 0 (.string p.1) rfl rfl rfl ?_
                        simp only [Act.put, getElem_toArray, getElem_cons_zero, getElem_cons_succ, setIfInBounds_toArray, set_cons_zero, set_cons_succ]
                        refine Mm.o_callH (v := .int .i64 X) H (fun W h => h) rfl rfl 28 (#[.agg #[.int .i64 was.a, .int .i64 was.s, .int .i64 was.i, .int .i64 was.k, .int .i64 was.b, .int .i64 was.r, .slice aw nw cw0], .string p.1]) (by go_simp; first | done | rfl) (ow.out _ (HVW.out.to H.out.below)) ?_
                        clear H
                        intro _ H hb
                        clear hb
                        simp only [Act.put, getElem_toArray, getElem_cons_zero, getElem_cons_succ, setIfInBounds_toArray, set_cons_zero, set_cons_succ]
                        refine Mm.o_callH (v := .int .i64 Y) H (fun W h => h) rfl rfl 28 (#[.agg #[.int .i64 is.a, .int .i64 is.s, .int .i64 is.i, .int .i64 is.k, .int .i64 is.b, .int .i64 is.r, .slice ai ni ci0], .string p.1]) (by go_simp; first | done | rfl) (oi.out _ (HVI.out.to H.out.below)) ?_
                        clear H
                        intro _ H hb
                        clear hb
                        simp only [Act.put, getElem_toArray, getElem_cons_zero, getElem_cons_succ, setIfInBounds_toArray, set_cons_zero, set_cons_succ]
                        apply s_val
                        case ho | hw => rfl
                        case hv => intro w hw; go_simp; first | done | rfl
                        simp only [Act.put, getElem_toArray, getElem_cons_zero, getElem_cons_succ, setIfInBounds_toArray, set_cons_zero, set_cons_succ]
                        apply s_val
                        case ho | hw => rfl
                        case hv => intro w hw; go_simp; first | done | rfl
                        simp only [Act.put, getElem_toArray, getElem_cons_zero, getElem_cons_succ, setIfInBounds_toArray, set_cons_zero, set_cons_succ]
                        refine NoPanic.normal ?_
                        have tk0 := hidp trivial
                        go_wp2_with (first | (clear tk0; (refine Mm.ld0 naSx H rfl (.tmp 99) 0 (.string p.1) rfl rfl rfl ?_); (try simp only [Act.put, setIfInBounds_toArray, set_cons_zero, set_cons_succ]); have tk1 := hidp trivial))
                        try clear tk1
                        exact ⟨⟨i + 1, by go_num, by omega, HOK2.out, H.out.tail⟩, by simp [intOf]; omega⟩
                      | false =>
                        have hsn : (p.1.toList != u.toList) = true := by simp [bne, hs]
                        have HF := hidp (HFB.out (by unfold uBad; rw [HX.out, HY.out]; rw [d2, hsn, Bool.and_true, Bool.or_true]; rfl))
                        clear HNB HFB g1 g2 g3
                        have tk0 := hidp trivial
                        go_wp2_with (first | (clear tk0; (refine wpL_idxR tyU rfl (.tmp 67) (.tmp 69) rfl g 0 n cap i rfl rfl hlt ?_); (try simp only [Act.put, setIfInBounds_toArray, set_cons_zero, set_cons_succ]); have tk1 := hidp trivial) | (clear tk1; (refine wpL_atR tyU rfl (.tmp 71) rfl g (0 + 2 * i) (uR p) rfl rfl (HRW.out _ H.out.at0) ?_); (try simp only [Act.put, setIfInBounds_toArray, set_cons_zero, set_cons_succ]); have tk2 := hidp trivial) | (clear tk2; (refine Mm.new tyP H (some 12) rfl rfl rfl ?_; clear H; intro b12 _ H nw; have hb := nw.below; clear hb nw); (try simp only [Act.put, setIfInBounds_toArray, set_cons_zero, set_cons_succ]); have tk3 := hidp trivial) | (clear tk3; (refine Mm.put0 tyP H rfl (.tmp 12) (.tmp 72) (uR p) rfl rfl rfl rfl (uR_one p) rfl ?_; intro _ H2 st; clear st H; have H := H2; clear H2); (try simp only [Act.put, setIfInBounds_toArray, set_cons_zero, set_cons_succ]); have tk4 := hidp trivial) | (clear tk4; (refine Mm.ld3 naSU H rfl (.tmp 73) 6 (.slice aw nw cw0) rfl rfl rfl ?_); (try simp only [Act.put, setIfInBounds_toArray, set_cons_zero, set_cons_succ]); have tk5 := hidp trivial) | (clear tk5; (refine Mm.get0 tyP H rfl (.tmp 12) rfl rfl rfl ?_); (try simp only [Act.put, setIfInBounds_toArray, set_cons_zero, set_cons_succ]); have tk6 := hidp trivial) | (clear tk6; (go_at_call 77; refine (nw9.out _ (HVW.out.to H.out.below)).mono ?_; rintro e _ ⟨rfl, hb⟩; replace H := hidp (H.out.call hb); clear nw9; clear hb); (try simp only [Act.put, setIfInBounds_toArray, set_cons_zero, set_cons_succ]); have tk7 := hidp trivial) | (clear tk7; (refine Mm.skipd 78 rfl _ _ rfl rfl ?_); (try simp only [Act.put, setIfInBounds_toArray, set_cons_zero, set_cons_succ]); have tk8 := hidp trivial) | (clear tk8; (refine Mm.skipd 79 rfl _ _ rfl rfl ?_); (try simp only [Act.put, setIfInBounds_toArray, set_cons_zero, set_cons_succ]); have tk9 := hidp trivial) | (clear tk9; (refine Mm.skipd 80 rfl _ _ rfl rfl ?_); (try simp only [Act.put, setIfInBounds_toArray, set_cons_zero, set_cons_succ]); have tk10 := hidp trivial) | (clear tk10; (refine Mm.skipd 81 rfl _ _ rfl rfl ?_); (try simp only [Act.put, setIfInBounds_toArray, set_cons_zero, set_cons_succ]); have tk11 := hidp trivial))
                        try clear tk11
                        refine Mm.region H (.take 0 (.take 1 (.take 2 (.take 4 (.take 5 (.take 6 (.one 3 (.one 7 (.take 8 (.take 9 .done)))))))))) (by kernel_rfl) (by kernel_rfl) (by simp [Scr.depth]) (by kernel_rfl) ?_
                        clear H
                        intro _ H hb
                        clear hb
                        refine Mm.sget3 tyL (fun w h => h) rfl rfl (.tmp 3) rfl rfl rfl ?_
                        simp only [Act.put, getElem_toArray, getElem_cons_zero, getElem_cons_succ, setIfInBounds_toArray, set_cons_zero, set_cons_succ]
                        apply s_val
                        case ho | hw => rfl
                        case hv => intro w hw; go_simp; first | done | rfl
                        simp only [Act.put, getElem_toArray, getElem_cons_zero, getElem_cons_succ, setIfInBounds_toArray, set_cons_zero, set_cons_succ]
                        refine Mm.sld0 naSx (fun w h => h) rfl rfl (.tmp 84) 0 (.string p.1) rfl rfl rfl ?_
                        simp only [Act.put, getElem_toArray, getElem_cons_zero, getElem_cons_succ, setIfInBounds_toArray, set_cons_zero, set_cons_succ]
                        refine Mm.sget2 tyL (fun w h => h) rfl rfl (.tmp 4) rfl rfl rfl ?_
                        simp only [Act.put, getElem_toArray, getElem_cons_zero, getElem_cons_succ, setIfInBounds_toArray, set_cons_zero, set_cons_succ]
                        apply s_val
                        case ho | hw => rfl
                        case hv => intro w hw; go_simp; first | done | rfl
                        simp only [Act.put, getElem_toArray, getElem_cons_zero, getElem_cons_succ, setIfInBounds_toArray, set_cons_zero, set_cons_succ]
                        refine Mm.sld0 naSx (fun w h => h) rfl rfl (.tmp 88) 0 (.string p.1) rfl rfl rfl ?_
                        simp only [Act.put, getElem_toArray, getElem_cons_zero, getElem_cons_succ, setIfInBounds_toArray, set_cons_zero, set_cons_succ]
                        refine Mm.o_callH (v := .int .i64 X) H (fun W h => h) rfl rfl 28 (#[.agg #[.int .i64 was.a, .int .i64 was.s, .int .i64 was.i, .int .i64 was.k, .int .i64 was.b, .int .i64 was.r, .slice aw nw cw0], .string p.1]) (by go_simp; first | done | rfl) (ow.out _ (HVW.out.to H.out.below)) ?_
                        clear H
                        intro _ H hb
                        clear hb
                        simp only [Act.put, getElem_toArray, getElem_cons_zero, getElem_cons_succ, setIfInBounds_toArray, set_cons_zero, set_cons_succ]
                        refine Mm.o_callH (v := .int .i64 Y) H (fun W h => h) rfl rfl 28 (#[.agg #[.int .i64 is.a, .int .i64 is.s, .int .i64 is.i, .int .i64 is.k, .int .i64 is.b, .int .i64 is.r, .slice ai ni ci0], .string p.1]) (by go_simp; first | done | rfl) (oi.out _ (HVI.out.to H.out.below)) ?_
                        clear H
                        intro _ H hb
                        clear hb
                        simp only [Act.put, getElem_toArray, getElem_cons_zero, getElem_cons_succ, setIfInBounds_toArray, set_cons_zero, set_cons_succ]
                        apply s_val
                        case ho | hw => rfl
                        case hv => intro w hw; go_simp; first | done | rfl
                        simp only [Act.put, getElem_toArray, getElem_cons_zero, getElem_cons_succ, setIfInBounds_toArray, set_cons_zero, set_cons_succ]
                        apply s_val
                        case ho | hw => rfl
                        case hv => intro w hw; go_simp; first | done | rfl
                        simp only [Act.put, getElem_toArray, getElem_cons_zero, getElem_cons_succ, setIfInBounds_toArray, set_cons_zero, set_cons_succ]
                        refine NoPanic.normal ?_
                        have tk0 := hidp trivial
                        go_wp2_with (first | (clear tk0; (refine Mm.ld0 naSx H rfl (.tmp 99) 0 (.string p.1) rfl rfl rfl ?_); (try simp only [Act.put, setIfInBounds_toArray, set_cons_zero, set_cons_succ]); have tk1 := hidp trivial) | (clear tk1; (refine Mm.skipd 106 rfl _ _ rfl rfl ?_); (try simp only [Act.put, setIfInBounds_toArray, set_cons_zero, set_cons_succ]); have tk2 := hidp trivial) | (clear tk2; (refine Mm.skipd 107 rfl _ _ rfl rfl ?_); (try simp only [Act.put, setIfInBounds_toArray, set_cons_zero, set_cons_succ]); have tk3 := hidp trivial) | (clear tk3; (refine Mm.skipd 108 rfl _ _ rfl rfl ?_); (try simp only [Act.put, setIfInBounds_toArray, set_cons_zero, set_cons_succ]); have tk4 := hidp trivial))
                        try clear tk4
                        go_ret
                        exact ⟨by rw [HF.out]; rfl, H.out.below⟩
                    · have d2 : (X == lev) = false := by simpa using g2
                      have HOK2 := hidp (HNB.out (by unfold uBad; rw [HX.out, HY.out]; rw [d1, d2, d3]; rfl))
                      clear HNB HFB g1 g2 g3
                      have tk0 := hidp trivial
                      go_wp2_with (first | (clear tk0; (refine wpL_idxR tyU rfl (.tmp 67) (.tmp 69) rfl g 0 n cap i rfl rfl hlt ?_); (try simp only [Act.put, setIfInBounds_toArray, set_cons_zero, set_cons_succ]); have tk1 := hidp trivial) | (clear tk1; (refine wpL_atR tyU rfl (.tmp 71) rfl g (0 + 2 * i) (uR p) rfl rfl (HRW.out _ H.out.at0) ?_); (try simp only [Act.put, setIfInBounds_toArray, set_cons_zero, set_cons_succ]); have tk2 := hidp trivial) | (clear tk2; (refine Mm.new tyP H (some 12) rfl rfl rfl ?_; clear H; intro b12 _ H nw; have hb := nw.below; clear hb nw); (try simp only [Act.put, setIfInBounds_toArray, set_cons_zero, set_cons_succ]); have tk3 := hidp trivial) | (clear tk3; (refine Mm.put0 tyP H rfl (.tmp 12) (.tmp 72) (uR p) rfl rfl rfl rfl (uR_one p) rfl ?_; intro _ H2 st; clear st H; have H := H2; clear H2); (try simp only [Act.put, setIfInBounds_toArray, set_cons_zero, set_cons_succ]); have tk4 := hidp trivial) | (clear tk4; (refine Mm.ld3 naSU H rfl (.tmp 73) 6 (.slice aw nw cw0) rfl rfl rfl ?_); (try simp only [Act.put, setIfInBounds_toArray, set_cons_zero, set_cons_succ]); have tk5 := hidp trivial) | (clear tk5; (refine Mm.get0 tyP H rfl (.tmp 12) rfl rfl rfl ?_); (try simp only [Act.put, setIfInBounds_toArray, set_cons_zero, set_cons_succ]); have tk6 := hidp trivial) | (clear tk6; (go_at_call 77; refine (nw9.out _ (HVW.out.to H.out.below)).mono ?_; rintro e _ ⟨rfl, hb⟩; replace H := hidp (H.out.call hb); clear nw9; clear hb); (try simp only [Act.put, setIfInBounds_toArray, set_cons_zero, set_cons_succ]); have tk7 := hidp trivial) | (clear tk7; (refine Mm.skipd 78 rfl _ _ rfl rfl ?_); (try simp only [Act.put, setIfInBounds_toArray, set_cons_zero, set_cons_succ]); have tk8 := hidp trivial) | (clear tk8; (refine Mm.skipd 79 rfl _ _ rfl rfl ?_); (try simp only [Act.put, setIfInBounds_toArray, set_cons_zero, set_cons_succ]); have tk9 := hidp trivial) | (clear tk9; (refine Mm.skipd 80 rfl _ _ rfl rfl ?_); (try simp only [Act.put, setIfInBounds_toArray, set_cons_zero, set_cons_succ]); have tk10 := hidp trivial) | (clear tk10; (refine Mm.skipd 81 rfl _ _ rfl rfl ?_); (try simp only [Act.put, setIfInBounds_toArray, set_cons_zero, set_cons_succ]); have tk11 := hidp trivial))
                      try clear tk11
                      refine Mm.region H (.take 0 (.take 1 (.take 2 (.take 4 (.take 5 (.take 6 (.one 3 (.one 7 (.take 8 (.take 9 .done)))))))))) (by kernel_rfl) (by kernel_rfl) (by simp [Scr.depth]) (by kernel_rfl) ?_
                      clear H
                      intro _ H hb
                      clear hb
                      refine Mm.sget3 tyL (fun w h => h) rfl rfl (.tmp 3) rfl rfl rfl ?_
                      simp only [Act.put, getElem_toArray, getElem_cons_zero, getElem_cons_succ, setIfInBounds_toArray, set_cons_zero, set_cons_succ]
                      apply s_val
                      case ho | hw => rfl
                      case hv => intro w hw; go_simp; first | done | rfl
                      simp only [Act.put, getElem_toArray, getElem_cons_zero, getElem_cons_succ, setIfInBounds_toArray, set_cons_zero, set_cons_succ]
                      refine Mm.sld0 naSx (fun w h => h) rfl rfl (.tmp 84) 0 (.string p.1) rfl rfl rfl ?_
                      simp only [Act.put, getElem_toArray, getElem_cons_zero, getElem_cons_succ, setIfInBounds_toArray, set_cons_zero, set_cons_succ]
                      refine Mm.sget2 tyL (fun w h => h) rfl rfl (.tmp 4) rfl rfl rfl ?_
                      simp only [Act.put, getElem_toArray, getElem_cons_zero, getElem_cons_succ, setIfInBounds_toArray, set_cons_zero, set_cons_succ]
                      apply s_val
                      case ho | hw => rfl
                      case hv => intro w hw; go_simp; first | done | rfl
                      simp only [Act.put, getElem_toArray, getElem_cons_zero, getElem_cons_succ, setIfInBounds_toArray, set_cons_zero, set_cons_succ]
                      refine Mm.sld0 naSx (fun w h => h) rfl rfl (.tmp 88) 0 (.string p.1) rfl rfl rfl ?_
                      simp only [Act.put, getElem_toArray, getElem_cons_zero, getElem_cons_succ, setIfInBounds_toArray, set_cons_zero, set_cons_succ]
                      refine Mm.o_callH (v := .int .i64 X) H (fun W h => h) rfl rfl 28 (#[.agg #[.int .i64 was.a, .int .i64 was.s, .int .i64 was.i, .int .i64 was.k, .int .i64 was.b, .int .i64 was.r, .slice aw nw cw0], .string p.1]) (by go_simp; first | done | rfl) (ow.out _ (HVW.out.to H.out.below)) ?_
                      clear H
                      intro _ H hb
                      clear hb
                      simp only [Act.put, getElem_toArray, getElem_cons_zero, getElem_cons_succ, setIfInBounds_toArray, set_cons_zero, set_cons_succ]
                      refine Mm.o_callH (v := .int .i64 Y) H (fun W h => h) rfl rfl 28 (#[.agg #[.int .i64 is.a, .int .i64 is.s, .int .i64 is.i, .int .i64 is.k, .int .i64 is.b, .int .i64 is.r, .slice ai ni ci0], .string p.1]) (by go_simp; first | done | rfl) (oi.out _ (HVI.out.to H.out.below)) ?_
                      clear H
                      intro _ H hb
                      clear hb
                      simp only [Act.put, getElem_toArray, getElem_cons_zero, getElem_cons_succ, setIfInBounds_toArray, set_cons_zero, set_cons_succ]
                      apply s_val
                      case ho | hw => rfl
                      case hv => intro w hw; go_simp; first | done | rfl
                      simp only [Act.put, getElem_toArray, getElem_cons_zero, getElem_cons_succ, setIfInBounds_toArray, set_cons_zero, set_cons_succ]
                      apply s_val
                      case ho | hw => rfl
                      case hv => intro w hw; go_simp; first | done | rfl
                      simp only [Act.put, getElem_toArray, getElem_cons_zero, getElem_cons_succ, setIfInBounds_toArray, set_cons_zero, set_cons_succ]
                      refine NoPanic.normal ?_
                      have tk0 := hidp trivial
                      go_wp2_with (first | (clear tk0; (refine Mm.skipd 99 rfl _ _ rfl rfl ?_); (try simp only [Act.put, setIfInBounds_toArray, set_cons_zero, set_cons_succ]); have tk1 := hidp trivial) | (clear tk1; (refine Mm.skipd 100 rfl _ _ rfl rfl ?_); (try simp only [Act.put, setIfInBounds_toArray, set_cons_zero, set_cons_succ]); have tk2 := hidp trivial) | (clear tk2; (refine Mm.skipd 101 rfl _ _ rfl rfl ?_); (try simp only [Act.put, setIfInBounds_toArray, set_cons_zero, set_cons_succ]); have tk3 := hidp trivial) | (clear tk3; (refine Mm.skipd 102 rfl _ _ rfl rfl ?_); (try simp only [Act.put, setIfInBounds_toArray, set_cons_zero, set_cons_succ]); have tk4 := hidp trivial))
                      try clear tk4
                      exact ⟨⟨i + 1, by go_num, by omega, HOK2.out, H.out.tail⟩, by simp [intOf]; omega⟩
              | true =>
                cases hii : inB is.us p with
                | true =>
                  rw [hiw] at nw9
                  rw [hii] at ni9
                  have HOK2 := hidp (show docU was.us is.us (uBad was is u lev) ((was.us ++ is.us).take (i + 1)) = false from by rw [hs, hbo, hiw, hii]; rfl)
                  clear hs hh hbo hiw hii
                  have tk0 := hidp trivial
                  go_wp2_with (first | (clear tk0; (refine wpL_idxR tyU rfl (.tmp 67) (.tmp 69) rfl g 0 n cap i rfl rfl hlt ?_); (try simp only [Act.put, setIfInBounds_toArray, set_cons_zero, set_cons_succ]); have tk1 := hidp trivial) | (clear tk1; (refine wpL_atR tyU rfl (.tmp 71) rfl g (0 + 2 * i) (uR p) rfl rfl (HRW.out _ H.out.at0) ?_); (try simp only [Act.put, setIfInBounds_toArray, set_cons_zero, set_cons_succ]); have tk2 := hidp trivial) | (clear tk2; (refine Mm.new tyP H (some 12) rfl rfl rfl ?_; clear H; intro b12 _ H nw; have hb := nw.below; clear hb nw); (try simp only [Act.put, setIfInBounds_toArray, set_cons_zero, set_cons_succ]); have tk3 := hidp trivial) | (clear tk3; (refine Mm.put0 tyP H rfl (.tmp 12) (.tmp 72) (uR p) rfl rfl rfl rfl (uR_one p) rfl ?_; intro _ H2 st; clear st H; have H := H2; clear H2); (try simp only [Act.put, setIfInBounds_toArray, set_cons_zero, set_cons_succ]); have tk4 := hidp trivial) | (clear tk4; (refine Mm.ld3 naSU H rfl (.tmp 73) 6 (.slice aw nw cw0) rfl rfl rfl ?_); (try simp only [Act.put, setIfInBounds_toArray, set_cons_zero, set_cons_succ]); have tk5 := hidp trivial) | (clear tk5; (refine Mm.get0 tyP H rfl (.tmp 12) rfl rfl rfl ?_); (try simp only [Act.put, setIfInBounds_toArray, set_cons_zero, set_cons_succ]); have tk6 := hidp trivial) | (clear tk6; (go_at_call 77; refine (nw9.out _ (HVW.out.to H.out.below)).mono ?_; rintro e _ ⟨rfl, hb⟩; replace H := hidp (H.out.call hb); clear nw9; clear hb); (try simp only [Act.put, setIfInBounds_toArray, set_cons_zero, set_cons_succ]); have tk7 := hidp trivial) | (clear tk7; (refine Mm.ld2 naSU H rfl (.tmp 78) 6 (.slice ai ni ci0) rfl rfl rfl ?_); (try simp only [Act.put, setIfInBounds_toArray, set_cons_zero, set_cons_succ]); have tk8 := hidp trivial) | (clear tk8; (refine Mm.get0 tyP H rfl (.tmp 12) rfl rfl rfl ?_); (try simp only [Act.put, setIfInBounds_toArray, set_cons_zero, set_cons_succ]); have tk9 := hidp trivial) | (clear tk9; (go_at_call 77; refine (ni9.out _ (HVI.out.to H.out.below)).mono ?_; rintro e _ ⟨rfl, hb⟩; replace H := hidp (H.out.call hb); clear ni9; clear hb); (try simp only [Act.put, setIfInBounds_toArray, set_cons_zero, set_cons_succ]); have tk10 := hidp trivial))
                  try clear tk10
                  exact ⟨⟨i + 1, by go_num, by omega, HOK2.out, H.out.tail⟩, by simp [intOf]; omega⟩
                | false =>
                  rw [hiw] at nw9
                  rw [hii] at ni9
                  have HFB := hidp (fun h : uBad was is u lev p.1 = true => show chE was is u = 12 from by rw [HC3.out, if_pos (hh (by rw [hbo, hiw, hii, h]; rfl))])
                  have HNB := hidp (fun h : uBad was is u lev p.1 = false => show docU was.us is.us (uBad was is u lev) ((was.us ++ is.us).take (i + 1)) = false from by rw [hs, hbo, hiw, hii, h]; rfl)
                  clear hs hh hbo hiw hii
                  have ow := hidp (fun W h => rof_any W was (.slice aw nw cw0) p.1 h); have oi := hidp (fun W h => rof_any W is (.slice ai ni ci0) p.1 h)
                  obtain ⟨X, hX⟩ : ∃ z, ofL was p.1 = z := ⟨_, rfl⟩
                  obtain ⟨Y, hY⟩ : ∃ z, ofL is p.1 = z := ⟨_, rfl⟩
                  have HX := hidp hX; have HY := hidp hY
                  rw [hX] at ow
                  rw [hY] at oi
                  clear hX hY
                  by_cases g1 : X > lev
                  · have d1 : decide (X > lev) = true := decide_eq_true g1
                    have HF := hidp (HFB.out (by unfold uBad; rw [HX.out, HY.out]; rw [decide_eq_true g1]; rfl))
                    clear HNB HFB g1
                    have tk0 := hidp trivial
                    go_wp2_with (first | (clear tk0; (refine wpL_idxR tyU rfl (.tmp 67) (.tmp 69) rfl g 0 n cap i rfl rfl hlt ?_); (try simp only [Act.put, setIfInBounds_toArray, set_cons_zero, set_cons_succ]); have tk1 := hidp trivial) | (clear tk1; (refine wpL_atR tyU rfl (.tmp 71) rfl g (0 + 2 * i) (uR p) rfl rfl (HRW.out _ H.out.at0) ?_); (try simp only [Act.put, setIfInBounds_toArray, set_cons_zero, set_cons_succ]); have tk2 := hidp trivial) | (clear tk2; (refine Mm.new tyP H (some 12) rfl rfl rfl ?_; clear H; intro b12 _ H nw; have hb := nw.below; clear hb nw); (try simp only [Act.put, setIfInBounds_toArray, set_cons_zero, set_cons_succ]); have tk3 := hidp trivial) | (clear tk3; (refine Mm.put0 tyP H rfl (.tmp 12) (.tmp 72) (uR p) rfl rfl rfl rfl (uR_one p) rfl ?_; intro _ H2 st; clear st H; have H := H2; clear H2); (try simp only [Act.put, setIfInBounds_toArray, set_cons_zero, set_cons_succ]); have tk4 := hidp trivial) | (clear tk4; (refine Mm.ld3 naSU H rfl (.tmp 73) 6 (.slice aw nw cw0) rfl rfl rfl ?_); (try simp only [Act.put, setIfInBounds_toArray, set_cons_zero, set_cons_succ]); have tk5 := hidp trivial) | (clear tk5; (refine Mm.get0 tyP H rfl (.tmp 12) rfl rfl rfl ?_); (try simp only [Act.put, setIfInBounds_toArray, set_cons_zero, set_cons_succ]); have tk6 := hidp trivial) | (clear tk6; (go_at_call 77; refine (nw9.out _ (HVW.out.to H.out.below)).mono ?_; rintro e _ ⟨rfl, hb⟩; replace H := hidp (H.out.call hb); clear nw9; clear hb); (try simp only [Act.put, setIfInBounds_toArray, set_cons_zero, set_cons_succ]); have tk7 := hidp trivial) | (clear tk7; (refine Mm.ld2 naSU H rfl (.tmp 78) 6 (.slice ai ni ci0) rfl rfl rfl ?_); (try simp only [Act.put, setIfInBounds_toArray, set_cons_zero, set_cons_succ]); have tk8 := hidp trivial) | (clear tk8; (refine Mm.get0 tyP H rfl (.tmp 12) rfl rfl rfl ?_); (try simp only [Act.put, setIfInBounds_toArray, set_cons_zero, set_cons_succ]); have tk9 := hidp trivial) | (clear tk9; (go_at_call 77; refine (ni9.out _ (HVI.out.to H.out.below)).mono ?_; rintro e _ ⟨rfl, hb⟩; replace H := hidp (H.out.call hb); clear ni9; clear hb); (try simp only [Act.put, setIfInBounds_toArray, set_cons_zero, set_cons_succ]); have tk10 := hidp trivial))
                    try clear tk10
                    refine Mm.region H (.take 0 (.take 1 (.take 2 (.take 4 (.take 5 (.take 6 (.one 3 (.one 7 (.take 8 (.take 9 .done)))))))))) (by kernel_rfl) (by kernel_rfl) (by simp [Scr.depth]) (by kernel_rfl) ?_
                    clear H
                    intro _ H hb
                    clear hb
                    refine Mm.sget3 tyL (fun w h => h) rfl rfl (.tmp 3) rfl rfl rfl ?_
                    simp only [Act.put, getElem_toArray, getElem_cons_zero, getElem_cons_succ, setIfInBounds_toArray, set_cons_zero, set_cons_succ]
                    apply s_val
                    case ho | hw => rfl
                    case hv => intro w hw; go_simp; first | done | rfl
                    simp only [Act.put, getElem_toArray, getElem_cons_zero, getElem_cons_succ, setIfInBounds_toArray, set_cons_zero, set_cons_succ]
                    refine Mm.sld0 naSx (fun w h => h) rfl rfl (.tmp 84) 0 (.string p.1) rfl rfl rfl ?_
                    simp only [Act.put, getElem_toArray, getElem_cons_zero, getElem_cons_succ, setIfInBounds_toArray, set_cons_zero, set_cons_succ]
                    refine Mm.sget2 tyL (fun w h => h) rfl rfl (.tmp 4) rfl rfl rfl ?_
                    simp only [Act.put, getElem_toArray, getElem_cons_zero, getElem_cons_succ, setIfInBounds_toArray, set_cons_zero, set_cons_succ]
                    apply s_val
                    case ho | hw => rfl
                    case hv => intro w hw; go_simp; first | done | rfl
                    simp only [Act.put, getElem_toArray, getElem_cons_zero, getElem_cons_succ, setIfInBounds_toArray, set_cons_zero, set_cons_succ]
                    refine Mm.sld0 naSx (fun w h => h) rfl rfl (.tmp 88) 0 (.string p.1) rfl rfl rfl ?_
                    simp only [Act.put, getElem_toArray, getElem_cons_zero, getElem_cons_succ, setIfInBounds_toArray, set_cons_zero, set_cons_succ]
                    refine Mm.o_callH (v := .int .i64 X) H (fun W h => h) rfl rfl 28 (#[.agg #[.int .i64 was.a, .int .i64 was.s, .int .i64 was.i, .int .i64 was.k, .int .i64 was.b, .int .i64 was.r, .slice aw nw cw0], .string p.1]) (by go_simp; first | done | rfl) (ow.out _ (HVW.out.to H.out.below)) ?_
                    clear H
                    intro _ H hb
                    clear hb
                    simp only [Act.put, getElem_toArray, getElem_cons_zero, getElem_cons_succ, setIfInBounds_toArray, set_cons_zero, set_cons_succ]
                    refine Mm.o_callH (v := .int .i64 Y) H (fun W h => h) rfl rfl 28 (#[.agg #[.int .i64 is.a, .int .i64 is.s, .int .i64 is.i, .int .i64 is.k, .int .i64 is.b, .int .i64 is.r, .slice ai ni ci0], .string p.1]) (by go_simp; first | done | rfl) (oi.out _ (HVI.out.to H.out.below)) ?_
                    clear H
                    intro _ H hb
                    clear hb
                    simp only [Act.put, getElem_toArray, getElem_cons_zero, getElem_cons_succ, setIfInBounds_toArray, set_cons_zero, set_cons_succ]
                    apply s_val
                    case ho | hw => rfl
                    case hv => intro w hw; go_simp; first | done | rfl
                    simp only [Act.put, getElem_toArray, getElem_cons_zero, getElem_cons_succ, setIfInBounds_toArray, set_cons_zero, set_cons_succ]
                    apply s_val
                    case ho | hw => rfl
                    case hv => intro w hw; go_simp; first | done | rfl
                    simp only [Act.put, getElem_toArray, getElem_cons_zero, getElem_cons_succ, setIfInBounds_toArray, set_cons_zero, set_cons_succ]
                    refine NoPanic.normal ?_
                    have tk0 := hidp trivial
                    go_wp2_with (first | (clear tk0; (refine Mm.skipd 95 rfl _ _ rfl rfl ?_); (try simp only [Act.put, setIfInBounds_toArray, set_cons_zero, set_cons_succ]); have tk1 := hidp trivial) | (clear tk1; (refine Mm.skipd 96 rfl _ _ rfl rfl ?_); (try simp only [Act.put, setIfInBounds_toArray, set_cons_zero, set_cons_succ]); have tk2 := hidp trivial) | (clear tk2; (refine Mm.skipd 97 rfl _ _ rfl rfl ?_); (try simp only [Act.put, setIfInBounds_toArray, set_cons_zero, set_cons_succ]); have tk3 := hidp trivial) | (clear tk3; (refine Mm.skipd 98 rfl _ _ rfl rfl ?_); (try simp only [Act.put, setIfInBounds_toArray, set_cons_zero, set_cons_succ]); have tk4 := hidp trivial) | (clear tk4; (refine Mm.skipd 99 rfl _ _ rfl rfl ?_); (try simp only [Act.put, setIfInBounds_toArray, set_cons_zero, set_cons_succ]); have tk5 := hidp trivial) | (clear tk5; (refine Mm.skipd 100 rfl _ _ rfl rfl ?_); (try simp only [Act.put, setIfInBounds_toArray, set_cons_zero, set_cons_succ]); have tk6 := hidp trivial) | (clear tk6; (refine Mm.skipd 101 rfl _ _ rfl rfl ?_); (try simp only [Act.put, setIfInBounds_toArray, set_cons_zero, set_cons_succ]); have tk7 := hidp trivial) | (clear tk7; (refine Mm.skipd 102 rfl _ _ rfl rfl ?_); (try simp only [Act.put, setIfInBounds_toArray, set_cons_zero, set_cons_succ]); have tk8 := hidp trivial) | (clear tk8; (refine Mm.skipd 103 rfl _ _ rfl rfl ?_); (try simp only [Act.put, setIfInBounds_toArray, set_cons_zero, set_cons_succ]); have tk9 := hidp trivial) | (clear tk9; (refine Mm.skipd 106 rfl _ _ rfl rfl ?_); (try simp only [Act.put, setIfInBounds_toArray, set_cons_zero, set_cons_succ]); have tk10 := hidp trivial) | (clear tk10; (refine Mm.skipd 107 rfl _ _ rfl rfl ?_); (try simp only [Act.put, setIfInBounds_toArray, set_cons_zero, set_cons_succ]); have tk11 := hidp trivial) | (clear tk11; (refine Mm.skipd 108 rfl _ _ rfl rfl ?_); (try simp only [Act.put, setIfInBounds_toArray, set_cons_zero, set_cons_succ]); have tk12 := hidp trivial))
                    try clear tk12
                    go_ret
                    exact ⟨by rw [HF.out]; rfl, H.out.below⟩
                  · have d1 : decide (X > lev) = false := decide_eq_false g1
                    by_cases g3 : Y > lev
                    · have d3 : decide (Y > lev) = true := decide_eq_true g3
                      have HF := hidp (HFB.out (by unfold uBad; rw [HX.out, HY.out]; rw [decide_eq_true g3, Bool.or_true]))
                      by_cases g2 : X = lev
                      · have d2 : (X == lev) = true := by simp [g2]
                        cases hs : (p.1.toList == u.toList) with
                        | true =>
                          have hsn : (p.1.toList != u.toList) = false := by simp [bne, hs]
                          clear HNB HFB g1 g2 g3
                          have tk0 := hidp trivial
                          go_wp2_with (first | (clear tk0; (refine wpL_idxR tyU rfl (.tmp 67) (.tmp 69) rfl g 0 n cap i rfl rfl hlt ?_); (try simp only [Act.put, setIfInBounds_toArray, set_cons_zero, set_cons_succ]); have tk1 := hidp trivial) | (clear tk1; (refine wpL_atR tyU rfl (.tmp 71) rfl g (0 + 2 * i) (uR p) rfl rfl (HRW.out _ H.out.at0) ?_); (try simp only [Act.put, setIfInBounds_toArray, set_cons_zero, set_cons_succ]); have tk2 := hidp trivial) | (clear tk2; (refine Mm.new tyP H (some 12) rfl rfl rfl ?_; clear H; intro b12 _ H nw; have hb := nw.below; clear hb nw); (try simp only [Act.put, setIfInBounds_toArray, set_cons_zero, set_cons_succ]); have tk3 := hidp trivial) | (clear tk3; (refine Mm.put0 tyP H rfl (.tmp 12) (.tmp 72) (uR p) rfl rfl rfl rfl (uR_one p) rfl ?_; intro _ H2 st; clear st H; have H := H2; clear H2); (try simp only [Act.put, setIfInBounds_toArray, set_cons_zero, set_cons_succ]); have tk4 := hidp trivial) | (clear tk4; (refine Mm.ld3 naSU H rfl (.tmp 73) 6 (.slice aw nw cw0) rfl rfl rfl ?_); (try simp only [Act.put, setIfInBounds_toArray, set_cons_zero, set_cons_succ]); have tk5 := hidp trivial) | (clear tk5; (refine Mm.get0 tyP H rfl (.tmp 12) rfl rfl rfl ?_); (try simp only [Act.put, setIfInBounds_toArray, set_cons_zero, set_cons_succ]); have tk6 := hidp trivial) | (clear tk6; (go_at_call 77; refine (nw9.out _ (HVW.out.to H.out.below)).mono ?_; rintro e _ ⟨rfl, hb⟩; replace H := hidp (H.out.call hb); clear nw9; clear hb); (try simp only [Act.put, setIfInBounds_toArray, set_cons_zero, set_cons_succ]); have tk7 := hidp trivial) | (clear tk7; (refine Mm.ld2 naSU H rfl (.tmp 78) 6 (.slice ai ni ci0) rfl rfl rfl ?_); (try simp only [Act.put, setIfInBounds_toArray, set_cons_zero, set_cons_succ]); have tk8 := hidp trivial) | (clear tk8; (refine Mm.get0 tyP H rfl (.tmp 12) rfl rfl rfl ?_); (try simp only [Act.put, setIfInBounds_toArray, set_cons_zero, set_cons_succ]); have tk9 := hidp trivial) | (clear tk9; (go_at_call 77; refine (ni9.out _ (HVI.out.to H.out.below)).mono ?_; rintro e _ ⟨rfl, hb⟩; replace H := hidp (H.out.call hb); clear ni9; clear hb); (try simp only [Act.put, setIfInBounds_toArray, set_cons_zero, set_cons_succ]); have tk10 := hidp trivial))
                          try clear tk10
                          refine Mm.region H (.take 0 (.take 1 (.take 2 (.take 4 (.take 5 (.take 6 (.one 3 (.one 7 (.take 8 (.take 9 .done)))))))))) (by kernel_rfl) (by kernel_rfl) (by simp [Scr.depth]) (by kernel_rfl) ?_
                          clear H
                          intro _ H hb
                          clear hb
                          refine Mm.sget3 tyL (fun w h => h) rfl rfl (.tmp 3) rfl rfl rfl ?_
                          simp only [Act.put, getElem_toArray, getElem_cons_zero, getElem_cons_succ, setIfInBounds_toArray, set_cons_zero, set_cons_succ]
                          apply s_val
                          case ho | hw => rfl
                          case hv => intro w hw; go_simp; first | done | rfl
                          simp only [Act.put, getElem_toArray, getElem_cons_zero, getElem_cons_succ, setIfInBounds_toArray, set_cons_zero, set_cons_succ]
                          refine Mm.sld0 naSx (fun w h => h) rfl rfl (.tmp 84) 0 (.string p.1) rfl rfl rfl ?_
                          simp only [Act.put, getElem_toArray, getElem_cons_zero, getElem_cons_succ, setIfInBounds_toArray, set_cons_zero, set_cons_succ]
                          refine Mm.sget2 tyL (fun w h => h) rfl rfl (.tmp 4) rfl rfl rfl ?_
                          simp only [Act.put, getElem_toArray, getElem_cons_zero, getElem_cons_succ, setIfInBounds_toArray, set_cons_zero, set_cons_succ]
                          apply s_val
                          case ho | hw => rfl
                          case hv => intro w hw; go_simp; first | done | rfl
                          simp only [Act.put, getElem_toArray, getElem_cons_zero, getElem_cons_succ, setIfInBounds_toArray, set_cons_zero, set_cons_succ]
                          refine Mm.sld0 naSx (fun w h => h) rfl rfl (.tmp 88) 0 (.string p.1) rfl rfl rfl ?_
                          simp only [Act.put, getElem_toArray, getElem_cons_zero, getElem_cons_succ, setIfInBounds_toArray, set_cons_zero, set_cons_succ]
                          refine Mm.o_callH (v := .int .i64 X) H (fun W h => h) rfl rfl 28 (#[.agg #[.int .i64 was.a, .int .i64 was.s, .int .i64 was.i, .int .i64 was.k, .int .i64 was.b, .int .i64 was.r, .slice aw nw cw0], .string p.1]) (by go_simp; first | done | rfl) (ow.out _ (HVW.out.to H.out.below)) ?_
                          clear H
                          intro _ H hb
                          clear hb
                          simp only [Act.put, getElem_toArray, getElem_cons_zero, getElem_cons_succ, setIfInBounds_toArray, set_cons_zero, set_cons_succ]
                          refine Mm.o_callH (v := .int .i64 Y) H (fun W h => h) rfl rfl 28 (#[.agg #[.int .i64 is.a, .int .i64 is.s, .int .i64 is.i, .int .i64 is.k, .int .i64 is.b, .int .i64 is.r, .slice ai ni ci0], .string p.1]) (by go_simp; first | done | rfl) (oi.out _ (HVI.out.to H.out.below)) ?_
                          clear H
                          intro _ H hb
                          clear hb
                          simp only [Act.put, getElem_toArray, getElem_cons_zero, getElem_cons_succ, setIfInBounds_toArray, set_cons_zero, set_cons_succ]
                          apply s_val
                          case ho | hw => rfl
                          case hv => intro w hw; go_simp; first | done | rfl
                          simp only [Act.put, getElem_toArray, getElem_cons_zero, getElem_cons_succ, setIfInBounds_toArray, set_cons_zero, set_cons_succ]
                          apply s_val
                          case ho | hw => rfl
                          case hv => intro w hw; go_simp; first | done | rfl
                          simp only [Act.put, getElem_toArray, getElem_cons_zero, getElem_cons_succ, setIfInBounds_toArray, set_cons_zero, set_cons_succ]
                          refine NoPanic.normal ?_
                          have tk0 := hidp trivial
                          go_wp2_with (first | (clear tk0; (refine Mm.ld0 naSx H rfl (.tmp 99) 0 (.string p.1) rfl rfl rfl ?_); (try simp only [Act.put, setIfInBounds_toArray, set_cons_zero, set_cons_succ]); have tk1 := hidp trivial))
                          try clear tk1
                          go_ret
                          exact ⟨by rw [HF.out]; rfl, H.out.below⟩
                        | false =>
                          have hsn : (p.1.toList != u.toList) = true := by simp [bne, hs]
                          clear HNB HFB g1 g2 g3
                          have tk0 := hidp trivial
                          go_wp2_with (first | (clear tk0; (refine wpL_idxR tyU rfl (.tmp 67) (.tmp 69) rfl g 0 n cap i rfl rfl hlt ?_); (try simp only [Act.put, setIfInBounds_toArray, set_cons_zero, set_cons_succ]); have tk1 := hidp trivial) | (clear tk1; (refine wpL_atR tyU rfl (.tmp 71) rfl g (0 + 2 * i) (uR p) rfl rfl (HRW.out _ H.out.at0) ?_); (try simp only [Act.put, setIfInBounds_toArray, set_cons_zero, set_cons_succ]); have tk2 := hidp trivial) | (clear tk2; (refine Mm.new tyP H (some 12) rfl rfl rfl ?_; clear H; intro b12 _ H nw; have hb := nw.below; clear hb nw); (try simp only [Act.put, setIfInBounds_toArray, set_cons_zero, set_cons_succ]); have tk3 := hidp trivial) | (clear tk3; (refine Mm.put0 tyP H rfl (.tmp 12) (.tmp 72) (uR p) rfl rfl rfl rfl (uR_one p) rfl ?_; intro _ H2 st; clear st H; have H := H2; clear H2); (try simp only [Act.put, setIfInBounds_toArray, set_cons_zero, set_cons_succ]); have tk4 := hidp trivial) | (clear tk4; (refine Mm.ld3 naSU H rfl (.tmp 73) 6 (.slice aw nw cw0) rfl rfl rfl ?_); (try simp only [Act.put, setIfInBounds_toArray, set_cons_zero, set_cons_succ]); have tk5 := hidp trivial) | (clear tk5; (refine Mm.get0 tyP H rfl (.tmp 12) rfl rfl rfl ?_); (try simp only [Act.put, setIfInBounds_toArray, set_cons_zero, set_cons_succ]); have tk6 := hidp trivial) | (clear tk6; (go_at_call 77; refine (nw9.out _ (HVW.out.to H.out.below)).mono ?_; rintro e _ ⟨rfl, hb⟩; replace H := hidp (H.out.call hb); clear nw9; clear hb); (try simp only [Act.put, setIfInBounds_toArray, set_cons_zero, set_cons_succ]); have tk7 := hidp trivial) | (clear tk7; (refine Mm.ld2 naSU H rfl (.tmp 78) 6 (.slice ai ni ci0) rfl rfl rfl ?_); (try simp only [Act.put, setIfInBounds_toArray, set_cons_zero, set_cons_succ]); have tk8 := hidp trivial) | (clear tk8; (refine Mm.get0 tyP H rfl (.tmp 12) rfl rfl rfl ?_); (try simp only [Act.put, setIfInBounds_toArray, set_cons_zero, set_cons_succ]); have tk9 := hidp trivial) | (clear tk9; (go_at_call 77; refine (ni9.out _ (HVI.out.to H.out.below)).mono ?_; rintro e _ ⟨rfl, hb⟩; replace H := hidp (H.out.call hb); clear ni9; clear hb); (try simp only [Act.put, setIfInBounds_toArray, set_cons_zero, set_cons_succ]); have tk10 := hidp trivial))
                          try clear tk10
                          refine Mm.region H (.take 0 (.take 1 (.take 2 (.take 4 (.take 5 (.take 6 (.one 3 (.one 7 (.take 8 (.take 9 .done)))))))))) (by kernel_rfl) (by kernel_rfl) (by simp [Scr.depth]) (by kernel_rfl) ?_
                          clear H
                          intro _ H hb
                          clear hb
                          refine Mm.sget3 tyL (fun w h => h) rfl rfl (.tmp 3) rfl rfl rfl ?_
                          simp only [Act.put, getElem_toArray, getElem_cons_zero, getElem_cons_succ, setIfInBounds_toArray, set_cons_zero, set_cons_succ]
                          apply s_val
                          case ho | hw => rfl
                          case hv => intro w hw; go_simp; first | done | rfl
                          simp only [Act.put, getElem_toArray, getElem_cons_zero, getElem_cons_succ, setIfInBounds_toArray, set_cons_zero, set_cons_succ]
                          refine Mm.sld0 naSx (fun w h => h) rfl rfl (.tmp 84) 0 (.string p.1) rfl rfl rfl ?_
                          simp only [Act.put, getElem_toArray, getElem_cons_zero, getElem_cons_succ, setIfInBounds_toArray, set_cons_zero, set_cons_succ]
                          refine Mm.sget2 tyL (fun w h => h) rfl rfl (.tmp 4) rfl rfl rfl ?_
                          simp only [Act.put, getElem_toArray, getElem_cons_zero, getElem_cons_succ, setIfInBounds_toArray, set_cons_zero, set_cons_succ]
                          apply s_val
                          case ho | hw => rfl
                          case hv => intro w hw; go_simp; first | done | rfl
                          simp only [Act.put, getElem_toArray, getElem_cons_zero, getElem_cons_succ, setIfInBounds_toArray, set_cons_zero, set_cons_succ]
                          refine Mm.sld0 naSx (fun w h => h) rfl rfl (.tmp 88) 0 (.string p.1) rfl rfl rfl ?_
                          simp only [Act.put, getElem_toArray, getElem_cons_zero, getElem_cons_succ, setIfInBounds_toArray, set_cons_zero, set_cons_succ]
                          refine Mm.o_callH (v := .int .i64 X) H (fun W h => h) rfl rfl 28 (#[.agg #[.int .i64 was.a, .int .i64 was.s, .int .i64 was.i, .int .i64 was.k, .int .i64 was.b, .int .i64 was.r, .slice aw nw cw0], .string p.1]) (by go_simp; first | done | rfl) (ow.out _ (HVW.out.to H.out.below)) ?_
                          clear H
                          intro _ H hb
                          clear hb
                          simp only [Act.put, getElem_toArray, getElem_cons_zero, getElem_cons_succ, setIfInBounds_toArray, set_cons_zero, set_cons_succ]
                          refine Mm.o_callH (v := .int .i64 Y) H (fun W h => h) rfl rfl 28 (#[.agg #[.int .i64 is.a, .int .i64 is.s, .int .i64 is.i, .int .i64 is.k, .int .i64 is.b, .int .i64 is.r, .slice ai ni ci0], .string p.1]) (by go_simp; first | done | rfl) (oi.out _ (HVI.out.to H.out.below)) ?_
                          clear H
                          intro _ H hb
                          clear hb
                          simp only [Act.put, getElem_toArray, getElem_cons_zero, getElem_cons_succ, setIfInBounds_toArray, set_cons_zero, set_cons_succ]
                          apply s_val
                          case ho | hw => rfl
                          case hv => intro w hw; go_simp; first | done | rfl
                          simp only [Act.put, getElem_toArray, getElem_cons_zero, getElem_cons_succ, setIfInBounds_toArray, set_cons_zero, set_cons_succ]
                          apply s_val
                          case ho | hw => rfl
                          case hv => intro w hw; go_simp; first | done | rfl
                          simp only [Act.put, getElem_toArray, getElem_cons_zero, getElem_cons_succ, setIfInBounds_toArray, set_cons_zero, set_cons_succ]
                          refine NoPanic.normal ?_
                          have tk0 := hidp trivial
                          go_wp2_with (first | (clear tk0; (refine Mm.ld0 naSx H rfl (.tmp 99) 0 (.string p.1) rfl rfl rfl ?_); (try simp only [Act.put, setIfInBounds_toArray, set_cons_zero, set_cons_succ]); have tk1 := hidp trivial) | (clear tk1; (refine Mm.skipd 106 rfl _ _ rfl rfl ?_); (try simp only [Act.put, setIfInBounds_toArray, set_cons_zero, set_cons_succ]); have tk2 := hidp trivial) | (clear tk2; (refine Mm.skipd 107 rfl _ _ rfl rfl ?_); (try simp only [Act.put, setIfInBounds_toArray, set_cons_zero, set_cons_succ]); have tk3 := hidp trivial) | (clear tk3; (refine Mm.skipd 108 rfl _ _ rfl rfl ?_); (try simp only [Act.put, setIfInBounds_toArray, set_cons_zero, set_cons_succ]); have tk4 := hidp trivial))
                          try clear tk4
                          go_ret
                          exact ⟨by rw [HF.out]; rfl, H.out.below⟩
                      · have d2 : (X == lev) = false := by simpa using g2
                        clear HNB HFB g1 g2 g3
                        have tk0 := hidp trivial
                        go_wp2_with (first | (clear tk0; (refine wpL_idxR tyU rfl (.tmp 67) (.tmp 69) rfl g 0 n cap i rfl rfl hlt ?_); (try simp only [Act.put, setIfInBounds_toArray, set_cons_zero, set_cons_succ]); have tk1 := hidp trivial) | (clear tk1; (refine wpL_atR tyU rfl (.tmp 71) rfl g (0 + 2 * i) (uR p) rfl rfl (HRW.out _ H.out.at0) ?_); (try simp only [Act.put, setIfInBounds_toArray, set_cons_zero, set_cons_succ]); have tk2 := hidp trivial) | (clear tk2; (refine Mm.new tyP H (some 12) rfl rfl rfl ?_; clear H; intro b12 _ H nw; have hb := nw.below; clear hb nw); (try simp only [Act.put, setIfInBounds_toArray, set_cons_zero, set_cons_succ]); have tk3 := hidp trivial) | (clear tk3; (refine Mm.put0 tyP H rfl (.tmp 12) (.tmp 72) (uR p) rfl rfl rfl rfl (uR_one p) rfl ?_; intro _ H2 st; clear st H; have H := H2; clear H2); (try simp only [Act.put, setIfInBounds_toArray, set_cons_zero, set_cons_succ]); have tk4 := hidp trivial) | (clear tk4; (refine Mm.ld3 naSU H rfl (.tmp 73) 6 (.slice aw nw cw0) rfl rfl rfl ?_); (try simp only [Act.put, setIfInBounds_toArray, set_cons_zero, set_cons_succ]); have tk5 := hidp trivial) | (clear tk5; (refine Mm.get0 tyP H rfl (.tmp 12) rfl rfl rfl ?_); (try simp only [Act.put, setIfInBounds_toArray, set_cons_zero, set_cons_succ]); have tk6 := hidp trivial) | (clear tk6; (go_at_call 77; refine (nw9.out _ (HVW.out.to H.out.below)).mono ?_; rintro e _ ⟨rfl, hb⟩; replace H := hidp (H.out.call hb); clear nw9; clear hb); (try simp only [Act.put, setIfInBounds_toArray, set_cons_zero, set_cons_succ]); have tk7 := hidp trivial) | (clear tk7; (refine Mm.ld2 naSU H rfl (.tmp 78) 6 (.slice ai ni ci0) rfl rfl rfl ?_); (try simp only [Act.put, setIfInBounds_toArray, set_cons_zero, set_cons_succ]); have tk8 := hidp trivial) | (clear tk8; (refine Mm.get0 tyP H rfl (.tmp 12) rfl rfl rfl ?_); (try simp only [Act.put, setIfInBounds_toArray, set_cons_zero, set_cons_succ]); have tk9 := hidp trivial) | (clear tk9; (go_at_call 77; refine (ni9.out _ (HVI.out.to H.out.below)).mono ?_; rintro e _ ⟨rfl, hb⟩; replace H := hidp (H.out.call hb); clear ni9; clear hb); (try simp only [Act.put, setIfInBounds_toArray, set_cons_zero, set_cons_succ]); have tk10 := hidp trivial))
                        try clear tk10
                        refine Mm.region H (.take 0 (.take 1 (.take 2 (.take 4 (.take 5 (.take 6 (.one 3 (.one 7 (.take 8 (.take 9 .done)))))))))) (by kernel_rfl) (by kernel_rfl) (by simp [Scr.depth]) (by kernel_rfl) ?_
                        clear H
                        intro _ H hb
                        clear hb
                        refine Mm.sget3 tyL (fun w h => h) rfl rfl (.tmp 3) rfl rfl rfl ?_
                        simp only [Act.put, getElem_toArray, getElem_cons_zero, getElem_cons_succ, setIfInBounds_toArray, set_cons_zero, set_cons_succ]
                        apply s_val
                        case ho | hw => rfl
                        case hv => intro w hw; go_simp; first | done | rfl
                        simp only [Act.put, getElem_toArray, getElem_cons_zero, getElem_cons_succ, setIfInBounds_toArray, set_cons_zero, set_cons_succ]
                        refine Mm.sld0 naSx (fun w h => h) rfl rfl (.tmp 84) 0 (.string p.1) rfl rfl rfl ?_
                        simp only [Act.put, getElem_toArray, getElem_cons_zero, getElem_cons_succ, setIfInBounds_toArray, set_cons_zero, set_cons_succ]
                        refine Mm.sget2 tyL (fun w h => h) rfl rfl (.tmp 4) rfl rfl rfl ?_
                        simp only [Act.put, getElem_toArray, getElem_cons_zero, getElem_cons_succ, setIfInBounds_toArray, set_cons_zero, set_cons_succ]
                        apply s_val
                        case ho | hw => rfl
                        case hv => intro w hw; go_simp; first | done | rfl
                        simp only [Act.put, getElem_toArray, getElem_cons_zero, getElem_cons_succ, setIfInBounds_toArray, set_cons_zero, set_cons_succ]
                        refine Mm.sld0 naSx (fun w h => h) rfl rfl (.tmp 88) 0 (.string p.1) rfl rfl rfl ?_
                        simp only [Act.put, getElem_toArray, getElem_cons_zero, getElem_cons_succ, setIfInBounds_toArray, set_cons_zero, set_cons_succ]
                        refine Mm.o_callH (v := .int .i64 X) H (fun W h => h) rfl rfl 28 (#[.agg #[.int .i64 was.a, .int .i64 was.s, .int .i64 was.i, .int .i64 was.k, .int .i64 was.b, .int .i64 was.r, .slice aw nw cw0], .string p.1]) (by go_simp; first | done | rfl) (ow.out _ (HVW.out.to H.out.below)) ?_
                        clear H
                        intro _ H hb
                        clear hb
                        simp only [Act.put, getElem_toArray, getElem_cons_zero, getElem_cons_succ, setIfInBounds_toArray, set_cons_zero, set_cons_succ]
                        refine Mm.o_callH (v := .int .i64 Y) H (fun W h => h) rfl rfl 28 (#[.agg #[.int .i64 is.a, .int .i64 is.s, .int .i64 is.i, .int .i64 is.k, .int .i64 is.b, .int .i64 is.r, .slice ai ni ci0], .string p.1]) (by go_simp; first | done | rfl) (oi.out _ (HVI.out.to H.out.below)) ?_
                        clear H
                        intro _ H hb
                        clear hb
                        simp only [Act.put, getElem_toArray, getElem_cons_zero, getElem_cons_succ, setIfInBounds_toArray, set_cons_zero, set_cons_succ]
                        apply s_val
                        case ho | hw => rfl
                        case hv => intro w hw; go_simp; first | done | rfl
                        simp only [Act.put, getElem_toArray, getElem_cons_zero, getElem_cons_succ, setIfInBounds_toArray, set_cons_zero, set_cons_succ]
                        apply s_val
                        case ho | hw => rfl
                        case hv => intro w hw; go_simp; first | done | rfl
                        simp only [Act.put, getElem_toArray, getElem_cons_zero, getElem_cons_succ, setIfInBounds_toArray, set_cons_zero, set_cons_succ]
                        refine NoPanic.normal ?_
                        have tk0 := hidp trivial
                        go_wp2_with (first | (clear tk0; (refine Mm.skipd 99 rfl _ _ rfl rfl ?_); (try simp only [Act.put, setIfInBounds_toArray, set_cons_zero, set_cons_succ]); have tk1 := hidp trivial) | (clear tk1; (refine Mm.skipd 100 rfl _ _ rfl rfl ?_); (try simp only [Act.put, setIfInBounds_toArray, set_cons_zero, set_cons_succ]); have tk2 := hidp trivial) | (clear tk2; (refine Mm.skipd 101 rfl _ _ rfl rfl ?_); (try simp only [Act.put, setIfInBounds_toArray, set_cons_zero, set_cons_succ]); have tk3 := hidp trivial) | (clear tk3; (refine Mm.skipd 102 rfl _ _ rfl rfl ?_); (try simp only [Act.put, setIfInBounds_toArray, set_cons_zero, set_cons_succ]); have tk4 := hidp trivial))
                        try clear tk4
                        go_ret
                        exact ⟨by rw [HF.out]; rfl, H.out.below⟩
                    · have d3 : decide (Y > lev) = false := decide_eq_false g3
                      by_cases g2 : X = lev
                      · have d2 : (X == lev) = true := by simp [g2]
                        cases hs : (p.1.toList == u.toList) with
                        | true =>
                          have hsn : (p.1.toList != u.toList) = false := by simp [bne, hs]
                          have HOK2 := hidp (HNB.out (by unfold uBad; rw [HX.out, HY.out]; rw [d1, d3, hsn, Bool.and_false]; rfl))
                          clear HNB HFB g1 g2 g3
                          have tk0 := hidp trivial
                          go_wp2_with (first | (clear tk0; (refine wpL_idxR tyU rfl (.tmp 67) (.tmp 69) rfl g 0 n cap i rfl rfl hlt ?_); (try simp only [Act.put, setIfInBounds_toArray, set_cons_zero, set_cons_succ]); have tk1 := hidp trivial) | (clear tk1; (refine wpL_atR tyU rfl (.tmp 71) rfl g (0 + 2 * i) (uR p) rfl rfl (HRW.out _ H.out.at0) ?_); (try simp only [Act.put, setIfInBounds_toArray, set_cons_zero, set_cons_succ]); have tk2 := hidp trivial) | (clear tk2; (refine Mm.new tyP H (some 12) rfl rfl rfl ?_; clear H; intro b12 _ H nw; have hb := nw.below; clear hb nw); (try simp only [Act.put, setIfInBounds_toArray, set_cons_zero, set_cons_succ]); have tk3 := hidp trivial) | (clear tk3; (refine Mm.put0 tyP H rfl (.tmp 12) (.tmp 72) (uR p) rfl rfl rfl rfl (uR_one p) rfl ?_; intro _ H2 st; clear st H; have H := H2; clear H2); (try simp only [Act.put, setIfInBounds_toArray, set_cons_zero, set_cons_succ]); have tk4 := hidp trivial) | (clear tk4; (refine Mm.ld3 naSU H rfl (.tmp 73) 6 (.slice aw nw cw0) rfl rfl rfl ?_); (try simp only [Act.put, setIfInBounds_toArray, set_cons_zero, set_cons_succ]); have tk5 := hidp trivial) | (clear tk5; (refine Mm.get0 tyP H rfl (.tmp 12) rfl rfl rfl ?_); (try simp only [Act.put, setIfInBounds_toArray, set_cons_zero, set_cons_succ]); have tk6 := hidp trivial) | (clear tk6; (go_at_call 77; refine (nw9.out _ (HVW.out.to H.out.below)).mono ?_; rintro e _ ⟨rfl, hb⟩; replace H := hidp (H.out.call hb); clear nw9; clear hb); (try simp only [Act.put, setIfInBounds_toArray, set_cons_zero, set_cons_succ]); have tk7 := hidp trivial) | (clear tk7; (refine Mm.ld2 naSU H rfl (.tmp 78) 6 (.slice ai ni ci0) rfl rfl rfl ?_); (try simp only [Act.put, setIfInBounds_toArray, set_cons_zero, set_cons_succ]); have tk8 := hidp trivial) | (clear tk8; (refine Mm.get0 tyP H rfl (.tmp 12) rfl rfl rfl ?_); (try simp only [Act.put, setIfInBounds_toArray, set_cons_zero, set_cons_succ]); have tk9 := hidp trivial) | (clear tk9; (go_at_call 77; refine (ni9.out _ (HVI.out.to H.out.below)).mono ?_; rintro e _ ⟨rfl, hb⟩; replace H := hidp (H.out.call hb); clear ni9; clear hb); (try simp only [Act.put, setIfInBounds_toArray, set_cons_zero, set_cons_succ]); have tk10 := hidp trivial))
                          try clear tk10
                          refine Mm.region H (.take 0 (.take 1 (.take 2 (.take 4 (.take 5 (.take 6 (.one 3 (.one 7 (.take 8 (.take 9 .done)))))))))) (by kernel_rfl) (by kernel_rfl) (by simp [Scr.depth]) (by kernel_rfl) ?_
                          clear H
                          intro _ H hb
                          clear hb
                          refine Mm.sget3 tyL (fun w h => h) rfl rfl (.tmp 3) rfl rfl rfl ?_
                          simp only [Act.put, getElem_toArray, getElem_cons_zero, getElem_cons_succ, setIfInBounds_toArray, set_cons_zero, set_cons_succ]
                          apply s_val
                          case ho | hw => rfl
                          case hv => intro w hw; go_simp; first | done | rfl
                          simp only [Act.put, getElem_toArray, getElem_cons_zero, getElem_cons_succ, setIfInBounds_toArray, set_cons_zero, set_cons_succ]
                          refine Mm.sld0 naSx (fun w h => h) rfl rfl (.tmp 84) 0 (.string p.1) rfl rfl rfl ?_
                          simp only [Act.put, getElem_toArray, getElem_cons_zero, getElem_cons_succ, setIfInBounds_toArray, set_cons_zero, set_cons_succ]
                          refine Mm.sget2 tyL (fun w h => h) rfl rfl (.tmp 4) rfl rfl rfl ?_
                          simp only [Act.put, getElem_toArray, getElem_cons_zero, getElem_cons_succ, setIfInBounds_toArray, set_cons_zero, set_cons_succ]
                          apply s_val
                          case ho | hw => rfl
                          case hv => intro w hw; go_simp; first | done | rfl
                          simp only [Act.put, getElem_toArray, getElem_cons_zero, getElem_cons_succ, setIfInBounds_toArray, set_cons_zero, set_cons_succ]
                          refine Mm.sld0 naSx (fun w h => h) rfl rfl (.tmp 88) 0 (.string p.1) rfl rfl rfl ?_
                          simp only [Act.put, getElem_toArray, getElem_cons_zero, getElem_cons_succ, setIfInBounds_toArray, set_cons_zero, set_cons_succ]
                          refine Mm.o_callH (v := .int .i64 X) H (fun W h => h) rfl rfl 28 (#[.agg #[.int .i64 was.a, .int .i64 was.s, .int .i64 was.i, .int .i64 was.k, .int .i64 was.b, .int .i64 was.r, .slice aw nw cw0], .string p.1]) (by go_simp; first | done | rfl) (ow.out _ (HVW.out.to H.out.below)) ?_
                          clear H
                          intro _ H hb
                          clear hb
                          simp only [Act.put, getElem_toArray, getElem_cons_zero, getElem_cons_succ, setIfInBounds_toArray, set_cons_zero, set_cons_succ]
                          refine Mm.o_callH (v := .int .i64 Y) H (fun W h => h) rfl rfl 28 (#[.agg #[.int .i64 is.a, .int .i64 is.s, .int .i64 is.i, .int .i64 is.k, .int .i64 is.b, .int .i64 is.r, .slice ai ni ci0], .string p.1]) (by go_simp; first | done | rfl) (oi.out _ (HVI.out.to H.out.below)) ?_
                          clear H
                          intro _ H hb
                          clear hb
                          simp only [Act.put, getElem_toArray, getElem_cons_zero, getElem_cons_succ, setIfInBounds_toArray, set_cons_zero, set_cons_succ]
                          apply s_val
                          case ho | hw => rfl
                          case hv => intro w hw; go_simp; first | done | rfl
                          simp only [Act.put, getElem_toArray, getElem_cons_zero, getElem_cons_succ, setIfInBounds_toArray, set_cons_zero, set_cons_succ]
                          apply s_val
                          case ho | hw => rfl
                          case hv => intro w hw; go_simp; first | done | rfl
                          simp only [Act.put, getElem_toArray, getElem_cons_zero, getElem_cons_succ, setIfInBounds_toArray, set_cons_zero, set_cons_succ]
                          refine NoPanic.normal ?_
                          have tk0 := hidp trivial
                          go_wp2_with (first | (clear tk0; (refine Mm.ld0 naSx H rfl (.tmp 99) 0 (.string p.1) rfl rfl rfl ?_); (try simp only [Act.put, setIfInBounds_toArray, set_cons_zero, set_cons_succ]); have tk1 := hidp trivial))
                          try clear tk1
                          exact ⟨⟨i + 1, by go_num, by omega, HOK2.out, H.out.tail⟩, by simp [intOf]; omega⟩
                        | false =>
                          have hsn : (p.1.toList != u.toList) = true := by simp [bne, hs]
                          have HF := hidp (HFB.out (by unfold uBad; rw [HX.out, HY.out]; rw [d2, hsn, Bool.and_true, Bool.or_true]; rfl))
                          clear HNB HFB g1 g2 g3
                          have tk0 := hidp trivial
                          go_wp2_with (first | (clear tk0; (refine wpL_idxR tyU rfl (.tmp 67) (.tmp 69) rfl g 0 n cap i rfl rfl hlt ?_); (try simp only [Act.put, setIfInBounds_toArray, set_cons_zero, set_cons_succ]); have tk1 := hidp trivial) | (clear tk1; (refine wpL_atR tyU rfl (.tmp 71) rfl g (0 + 2 * i) (uR p) rfl rfl (HRW.out _ H.out.at0) ?_); (try simp only [Act.put, setIfInBounds_toArray, set_cons_zero, set_cons_succ]); have tk2 := hidp trivial) | (clear tk2; (refine Mm.new tyP H (some 12) rfl rfl rfl ?_; clear H; intro b12 _ H nw; have hb := nw.below; clear hb nw); (try simp only [Act.put, setIfInBounds_toArray, set_cons_zero, set_cons_succ]); have tk3 := hidp trivial) | (clear tk3; (refine Mm.put0 tyP H rfl (.tmp 12) (.tmp 72) (uR p) rfl rfl rfl rfl (uR_one p) rfl ?_; intro _ H2 st; clear st H; have H := H2; clear H2); (try simp only [Act.put, setIfInBounds_toArray, set_cons_zero, set_cons_succ]); have tk4 := hidp trivial) | (clear tk4; (refine Mm.ld3 naSU H rfl (.tmp 73) 6 (.slice aw nw cw0) rfl rfl rfl ?_); (try simp only [Act.put, setIfInBounds_toArray, set_cons_zero, set_cons_succ]); have tk5 := hidp trivial) | (clear tk5; (refine Mm.get0 tyP H rfl (.tmp 12) rfl rfl rfl ?_); (try simp only [Act.put, setIfInBounds_toArray, set_cons_zero, set_cons_succ]); have tk6 := hidp trivial) | (clear tk6; (go_at_call 77; refine (nw9.out _ (HVW.out.to H.out.below)).mono ?_; rintro e _ ⟨rfl, hb⟩; replace H := hidp (H.out.call hb); clear nw9; clear hb); (try simp only [Act.put, setIfInBounds_toArray, set_cons_zero, set_cons_succ]); have tk7 := hidp trivial) | (clear tk7; (refine Mm.ld2 naSU H rfl (.tmp 78) 6 (.slice ai ni ci0) rfl rfl rfl ?_); (try simp only [Act.put, setIfInBounds_toArray, set_cons_zero, set_cons_succ]); have tk8 := hidp trivial) | (clear tk8; (refine Mm.get0 tyP H rfl (.tmp 12) rfl rfl rfl ?_); (try simp only [Act.put, setIfInBounds_toArray, set_cons_zero, set_cons_succ]); have tk9 := hidp trivial) | (clear tk9; (go_at_call 77; refine (ni9.out _ (HVI.out.to H.out.below)).mono ?_; rintro e _ ⟨rfl, hb⟩; replace H := hidp (H.out.call hb); clear ni9; clear hb); (try simp only [Act.put, setIfInBounds_toArray, set_cons_zero, set_cons_succ]); have tk10 := hidp trivial))
                          try clear tk10
                          refine Mm.region H (.take 0 (.take 1 (.take 2 (.take 4 (.take 5 (.take 6 (.one 3 (.one 7 (.take 8 (.take 9 .done)))))))))) (by kernel_rfl) (by kernel_rfl) (by simp [Scr.depth]) (by kernel_rfl) ?_
                          clear H
                          intro _ H hb
                          clear hb
                          refine Mm.sget3 tyL (fun w h => h) rfl rfl (.tmp 3) rfl rfl rfl ?_
                          simp only [Act.put, getElem_toArray, getElem_cons_zero, getElem_cons_succ, setIfInBounds_toArray, set_cons_zero, set_cons_succ]
                          apply s_val
                          case ho | hw => rfl
                          case hv => intro w hw; go_simp; first | done | rfl
                          simp only [Act.put, getElem_toArray, getElem_cons_zero, getElem_cons_succ, setIfInBounds_toArray, set_cons_zero, set_cons_succ]
                          refine Mm.sld0 naSx (fun w h => h) rfl rfl (.tmp 84) 0 (.string p.1) rfl rfl rfl ?_
                          simp only [Act.put, getElem_toArray, getElem_cons_zero, getElem_cons_succ, setIfInBounds_toArray, set_cons_zero, set_cons_succ]
                          refine Mm.sget2 tyL (fun w h => h) rfl rfl (.tmp 4) rfl rfl rfl ?_
                          simp only [Act.put, getElem_toArray, getElem_cons_zero, getElem_cons_succ, setIfInBounds_toArray, set_cons_zero, set_cons_succ]
                          apply s_val
                          case ho | hw => rfl
                          case hv => intro w hw; go_simp; first | done | rfl
                          simp only [Act.put, getElem_toArray, getElem_cons_zero, getElem_cons_succ, setIfInBounds_toArray, set_cons_zero, set_cons_succ]
                          refine Mm.sld0 naSx (fun w h => h) rfl rfl (.tmp 88) 0 (.string p.1) rfl rfl rfl ?_
                          simp only [Act.put, getElem_toArray, getElem_cons_zero, getElem_cons_succ, setIfInBounds_toArray, set_cons_zero, set_cons_succ]
                          refine Mm.o_callH (v := .int .i64 X) H (fun W h => h) rfl rfl 28 (#[.agg #[.int .i64 was.a, .int .i64 was.s, .int .i64 was.i, .int .i64 was.k, .int .i64 was.b, .int .i64 was.r, .slice aw nw cw0], .string p.1]) (by go_simp; first | done | rfl) (ow.out _ (HVW.out.to H.out.below)) ?_
                          clear H
                          intro _ H hb
                          clear hb
                          simp only [Act.put, getElem_toArray, getElem_cons_zero, getElem_cons_succ, setIfInBounds_toArray, set_cons_zero, set_cons_succ]
                          refine Mm.o_callH (v := .int .i64 Y) H (fun W h => h) rfl rfl 28 (#[.agg #[.int .i64 is.a, .int .i64 is.s, .int .i64 is.i, .int .i64 is.k, .int .i64 is.b, .int .i64 is.r, .slice ai ni ci0], .string p.1]) (by go_simp; first | done | rfl) (oi.out _ (HVI.out.to H.out.below)) ?_
                          clear H
                          intro _ H hb
                          clear hb
                          simp only [Act.put, getElem_toArray, getElem_cons_zero, getElem_cons_succ, setIfInBounds_toArray, set_cons_zero, set_cons_succ]
                          apply s_val
                          case ho | hw => rfl
                          case hv => intro w hw; go_simp; first | done | rfl
                          simp only [Act.put, getElem_toArray, getElem_cons_zero, getElem_cons_succ, setIfInBounds_toArray, set_cons_zero, set_cons_succ]
                          apply s_val
                          case ho | hw => rfl
                          case hv => intro w hw; go_simp; first | done | rfl
                          simp only [Act.put, getElem_toArray, getElem_cons_zero, getElem_cons_succ, setIfInBounds_toArray, set_cons_zero, set_cons_succ]
                          refine NoPanic.normal ?_
                          have tk0 := hidp trivial
                          go_wp2_with (first | (clear tk0; (refine Mm.ld0 naSx H rfl (.tmp 99) 0 (.string p.1) rfl rfl rfl ?_); (try simp only [Act.put, setIfInBounds_toArray, set_cons_zero, set_cons_succ]); have tk1 := hidp trivial) | (clear tk1; (refine Mm.skipd 106 rfl _ _ rfl rfl ?_); (try simp only [Act.put, setIfInBounds_toArray, set_cons_zero, set_cons_succ]); have tk2 := hidp trivial) | (clear tk2; (refine Mm.skipd 107 rfl _ _ rfl rfl ?_); (try simp only [Act.put, setIfInBounds_toArray, set_cons_zero, set_cons_succ]); have tk3 := hidp trivial) | (clear tk3; (refine Mm.skipd 108 rfl _ _ rfl rfl ?_); (try simp only [Act.put, setIfInBounds_toArray, set_cons_zero, set_cons_succ]); have tk4 := hidp trivial))
                          try clear tk4
                          go_ret
                          exact ⟨by rw [HF.out]; rfl, H.out.below⟩
                      · have d2 : (X == lev) = false := by simpa using g2
                        have HOK2 := hidp (HNB.out (by unfold uBad; rw [HX.out, HY.out]; rw [d1, d2, d3]; rfl))
                        clear HNB HFB g1 g2 g3
                        have tk0 := hidp trivial
                        go_wp2_with (first | (clear tk0; (refine wpL_idxR tyU rfl (.tmp 67) (.tmp 69) rfl g 0 n cap i rfl rfl hlt ?_); (try simp only [Act.put, setIfInBounds_toArray, set_cons_zero, set_cons_succ]); have tk1 := hidp trivial) | (clear tk1; (refine wpL_atR tyU rfl (.tmp 71) rfl g (0 + 2 * i) (uR p) rfl rfl (HRW.out _ H.out.at0) ?_); (try simp only [Act.put, setIfInBounds_toArray, set_cons_zero, set_cons_succ]); have tk2 := hidp trivial) | (clear tk2; (refine Mm.new tyP H (some 12) rfl rfl rfl ?_; clear H; intro b12 _ H nw; have hb := nw.below; clear hb nw); (try simp only [Act.put, setIfInBounds_toArray, set_cons_zero, set_cons_succ]); have tk3 := hidp trivial) | (clear tk3; (refine Mm.put0 tyP H rfl (.tmp 12) (.tmp 72) (uR p) rfl rfl rfl rfl (uR_one p) rfl ?_; intro _ H2 st; clear st H; have H := H2; clear H2); (try simp only [Act.put, setIfInBounds_toArray, set_cons_zero, set_cons_succ]); have tk4 := hidp trivial) | (clear tk4; (refine Mm.ld3 naSU H rfl (.tmp 73) 6 (.slice aw nw cw0) rfl rfl rfl ?_); (try simp only [Act.put, setIfInBounds_toArray, set_cons_zero, set_cons_succ]); have tk5 := hidp trivial) | (clear tk5; (refine Mm.get0 tyP H rfl (.tmp 12) rfl rfl rfl ?_); (try simp only [Act.put, setIfInBounds_toArray, set_cons_zero, set_cons_succ]); have tk6 := hidp trivial) | (clear tk6; (go_at_call 77; refine (nw9.out _ (HVW.out.to H.out.below)).mono ?_; rintro e _ ⟨rfl, hb⟩; replace H := hidp (H.out.call hb); clear nw9; clear hb); (try simp only [Act.put, setIfInBounds_toArray, set_cons_zero, set_cons_succ]); have tk7 := hidp trivial) | (clear tk7; (refine Mm.ld2 naSU H rfl (.tmp 78) 6 (.slice ai ni ci0) rfl rfl rfl ?_); (try simp only [Act.put, setIfInBounds_toArray, set_cons_zero, set_cons_succ]); have tk8 := hidp trivial) | (clear tk8; (refine Mm.get0 tyP H rfl (.tmp 12) rfl rfl rfl ?_); (try simp only [Act.put, setIfInBounds_toArray, set_cons_zero, set_cons_succ]); have tk9 := hidp trivial) | (clear tk9; (go_at_call 77; refine (ni9.out _ (HVI.out.to H.out.below)).mono ?_; rintro e _ ⟨rfl, hb⟩; replace H := hidp (H.out.call hb); clear ni9; clear hb); (try simp only [Act.put, setIfInBounds_toArray, set_cons_zero, set_cons_succ]); have tk10 := hidp trivial))
                        try clear tk10
                        refine Mm.region H (.take 0 (.take 1 (.take 2 (.take 4 (.take 5 (.take 6 (.one 3 (.one 7 (.take 8 (.take 9 .done)))))))))) (by kernel_rfl) (by kernel_rfl) (by simp [Scr.depth]) (by kernel_rfl) ?_
                        clear H
                        intro _ H hb
                        clear hb
                        refine Mm.sget3 tyL (fun w h => h) rfl rfl (.tmp 3) rfl rfl rfl ?_
                        simp only [Act.put, getElem_toArray, getElem_cons_zero, getElem_cons_succ, setIfInBounds_toArray, set_cons_zero, set_cons_succ]
                        apply s_val
                        case ho | hw => rfl
                        case hv => intro w hw; go_simp; first | done | rfl
                        simp only [Act.put, getElem_toArray, getElem_cons_zero, getElem_cons_succ, setIfInBounds_toArray, set_cons_zero, set_cons_succ]
                        refine Mm.sld0 naSx (fun w h => h) rfl rfl (.tmp 84) 0 (.string p.1) rfl rfl rfl ?_
                        simp only [Act.put, getElem_toArray, getElem_cons_zero, getElem_cons_succ, setIfInBounds_toArray, set_cons_zero, set_cons_succ]
                        refine Mm.sget2 tyL (fun w h => h) rfl rfl (.tmp 4) rfl rfl rfl ?_
                        simp only [Act.put, getElem_toArray, getElem_cons_zero, getElem_cons_succ, setIfInBounds_toArray, set_cons_zero, set_cons_succ]
                        apply s_val
                        case ho | hw => rfl
                        case hv => intro w hw; go_simp; first | done | rfl
                        simp only [Act.put, getElem_toArray, getElem_cons_zero, getElem_cons_succ, setIfInBounds_toArray, set_cons_zero, set_cons_succ]
                        refine Mm.sld0 naSx (fun w h => h) rfl rfl (.tmp 88) 0 (.string p.1) rfl rfl rfl ?_
                        simp only [Act.put, getElem_toArray, getElem_cons_zero, getElem_cons_succ, setIfInBounds_toArray, set_cons_zero, set_cons_succ]
                        refine Mm.o_callH (v := .int .i64 X) H (fun W h => h) rfl rfl 28 (#[.agg #[.int .i64 was.a, .int .i64 was.s, .int .i64 was.i, .int .i64 was.k, .int .i64 was.b, .int .i64 was.r, .slice aw nw cw0], .string p.1]) (by go_simp; first | done | rfl) (ow.out _ (HVW.out.to H.out.below)) ?_
                        clear H
                        intro _ H hb
                        clear hb
                        simp only [Act.put, getElem_toArray, getElem_cons_zero, getElem_cons_succ, setIfInBounds_toArray, set_cons_zero, set_cons_succ]
                        refine Mm.o_callH (v := .int .i64 Y) H (fun W h => h) rfl rfl 28 (#[.agg #[.int .i64 is.a, .int .i64 is.s, .int .i64 is.i, .int .i64 is.k, .int .i64 is.b, .int .i64 is.r, .slice ai ni ci0], .string p.1]) (by go_simp; first | done | rfl) (oi.out _ (HVI.out.to H.out.below)) ?_
                        clear H
                        intro _ H hb
                        clear hb
                        simp only [Act.put, getElem_toArray, getElem_cons_zero, getElem_cons_succ, setIfInBounds_toArray, set_cons_zero, set_cons_succ]
                        apply s_val
                        case ho | hw => rfl
                        case hv => intro w hw; go_simp; first | done | rfl
                        simp only [Act.put, getElem_toArray, getElem_cons_zero, getElem_cons_succ, setIfInBounds_toArray, set_cons_zero, set_cons_succ]
                        apply s_val
                        case ho | hw => rfl
                        case hv => intro w hw; go_simp; first | done | rfl
                        simp only [Act.put, getElem_toArray, getElem_cons_zero, getElem_cons_succ, setIfInBounds_toArray, set_cons_zero, set_cons_succ]
                        refine NoPanic.normal ?_
                        have tk0 := hidp trivial
                        go_wp2_with (first | (clear tk0; (refine Mm.skipd 99 rfl _ _ rfl rfl ?_); (try simp only [Act.put, setIfInBounds_toArray, set_cons_zero, set_cons_succ]); have tk1 := hidp trivial) | (clear tk1; (refine Mm.skipd 100 rfl _ _ rfl rfl ?_); (try simp only [Act.put, setIfInBounds_toArray, set_cons_zero, set_cons_succ]); have tk2 := hidp trivial) | (clear tk2; (refine Mm.skipd 101 rfl _ _ rfl rfl ?_); (try simp only [Act.put, setIfInBounds_toArray, set_cons_zero, set_cons_succ]); have tk3 := hidp trivial) | (clear tk3; (refine Mm.skipd 102 rfl _ _ rfl rfl ?_); (try simp only [Act.put, setIfInBounds_toArray, set_cons_zero, set_cons_succ]); have tk4 := hidp trivial))
                        try clear tk4
                        exact ⟨⟨i + 1, by go_num, by omega, HOK2.out, H.out.tail⟩, by simp [intOf]; omega⟩
            · have e1 : decide ((i : Int) < (n : Int)) = false := by simp; omega
              have HF := hidp (show chE was is u = 0 from by
                have := HOK.out
                rw [show i = (was.us ++ is.us).length from by rw [HUL.out]; omega, List.take_length] at this
                rw [HC3.out, this]; rfl)
              go_wp2_with fail
              go_ret
              exact ⟨by rw [HF.out]; rfl, H.out.below⟩
end Go.Proofs.YtiakfopdohcigaaGreatDoor
