
/-
  state: compare, lasting, valid, cellOf.
-/
import Derived.Test.YtiakfopdohcigaaGreatDoorStB
namespace Go.Proofs.YtiakfopdohcigaaGreatDoor
set_option maxRecDepth 100000
set_option linter.unusedVariables false
set_option linter.unusedSimpArgs false
open Go.RowKit Rw


theorem run_bs2 (x y : Int) (w : World) : (Instr.buildSlice 63 2 #[(0, .int .i64 x), (1, .int .i64 y)]).run Tryz.prog w = .ok (.slice (some ⟨w.heap.size, 0, none⟩) 2 2) (w.alloc (.cells #[.int .i64 x, .int .i64 y] 3)) := by
  have hi : (Tryz.prog.info? 3).map (fun i => (i.zero, i.size, i.bytes)) = some (some (.int .i64 0), 1, 8) := by kernel_rfl
  obtain ⟨i0, hi, hz0, hz1, hz2⟩ := info_parts hi
  refine run_buildSlice w 63 3 2 _ _ i0 _ Tryz.underlying63 hi hz0 (by rw [hz1]; omega) (by rw [hz1]; omega) ?_
  have hr : Array.range 2 = #[0, 1] := by decide
  rw [hz1]; simp [Instr.fill, Value.cells, hr]
section
variable {ops : Array Oper} {Q : Exit → Act → World → Prop} {S : World → Prop} {j : Nat} {o : Oper} {a : Act} {w w0 : World} {N : Nat} {L : List Mm.Bx} {K : Act → World → Prop}
theorem o_bs2 (H : Hid (Mm.M N w0 w L)) (hT : ∀ W, Mm.M N w0 W L → S W) (ho : ops[j]? = some o) (hw : Region.wanted o (yielded ops a.tmps) = true) (x y : Operand) (vx vy : Int) (hop : o.op = .buildSlice 63 2 #[(0, x), (1, y)]) (hx : a.eval x = .int .i64 vx) (hy : a.eval y = .int .i64 vy)
    (h : ∀ b W, Hid (Mm.M N w0 W (⟨b, 3, [.int .i64 vx, .int .i64 vy]⟩ :: L)) → Below w.heap.size w W → K (a.put o.dst (.slice (some ⟨b, 0, none⟩) 2 2)) W) : opW Tryz.prog ops Q S j K a w := by
  refine ⟨o, ho, hw, ?_⟩
  have n := Rt.NewAt.mk' w 3 [.int .i64 vx, .int .i64 vy]
  have := h _ _ (hidp (H.out.new n)) n.below
  unfold Oper.wp execOp
  simp only [hop, List.map_toArray, List.map_cons, List.map_nil, hx, hy, Sem.run_bind, run_bs2 vx vy w, Result.andThen_ok]
  exact ⟨hT _ (H.out.new n).tail, this⟩
end

theorem same_bs {f : FuncId} {args : Array Value} {w : World} {v : Value} (h : Calls Tryz.prog f args w fun e w' => e = .returned v ∧ w' = w) : Calls Tryz.prog f args w fun e w' => e = .returned v ∧ Below w.heap.size w w' :=
  h.mono fun e w' ⟨h1, h2⟩ => ⟨h1, h2 ▸ Below.refl _ _⟩
set_option maxHeartbeats 4000000 in
theorem compare_any (w : World) (c d : Ce) : Calls Tryz.prog 102 #[.agg c.row.toArray, .agg d.row.toArray] w fun e w' => e = .returned (.int .i64 (cmpC c d)) ∧ Below w.heap.size w w' := by
  have H := hidp (Mm.M.nil w)
  go_enter Tryz.func102, Tryz.ntmps102
  go_wp2_with (first | (refine Mm.box 75 H rfl (.tmp 0) rfl c.row rfl ?_; clear H; intro b2 _ H nw; have hb := nw.below; clear hb nw) | (refine Mm.box 75 H rfl (.tmp 1) rfl d.row rfl ?_; clear H; intro b3 _ H nw; have hb := nw.below; clear hb nw))
  refine Mm.region H (.take 0 (.take 1 (.take 2 (.take 3 (.take 5 (.take 6 (.take 7 (.take 8 (.one 4 (.one 9 (.one 10 (.one 11 (.take 12 .done))))))))))))) (by kernel_rfl) (by kernel_rfl) (by simp [Scr.depth]) (by kernel_rfl) ?_
  clear H
  intro _ H hb
  clear hb
  apply s_val
  case ho => rfl
  case hw => rfl
  case hv => intro w hw; go_simp; first | done | with_reducible rfl | rfl
  simp only [Act.put, List.getElem_toArray, List.getElem_cons_zero, List.getElem_cons_succ, List.setIfInBounds_toArray, List.set_cons_zero, List.set_cons_succ]
  refine Mm.sld1 naK (fun w h => h) rfl rfl (.tmp 5) 0 (.int .u8 (c.k : Int)) rfl rfl rfl ?_
  simp only [Act.put, List.getElem_toArray, List.getElem_cons_zero, List.getElem_cons_succ, List.setIfInBounds_toArray, List.set_cons_zero, List.set_cons_succ]
  apply s_val
  case ho => rfl
  case hw => rfl
  case hv => intro w hw; go_simp; first | done | with_reducible rfl | rfl
  simp only [Act.put, List.getElem_toArray, List.getElem_cons_zero, List.getElem_cons_succ, List.setIfInBounds_toArray, List.set_cons_zero, List.set_cons_succ]
  refine Mm.sld0 naK (fun w h => h) rfl rfl (.tmp 7) 0 (.int .u8 (d.k : Int)) rfl rfl rfl ?_
  simp only [Act.put, List.getElem_toArray, List.getElem_cons_zero, List.getElem_cons_succ, List.setIfInBounds_toArray, List.set_cons_zero, List.set_cons_succ]
  apply s_val
  case ho => rfl
  case hw => rfl
  case hv => intro w hw; go_simp; first | done | with_reducible rfl | rfl
  simp only [Act.put, List.getElem_toArray, List.getElem_cons_zero, List.getElem_cons_succ, List.setIfInBounds_toArray, List.set_cons_zero, List.set_cons_succ]
  refine Mm.sld1 naS (fun w h => h) rfl rfl (.tmp 10) 1 (.string c.y) rfl rfl rfl ?_
  simp only [Act.put, List.getElem_toArray, List.getElem_cons_zero, List.getElem_cons_succ, List.setIfInBounds_toArray, List.set_cons_zero, List.set_cons_succ]
  apply s_val
  case ho => rfl
  case hw => rfl
  case hv => intro w hw; go_simp; first | done | with_reducible rfl | rfl
  simp only [Act.put, List.getElem_toArray, List.getElem_cons_zero, List.getElem_cons_succ, List.setIfInBounds_toArray, List.set_cons_zero, List.set_cons_succ]
  refine Mm.sld0 naS (fun w h => h) rfl rfl (.tmp 12) 1 (.string d.y) rfl rfl rfl ?_
  simp only [Act.put, List.getElem_toArray, List.getElem_cons_zero, List.getElem_cons_succ, List.setIfInBounds_toArray, List.set_cons_zero, List.set_cons_succ]
  refine Mm.o_callH (v := .int .i64 (cmpN c.k d.k)) H (fun W h => h) rfl rfl 142 (#[.int .u8 (c.k : Int), .int .u8 (d.k : Int)]) (by go_simp; first | done | rfl) (same_bs (cmpK_any _ c.k d.k)) ?_
  clear H
  intro _ H hb
  clear hb
  simp only [Act.put, List.getElem_toArray, List.getElem_cons_zero, List.getElem_cons_succ, List.setIfInBounds_toArray, List.set_cons_zero, List.set_cons_succ]
  refine Mm.o_callH (v := .int .i64 (cmpS c.y d.y)) H (fun W h => h) rfl rfl 143 (#[.string c.y, .string d.y]) (by go_simp; first | done | rfl) (same_bs (cmpS_any _ c.y d.y)) ?_
  clear H
  intro _ H hb
  clear hb
  simp only [Act.put, List.getElem_toArray, List.getElem_cons_zero, List.getElem_cons_succ, List.setIfInBounds_toArray, List.set_cons_zero, List.set_cons_succ]
  refine o_bs2 H (fun W h => h) rfl rfl (.tmp 9) (.tmp 14) (cmpN c.k d.k) (cmpS c.y d.y) rfl rfl rfl ?_
  clear H
  intro b15 _ H hb
  clear hb
  simp only [Act.put, List.getElem_toArray, List.getElem_cons_zero, List.getElem_cons_succ, List.setIfInBounds_toArray, List.set_cons_zero, List.set_cons_succ]
  refine Mm.o_callH (v := .int .i64 (cmpC c d)) H (fun W h => h.tail) rfl rfl 141 (#[.slice (some ⟨b15, 0, none⟩) 2 2]) (by go_simp; first | done | rfl) (same_bs (or_any _ b15 _ _ _ H.out.at0)) ?_
  clear H
  intro _ H hb
  clear hb
  simp only [Act.put, List.getElem_toArray, List.getElem_cons_zero, List.getElem_cons_succ, List.setIfInBounds_toArray, List.set_cons_zero, List.set_cons_succ]
  apply s_val
  case ho => rfl
  case hw => rfl
  case hv => intro w hw; go_simp; first | done | with_reducible rfl | rfl
  simp only [Act.put, List.getElem_toArray, List.getElem_cons_zero, List.getElem_cons_succ, List.setIfInBounds_toArray, List.set_cons_zero, List.set_cons_succ]
  refine NoPanic.normal ?_
  go_wp2_with fail
  go_ret
  exact ⟨rfl, H.out.below⟩

set_option maxHeartbeats 4000000 in
theorem lasting_any (w : World) (e : Ev) (he : e.ok) (hI : IT w) : Calls Tryz.prog 105 #[.agg e.row.toArray] w fun x w' => x = .returned (.bool (lasB e)) ∧ Below w.heap.size w w' := by
  have HI := hidp hI
  have cs := hidp (fun W => state_any W e.kind he.k)
  have ck := hidp (fun W h => evCheck_ev W e he h)
  have H := hidp (Mm.M.nil w)
  clear hI
  cases h1 : stB e.kind with
  | false =>
    rw [h1] at cs
    have HF := hidp (show lasB e = false from by unfold lasB; rw [h1]; rfl)
    clear h1
    go_enter Tryz.func105, Tryz.ntmps105
    go_wp2_with (first | (refine Rt.wpL_skip _ _ rfl rfl ?_) | (refine Mm.box 25 H rfl (.tmp 0) rfl e.row rfl ?_; clear H; intro b1 _ H nw; have hb := nw.below; clear hb nw) | (refine Mm.ld0 naK H rfl (.tmp 3) 2 (.int .u8 (e.kind : Int)) rfl rfl rfl ?_) | (go_at_call 135; refine (same_bs (cs.out _)).mono ?_; rintro e _ ⟨rfl, hb⟩; replace H := hidp (H.out.call hb); clear hb) | (refine Mm.get0 rtE H rfl (.tmp 1) rfl rfl rfl ?_) | (go_at_call 84; refine (ck.out _ (HI.out.below H.out.below (Nat.le_refl _))).mono ?_; rintro e _ ⟨rfl, hb⟩; replace H := hidp (H.out.call hb); clear hb))
    go_ret
    exact ⟨by rw [HF.out]; rfl, H.out.below⟩
  | true =>
    rw [h1] at cs
    cases h2 : evOk e with
    | true =>
      rw [show evE e = 0 from if_pos h2] at ck
      have HF := hidp (show lasB e = true from by unfold lasB; rw [h1, h2]; rfl)
      clear h1 h2
      go_enter Tryz.func105, Tryz.ntmps105
      go_wp2_with (first | (refine Rt.wpL_skip _ _ rfl rfl ?_) | (refine Mm.box 25 H rfl (.tmp 0) rfl e.row rfl ?_; clear H; intro b1 _ H nw; have hb := nw.below; clear hb nw) | (refine Mm.ld0 naK H rfl (.tmp 3) 2 (.int .u8 (e.kind : Int)) rfl rfl rfl ?_) | (go_at_call 135; refine (same_bs (cs.out _)).mono ?_; rintro e _ ⟨rfl, hb⟩; replace H := hidp (H.out.call hb); clear hb) | (refine Mm.get0 rtE H rfl (.tmp 1) rfl rfl rfl ?_) | (go_at_call 84; refine (ck.out _ (HI.out.below H.out.below (Nat.le_refl _))).mono ?_; rintro e _ ⟨rfl, hb⟩; replace H := hidp (H.out.call hb); clear hb))
      go_ret
      exact ⟨by rw [HF.out]; rfl, H.out.below⟩
    | false =>
      rw [show evE e = 2 from if_neg (by rw [h2]; exact Bool.false_ne_true)] at ck
      have HF := hidp (show lasB e = false from by unfold lasB; rw [h1, h2]; rfl)
      clear h1 h2
      go_enter Tryz.func105, Tryz.ntmps105
      go_wp2_with (first | (refine Rt.wpL_skip _ _ rfl rfl ?_) | (refine Mm.box 25 H rfl (.tmp 0) rfl e.row rfl ?_; clear H; intro b1 _ H nw; have hb := nw.below; clear hb nw) | (refine Mm.ld0 naK H rfl (.tmp 3) 2 (.int .u8 (e.kind : Int)) rfl rfl rfl ?_) | (go_at_call 135; refine (same_bs (cs.out _)).mono ?_; rintro e _ ⟨rfl, hb⟩; replace H := hidp (H.out.call hb); clear hb) | (refine Mm.get0 rtE H rfl (.tmp 1) rfl rfl rfl ?_) | (go_at_call 84; refine (ck.out _ (HI.out.below H.out.below (Nat.le_refl _))).mono ?_; rintro e _ ⟨rfl, hb⟩; replace H := hidp (H.out.call hb); clear hb))
      go_ret
      exact ⟨by rw [HF.out]; rfl, H.out.below⟩

set_option maxHeartbeats 4000000 in
theorem valid_cell (w : World) (c : Ce) (hc : c.ok) (hI : IT w) : Calls Tryz.prog 101 #[.agg c.row.toArray] w fun x w' => x = .returned (.bool (vaC c)) ∧ Below w.heap.size w w' := by
  have HI := hidp hI
  have cl := hidp (fun W h => lasting_any W c.e hc.e h)
  have H := hidp (Mm.M.nil w)
  clear hI
  cases h1 : lasB c.e with
  | false =>
    rw [h1] at cl
    have HF := hidp (show vaC c = false from by unfold vaC; rw [h1]; rfl)
    clear h1
    go_enter Tryz.func101, Tryz.ntmps101
    go_wp2_with (first | (refine Rt.wpL_skip _ _ rfl rfl ?_) | (refine Rt.wpL_skipN _ _ rfl rfl ?_) | (refine Mm.box 75 H rfl (.tmp 0) rfl c.row rfl ?_; clear H; intro b1 _ H nw; have hb := nw.below; clear hb nw) | (refine wpL_mid rtE rfl (.tmp 3) b1 2 c.e.row rfl rfl rfl (ce_evA H.out.at0) ?_) | (go_at_call 105; refine (cl.out _ (HI.out.below H.out.below (Nat.le_refl _))).mono ?_; rintro e _ ⟨rfl, hb⟩; replace H := hidp (H.out.call hb); clear hb) | (refine Mm.ld0 naK H rfl (.tmp 8) 4 (.int .u8 (c.e.kind : Int)) rfl rfl rfl ?_) | (refine Mm.ld0 naK H rfl (.tmp 10) 0 (.int .u8 (c.k : Int)) rfl rfl rfl ?_) | (refine Mm.ld0 naS H rfl (.tmp 16) 5 (.string c.e.key) rfl rfl rfl ?_) | (refine Mm.ld0 naS H rfl (.tmp 18) 1 (.string c.y) rfl rfl rfl ?_))
    go_ret
    exact ⟨by rw [HF.out]; rfl, H.out.below⟩
  | true =>
    rw [h1] at cl
    by_cases h2 : c.e.kind = c.k
    · have e2 : ((c.e.kind : Int) == (c.k : Int)) = true := by rw [h2]; simp
      by_cases h3 : c.e.key = c.y
      · have e3 : (c.e.key.toList == c.y.toList) = true := by rw [h3]; simp
        have HF := hidp (show vaC c = true from by unfold vaC; simp [h1, h2, h3])
        clear h1 h2 h3
        go_enter Tryz.func101, Tryz.ntmps101
        go_wp2_with (first | (refine Rt.wpL_skip _ _ rfl rfl ?_) | (refine Rt.wpL_skipN _ _ rfl rfl ?_) | (refine Mm.box 75 H rfl (.tmp 0) rfl c.row rfl ?_; clear H; intro b1 _ H nw; have hb := nw.below; clear hb nw) | (refine wpL_mid rtE rfl (.tmp 3) b1 2 c.e.row rfl rfl rfl (ce_evA H.out.at0) ?_) | (go_at_call 105; refine (cl.out _ (HI.out.below H.out.below (Nat.le_refl _))).mono ?_; rintro e _ ⟨rfl, hb⟩; replace H := hidp (H.out.call hb); clear hb) | (refine Mm.ld0 naK H rfl (.tmp 8) 4 (.int .u8 (c.e.kind : Int)) rfl rfl rfl ?_) | (refine Mm.ld0 naK H rfl (.tmp 10) 0 (.int .u8 (c.k : Int)) rfl rfl rfl ?_) | (refine Mm.ld0 naS H rfl (.tmp 16) 5 (.string c.e.key) rfl rfl rfl ?_) | (refine Mm.ld0 naS H rfl (.tmp 18) 1 (.string c.y) rfl rfl rfl ?_))
        go_ret
        exact ⟨by rw [HF.out]; rfl, H.out.below⟩
      · have e3 : (c.e.key.toList == c.y.toList) = false := by rw [beq_eq_false_iff_ne]; exact fun e => h3 (ba_inj' e)
        have HF := hidp (show vaC c = false from by unfold vaC; simp [h1, h2, h3])
        clear h1 h2 h3
        go_enter Tryz.func101, Tryz.ntmps101
        go_wp2_with (first | (refine Rt.wpL_skip _ _ rfl rfl ?_) | (refine Rt.wpL_skipN _ _ rfl rfl ?_) | (refine Mm.box 75 H rfl (.tmp 0) rfl c.row rfl ?_; clear H; intro b1 _ H nw; have hb := nw.below; clear hb nw) | (refine wpL_mid rtE rfl (.tmp 3) b1 2 c.e.row rfl rfl rfl (ce_evA H.out.at0) ?_) | (go_at_call 105; refine (cl.out _ (HI.out.below H.out.below (Nat.le_refl _))).mono ?_; rintro e _ ⟨rfl, hb⟩; replace H := hidp (H.out.call hb); clear hb) | (refine Mm.ld0 naK H rfl (.tmp 8) 4 (.int .u8 (c.e.kind : Int)) rfl rfl rfl ?_) | (refine Mm.ld0 naK H rfl (.tmp 10) 0 (.int .u8 (c.k : Int)) rfl rfl rfl ?_) | (refine Mm.ld0 naS H rfl (.tmp 16) 5 (.string c.e.key) rfl rfl rfl ?_) | (refine Mm.ld0 naS H rfl (.tmp 18) 1 (.string c.y) rfl rfl rfl ?_))
        go_ret
        exact ⟨by rw [HF.out]; rfl, H.out.below⟩
    · have e2 : ((c.e.kind : Int) == (c.k : Int)) = false := by rw [beq_eq_false_iff_ne]; omega
      have HF := hidp (show vaC c = false from by unfold vaC; simp [h1, h2])
      clear h1 h2
      go_enter Tryz.func101, Tryz.ntmps101
      go_wp2_with (first | (refine Rt.wpL_skip _ _ rfl rfl ?_) | (refine Rt.wpL_skipN _ _ rfl rfl ?_) | (refine Mm.box 75 H rfl (.tmp 0) rfl c.row rfl ?_; clear H; intro b1 _ H nw; have hb := nw.below; clear hb nw) | (refine wpL_mid rtE rfl (.tmp 3) b1 2 c.e.row rfl rfl rfl (ce_evA H.out.at0) ?_) | (go_at_call 105; refine (cl.out _ (HI.out.below H.out.below (Nat.le_refl _))).mono ?_; rintro e _ ⟨rfl, hb⟩; replace H := hidp (H.out.call hb); clear hb) | (refine Mm.ld0 naK H rfl (.tmp 8) 4 (.int .u8 (c.e.kind : Int)) rfl rfl rfl ?_) | (refine Mm.ld0 naK H rfl (.tmp 10) 0 (.int .u8 (c.k : Int)) rfl rfl rfl ?_) | (refine Mm.ld0 naS H rfl (.tmp 16) 5 (.string c.e.key) rfl rfl rfl ?_) | (refine Mm.ld0 naS H rfl (.tmp 18) 1 (.string c.y) rfl rfl rfl ?_))
      go_ret
      exact ⟨by rw [HF.out]; rfl, H.out.below⟩
end Go.Proofs.YtiakfopdohcigaaGreatDoor
