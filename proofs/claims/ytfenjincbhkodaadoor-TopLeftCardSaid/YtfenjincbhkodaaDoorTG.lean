/-
  Joined: StC StD.
-/
import Derived.Test.YtfenjincbhkodaaDoorTF
namespace Go.Proofs.YtfenjincbhkodaaDoor
set_option maxRecDepth 100000
set_option linter.unusedVariables false
set_option linter.unusedSimpArgs false
open Go.RowKit Rw


theorem run_bs2 (x y : Int) (w : World) : (Instr.buildSlice 34 2 #[(0, .int .i64 x), (1, .int .i64 y)]).run Tryd.prog w = .ok (.slice (some ⟨w.heap.size, 0, none⟩) 2 2) (w.alloc (.cells #[.int .i64 x, .int .i64 y] 3)) := by
  have hi : (Tryd.prog.info? 3).map (fun i => (i.zero, i.size, i.bytes)) = some (some (.int .i64 0), 1, 8) := by kernel_rfl
  obtain ⟨i0, hi, hz0, hz1, hz2⟩ := info_parts hi
  refine run_buildSlice w 34 3 2 _ _ i0 _ Tryd.underlying34 hi hz0 (by rw [hz1]; omega) (by rw [hz1]; omega) ?_
  have hr : Array.range 2 = #[0, 1] := by decide
  rw [hz1]; simp [Instr.fill, Value.cells, hr]
section
variable {ops : Array Oper} {Q : Exit → Act → World → Prop} {S : World → Prop} {j : Nat} {o : Oper} {a : Act} {w w0 : World} {N : Nat} {L : List Mm.Bx} {K : Act → World → Prop}
theorem o_bs2 (H : Hid (Mm.M N w0 w L)) (hT : ∀ W, Mm.M N w0 W L → S W) (ho : ops[j]? = some o) (hw : Region.wanted o (yielded ops a.tmps) = true) (x y : Operand) (vx vy : Int) (hop : o.op = .buildSlice 34 2 #[(0, x), (1, y)]) (hx : a.eval x = .int .i64 vx) (hy : a.eval y = .int .i64 vy)
    (h : ∀ b W, Hid (Mm.M N w0 W (⟨b, 3, [.int .i64 vx, .int .i64 vy]⟩ :: L)) → Below w.heap.size w W → K (a.put o.dst (.slice (some ⟨b, 0, none⟩) 2 2)) W) : opW Tryd.prog ops Q S j K a w := by
  refine ⟨o, ho, hw, ?_⟩
  have n := Rt.NewAt.mk' w 3 [.int .i64 vx, .int .i64 vy]
  have := h _ _ (hidp (H.out.new n)) n.below
  unfold Oper.wp execOp
  simp only [hop, List.map_toArray, List.map_cons, List.map_nil, hx, hy, Sem.run_bind, run_bs2 vx vy w, Result.andThen_ok]
  exact ⟨hT _ (H.out.new n).tail, this⟩
end

theorem same_bs {f : FuncId} {args : Array Value} {w : World} {v : Value} (h : Calls Tryd.prog f args w fun e w' => e = .returned v ∧ w' = w) : Calls Tryd.prog f args w fun e w' => e = .returned v ∧ Below w.heap.size w w' :=
  h.mono fun e w' ⟨h1, h2⟩ => ⟨h1, h2 ▸ Below.refl _ _⟩
set_option maxHeartbeats 4000000 in
theorem compare_any (w : World) (c d : Ce) : Calls Tryd.prog 59 #[.agg c.row.toArray, .agg d.row.toArray] w fun e w' => e = .returned (.int .i64 (cmpC c d)) ∧ Below w.heap.size w w' := by
  have H := hidp (Mm.M.nil w)
  go_enter Tryd.func59, Tryd.ntmps59
  go_wp2_with (first | (refine Mm.box 68 H rfl (.tmp 0) rfl c.row rfl ?_; clear H; intro b2 _ H nw; have hb := nw.below; clear hb nw) | (refine Mm.box 68 H rfl (.tmp 1) rfl d.row rfl ?_; clear H; intro b3 _ H nw; have hb := nw.below; clear hb nw))
  refine Mm.region H (.take 0 (.take 1 (.take 2 (.take 3 (.take 5 (.take 6 (.take 7 (.take 8 (.one 4 (.one 9 (.one 10 (.one 11 (.take 12 .done))))))))))))) (by kernel_rfl) (by kernel_rfl) (by simp [Scr.depth]) (by kernel_rfl) ?_
  clear H
  intro _ H hb
  clear hb
  apply s_val
  case ho => rfl
  case hw => rfl
  case hv => intro w hw; go_simp; first | done | with_reducible rfl | rfl
  simp only [Act.put, List.getElem_toArray, List.getElem_cons_zero, List.getElem_cons_succ, List.setIfInBounds_toArray, List.set_cons_zero, List.set_cons_succ]
  refine Mm.sld1 naK (fun w h => h) rfl rfl (.tmp 5) 0 (.int .u8 (c.k : Int)) rfl rfl rfl ?_
  simp only [Act.put, List.getElem_toArray, List.getElem_cons_zero, List.getElem_cons_succ, List.setIfInBounds_toArray, List.set_cons_zero, List.set_cons_succ]
  apply s_val
  case ho => rfl
  case hw => rfl
  case hv => intro w hw; go_simp; first | done | with_reducible rfl | rfl
  simp only [Act.put, List.getElem_toArray, List.getElem_cons_zero, List.getElem_cons_succ, List.setIfInBounds_toArray, List.set_cons_zero, List.set_cons_succ]
  refine Mm.sld0 naK (fun w h => h) rfl rfl (.tmp 7) 0 (.int .u8 (d.k : Int)) rfl rfl rfl ?_
  simp only [Act.put, List.getElem_toArray, List.getElem_cons_zero, List.getElem_cons_succ, List.setIfInBounds_toArray, List.set_cons_zero, List.set_cons_succ]
  apply s_val
  case ho => rfl
  case hw => rfl
  case hv => intro w hw; go_simp; first | done | with_reducible rfl | rfl
  simp only [Act.put, List.getElem_toArray, List.getElem_cons_zero, List.getElem_cons_succ, List.setIfInBounds_toArray, List.set_cons_zero, List.set_cons_succ]
  refine Mm.sld1 naS (fun w h => h) rfl rfl (.tmp 10) 1 (.string c.y) rfl rfl rfl ?_
  simp only [Act.put, List.getElem_toArray, List.getElem_cons_zero, List.getElem_cons_succ, List.setIfInBounds_toArray, List.set_cons_zero, List.set_cons_succ]
  apply s_val
  case ho => rfl
  case hw => rfl
  case hv => intro w hw; go_simp; first | done | with_reducible rfl | rfl
  simp only [Act.put, List.getElem_toArray, List.getElem_cons_zero, List.getElem_cons_succ, List.setIfInBounds_toArray, List.set_cons_zero, List.set_cons_succ]
  refine Mm.sld0 naS (fun w h => h) rfl rfl (.tmp 12) 1 (.string d.y) rfl rfl rfl ?_
  simp only [Act.put, List.getElem_toArray, List.getElem_cons_zero, List.getElem_cons_succ, List.setIfInBounds_toArray, List.set_cons_zero, List.set_cons_succ]
  refine Mm.o_callH (v := .int .i64 (cmpN c.k d.k)) H (fun W h => h) rfl rfl 85 (#[.int .u8 (c.k : Int), .int .u8 (d.k : Int)]) (by go_simp; first | done | rfl) (same_bs (cmpK_any _ c.k d.k)) ?_
  clear H
  intro _ H hb
  clear hb
  simp only [Act.put, List.getElem_toArray, List.getElem_cons_zero, List.getElem_cons_succ, List.setIfInBounds_toArray, List.set_cons_zero, List.set_cons_succ]
  refine Mm.o_callH (v := .int .i64 (cmpS c.y d.y)) H (fun W h => h) rfl rfl 86 (#[.string c.y, .string d.y]) (by go_simp; first | done | rfl) (same_bs (cmpS_any _ c.y d.y)) ?_
  clear H
  intro _ H hb
  clear hb
  simp only [Act.put, List.getElem_toArray, List.getElem_cons_zero, List.getElem_cons_succ, List.setIfInBounds_toArray, List.set_cons_zero, List.set_cons_succ]
  refine o_bs2 H (fun W h => h) rfl rfl (.tmp 9) (.tmp 14) (cmpN c.k d.k) (cmpS c.y d.y) rfl rfl rfl ?_
  clear H
  intro b15 _ H hb
  clear hb
  simp only [Act.put, List.getElem_toArray, List.getElem_cons_zero, List.getElem_cons_succ, List.setIfInBounds_toArray, List.set_cons_zero, List.set_cons_succ]
  refine Mm.o_callH (v := .int .i64 (cmpC c d)) H (fun W h => h.tail) rfl rfl 84 (#[.slice (some ⟨b15, 0, none⟩) 2 2]) (by go_simp; first | done | rfl) (same_bs (or_any _ b15 _ _ _ H.out.at0)) ?_
  clear H
  intro _ H hb
  clear hb
  simp only [Act.put, List.getElem_toArray, List.getElem_cons_zero, List.getElem_cons_succ, List.setIfInBounds_toArray, List.set_cons_zero, List.set_cons_succ]
  apply s_val
  case ho => rfl
  case hw => rfl
  case hv => intro w hw; go_simp; first | done | with_reducible rfl | rfl
  simp only [Act.put, List.getElem_toArray, List.getElem_cons_zero, List.getElem_cons_succ, List.setIfInBounds_toArray, List.set_cons_zero, List.set_cons_succ]
  refine NoPanic.normal ?_
  go_wp2_with fail
  go_ret
  exact ⟨rfl, H.out.below⟩

set_option maxHeartbeats 4000000 in
theorem lasting_any (w : World) (e : Ev) (he : e.ok) (hI : IT w) : Calls Tryd.prog 56 #[.agg e.row.toArray] w fun x w' => x = .returned (.bool (lasB e)) ∧ Below w.heap.size w w' := by
  have HI := hidp hI
  have cs := hidp (fun W => state_any W e.kind he.k)
  have ck := hidp (fun W h => evCheck_ev W e he h)
  have H := hidp (Mm.M.nil w)
  clear hI
  cases h1 : stB e.kind with
  | false =>
    rw [h1] at cs
    have HF := hidp (show lasB e = false from by unfold lasB; rw [h1]; rfl)
    clear h1
    go_enter Tryd.func56, Tryd.ntmps56
    go_wp2_with (first | (refine Rt.wpL_skip _ _ rfl rfl ?_) | (refine Mm.box 59 H rfl (.tmp 0) rfl e.row rfl ?_; clear H; intro b1 _ H nw; have hb := nw.below; clear hb nw) | (refine Mm.ld0 naK H rfl (.tmp 3) 2 (.int .u8 (e.kind : Int)) rfl rfl rfl ?_) | (go_at_call 83; refine (same_bs (cs.out _)).mono ?_; rintro e _ ⟨rfl, hb⟩; replace H := hidp (H.out.call hb); clear hb) | (refine Mm.get0 rtE H rfl (.tmp 1) rfl rfl rfl ?_) | (go_at_call 28; refine (ck.out _ (HI.out.below H.out.below (Nat.le_refl _))).mono ?_; rintro e _ ⟨rfl, hb⟩; replace H := hidp (H.out.call hb); clear hb))
    go_ret
    exact ⟨by rw [HF.out]; rfl, H.out.below⟩
  | true =>
    rw [h1] at cs
    cases h2 : evOk e with
    | true =>
      rw [show evE e = 0 from if_pos h2] at ck
      have HF := hidp (show lasB e = true from by unfold lasB; rw [h1, h2]; rfl)
      clear h1 h2
      go_enter Tryd.func56, Tryd.ntmps56
      go_wp2_with (first | (refine Rt.wpL_skip _ _ rfl rfl ?_) | (refine Mm.box 59 H rfl (.tmp 0) rfl e.row rfl ?_; clear H; intro b1 _ H nw; have hb := nw.below; clear hb nw) | (refine Mm.ld0 naK H rfl (.tmp 3) 2 (.int .u8 (e.kind : Int)) rfl rfl rfl ?_) | (go_at_call 83; refine (same_bs (cs.out _)).mono ?_; rintro e _ ⟨rfl, hb⟩; replace H := hidp (H.out.call hb); clear hb) | (refine Mm.get0 rtE H rfl (.tmp 1) rfl rfl rfl ?_) | (go_at_call 28; refine (ck.out _ (HI.out.below H.out.below (Nat.le_refl _))).mono ?_; rintro e _ ⟨rfl, hb⟩; replace H := hidp (H.out.call hb); clear hb))
      go_ret
      exact ⟨by rw [HF.out]; rfl, H.out.below⟩
    | false =>
      rw [show evE e = 2 from if_neg (by rw [h2]; exact Bool.false_ne_true)] at ck
      have HF := hidp (show lasB e = false from by unfold lasB; rw [h1, h2]; rfl)
      clear h1 h2
      go_enter Tryd.func56, Tryd.ntmps56
      go_wp2_with (first | (refine Rt.wpL_skip _ _ rfl rfl ?_) | (refine Mm.box 59 H rfl (.tmp 0) rfl e.row rfl ?_; clear H; intro b1 _ H nw; have hb := nw.below; clear hb nw) | (refine Mm.ld0 naK H rfl (.tmp 3) 2 (.int .u8 (e.kind : Int)) rfl rfl rfl ?_) | (go_at_call 83; refine (same_bs (cs.out _)).mono ?_; rintro e _ ⟨rfl, hb⟩; replace H := hidp (H.out.call hb); clear hb) | (refine Mm.get0 rtE H rfl (.tmp 1) rfl rfl rfl ?_) | (go_at_call 28; refine (ck.out _ (HI.out.below H.out.below (Nat.le_refl _))).mono ?_; rintro e _ ⟨rfl, hb⟩; replace H := hidp (H.out.call hb); clear hb))
      go_ret
      exact ⟨by rw [HF.out]; rfl, H.out.below⟩

set_option maxHeartbeats 4000000 in
theorem valid_cell (w : World) (c : Ce) (hc : c.ok) (hI : IT w) : Calls Tryd.prog 66 #[.agg c.row.toArray] w fun x w' => x = .returned (.bool (vaC c)) ∧ Below w.heap.size w w' := by
  have HI := hidp hI
  have cl := hidp (fun W h => lasting_any W c.e hc.e h)
  have H := hidp (Mm.M.nil w)
  clear hI
  cases h1 : lasB c.e with
  | false =>
    rw [h1] at cl
    have HF := hidp (show vaC c = false from by unfold vaC; rw [h1]; rfl)
    clear h1
    go_enter Tryd.func66, Tryd.ntmps66
    go_wp2_with (first | (refine Rt.wpL_skip _ _ rfl rfl ?_) | (refine Rt.wpL_skipN _ _ rfl rfl ?_) | (refine Mm.box 68 H rfl (.tmp 0) rfl c.row rfl ?_; clear H; intro b1 _ H nw; have hb := nw.below; clear hb nw) | (refine wpL_mid rtE rfl (.tmp 3) b1 2 c.e.row rfl rfl rfl (ce_evA H.out.at0) ?_) | (go_at_call 56; refine (cl.out _ (HI.out.below H.out.below (Nat.le_refl _))).mono ?_; rintro e _ ⟨rfl, hb⟩; replace H := hidp (H.out.call hb); clear hb) | (refine Mm.ld0 naK H rfl (.tmp 8) 4 (.int .u8 (c.e.kind : Int)) rfl rfl rfl ?_) | (refine Mm.ld0 naK H rfl (.tmp 10) 0 (.int .u8 (c.k : Int)) rfl rfl rfl ?_) | (refine Mm.ld0 naS H rfl (.tmp 16) 5 (.string c.e.key) rfl rfl rfl ?_) | (refine Mm.ld0 naS H rfl (.tmp 18) 1 (.string c.y) rfl rfl rfl ?_))
    go_ret
    exact ⟨by rw [HF.out]; rfl, H.out.below⟩
  | true =>
    rw [h1] at cl
    by_cases h2 : c.e.kind = c.k
    · have e2 : ((c.e.kind : Int) == (c.k : Int)) = true := by rw [h2]; simp
      by_cases h3 : c.e.key = c.y
      · have e3 : (c.e.key.toList == c.y.toList) = true := by rw [h3]; simp
        have HF := hidp (show vaC c = true from by unfold vaC; simp [h1, h2, h3])
        clear h1 h2 h3
        go_enter Tryd.func66, Tryd.ntmps66
        go_wp2_with (first | (refine Rt.wpL_skip _ _ rfl rfl ?_) | (refine Rt.wpL_skipN _ _ rfl rfl ?_) | (refine Mm.box 68 H rfl (.tmp 0) rfl c.row rfl ?_; clear H; intro b1 _ H nw; have hb := nw.below; clear hb nw) | (refine wpL_mid rtE rfl (.tmp 3) b1 2 c.e.row rfl rfl rfl (ce_evA H.out.at0) ?_) | (go_at_call 56; refine (cl.out _ (HI.out.below H.out.below (Nat.le_refl _))).mono ?_; rintro e _ ⟨rfl, hb⟩; replace H := hidp (H.out.call hb); clear hb) | (refine Mm.ld0 naK H rfl (.tmp 8) 4 (.int .u8 (c.e.kind : Int)) rfl rfl rfl ?_) | (refine Mm.ld0 naK H rfl (.tmp 10) 0 (.int .u8 (c.k : Int)) rfl rfl rfl ?_) | (refine Mm.ld0 naS H rfl (.tmp 16) 5 (.string c.e.key) rfl rfl rfl ?_) | (refine Mm.ld0 naS H rfl (.tmp 18) 1 (.string c.y) rfl rfl rfl ?_))
        go_ret
        exact ⟨by rw [HF.out]; rfl, H.out.below⟩
      · have e3 : (c.e.key.toList == c.y.toList) = false := by rw [beq_eq_false_iff_ne]; exact fun e => h3 (ba_inj' e)
        have HF := hidp (show vaC c = false from by unfold vaC; simp [h1, h2, h3])
        clear h1 h2 h3
        go_enter Tryd.func66, Tryd.ntmps66
        go_wp2_with (first | (refine Rt.wpL_skip _ _ rfl rfl ?_) | (refine Rt.wpL_skipN _ _ rfl rfl ?_) | (refine Mm.box 68 H rfl (.tmp 0) rfl c.row rfl ?_; clear H; intro b1 _ H nw; have hb := nw.below; clear hb nw) | (refine wpL_mid rtE rfl (.tmp 3) b1 2 c.e.row rfl rfl rfl (ce_evA H.out.at0) ?_) | (go_at_call 56; refine (cl.out _ (HI.out.below H.out.below (Nat.le_refl _))).mono ?_; rintro e _ ⟨rfl, hb⟩; replace H := hidp (H.out.call hb); clear hb) | (refine Mm.ld0 naK H rfl (.tmp 8) 4 (.int .u8 (c.e.kind : Int)) rfl rfl rfl ?_) | (refine Mm.ld0 naK H rfl (.tmp 10) 0 (.int .u8 (c.k : Int)) rfl rfl rfl ?_) | (refine Mm.ld0 naS H rfl (.tmp 16) 5 (.string c.e.key) rfl rfl rfl ?_) | (refine Mm.ld0 naS H rfl (.tmp 18) 1 (.string c.y) rfl rfl rfl ?_))
        go_ret
        exact ⟨by rw [HF.out]; rfl, H.out.below⟩
    · have e2 : ((c.e.kind : Int) == (c.k : Int)) = false := by rw [beq_eq_false_iff_ne]; omega
      have HF := hidp (show vaC c = false from by unfold vaC; simp [h1, h2])
      clear h1 h2
      go_enter Tryd.func66, Tryd.ntmps66
      go_wp2_with (first | (refine Rt.wpL_skip _ _ rfl rfl ?_) | (refine Rt.wpL_skipN _ _ rfl rfl ?_) | (refine Mm.box 68 H rfl (.tmp 0) rfl c.row rfl ?_; clear H; intro b1 _ H nw; have hb := nw.below; clear hb nw) | (refine wpL_mid rtE rfl (.tmp 3) b1 2 c.e.row rfl rfl rfl (ce_evA H.out.at0) ?_) | (go_at_call 56; refine (cl.out _ (HI.out.below H.out.below (Nat.le_refl _))).mono ?_; rintro e _ ⟨rfl, hb⟩; replace H := hidp (H.out.call hb); clear hb) | (refine Mm.ld0 naK H rfl (.tmp 8) 4 (.int .u8 (c.e.kind : Int)) rfl rfl rfl ?_) | (refine Mm.ld0 naK H rfl (.tmp 10) 0 (.int .u8 (c.k : Int)) rfl rfl rfl ?_) | (refine Mm.ld0 naS H rfl (.tmp 16) 5 (.string c.e.key) rfl rfl rfl ?_) | (refine Mm.ld0 naS H rfl (.tmp 18) 1 (.string c.y) rfl rfl rfl ?_))
      go_ret
      exact ⟨by rw [HF.out]; rfl, H.out.below⟩
end Go.Proofs.YtfenjincbhkodaaDoor

namespace Go.Proofs.YtfenjincbhkodaaDoor
set_option maxRecDepth 100000
set_option linter.unusedVariables false
set_option linter.unusedSimpArgs false
open Go.RowKit Rw

section
variable {P : Program} {T k : Nat} {z : List Value} {ops : Array Oper} {rest : List Oper} {o : Oper} {a : Act} {w : World} {Q : Exit → Act → World → Prop} {S : World → Prop} {j : Nat} {s : Scr} {K : Act → World → Prop}
theorem s_mid (R : Rt.RT P T k z) (ho : ops[j]? = some o) (hw : Region.wanted o (yielded ops a.tmps) = true) (x : Operand) (b f : Nat) (xs : List Value) (hop : o.op = .load T x) (hx : a.eval x = .pointer (some ⟨b, f, none⟩)) (hl : xs.length = k) (hg : ∀ w, S w → w.rangeAt b f xs)
    (h : wpScr P ops Q s S (a.put o.dst (.agg xs.toArray)) w) : wpScr P ops Q (.take j s) S a w := by
  rcases R.ut with ⟨fs, hu⟩ | ⟨n, e, hu⟩
  · exact s_val ho hw (fun w hS => by
      unfold execOp
      simp only [hop, hx, Sem.run_bind, run_loadAt_mid w b f T xs _ (hg w hS) hu rfl (by have := R.size hl; simpa using this), Result.andThen_ok]
      rfl) h
  · exact s_val ho hw (fun w hS => by
      unfold execOp
      simp only [hop, hx, Sem.run_bind, run_loadAt_mid w b f T xs _ (hg w hS) hu rfl (by have := R.size hl; simpa using this), Result.andThen_ok]
      rfl) h
/-- A struct is stored into a row. -/
theorem run_putAt (R : Rt.RT P T k z) (b f t : Nat) (xs ys : List Value) (hl : xs.length = k) (h1 : ∀ v ∈ xs, v.oneCell' = true) (hg : Arr w b t ys) (hf : f + k ≤ ys.length) :
    (storeVar T ⟨b, f, none⟩ (.agg xs.toArray)).run P w = .ok () (w.setRow b (ys.take f ++ xs ++ ys.drop (f + k)).toArray) := by
  have hr := run_storeCells_at (P := P) b f t xs 0 ys.toArray w hg (by simp; omega) h1
  obtain ⟨i0, hi, hz0, hz1⟩ := R.parts
  simp only [Nat.add_zero, hl] at hr
  simp [storeVar, sizeOf, typeInfo, hi, hz1, Value.cells, hl]
  simpa using hr
theorem wpL_putAt (R : Rt.RT P T k z) (hgd : o.guard = none) (x y : Operand) (b f t : Nat) (xs ys : List Value) (ho : o.op = .store T x y) (hx : a.eval x = .pointer (some ⟨b, f, none⟩)) (hy : a.eval y = .agg xs.toArray) (hl : xs.length = k) (h1 : ∀ v ∈ xs, v.oneCell' = true) (hg : Arr w b t ys) (hf : f + k ≤ ys.length)
    (h : ∀ W, Arr W b t (ys.take f ++ xs ++ ys.drop (f + k)) → Rt.Stp b w W → wpList P ops Q rest (a.put o.dst undef) W) : wpList P ops Q (o :: rest) a w := by
  refine wpList_plain hgd fun K hK => ?_
  have := hK _ _ (h _ (Arr.row hg _) (Rt.Stp.setRow _ _ _))
  unfold Oper.wp execOp
  simp only [ho, hx, hy, Instr.storeAt, Instr.sureAddr, Sem.run_bind, Sem.run_pure, Result.andThen_ok, run_putAt R b f t xs ys hl h1 hg hf]
  exact this
end

set_option maxHeartbeats 16000000 in
theorem stCheck_any (w : World) (v : Value) (cs : List Ce) (hv : CsAt w v cs) (hI : IT w) :
    Calls Tryd.prog 29 #[v] w fun e w' => e = .returned (.int .i64 (ckS cs)) ∧ Below w.heap.size w w' := by
  have HI := hidp hI
  have HV := hidp hv; clear hv hI
  obtain ⟨av, cv0, rfl⟩ := HV.out.form
  have HOKS := hidp HV.out.ok
  have h47 := HV.out.len
  obtain ⟨n, hn⟩ : ∃ n, cs.length = n := ⟨_, rfl⟩
  have HN := hidp hn
  rw [hn] at HV h47 ⊢
  clear hn
  have H := hidp (Mm.M.nil w)
  by_cases h256 : 256 < n
  · have e0 : decide ((n : Int) > 256) = true := by simp; omega
    have HF := hidp (show ckS cs = 2 from if_neg fun h => by unfold okS at h; rw [Bool.and_eq_true, decide_eq_true_eq, HN.out] at h; omega)
    go_enter Tryd.func29, Tryd.ntmps29
    go_wp2_with fail
    go_ret
    exact ⟨by rw [HF.out]; rfl, Below.refl _ _⟩
  · have e0 : decide ((n : Int) > 256) = false := by simp; omega
    have n0 : ¬ 256 < n := h256
    go_enter Tryd.func29, Tryd.ntmps29
    go_wp2_with fail
    go_loopw [10] (fun t10 wr => ∃ i : Nat, t10 = .int .i64 (i : Int) ∧ i ≤ n ∧ sTo cs i = true ∧ Mm.M w.heap.size w wr []) (fun t10 _ => n - (intOf t10).toNat)
    case atStart => exact ⟨0, rfl, by omega, rfl, H.out⟩
    case round =>
      clear H
      obtain ⟨i, rfl, hi, hok, hM⟩ := hrel
      have HOK := hidp hok; have H := hidp hM
      clear hok hM
      by_cases hlt : i < n
      · have e1 : decide ((i : Int) < (n : Int)) = true := by simp; omega
        have hgl : i < cs.length := by rw [HN.out]; exact hlt
        obtain ⟨BK, off, c0, e2, hc, hBK0, hR0⟩ := HV.out.get (by rw [HN.out]; omega)
        rw [HN.out] at e2
        simp only [Value.slice.injEq] at e2
        obtain ⟨rfl, -, rfl⟩ := e2
        have hBK := hidp hBK0
        have HR := hidp hR0
        obtain ⟨c, hge⟩ : ∃ c, cs[i] = c := ⟨_, rfl⟩
        have HRI := hidp (show wr.rangeAt BK (off + 8 * i) c.row from by rw [← hge]; exact rangeAt_below (hR0 i hgl) H.out.below hBK0)
        have hcok := hidp (show c.ok from by rw [← hge]; exact HOKS.out _ (List.getElem_mem hgl))
        have HAT := hidp (show sAt cs i = (vaC c && (decide (i = 0) || decide (cmpC (cs.getD (i - 1) cz) c < 0))) from by unfold sAt; rw [getD_ce hgl, hge])
        have hwi : i ≠ 0 → IntKind.i64.wrap ((i : Int) - 1) = ((i - 1 : Nat) : Int) := fun h => by rw [IntKind.wrap_i64]; omega
        have cv := hidp (fun W h => valid_cell W c hcok.out h)
        clear hR0 hBK0 hge hc
        cases hva : vaC c with
        | false =>
          rw [hva] at cv
          have HF := hidp (show ckS cs = 2 from ckS_bad hgl (by rw [HAT.out, hva]; rfl))
          clear hva
          go_wp2_with (first | (refine wpL_idxR tyC rfl (.tmp 8) (.tmp 10) rfl BK off n _ i rfl rfl hlt ?_) | (refine wpL_atR tyC rfl (.tmp 13) rfl BK (off + 8 * i) c.row rfl rfl HRI.out ?_) | (refine Mm.new rtC H (some 4) rfl rfl rfl ?_; clear H; intro b4 _ H nw; have hb := nw.below; clear hb nw) | (refine Mm.put0 rtC H rfl (.tmp 4) (.tmp 14) c.row rfl rfl rfl rfl (Ce.one c) rfl ?_; intro _ H2 st; clear st H; have H := H2; clear H2))
          refine Mm.region H (.take 0 (.one 1 (.take 2 (.take 3 (.take 4 (.take 5 (.take 6 (.take 7 (.take 8 (.take 9 (.take 10 (.take 11 (.take 12 (.take 13 (.take 14 (.take 15 (.take 16 .done))))))))))))))))) (by kernel_rfl) (by kernel_rfl) (by simp [Scr.depth]) (by kernel_rfl) ?_
          clear H
          intro _ H hb
          clear hb
          refine Mm.sget0 rtC (fun w h => h) rfl rfl (.tmp 4) rfl rfl rfl ?_
          simp only [Act.put, List.getElem_toArray, List.getElem_cons_zero, List.getElem_cons_succ, List.setIfInBounds_toArray, List.set_cons_zero, List.set_cons_succ]
          refine Mm.o_callH (v := .bool false) H (fun W h => h) rfl rfl 66 (#[.agg c.row.toArray]) (by go_simp; first | done | rfl) (cv.out _ (HI.out.below H.out.below (Nat.le_refl _))) ?_
          clear H
          intro _ H hb
          clear hb
          simp only [Act.put, List.getElem_toArray, List.getElem_cons_zero, List.getElem_cons_succ, List.setIfInBounds_toArray, List.set_cons_zero, List.set_cons_succ]
          apply s_val
          case ho => rfl
          case hw => rfl
          case hv => intro w hw; go_simp; first | done | with_reducible rfl | rfl
          simp only [Act.put, List.getElem_toArray, List.getElem_cons_zero, List.getElem_cons_succ, List.setIfInBounds_toArray, List.set_cons_zero, List.set_cons_succ]
          apply s_val
          case ho => rfl
          case hw => rfl
          case hv => intro w hw; go_simp; first | done | with_reducible rfl | rfl
          simp only [Act.put, List.getElem_toArray, List.getElem_cons_zero, List.getElem_cons_succ, List.setIfInBounds_toArray, List.set_cons_zero, List.set_cons_succ]
          refine Rt.s_skip rfl rfl ?_
          simp only [Act.put, List.getElem_toArray, List.getElem_cons_zero, List.getElem_cons_succ, List.setIfInBounds_toArray, List.set_cons_zero, List.set_cons_succ]
          refine Rt.s_skip rfl rfl ?_
          simp only [Act.put, List.getElem_toArray, List.getElem_cons_zero, List.getElem_cons_succ, List.setIfInBounds_toArray, List.set_cons_zero, List.set_cons_succ]
          refine Rt.s_skip rfl rfl ?_
          simp only [Act.put, List.getElem_toArray, List.getElem_cons_zero, List.getElem_cons_succ, List.setIfInBounds_toArray, List.set_cons_zero, List.set_cons_succ]
          refine Rt.s_skip rfl rfl ?_
          simp only [Act.put, List.getElem_toArray, List.getElem_cons_zero, List.getElem_cons_succ, List.setIfInBounds_toArray, List.set_cons_zero, List.set_cons_succ]
          refine Rt.s_skip rfl rfl ?_
          simp only [Act.put, List.getElem_toArray, List.getElem_cons_zero, List.getElem_cons_succ, List.setIfInBounds_toArray, List.set_cons_zero, List.set_cons_succ]
          refine Rt.s_skip rfl rfl ?_
          simp only [Act.put, List.getElem_toArray, List.getElem_cons_zero, List.getElem_cons_succ, List.setIfInBounds_toArray, List.set_cons_zero, List.set_cons_succ]
          refine Rt.s_skip rfl rfl ?_
          simp only [Act.put, List.getElem_toArray, List.getElem_cons_zero, List.getElem_cons_succ, List.setIfInBounds_toArray, List.set_cons_zero, List.set_cons_succ]
          refine Rt.s_skip rfl rfl ?_
          simp only [Act.put, List.getElem_toArray, List.getElem_cons_zero, List.getElem_cons_succ, List.setIfInBounds_toArray, List.set_cons_zero, List.set_cons_succ]
          refine Rt.s_skip rfl rfl ?_
          simp only [Act.put, List.getElem_toArray, List.getElem_cons_zero, List.getElem_cons_succ, List.setIfInBounds_toArray, List.set_cons_zero, List.set_cons_succ]
          refine Rt.s_skip rfl rfl ?_
          simp only [Act.put, List.getElem_toArray, List.getElem_cons_zero, List.getElem_cons_succ, List.setIfInBounds_toArray, List.set_cons_zero, List.set_cons_succ]
          refine Rt.s_skip rfl rfl ?_
          simp only [Act.put, List.getElem_toArray, List.getElem_cons_zero, List.getElem_cons_succ, List.setIfInBounds_toArray, List.set_cons_zero, List.set_cons_succ]
          refine Rt.s_skip rfl rfl ?_
          simp only [Act.put, List.getElem_toArray, List.getElem_cons_zero, List.getElem_cons_succ, List.setIfInBounds_toArray, List.set_cons_zero, List.set_cons_succ]
          apply s_val
          case ho => rfl
          case hw => rfl
          case hv => intro w hw; go_simp; first | done | with_reducible rfl | rfl
          simp only [Act.put, List.getElem_toArray, List.getElem_cons_zero, List.getElem_cons_succ, List.setIfInBounds_toArray, List.set_cons_zero, List.set_cons_succ]
          refine NoPanic.normal ?_
          go_wp2_with fail
          go_ret
          exact ⟨by rw [HF.out]; rfl, H.out.below⟩
        | true =>
          rw [hva] at cv
          by_cases hz : i = 0
          · have ei : decide ((i : Int) > 0) = false := by simp; omega
            have HOK2 := hidp (show sTo cs (i + 1) = true from by rw [sTo_succ, HOK.out, HAT.out, hva, decide_eq_true hz]; rfl)
            clear hva
            go_wp2_with (first | (refine wpL_idxR tyC rfl (.tmp 8) (.tmp 10) rfl BK off n _ i rfl rfl hlt ?_) | (refine wpL_atR tyC rfl (.tmp 13) rfl BK (off + 8 * i) c.row rfl rfl HRI.out ?_) | (refine Mm.new rtC H (some 4) rfl rfl rfl ?_; clear H; intro b4 _ H nw; have hb := nw.below; clear hb nw) | (refine Mm.put0 rtC H rfl (.tmp 4) (.tmp 14) c.row rfl rfl rfl rfl (Ce.one c) rfl ?_; intro _ H2 st; clear st H; have H := H2; clear H2))
            refine Mm.region H (.take 0 (.one 1 (.take 2 (.take 3 (.take 4 (.take 5 (.take 6 (.take 7 (.take 8 (.take 9 (.take 10 (.take 11 (.take 12 (.take 13 (.take 14 (.take 15 (.take 16 .done))))))))))))))))) (by kernel_rfl) (by kernel_rfl) (by simp [Scr.depth]) (by kernel_rfl) ?_
            clear H
            intro _ H hb
            clear hb
            refine Mm.sget0 rtC (fun w h => h) rfl rfl (.tmp 4) rfl rfl rfl ?_
            simp only [Act.put, List.getElem_toArray, List.getElem_cons_zero, List.getElem_cons_succ, List.setIfInBounds_toArray, List.set_cons_zero, List.set_cons_succ]
            refine Mm.o_callH (v := .bool true) H (fun W h => h) rfl rfl 66 (#[.agg c.row.toArray]) (by go_simp; first | done | rfl) (cv.out _ (HI.out.below H.out.below (Nat.le_refl _))) ?_
            clear H
            intro _ H hb
            clear hb
            simp only [Act.put, List.getElem_toArray, List.getElem_cons_zero, List.getElem_cons_succ, List.setIfInBounds_toArray, List.set_cons_zero, List.set_cons_succ]
            apply s_val
            case ho => rfl
            case hw => rfl
            case hv => intro w hw; go_simp; first | done | with_reducible rfl | rfl
            simp only [Act.put, List.getElem_toArray, List.getElem_cons_zero, List.getElem_cons_succ, List.setIfInBounds_toArray, List.set_cons_zero, List.set_cons_succ]
            apply s_val
            case ho => rfl
            case hw => rfl
            case hv => intro w hw; go_simp; first | done | with_reducible rfl | rfl
            simp only [Act.put, List.getElem_toArray, List.getElem_cons_zero, List.getElem_cons_succ, List.setIfInBounds_toArray, List.set_cons_zero, List.set_cons_succ]
            apply s_val
            case ho => rfl
            case hw => rfl
            case hv => intro w hw; go_simp; first | done | with_reducible rfl | rfl
            simp only [Act.put, List.getElem_toArray, List.getElem_cons_zero, List.getElem_cons_succ, List.setIfInBounds_toArray, List.set_cons_zero, List.set_cons_succ]
            apply s_val
            case ho => rfl
            case hw => rfl
            case hv => intro w hw; have q := ei; go_simp; first | done | with_reducible rfl | rfl
            simp only [Act.put, List.getElem_toArray, List.getElem_cons_zero, List.getElem_cons_succ, List.setIfInBounds_toArray, List.set_cons_zero, List.set_cons_succ]
            apply s_val
            case ho => rfl
            case hw => rfl
            case hv => intro w hw; go_simp; first | done | with_reducible rfl | rfl
            simp only [Act.put, List.getElem_toArray, List.getElem_cons_zero, List.getElem_cons_succ, List.setIfInBounds_toArray, List.set_cons_zero, List.set_cons_succ]
            refine Rt.s_skip rfl rfl ?_
            simp only [Act.put, List.getElem_toArray, List.getElem_cons_zero, List.getElem_cons_succ, List.setIfInBounds_toArray, List.set_cons_zero, List.set_cons_succ]
            refine Rt.s_skip rfl rfl ?_
            simp only [Act.put, List.getElem_toArray, List.getElem_cons_zero, List.getElem_cons_succ, List.setIfInBounds_toArray, List.set_cons_zero, List.set_cons_succ]
            refine Rt.s_skip rfl rfl ?_
            simp only [Act.put, List.getElem_toArray, List.getElem_cons_zero, List.getElem_cons_succ, List.setIfInBounds_toArray, List.set_cons_zero, List.set_cons_succ]
            refine Rt.s_skip rfl rfl ?_
            simp only [Act.put, List.getElem_toArray, List.getElem_cons_zero, List.getElem_cons_succ, List.setIfInBounds_toArray, List.set_cons_zero, List.set_cons_succ]
            refine Rt.s_skip rfl rfl ?_
            simp only [Act.put, List.getElem_toArray, List.getElem_cons_zero, List.getElem_cons_succ, List.setIfInBounds_toArray, List.set_cons_zero, List.set_cons_succ]
            refine Rt.s_skip rfl rfl ?_
            simp only [Act.put, List.getElem_toArray, List.getElem_cons_zero, List.getElem_cons_succ, List.setIfInBounds_toArray, List.set_cons_zero, List.set_cons_succ]
            refine Rt.s_skip rfl rfl ?_
            simp only [Act.put, List.getElem_toArray, List.getElem_cons_zero, List.getElem_cons_succ, List.setIfInBounds_toArray, List.set_cons_zero, List.set_cons_succ]
            refine Rt.s_skip rfl rfl ?_
            simp only [Act.put, List.getElem_toArray, List.getElem_cons_zero, List.getElem_cons_succ, List.setIfInBounds_toArray, List.set_cons_zero, List.set_cons_succ]
            apply s_val
            case ho => rfl
            case hw => rfl
            case hv => intro w hw; go_simp; first | done | with_reducible rfl | rfl
            simp only [Act.put, List.getElem_toArray, List.getElem_cons_zero, List.getElem_cons_succ, List.setIfInBounds_toArray, List.set_cons_zero, List.set_cons_succ]
            apply s_val
            case ho => rfl
            case hw => rfl
            case hv => intro w hw; go_simp; first | done | with_reducible rfl | rfl
            simp only [Act.put, List.getElem_toArray, List.getElem_cons_zero, List.getElem_cons_succ, List.setIfInBounds_toArray, List.set_cons_zero, List.set_cons_succ]
            refine NoPanic.normal ?_
            go_wp2_with fail
            exact ⟨⟨i + 1, by go_num, by omega, HOK2.out, H.out.sub (List.nil_sublist _)⟩, by simp [intOf]; omega⟩
          · have hi0 : 0 < i := by omega
            have ei : decide ((i : Int) > 0) = true := by simp; omega
            have hwi := hwi hz
            have hpl : i - 1 < cs.length := by omega
            obtain ⟨p, hpe0⟩ : ∃ p, cs[i - 1] = p := ⟨_, rfl⟩
            have HRP := hidp (show w.rangeAt BK (off + 8 * (i - 1)) p.row from by rw [← hpe0]; exact HR.out (i - 1) hpl)
            have hpd := hidp (show cs.getD (i - 1) cz = p from by rw [getD_ce hpl]; exact hpe0)
            have cc := hidp (fun W => compare_any W p c)
            obtain ⟨Y, hY⟩ : ∃ Y, cmpC p c = Y := ⟨_, rfl⟩
            rw [hY] at cc
            clear hpe0
            by_cases hf : Y < 0
            · have HY := hidp (show decide (Y ≥ 0) = false from by simp; omega)
              have HOK2 := hidp (show sTo cs (i + 1) = true from by rw [sTo_succ, HOK.out, HAT.out, hva, hpd.out, hY, decide_eq_true hf]; simp)
              clear hva hY hf
              go_wp2_with (first | (refine wpL_idxR tyC rfl (.tmp 8) (.tmp 10) rfl BK off n _ i rfl rfl hlt ?_) | (refine wpL_atR tyC rfl (.tmp 13) rfl BK (off + 8 * i) c.row rfl rfl HRI.out ?_) | (refine Mm.new rtC H (some 4) rfl rfl rfl ?_; clear H; intro b4 _ H nw; have hb := nw.below; clear hb nw) | (refine Mm.put0 rtC H rfl (.tmp 4) (.tmp 14) c.row rfl rfl rfl rfl (Ce.one c) rfl ?_; intro _ H2 st; clear st H; have H := H2; clear H2))
              refine Mm.region H (.take 0 (.one 1 (.take 2 (.take 3 (.take 4 (.take 5 (.take 6 (.take 7 (.take 8 (.take 9 (.take 10 (.take 11 (.take 12 (.one 13 (.take 14 (.take 15 (.take 16 .done))))))))))))))))) (by kernel_rfl) (by kernel_rfl) (by simp [Scr.depth]) (by kernel_rfl) ?_
              clear H
              intro _ H hb
              clear hb
              refine Mm.sget0 rtC (fun w h => h) rfl rfl (.tmp 4) rfl rfl rfl ?_
              simp only [Act.put, List.getElem_toArray, List.getElem_cons_zero, List.getElem_cons_succ, List.setIfInBounds_toArray, List.set_cons_zero, List.set_cons_succ]
              refine Mm.o_callH (v := .bool true) H (fun W h => h) rfl rfl 66 (#[.agg c.row.toArray]) (by go_simp; first | done | rfl) (cv.out _ (HI.out.below H.out.below (Nat.le_refl _))) ?_
              clear H
              intro _ H hb
              clear hb
              simp only [Act.put, List.getElem_toArray, List.getElem_cons_zero, List.getElem_cons_succ, List.setIfInBounds_toArray, List.set_cons_zero, List.set_cons_succ]
              apply s_val
              case ho => rfl
              case hw => rfl
              case hv => intro w hw; go_simp; first | done | with_reducible rfl | rfl
              simp only [Act.put, List.getElem_toArray, List.getElem_cons_zero, List.getElem_cons_succ, List.setIfInBounds_toArray, List.set_cons_zero, List.set_cons_succ]
              apply s_val
              case ho => rfl
              case hw => rfl
              case hv => intro w hw; go_simp; first | done | with_reducible rfl | rfl
              simp only [Act.put, List.getElem_toArray, List.getElem_cons_zero, List.getElem_cons_succ, List.setIfInBounds_toArray, List.set_cons_zero, List.set_cons_succ]
              apply s_val
              case ho => rfl
              case hw => rfl
              case hv => intro w hw; go_simp; first | done | with_reducible rfl | rfl
              simp only [Act.put, List.getElem_toArray, List.getElem_cons_zero, List.getElem_cons_succ, List.setIfInBounds_toArray, List.set_cons_zero, List.set_cons_succ]
              apply s_val
              case ho => rfl
              case hw => rfl
              case hv => intro w hw; have q := ei; go_simp; first | done | with_reducible rfl | rfl
              simp only [Act.put, List.getElem_toArray, List.getElem_cons_zero, List.getElem_cons_succ, List.setIfInBounds_toArray, List.set_cons_zero, List.set_cons_succ]
              apply s_val
              case ho => rfl
              case hw => rfl
              case hv => intro w hw; go_simp; first | done | with_reducible rfl | rfl
              simp only [Act.put, List.getElem_toArray, List.getElem_cons_zero, List.getElem_cons_succ, List.setIfInBounds_toArray, List.set_cons_zero, List.set_cons_succ]
              apply s_val
              case ho => rfl
              case hw => rfl
              case hv => intro w hw; go_simp; first | done | with_reducible rfl | rfl
              simp only [Act.put, List.getElem_toArray, List.getElem_cons_zero, List.getElem_cons_succ, List.setIfInBounds_toArray, List.set_cons_zero, List.set_cons_succ]
              apply s_val
              case ho => rfl
              case hw => rfl
              case hv => intro w hw; go_simp; first | done | with_reducible rfl | rfl
              simp only [Act.put, List.getElem_toArray, List.getElem_cons_zero, List.getElem_cons_succ, List.setIfInBounds_toArray, List.set_cons_zero, List.set_cons_succ]
              apply s_val (v := .int .i64 ((i - 1 : Nat) : Int))
              case ho => rfl
              case hw => rfl
              case hv => intro w hw; have q := hwi; go_simp; first | done | with_reducible rfl | rfl
              simp only [Act.put, List.getElem_toArray, List.getElem_cons_zero, List.getElem_cons_succ, List.setIfInBounds_toArray, List.set_cons_zero, List.set_cons_succ]
              refine s_idxR tyC rfl rfl (.tmp 22) (.tmp 24) rfl BK off n _ (i - 1) rfl rfl (by omega) ?_
              simp only [Act.put, List.getElem_toArray, List.getElem_cons_zero, List.getElem_cons_succ, List.setIfInBounds_toArray, List.set_cons_zero, List.set_cons_succ]
              refine s_mid rtC rfl rfl (.tmp 25) BK (off + 8 * (i - 1)) p.row rfl rfl rfl (fun w h => rangeAt_below HRP.out h.below hBK.out) ?_
              simp only [Act.put, List.getElem_toArray, List.getElem_cons_zero, List.getElem_cons_succ, List.setIfInBounds_toArray, List.set_cons_zero, List.set_cons_succ]
              refine Mm.sget0 rtC (fun w h => h) rfl rfl (.tmp 4) rfl rfl rfl ?_
              simp only [Act.put, List.getElem_toArray, List.getElem_cons_zero, List.getElem_cons_succ, List.setIfInBounds_toArray, List.set_cons_zero, List.set_cons_succ]
              refine Mm.o_callH (v := .int .i64 Y) H (fun W h => h) rfl rfl 59 (#[.agg p.row.toArray, .agg c.row.toArray]) (by go_simp; first | done | rfl) (cc.out _) ?_
              clear H
              intro _ H hb
              clear hb
              simp only [Act.put, List.getElem_toArray, List.getElem_cons_zero, List.getElem_cons_succ, List.setIfInBounds_toArray, List.set_cons_zero, List.set_cons_succ]
              apply s_val
              case ho => rfl
              case hw => rfl
              case hv => intro w hw; have q := HY.out; go_simp; first | done | with_reducible rfl | rfl
              simp only [Act.put, List.getElem_toArray, List.getElem_cons_zero, List.getElem_cons_succ, List.setIfInBounds_toArray, List.set_cons_zero, List.set_cons_succ]
              apply s_val
              case ho => rfl
              case hw => rfl
              case hv => intro w hw; go_simp; first | done | with_reducible rfl | rfl
              simp only [Act.put, List.getElem_toArray, List.getElem_cons_zero, List.getElem_cons_succ, List.setIfInBounds_toArray, List.set_cons_zero, List.set_cons_succ]
              apply s_val
              case ho => rfl
              case hw => rfl
              case hv => intro w hw; go_simp; first | done | with_reducible rfl | rfl
              simp only [Act.put, List.getElem_toArray, List.getElem_cons_zero, List.getElem_cons_succ, List.setIfInBounds_toArray, List.set_cons_zero, List.set_cons_succ]
              refine NoPanic.normal ?_
              go_wp2_with fail
              exact ⟨⟨i + 1, by go_num, by omega, HOK2.out, H.out.sub (List.nil_sublist _)⟩, by simp [intOf]; omega⟩
            · have HY := hidp (show decide (Y ≥ 0) = true from by simp; omega)
              have HF := hidp (show ckS cs = 2 from ckS_bad hgl (by rw [HAT.out, hva, hpd.out, hY, decide_eq_false hf, decide_eq_false hz]; rfl))
              clear hva hY hf
              go_wp2_with (first | (refine wpL_idxR tyC rfl (.tmp 8) (.tmp 10) rfl BK off n _ i rfl rfl hlt ?_) | (refine wpL_atR tyC rfl (.tmp 13) rfl BK (off + 8 * i) c.row rfl rfl HRI.out ?_) | (refine Mm.new rtC H (some 4) rfl rfl rfl ?_; clear H; intro b4 _ H nw; have hb := nw.below; clear hb nw) | (refine Mm.put0 rtC H rfl (.tmp 4) (.tmp 14) c.row rfl rfl rfl rfl (Ce.one c) rfl ?_; intro _ H2 st; clear st H; have H := H2; clear H2))
              refine Mm.region H (.take 0 (.one 1 (.take 2 (.take 3 (.take 4 (.take 5 (.take 6 (.take 7 (.take 8 (.take 9 (.take 10 (.take 11 (.take 12 (.one 13 (.take 14 (.take 15 (.take 16 .done))))))))))))))))) (by kernel_rfl) (by kernel_rfl) (by simp [Scr.depth]) (by kernel_rfl) ?_
              clear H
              intro _ H hb
              clear hb
              refine Mm.sget0 rtC (fun w h => h) rfl rfl (.tmp 4) rfl rfl rfl ?_
              simp only [Act.put, List.getElem_toArray, List.getElem_cons_zero, List.getElem_cons_succ, List.setIfInBounds_toArray, List.set_cons_zero, List.set_cons_succ]
              refine Mm.o_callH (v := .bool true) H (fun W h => h) rfl rfl 66 (#[.agg c.row.toArray]) (by go_simp; first | done | rfl) (cv.out _ (HI.out.below H.out.below (Nat.le_refl _))) ?_
              clear H
              intro _ H hb
              clear hb
              simp only [Act.put, List.getElem_toArray, List.getElem_cons_zero, List.getElem_cons_succ, List.setIfInBounds_toArray, List.set_cons_zero, List.set_cons_succ]
              apply s_val
              case ho => rfl
              case hw => rfl
              case hv => intro w hw; go_simp; first | done | with_reducible rfl | rfl
              simp only [Act.put, List.getElem_toArray, List.getElem_cons_zero, List.getElem_cons_succ, List.setIfInBounds_toArray, List.set_cons_zero, List.set_cons_succ]
              apply s_val
              case ho => rfl
              case hw => rfl
              case hv => intro w hw; go_simp; first | done | with_reducible rfl | rfl
              simp only [Act.put, List.getElem_toArray, List.getElem_cons_zero, List.getElem_cons_succ, List.setIfInBounds_toArray, List.set_cons_zero, List.set_cons_succ]
              apply s_val
              case ho => rfl
              case hw => rfl
              case hv => intro w hw; go_simp; first | done | with_reducible rfl | rfl
              simp only [Act.put, List.getElem_toArray, List.getElem_cons_zero, List.getElem_cons_succ, List.setIfInBounds_toArray, List.set_cons_zero, List.set_cons_succ]
              apply s_val
              case ho => rfl
              case hw => rfl
              case hv => intro w hw; have q := ei; go_simp; first | done | with_reducible rfl | rfl
              simp only [Act.put, List.getElem_toArray, List.getElem_cons_zero, List.getElem_cons_succ, List.setIfInBounds_toArray, List.set_cons_zero, List.set_cons_succ]
              apply s_val
              case ho => rfl
              case hw => rfl
              case hv => intro w hw; go_simp; first | done | with_reducible rfl | rfl
              simp only [Act.put, List.getElem_toArray, List.getElem_cons_zero, List.getElem_cons_succ, List.setIfInBounds_toArray, List.set_cons_zero, List.set_cons_succ]
              apply s_val
              case ho => rfl
              case hw => rfl
              case hv => intro w hw; go_simp; first | done | with_reducible rfl | rfl
              simp only [Act.put, List.getElem_toArray, List.getElem_cons_zero, List.getElem_cons_succ, List.setIfInBounds_toArray, List.set_cons_zero, List.set_cons_succ]
              apply s_val
              case ho => rfl
              case hw => rfl
              case hv => intro w hw; go_simp; first | done | with_reducible rfl | rfl
              simp only [Act.put, List.getElem_toArray, List.getElem_cons_zero, List.getElem_cons_succ, List.setIfInBounds_toArray, List.set_cons_zero, List.set_cons_succ]
              apply s_val (v := .int .i64 ((i - 1 : Nat) : Int))
              case ho => rfl
              case hw => rfl
              case hv => intro w hw; have q := hwi; go_simp; first | done | with_reducible rfl | rfl
              simp only [Act.put, List.getElem_toArray, List.getElem_cons_zero, List.getElem_cons_succ, List.setIfInBounds_toArray, List.set_cons_zero, List.set_cons_succ]
              refine s_idxR tyC rfl rfl (.tmp 22) (.tmp 24) rfl BK off n _ (i - 1) rfl rfl (by omega) ?_
              simp only [Act.put, List.getElem_toArray, List.getElem_cons_zero, List.getElem_cons_succ, List.setIfInBounds_toArray, List.set_cons_zero, List.set_cons_succ]
              refine s_mid rtC rfl rfl (.tmp 25) BK (off + 8 * (i - 1)) p.row rfl rfl rfl (fun w h => rangeAt_below HRP.out h.below hBK.out) ?_
              simp only [Act.put, List.getElem_toArray, List.getElem_cons_zero, List.getElem_cons_succ, List.setIfInBounds_toArray, List.set_cons_zero, List.set_cons_succ]
              refine Mm.sget0 rtC (fun w h => h) rfl rfl (.tmp 4) rfl rfl rfl ?_
              simp only [Act.put, List.getElem_toArray, List.getElem_cons_zero, List.getElem_cons_succ, List.setIfInBounds_toArray, List.set_cons_zero, List.set_cons_succ]
              refine Mm.o_callH (v := .int .i64 Y) H (fun W h => h) rfl rfl 59 (#[.agg p.row.toArray, .agg c.row.toArray]) (by go_simp; first | done | rfl) (cc.out _) ?_
              clear H
              intro _ H hb
              clear hb
              simp only [Act.put, List.getElem_toArray, List.getElem_cons_zero, List.getElem_cons_succ, List.setIfInBounds_toArray, List.set_cons_zero, List.set_cons_succ]
              apply s_val
              case ho => rfl
              case hw => rfl
              case hv => intro w hw; have q := HY.out; go_simp; first | done | with_reducible rfl | rfl
              simp only [Act.put, List.getElem_toArray, List.getElem_cons_zero, List.getElem_cons_succ, List.setIfInBounds_toArray, List.set_cons_zero, List.set_cons_succ]
              apply s_val
              case ho => rfl
              case hw => rfl
              case hv => intro w hw; go_simp; first | done | with_reducible rfl | rfl
              simp only [Act.put, List.getElem_toArray, List.getElem_cons_zero, List.getElem_cons_succ, List.setIfInBounds_toArray, List.set_cons_zero, List.set_cons_succ]
              apply s_val
              case ho => rfl
              case hw => rfl
              case hv => intro w hw; go_simp; first | done | with_reducible rfl | rfl
              simp only [Act.put, List.getElem_toArray, List.getElem_cons_zero, List.getElem_cons_succ, List.setIfInBounds_toArray, List.set_cons_zero, List.set_cons_succ]
              refine NoPanic.normal ?_
              go_wp2_with fail
              go_ret
              exact ⟨by rw [HF.out]; rfl, H.out.below⟩
      · have e1 : decide ((i : Int) < (n : Int)) = false := by simp; omega
        have hin : i = n := by omega
        have HF := hidp (show ckS cs = 0 from if_pos (by unfold okS; rw [Bool.and_eq_true, decide_eq_true_eq, HN.out]; exact ⟨by omega, by rw [← hin]; exact HOK.out⟩))
        go_wp2_with fail
        go_ret
        exact ⟨by rw [HF.out]; rfl, H.out.below⟩
end Go.Proofs.YtfenjincbhkodaaDoor
