
/-
  power: the document's Check.
-/
import Derived.Test.YtiakfopdohcigaaGreatDoorPxB
namespace Go.Proofs.YtiakfopdohcigaaGreatDoor
set_option maxRecDepth 100000
set_option linter.unusedVariables false
set_option linter.unusedSimpArgs false
open Go.RowKit Rw
open List (getElem_toArray getElem_cons_zero getElem_cons_succ setIfInBounds_toArray set_cons_zero set_cons_succ)


set_option maxHeartbeats 16000000 in
theorem rlvCheck_any (w : World) (l : Lv) (v : Value) (hv : UsAt w v l.us) :
    Calls Tryz.prog 23 #[.agg #[.int .i64 l.a, .int .i64 l.s, .int .i64 l.i, .int .i64 l.k, .int .i64 l.b, .int .i64 l.r, v]] w fun e w' => e = .returned (.int .i64 (lvE l)) ∧ Below w.heap.size w w' := by
  have hsz := hidp hv.sz
  have HV := hidp hv; clear hv
  obtain ⟨av, cv, rfl⟩ := HV.out.form
  obtain ⟨n, hn⟩ : ∃ n, l.us.length = n := ⟨_, rfl⟩
  have HN := hidp hn
  have h47 := HV.out.len
  rw [hn] at HV h47 ⊢
  clear hn
  have H := hidp (Mm.M.nil w)
  have c6 := hidp (fun W => six2_any W l (.slice av n cv))
  go_enter Tryz.func23, Tryz.ntmps23
  have tk0 := hidp trivial
  go_wp2_with (first | (clear tk0; (refine Mm.box 37 H rfl (.tmp 0) rfl [.int .i64 l.a, .int .i64 l.s, .int .i64 l.i, .int .i64 l.k, .int .i64 l.b, .int .i64 l.r, .slice av n cv] rfl ?_; clear H; intro b1 _ H nw; have hb := nw.below; clear hb nw); (try simp only [Act.put, setIfInBounds_toArray, set_cons_zero, set_cons_succ]); have tk1 := hidp trivial) | (clear tk1; (refine Mm.get0 tyL H rfl (.tmp 1) rfl rfl rfl ?_); (try simp only [Act.put, setIfInBounds_toArray, set_cons_zero, set_cons_succ]); have tk2 := hidp trivial) | (clear tk2; (go_at_call 63; refine (c6.out _).mono ?_; rintro x _ ⟨v6, rfl, ⟨g, rfl, hge, hg⟩, hb⟩; replace H := hidp (Mm.M.add (m := 0) H.out hb hge hg); clear hg hge hb c6); (try simp only [Act.put, setIfInBounds_toArray, set_cons_zero, set_cons_succ]); have tk3 := hidp trivial))
  try clear tk3
  go_loopw [12] (fun t12 wr => ∃ i : Nat, t12 = .int .i64 (i : Int) ∧ i ≤ 6 ∧ ((sixL l).take i).all inR = true ∧ Mm.M w.heap.size w wr [⟨g, 3, [.int .i64 l.a, .int .i64 l.s, .int .i64 l.i, .int .i64 l.k, .int .i64 l.b, .int .i64 l.r]⟩, ⟨b1, 37, [.int .i64 l.a, .int .i64 l.s, .int .i64 l.i, .int .i64 l.k, .int .i64 l.b, .int .i64 l.r, .slice av n cv]⟩]) (fun t12 _ => 6 - (intOf t12).toNat)
  case atStart => exact ⟨0, rfl, by omega, rfl, H.out⟩
  case round =>
    clear H
    obtain ⟨i, rfl, hi, hok, hM⟩ := hrel
    have HOK := hidp hok; have H := hidp hM
    clear hok hM
    by_cases hlt : i < 6
    · have e1 : decide ((i : Int) < 6) = true := by simp; omega
      have e1n : (i : Int) < 6 := by omega
      have x1 := six_cellI H.out.at0 hlt
      have cl := hidp (fun W => rlevel_any W ((sixL l).getD i 0))
      obtain ⟨z, hz⟩ : ∃ z, (sixL l).getD i 0 = z := ⟨_, rfl⟩
      have HZ := hidp hz
      rw [hz] at cl x1
      clear hz
      cases hq : inR z with
      | true =>
        rw [hq] at cl
        have HOK2 := hidp (show ((sixL l).take (i + 1)).all inR = true from by
          rw [List.take_add_one, List.all_append, HOK.out, List.getElem?_eq_getElem (show i < (sixL l).length from hlt)]
          have := HZ.out
          rw [List.getD_eq_getElem?_getD, List.getElem?_eq_getElem (show i < (sixL l).length from hlt)] at this
          simp only [Option.getD_some] at this
          simp [this, hq])
        clear hq
        have tk0 := hidp trivial
        go_wp2_with (first | (clear tk0; (go_at_call 73; refine (cl.out _).mono ?_; rintro e _ ⟨rfl, hb⟩; replace H := hidp (H.out.call hb); clear cl; clear hb); (try simp only [Act.put, setIfInBounds_toArray, set_cons_zero, set_cons_succ]); have tk1 := hidp trivial))
        try clear tk1
        exact ⟨⟨i + 1, by go_num, by omega, HOK2.out, H.out⟩, by simp [intOf]; omega⟩
      | false =>
        rw [hq] at cl
        have HF := hidp (six_bad (l := l) hlt (by rw [HZ.out]; exact hq))
        clear hq
        have tk0 := hidp trivial
        go_wp2_with (first | (clear tk0; (go_at_call 73; refine (cl.out _).mono ?_; rintro e _ ⟨rfl, hb⟩; replace H := hidp (H.out.call hb); clear cl; clear hb); (try simp only [Act.put, setIfInBounds_toArray, set_cons_zero, set_cons_succ]); have tk1 := hidp trivial))
        try clear tk1
        go_ret
        exact ⟨by rw [HF.out]; rfl, H.out.below⟩
    · have e1 : decide ((i : Int) < 6) = false := by simp; omega
      obtain rfl : i = 6 := by omega
      have H6 := hidp (show (sixL l).all inR = true from HOK.out)
      clear HOK
      by_cases h16 : 16 < n
      · have e0 : decide ((n : Int) > 16) = true := by simp; omega
        have HF := hidp (show lvE l = 2 from if_neg fun h => by unfold lvOk at h; simp only [Bool.and_eq_true, decide_eq_true_eq] at h; have := HN.out; omega)
        have tk0 := hidp trivial
        go_wp2_with (first | (clear tk0; (refine Mm.ld1 naSU H rfl (.tmp 20) 6 (.slice av n cv) rfl rfl rfl ?_); (try simp only [Act.put, setIfInBounds_toArray, set_cons_zero, set_cons_succ]); have tk1 := hidp trivial))
        try clear tk1
        go_ret
        exact ⟨by rw [HF.out]; rfl, H.out.below⟩
      · have e0 : decide ((n : Int) > 16) = false := by simp; omega
        have tk0 := hidp trivial
        go_wp2_with (first | (clear tk0; (refine Mm.ld1 naSU H rfl (.tmp 20) 6 (.slice av n cv) rfl rfl rfl ?_); (try simp only [Act.put, setIfInBounds_toArray, set_cons_zero, set_cons_succ]); have tk1 := hidp trivial) | (clear tk1; (refine Mm.ld1 naSU H rfl (.tmp 24) 6 (.slice av n cv) rfl rfl rfl ?_); (try simp only [Act.put, setIfInBounds_toArray, set_cons_zero, set_cons_succ]); have tk2 := hidp trivial))
        try clear tk2
        go_loopw [27] (fun t27 wr => ∃ i : Nat, t27 = .int .i64 (i : Int) ∧ i ≤ n ∧ uTo l.us i = true ∧ Mm.M w.heap.size w wr [⟨b1, 37, [.int .i64 l.a, .int .i64 l.s, .int .i64 l.i, .int .i64 l.k, .int .i64 l.b, .int .i64 l.r, .slice av n cv]⟩]) (fun t27 _ => n - (intOf t27).toNat)
        case atStart => exact ⟨0, rfl, by omega, rfl, H.out.tail⟩
        case round =>
          clear H
          obtain ⟨i, rfl, hi, hok, hM⟩ := hrel
          have HOK := hidp hok; have H := hidp hM
          clear hok hM hlt e1 e0
          by_cases hlt : i < n
          · have e1 : decide ((i : Int) < (n : Int)) = true := by simp; omega
            have hgl : i < l.us.length := by rw [HN.out]; exact hlt
            obtain ⟨BK, off, c0, e2, hc, hBK0, hR0⟩ := HV.out.get (by rw [HN.out]; omega)
            rw [HN.out] at e2
            simp only [Value.slice.injEq] at e2
            obtain ⟨rfl, -, rfl⟩ := e2
            have hBK := hidp hBK0
            obtain ⟨p, hpe⟩ : ∃ p, l.us[i] = p := ⟨_, rfl⟩
            have HRI := hidp (show wr.rangeAt BK (off + 2 * i) (uR p) from by rw [← hpe]; exact rangeAt_below (hR0 i hgl) H.out.below hBK0)
            have HR := hidp hR0
            have hps : p.1.size ≤ 281474976710656 := by have := hsz.out p (by rw [← hpe]; exact List.getElem_mem hgl); omega
            have HAT := hidp (show uAt l.us i = (usr p.1 && inR p.2 && (decide (i = 0) || Op.bytesLess (l.us.getD (i - 1) uz).1.toList p.1.toList)) from by unfold uAt; rw [getU hgl, hpe])
            have cu := hidp (fun W => ruser_any W p.1 hps); have cl := hidp (fun W => rlevel_any W p.2)
            simp only [whoVx] at cu
            have hwi : i ≠ 0 → IntKind.i64.wrap ((i : Int) - 1) = ((i - 1 : Nat) : Int) := fun h => by rw [IntKind.wrap_i64]; omega
            obtain ⟨y, hy⟩ : ∃ y : Int, (((who 1 p.1).getD 0 : Nat) : Int) = y := ⟨_, rfl⟩
            rw [hy] at cu
            have husr : usr p.1 = (who 1 p.1).isSome := rfl
            rw [← husr] at cu
            clear hR0 hBK0 hc hpe hps hy husr
            cases hu : usr p.1 with
            | false =>
              rw [hu] at cu
              have HF := hidp (us_bad (l := l) hgl (by rw [HAT.out, hu]; rfl))
              clear hu
              have tk0 := hidp trivial
              go_wp2_with (first | (clear tk0; (refine wpL_idxR tyU rfl (.tmp 25) (.tmp 27) rfl BK off n _ i rfl rfl hlt ?_); (try simp only [Act.put, setIfInBounds_toArray, set_cons_zero, set_cons_succ]); have tk1 := hidp trivial) | (clear tk1; (refine wpL_atR tyU rfl (.tmp 30) rfl BK (off + 2 * i) (uR p) rfl rfl HRI.out ?_); (try simp only [Act.put, setIfInBounds_toArray, set_cons_zero, set_cons_succ]); have tk2 := hidp trivial) | (clear tk2; (refine Mm.new tyP H (some 6) rfl rfl rfl ?_; clear H; intro b6 _ H nw; have hb := nw.below; clear hb nw); (try simp only [Act.put, setIfInBounds_toArray, set_cons_zero, set_cons_succ]); have tk3 := hidp trivial) | (clear tk3; (refine Mm.put0 tyP H rfl (.tmp 6) (.tmp 31) (uR p) rfl rfl rfl rfl (uR_one p) rfl ?_; intro _ H2 st; clear st H; have H := H2; clear H2); (try simp only [Act.put, setIfInBounds_toArray, set_cons_zero, set_cons_succ]); have tk4 := hidp trivial) | (clear tk4; (refine Mm.ld0 naSx H rfl (.tmp 33) 0 (.string p.1) rfl rfl rfl ?_); (try simp only [Act.put, setIfInBounds_toArray, set_cons_zero, set_cons_succ]); have tk5 := hidp trivial) | (clear tk5; (go_at_call 74; refine (cu.out _).mono ?_; rintro e _ ⟨rfl, hb⟩; replace H := hidp (H.out.call hb); clear cu; clear hb); (try simp only [Act.put, setIfInBounds_toArray, set_cons_zero, set_cons_succ]); have tk6 := hidp trivial))
              try clear tk6
              refine Mm.region H (.take 0 (.take 1 (.take 2 (.take 3 (.take 4 (.take 5 (.take 6 (.take 7 (.take 8 (.take 9 (.take 10 (.take 11 (.take 12 (.take 13 (.take 14 (.take 15 (.take 16 (.take 17 (.take 18 (.take 19 (.take 20 (.take 21 (.take 22 (.take 23 .done)))))))))))))))))))))))) (by kernel_rfl) (by kernel_rfl) (by simp [Scr.depth]) (by kernel_rfl) ?_
              clear H
              intro _ H hb
              clear hb
              apply s_val
              case ho | hw => rfl
              case hv => intro w hw; go_simp; first | done | rfl
              simp only [Act.put, getElem_toArray, getElem_cons_zero, getElem_cons_succ, setIfInBounds_toArray, set_cons_zero, set_cons_succ]
              apply s_val
              case ho | hw => rfl
              case hv => intro w hw; go_simp; first | done | rfl
              simp only [Act.put, getElem_toArray, getElem_cons_zero, getElem_cons_succ, setIfInBounds_toArray, set_cons_zero, set_cons_succ]
              apply s_val
              case ho | hw => rfl
              case hv => intro w hw; go_simp; first | done | rfl
              simp only [Act.put, getElem_toArray, getElem_cons_zero, getElem_cons_succ, setIfInBounds_toArray, set_cons_zero, set_cons_succ]
              refine Rt.s_skip rfl rfl ?_
              simp only [Act.put, getElem_toArray, getElem_cons_zero, getElem_cons_succ, setIfInBounds_toArray, set_cons_zero, set_cons_succ]
              refine Rt.s_skip rfl rfl ?_
              simp only [Act.put, getElem_toArray, getElem_cons_zero, getElem_cons_succ, setIfInBounds_toArray, set_cons_zero, set_cons_succ]
              refine Rt.s_skip rfl rfl ?_
              simp only [Act.put, getElem_toArray, getElem_cons_zero, getElem_cons_succ, setIfInBounds_toArray, set_cons_zero, set_cons_succ]
              refine Rt.s_skip rfl rfl ?_
              simp only [Act.put, getElem_toArray, getElem_cons_zero, getElem_cons_succ, setIfInBounds_toArray, set_cons_zero, set_cons_succ]
              apply s_val
              case ho | hw => rfl
              case hv => intro w hw; go_simp; first | done | rfl
              simp only [Act.put, getElem_toArray, getElem_cons_zero, getElem_cons_succ, setIfInBounds_toArray, set_cons_zero, set_cons_succ]
              apply s_val
              case ho | hw => rfl
              case hv => intro w hw; go_simp; first | done | rfl
              simp only [Act.put, getElem_toArray, getElem_cons_zero, getElem_cons_succ, setIfInBounds_toArray, set_cons_zero, set_cons_succ]
              refine Rt.s_skip rfl rfl ?_
              simp only [Act.put, getElem_toArray, getElem_cons_zero, getElem_cons_succ, setIfInBounds_toArray, set_cons_zero, set_cons_succ]
              refine Rt.s_skip rfl rfl ?_
              simp only [Act.put, getElem_toArray, getElem_cons_zero, getElem_cons_succ, setIfInBounds_toArray, set_cons_zero, set_cons_succ]
              refine Rt.s_skip rfl rfl ?_
              simp only [Act.put, getElem_toArray, getElem_cons_zero, getElem_cons_succ, setIfInBounds_toArray, set_cons_zero, set_cons_succ]
              refine Rt.s_skip rfl rfl ?_
              simp only [Act.put, getElem_toArray, getElem_cons_zero, getElem_cons_succ, setIfInBounds_toArray, set_cons_zero, set_cons_succ]
              refine Rt.s_skip rfl rfl ?_
              simp only [Act.put, getElem_toArray, getElem_cons_zero, getElem_cons_succ, setIfInBounds_toArray, set_cons_zero, set_cons_succ]
              refine Rt.s_skip rfl rfl ?_
              simp only [Act.put, getElem_toArray, getElem_cons_zero, getElem_cons_succ, setIfInBounds_toArray, set_cons_zero, set_cons_succ]
              refine Rt.s_skip rfl rfl ?_
              simp only [Act.put, getElem_toArray, getElem_cons_zero, getElem_cons_succ, setIfInBounds_toArray, set_cons_zero, set_cons_succ]
              refine Rt.s_skip rfl rfl ?_
              simp only [Act.put, getElem_toArray, getElem_cons_zero, getElem_cons_succ, setIfInBounds_toArray, set_cons_zero, set_cons_succ]
              refine Rt.s_skip rfl rfl ?_
              simp only [Act.put, getElem_toArray, getElem_cons_zero, getElem_cons_succ, setIfInBounds_toArray, set_cons_zero, set_cons_succ]
              refine Rt.s_skip rfl rfl ?_
              simp only [Act.put, getElem_toArray, getElem_cons_zero, getElem_cons_succ, setIfInBounds_toArray, set_cons_zero, set_cons_succ]
              refine Rt.s_skip rfl rfl ?_
              simp only [Act.put, getElem_toArray, getElem_cons_zero, getElem_cons_succ, setIfInBounds_toArray, set_cons_zero, set_cons_succ]
              refine Rt.s_skip rfl rfl ?_
              simp only [Act.put, getElem_toArray, getElem_cons_zero, getElem_cons_succ, setIfInBounds_toArray, set_cons_zero, set_cons_succ]
              refine Rt.s_skip rfl rfl ?_
              simp only [Act.put, getElem_toArray, getElem_cons_zero, getElem_cons_succ, setIfInBounds_toArray, set_cons_zero, set_cons_succ]
              refine Rt.s_skip rfl rfl ?_
              simp only [Act.put, getElem_toArray, getElem_cons_zero, getElem_cons_succ, setIfInBounds_toArray, set_cons_zero, set_cons_succ]
              apply s_val
              case ho | hw => rfl
              case hv => intro w hw; go_simp; first | done | rfl
              simp only [Act.put, getElem_toArray, getElem_cons_zero, getElem_cons_succ, setIfInBounds_toArray, set_cons_zero, set_cons_succ]
              refine NoPanic.normal ?_
              go_wp2_with fail
              go_ret
              exact ⟨by rw [HF.out]; rfl, H.out.below⟩
            | true =>
              rw [hu] at cu
              cases hr : inR p.2 with
              | false =>
                rw [hr] at cl
                have HF := hidp (us_bad (l := l) hgl (by rw [HAT.out, hr, Bool.and_false]; rfl))
                clear hu hr
                have tk0 := hidp trivial
                go_wp2_with (first | (clear tk0; (refine wpL_idxR tyU rfl (.tmp 25) (.tmp 27) rfl BK off n _ i rfl rfl hlt ?_); (try simp only [Act.put, setIfInBounds_toArray, set_cons_zero, set_cons_succ]); have tk1 := hidp trivial) | (clear tk1; (refine wpL_atR tyU rfl (.tmp 30) rfl BK (off + 2 * i) (uR p) rfl rfl HRI.out ?_); (try simp only [Act.put, setIfInBounds_toArray, set_cons_zero, set_cons_succ]); have tk2 := hidp trivial) | (clear tk2; (refine Mm.new tyP H (some 6) rfl rfl rfl ?_; clear H; intro b6 _ H nw; have hb := nw.below; clear hb nw); (try simp only [Act.put, setIfInBounds_toArray, set_cons_zero, set_cons_succ]); have tk3 := hidp trivial) | (clear tk3; (refine Mm.put0 tyP H rfl (.tmp 6) (.tmp 31) (uR p) rfl rfl rfl rfl (uR_one p) rfl ?_; intro _ H2 st; clear st H; have H := H2; clear H2); (try simp only [Act.put, setIfInBounds_toArray, set_cons_zero, set_cons_succ]); have tk4 := hidp trivial) | (clear tk4; (refine Mm.ld0 naSx H rfl (.tmp 33) 0 (.string p.1) rfl rfl rfl ?_); (try simp only [Act.put, setIfInBounds_toArray, set_cons_zero, set_cons_succ]); have tk5 := hidp trivial) | (clear tk5; (go_at_call 74; refine (cu.out _).mono ?_; rintro e _ ⟨rfl, hb⟩; replace H := hidp (H.out.call hb); clear cu; clear hb); (try simp only [Act.put, setIfInBounds_toArray, set_cons_zero, set_cons_succ]); have tk6 := hidp trivial))
                try clear tk6
                refine Mm.region H (.take 0 (.take 1 (.take 2 (.take 3 (.take 4 (.one 5 (.take 6 (.take 7 (.take 8 (.take 9 (.take 10 (.take 11 (.take 12 (.take 13 (.take 14 (.take 15 (.take 16 (.take 17 (.take 18 (.take 19 (.take 20 (.take 21 (.take 22 (.take 23 .done)))))))))))))))))))))))) (by kernel_rfl) (by kernel_rfl) (by simp [Scr.depth]) (by kernel_rfl) ?_
                clear H
                intro _ H hb
                clear hb
                apply s_val
                case ho | hw => rfl
                case hv => intro w hw; go_simp; first | done | rfl
                simp only [Act.put, getElem_toArray, getElem_cons_zero, getElem_cons_succ, setIfInBounds_toArray, set_cons_zero, set_cons_succ]
                apply s_val
                case ho | hw => rfl
                case hv => intro w hw; go_simp; first | done | rfl
                simp only [Act.put, getElem_toArray, getElem_cons_zero, getElem_cons_succ, setIfInBounds_toArray, set_cons_zero, set_cons_succ]
                apply s_val
                case ho | hw => rfl
                case hv => intro w hw; go_simp; first | done | rfl
                simp only [Act.put, getElem_toArray, getElem_cons_zero, getElem_cons_succ, setIfInBounds_toArray, set_cons_zero, set_cons_succ]
                apply s_val
                case ho | hw => rfl
                case hv => intro w hw; go_simp; first | done | rfl
                simp only [Act.put, getElem_toArray, getElem_cons_zero, getElem_cons_succ, setIfInBounds_toArray, set_cons_zero, set_cons_succ]
                refine Mm.sld0 naIx (fun w h => h) rfl rfl (.tmp 41) 1 (.int .i64 p.2) rfl rfl rfl ?_
                simp only [Act.put, getElem_toArray, getElem_cons_zero, getElem_cons_succ, setIfInBounds_toArray, set_cons_zero, set_cons_succ]
                refine Mm.o_callH (v := .bool false) H (fun W h => h) rfl rfl 73 (#[.int .i64 p.2]) (by go_simp; first | done | rfl) (cl.out _) ?_
                clear H
                intro _ H hb
                clear hb
                simp only [Act.put, getElem_toArray, getElem_cons_zero, getElem_cons_succ, setIfInBounds_toArray, set_cons_zero, set_cons_succ]
                apply s_val
                case ho | hw => rfl
                case hv => intro w hw; go_simp; first | done | rfl
                simp only [Act.put, getElem_toArray, getElem_cons_zero, getElem_cons_succ, setIfInBounds_toArray, set_cons_zero, set_cons_succ]
                apply s_val
                case ho | hw => rfl
                case hv => intro w hw; go_simp; first | done | rfl
                simp only [Act.put, getElem_toArray, getElem_cons_zero, getElem_cons_succ, setIfInBounds_toArray, set_cons_zero, set_cons_succ]
                apply s_val
                case ho | hw => rfl
                case hv => intro w hw; go_simp; first | done | rfl
                simp only [Act.put, getElem_toArray, getElem_cons_zero, getElem_cons_succ, setIfInBounds_toArray, set_cons_zero, set_cons_succ]
                refine Rt.s_skip rfl rfl ?_
                simp only [Act.put, getElem_toArray, getElem_cons_zero, getElem_cons_succ, setIfInBounds_toArray, set_cons_zero, set_cons_succ]
                refine Rt.s_skip rfl rfl ?_
                simp only [Act.put, getElem_toArray, getElem_cons_zero, getElem_cons_succ, setIfInBounds_toArray, set_cons_zero, set_cons_succ]
                refine Rt.s_skip rfl rfl ?_
                simp only [Act.put, getElem_toArray, getElem_cons_zero, getElem_cons_succ, setIfInBounds_toArray, set_cons_zero, set_cons_succ]
                refine Rt.s_skip rfl rfl ?_
                simp only [Act.put, getElem_toArray, getElem_cons_zero, getElem_cons_succ, setIfInBounds_toArray, set_cons_zero, set_cons_succ]
                refine Rt.s_skip rfl rfl ?_
                simp only [Act.put, getElem_toArray, getElem_cons_zero, getElem_cons_succ, setIfInBounds_toArray, set_cons_zero, set_cons_succ]
                refine Rt.s_skip rfl rfl ?_
                simp only [Act.put, getElem_toArray, getElem_cons_zero, getElem_cons_succ, setIfInBounds_toArray, set_cons_zero, set_cons_succ]
                refine Rt.s_skip rfl rfl ?_
                simp only [Act.put, getElem_toArray, getElem_cons_zero, getElem_cons_succ, setIfInBounds_toArray, set_cons_zero, set_cons_succ]
                refine Rt.s_skip rfl rfl ?_
                simp only [Act.put, getElem_toArray, getElem_cons_zero, getElem_cons_succ, setIfInBounds_toArray, set_cons_zero, set_cons_succ]
                refine Rt.s_skip rfl rfl ?_
                simp only [Act.put, getElem_toArray, getElem_cons_zero, getElem_cons_succ, setIfInBounds_toArray, set_cons_zero, set_cons_succ]
                refine Rt.s_skip rfl rfl ?_
                simp only [Act.put, getElem_toArray, getElem_cons_zero, getElem_cons_succ, setIfInBounds_toArray, set_cons_zero, set_cons_succ]
                refine Rt.s_skip rfl rfl ?_
                simp only [Act.put, getElem_toArray, getElem_cons_zero, getElem_cons_succ, setIfInBounds_toArray, set_cons_zero, set_cons_succ]
                refine Rt.s_skip rfl rfl ?_
                simp only [Act.put, getElem_toArray, getElem_cons_zero, getElem_cons_succ, setIfInBounds_toArray, set_cons_zero, set_cons_succ]
                refine Rt.s_skip rfl rfl ?_
                simp only [Act.put, getElem_toArray, getElem_cons_zero, getElem_cons_succ, setIfInBounds_toArray, set_cons_zero, set_cons_succ]
                refine Rt.s_skip rfl rfl ?_
                simp only [Act.put, getElem_toArray, getElem_cons_zero, getElem_cons_succ, setIfInBounds_toArray, set_cons_zero, set_cons_succ]
                apply s_val
                case ho | hw => rfl
                case hv => intro w hw; go_simp; first | done | rfl
                simp only [Act.put, getElem_toArray, getElem_cons_zero, getElem_cons_succ, setIfInBounds_toArray, set_cons_zero, set_cons_succ]
                refine NoPanic.normal ?_
                go_wp2_with fail
                go_ret
                exact ⟨by rw [HF.out]; rfl, H.out.below⟩
              | true =>
                rw [hr] at cl
                by_cases hz : i = 0
                · have ei : decide ((i : Int) > 0) = false := by simp; omega
                  have HOK2 := hidp (show uTo l.us (i + 1) = true from by rw [uTo_succ, HOK.out, HAT.out, hu, hr, decide_eq_true hz]; rfl)
                  clear hu hr
                  have tk0 := hidp trivial
                  go_wp2_with (first | (clear tk0; (refine wpL_idxR tyU rfl (.tmp 25) (.tmp 27) rfl BK off n _ i rfl rfl hlt ?_); (try simp only [Act.put, setIfInBounds_toArray, set_cons_zero, set_cons_succ]); have tk1 := hidp trivial) | (clear tk1; (refine wpL_atR tyU rfl (.tmp 30) rfl BK (off + 2 * i) (uR p) rfl rfl HRI.out ?_); (try simp only [Act.put, setIfInBounds_toArray, set_cons_zero, set_cons_succ]); have tk2 := hidp trivial) | (clear tk2; (refine Mm.new tyP H (some 6) rfl rfl rfl ?_; clear H; intro b6 _ H nw; have hb := nw.below; clear hb nw); (try simp only [Act.put, setIfInBounds_toArray, set_cons_zero, set_cons_succ]); have tk3 := hidp trivial) | (clear tk3; (refine Mm.put0 tyP H rfl (.tmp 6) (.tmp 31) (uR p) rfl rfl rfl rfl (uR_one p) rfl ?_; intro _ H2 st; clear st H; have H := H2; clear H2); (try simp only [Act.put, setIfInBounds_toArray, set_cons_zero, set_cons_succ]); have tk4 := hidp trivial) | (clear tk4; (refine Mm.ld0 naSx H rfl (.tmp 33) 0 (.string p.1) rfl rfl rfl ?_); (try simp only [Act.put, setIfInBounds_toArray, set_cons_zero, set_cons_succ]); have tk5 := hidp trivial) | (clear tk5; (go_at_call 74; refine (cu.out _).mono ?_; rintro e _ ⟨rfl, hb⟩; replace H := hidp (H.out.call hb); clear cu; clear hb); (try simp only [Act.put, setIfInBounds_toArray, set_cons_zero, set_cons_succ]); have tk6 := hidp trivial))
                  try clear tk6
                  refine Mm.region H (.take 0 (.take 1 (.take 2 (.take 3 (.take 4 (.one 5 (.take 6 (.take 7 (.take 8 (.take 9 (.take 10 (.take 11 (.take 12 (.take 13 (.take 14 (.take 15 (.take 16 (.take 17 (.take 18 (.take 19 (.take 20 (.take 21 (.take 22 (.take 23 .done)))))))))))))))))))))))) (by kernel_rfl) (by kernel_rfl) (by simp [Scr.depth]) (by kernel_rfl) ?_
                  clear H
                  intro _ H hb
                  clear hb
                  apply s_val
                  case ho | hw => rfl
                  case hv => intro w hw; go_simp; first | done | rfl
                  simp only [Act.put, getElem_toArray, getElem_cons_zero, getElem_cons_succ, setIfInBounds_toArray, set_cons_zero, set_cons_succ]
                  apply s_val
                  case ho | hw => rfl
                  case hv => intro w hw; go_simp; first | done | rfl
                  simp only [Act.put, getElem_toArray, getElem_cons_zero, getElem_cons_succ, setIfInBounds_toArray, set_cons_zero, set_cons_succ]
                  apply s_val
                  case ho | hw => rfl
                  case hv => intro w hw; go_simp; first | done | rfl
                  simp only [Act.put, getElem_toArray, getElem_cons_zero, getElem_cons_succ, setIfInBounds_toArray, set_cons_zero, set_cons_succ]
                  apply s_val
                  case ho | hw => rfl
                  case hv => intro w hw; go_simp; first | done | rfl
                  simp only [Act.put, getElem_toArray, getElem_cons_zero, getElem_cons_succ, setIfInBounds_toArray, set_cons_zero, set_cons_succ]
                  refine Mm.sld0 naIx (fun w h => h) rfl rfl (.tmp 41) 1 (.int .i64 p.2) rfl rfl rfl ?_
                  simp only [Act.put, getElem_toArray, getElem_cons_zero, getElem_cons_succ, setIfInBounds_toArray, set_cons_zero, set_cons_succ]
                  refine Mm.o_callH (v := .bool true) H (fun W h => h) rfl rfl 73 (#[.int .i64 p.2]) (by go_simp; first | done | rfl) (cl.out _) ?_
                  clear H
                  intro _ H hb
                  clear hb
                  simp only [Act.put, getElem_toArray, getElem_cons_zero, getElem_cons_succ, setIfInBounds_toArray, set_cons_zero, set_cons_succ]
                  apply s_val
                  case ho | hw => rfl
                  case hv => intro w hw; go_simp; first | done | rfl
                  simp only [Act.put, getElem_toArray, getElem_cons_zero, getElem_cons_succ, setIfInBounds_toArray, set_cons_zero, set_cons_succ]
                  apply s_val
                  case ho | hw => rfl
                  case hv => intro w hw; go_simp; first | done | rfl
                  simp only [Act.put, getElem_toArray, getElem_cons_zero, getElem_cons_succ, setIfInBounds_toArray, set_cons_zero, set_cons_succ]
                  apply s_val
                  case ho | hw => rfl
                  case hv => intro w hw; go_simp; first | done | rfl
                  simp only [Act.put, getElem_toArray, getElem_cons_zero, getElem_cons_succ, setIfInBounds_toArray, set_cons_zero, set_cons_succ]
                  apply s_val
                  case ho | hw => rfl
                  case hv => intro w hw; go_simp; first | done | rfl
                  simp only [Act.put, getElem_toArray, getElem_cons_zero, getElem_cons_succ, setIfInBounds_toArray, set_cons_zero, set_cons_succ]
                  apply s_val
                  case ho | hw => rfl
                  case hv => intro w hw; have q := ei; go_simp; first | done | rfl
                  simp only [Act.put, getElem_toArray, getElem_cons_zero, getElem_cons_succ, setIfInBounds_toArray, set_cons_zero, set_cons_succ]
                  apply s_val
                  case ho | hw => rfl
                  case hv => intro w hw; go_simp; first | done | rfl
                  simp only [Act.put, getElem_toArray, getElem_cons_zero, getElem_cons_succ, setIfInBounds_toArray, set_cons_zero, set_cons_succ]
                  refine Rt.s_skip rfl rfl ?_
                  simp only [Act.put, getElem_toArray, getElem_cons_zero, getElem_cons_succ, setIfInBounds_toArray, set_cons_zero, set_cons_succ]
                  refine Rt.s_skip rfl rfl ?_
                  simp only [Act.put, getElem_toArray, getElem_cons_zero, getElem_cons_succ, setIfInBounds_toArray, set_cons_zero, set_cons_succ]
                  refine Rt.s_skip rfl rfl ?_
                  simp only [Act.put, getElem_toArray, getElem_cons_zero, getElem_cons_succ, setIfInBounds_toArray, set_cons_zero, set_cons_succ]
                  refine Rt.s_skip rfl rfl ?_
                  simp only [Act.put, getElem_toArray, getElem_cons_zero, getElem_cons_succ, setIfInBounds_toArray, set_cons_zero, set_cons_succ]
                  refine Rt.s_skip rfl rfl ?_
                  simp only [Act.put, getElem_toArray, getElem_cons_zero, getElem_cons_succ, setIfInBounds_toArray, set_cons_zero, set_cons_succ]
                  refine Rt.s_skip rfl rfl ?_
                  simp only [Act.put, getElem_toArray, getElem_cons_zero, getElem_cons_succ, setIfInBounds_toArray, set_cons_zero, set_cons_succ]
                  refine Rt.s_skip rfl rfl ?_
                  simp only [Act.put, getElem_toArray, getElem_cons_zero, getElem_cons_succ, setIfInBounds_toArray, set_cons_zero, set_cons_succ]
                  refine Rt.s_skip rfl rfl ?_
                  simp only [Act.put, getElem_toArray, getElem_cons_zero, getElem_cons_succ, setIfInBounds_toArray, set_cons_zero, set_cons_succ]
                  refine Rt.s_skip rfl rfl ?_
                  simp only [Act.put, getElem_toArray, getElem_cons_zero, getElem_cons_succ, setIfInBounds_toArray, set_cons_zero, set_cons_succ]
                  refine Rt.s_skip rfl rfl ?_
                  simp only [Act.put, getElem_toArray, getElem_cons_zero, getElem_cons_succ, setIfInBounds_toArray, set_cons_zero, set_cons_succ]
                  apply s_val
                  case ho | hw => rfl
                  case hv => intro w hw; go_simp; first | done | rfl
                  simp only [Act.put, getElem_toArray, getElem_cons_zero, getElem_cons_succ, setIfInBounds_toArray, set_cons_zero, set_cons_succ]
                  apply s_val
                  case ho | hw => rfl
                  case hv => intro w hw; go_simp; first | done | rfl
                  simp only [Act.put, getElem_toArray, getElem_cons_zero, getElem_cons_succ, setIfInBounds_toArray, set_cons_zero, set_cons_succ]
                  refine NoPanic.normal ?_
                  go_wp2_with fail
                  exact ⟨⟨i + 1, by go_num, by omega, HOK2.out, H.out.tail⟩, by simp [intOf]; omega⟩
                · have hi0 : 0 < i := by omega
                  have ei : decide ((i : Int) > 0) = true := by simp; omega
                  have hwi := hwi hz
                  have hpl : i - 1 < l.us.length := by omega
                  obtain ⟨z, hze⟩ : ∃ p, l.us[i - 1] = p := ⟨_, rfl⟩
                  have HRP := hidp (show w.rangeAt BK (off + 2 * (i - 1)) (uR z) from by rw [← hze]; exact HR.out (i - 1) hpl)
                  have hpd := hidp (show l.us.getD (i - 1) uz = z from by rw [getU hpl]; exact hze)
                  clear hze
                  cases hX : Op.bytesLess z.1.toList p.1.toList with
                  | true =>
                    have HOK2 := hidp (show uTo l.us (i + 1) = true from by rw [uTo_succ, HOK.out, HAT.out, hu, hr, hpd.out, hX]; simp)
                    clear hu hr
                    have tk0 := hidp trivial
                    go_wp2_with (first | (clear tk0; (refine wpL_idxR tyU rfl (.tmp 25) (.tmp 27) rfl BK off n _ i rfl rfl hlt ?_); (try simp only [Act.put, setIfInBounds_toArray, set_cons_zero, set_cons_succ]); have tk1 := hidp trivial) | (clear tk1; (refine wpL_atR tyU rfl (.tmp 30) rfl BK (off + 2 * i) (uR p) rfl rfl HRI.out ?_); (try simp only [Act.put, setIfInBounds_toArray, set_cons_zero, set_cons_succ]); have tk2 := hidp trivial) | (clear tk2; (refine Mm.new tyP H (some 6) rfl rfl rfl ?_; clear H; intro b6 _ H nw; have hb := nw.below; clear hb nw); (try simp only [Act.put, setIfInBounds_toArray, set_cons_zero, set_cons_succ]); have tk3 := hidp trivial) | (clear tk3; (refine Mm.put0 tyP H rfl (.tmp 6) (.tmp 31) (uR p) rfl rfl rfl rfl (uR_one p) rfl ?_; intro _ H2 st; clear st H; have H := H2; clear H2); (try simp only [Act.put, setIfInBounds_toArray, set_cons_zero, set_cons_succ]); have tk4 := hidp trivial) | (clear tk4; (refine Mm.ld0 naSx H rfl (.tmp 33) 0 (.string p.1) rfl rfl rfl ?_); (try simp only [Act.put, setIfInBounds_toArray, set_cons_zero, set_cons_succ]); have tk5 := hidp trivial) | (clear tk5; (go_at_call 74; refine (cu.out _).mono ?_; rintro e _ ⟨rfl, hb⟩; replace H := hidp (H.out.call hb); clear cu; clear hb); (try simp only [Act.put, setIfInBounds_toArray, set_cons_zero, set_cons_succ]); have tk6 := hidp trivial))
                    try clear tk6
                    refine Mm.region H (.take 0 (.take 1 (.take 2 (.take 3 (.take 4 (.one 5 (.take 6 (.take 7 (.take 8 (.take 9 (.take 10 (.take 11 (.take 12 (.take 13 (.take 14 (.take 15 (.take 16 (.take 17 (.take 18 (.take 19 (.take 20 (.take 21 (.take 22 (.take 23 .done)))))))))))))))))))))))) (by kernel_rfl) (by kernel_rfl) (by simp [Scr.depth]) (by kernel_rfl) ?_
                    clear H
                    intro _ H hb
                    clear hb
                    apply s_val
                    case ho | hw => rfl
                    case hv => intro w hw; go_simp; first | done | rfl
                    simp only [Act.put, getElem_toArray, getElem_cons_zero, getElem_cons_succ, setIfInBounds_toArray, set_cons_zero, set_cons_succ]
                    apply s_val
                    case ho | hw => rfl
                    case hv => intro w hw; go_simp; first | done | rfl
                    simp only [Act.put, getElem_toArray, getElem_cons_zero, getElem_cons_succ, setIfInBounds_toArray, set_cons_zero, set_cons_succ]
                    apply s_val
                    case ho | hw => rfl
                    case hv => intro w hw; go_simp; first | done | rfl
                    simp only [Act.put, getElem_toArray, getElem_cons_zero, getElem_cons_succ, setIfInBounds_toArray, set_cons_zero, set_cons_succ]
                    apply s_val
                    case ho | hw => rfl
                    case hv => intro w hw; go_simp; first | done | rfl
                    simp only [Act.put, getElem_toArray, getElem_cons_zero, getElem_cons_succ, setIfInBounds_toArray, set_cons_zero, set_cons_succ]
                    refine Mm.sld0 naIx (fun w h => h) rfl rfl (.tmp 41) 1 (.int .i64 p.2) rfl rfl rfl ?_
                    simp only [Act.put, getElem_toArray, getElem_cons_zero, getElem_cons_succ, setIfInBounds_toArray, set_cons_zero, set_cons_succ]
                    refine Mm.o_callH (v := .bool true) H (fun W h => h) rfl rfl 73 (#[.int .i64 p.2]) (by go_simp; first | done | rfl) (cl.out _) ?_
                    clear H
                    intro _ H hb
                    clear hb
                    simp only [Act.put, getElem_toArray, getElem_cons_zero, getElem_cons_succ, setIfInBounds_toArray, set_cons_zero, set_cons_succ]
                    apply s_val
                    case ho | hw => rfl
                    case hv => intro w hw; go_simp; first | done | rfl
                    simp only [Act.put, getElem_toArray, getElem_cons_zero, getElem_cons_succ, setIfInBounds_toArray, set_cons_zero, set_cons_succ]
                    apply s_val
                    case ho | hw => rfl
                    case hv => intro w hw; go_simp; first | done | rfl
                    simp only [Act.put, getElem_toArray, getElem_cons_zero, getElem_cons_succ, setIfInBounds_toArray, set_cons_zero, set_cons_succ]
                    apply s_val
                    case ho | hw => rfl
                    case hv => intro w hw; go_simp; first | done | rfl
                    simp only [Act.put, getElem_toArray, getElem_cons_zero, getElem_cons_succ, setIfInBounds_toArray, set_cons_zero, set_cons_succ]
                    apply s_val
                    case ho | hw => rfl
                    case hv => intro w hw; go_simp; first | done | rfl
                    simp only [Act.put, getElem_toArray, getElem_cons_zero, getElem_cons_succ, setIfInBounds_toArray, set_cons_zero, set_cons_succ]
                    apply s_val
                    case ho | hw => rfl
                    case hv => intro w hw; have q := ei; go_simp; first | done | rfl
                    simp only [Act.put, getElem_toArray, getElem_cons_zero, getElem_cons_succ, setIfInBounds_toArray, set_cons_zero, set_cons_succ]
                    apply s_val
                    case ho | hw => rfl
                    case hv => intro w hw; go_simp; first | done | rfl
                    simp only [Act.put, getElem_toArray, getElem_cons_zero, getElem_cons_succ, setIfInBounds_toArray, set_cons_zero, set_cons_succ]
                    apply s_val
                    case ho | hw => rfl
                    case hv => intro w hw; go_simp; first | done | rfl
                    simp only [Act.put, getElem_toArray, getElem_cons_zero, getElem_cons_succ, setIfInBounds_toArray, set_cons_zero, set_cons_succ]
                    refine Mm.sld1 naSU (fun w h => h) rfl rfl (.tmp 50) 6 (.slice (some ⟨BK, off, none⟩) n cv) rfl rfl rfl ?_
                    simp only [Act.put, getElem_toArray, getElem_cons_zero, getElem_cons_succ, setIfInBounds_toArray, set_cons_zero, set_cons_succ]
                    apply s_val
                    case ho | hw => rfl
                    case hv => intro w hw; go_simp; first | done | rfl
                    simp only [Act.put, getElem_toArray, getElem_cons_zero, getElem_cons_succ, setIfInBounds_toArray, set_cons_zero, set_cons_succ]
                    apply s_val (v := .int .i64 ((i - 1 : Nat) : Int))
                    case ho | hw => rfl
                    case hv => intro w hw; have q := hwi; go_simp; first | done | rfl
                    simp only [Act.put, getElem_toArray, getElem_cons_zero, getElem_cons_succ, setIfInBounds_toArray, set_cons_zero, set_cons_succ]
                    refine s_idxR tyU rfl rfl (.tmp 51) (.tmp 53) rfl BK off n _ (i - 1) rfl rfl (by omega) ?_
                    simp only [Act.put, getElem_toArray, getElem_cons_zero, getElem_cons_succ, setIfInBounds_toArray, set_cons_zero, set_cons_succ]
                    apply s_val
                    case ho | hw => rfl
                    case hv => intro w hw; go_simp; first | done | rfl
                    simp only [Act.put, getElem_toArray, getElem_cons_zero, getElem_cons_succ, setIfInBounds_toArray, set_cons_zero, set_cons_succ]
                    refine Mm.s_ldc naSx rfl rfl (.tmp 55) ⟨BK, off + 2 * (i - 1), none⟩ (.string z.1) rfl rfl (fun w h => (rangeAt_below HRP.out h.below hBK.out) 0 _ rfl) ?_
                    simp only [Act.put, getElem_toArray, getElem_cons_zero, getElem_cons_succ, setIfInBounds_toArray, set_cons_zero, set_cons_succ]
                    apply s_val
                    case ho | hw => rfl
                    case hv => intro w hw; go_simp; first | done | rfl
                    simp only [Act.put, getElem_toArray, getElem_cons_zero, getElem_cons_succ, setIfInBounds_toArray, set_cons_zero, set_cons_succ]
                    refine Mm.sld0 naSx (fun w h => h) rfl rfl (.tmp 57) 0 (.string p.1) rfl rfl rfl ?_
                    simp only [Act.put, getElem_toArray, getElem_cons_zero, getElem_cons_succ, setIfInBounds_toArray, set_cons_zero, set_cons_succ]
                    apply s_val (v := .bool false)
                    case ho | hw => rfl
                    case hv => intro w hw; have q := hX; go_simp; first | done | rfl
                    simp only [Act.put, getElem_toArray, getElem_cons_zero, getElem_cons_succ, setIfInBounds_toArray, set_cons_zero, set_cons_succ]
                    apply s_val
                    case ho | hw => rfl
                    case hv => intro w hw; go_simp; first | done | rfl
                    simp only [Act.put, getElem_toArray, getElem_cons_zero, getElem_cons_succ, setIfInBounds_toArray, set_cons_zero, set_cons_succ]
                    apply s_val
                    case ho | hw => rfl
                    case hv => intro w hw; go_simp; first | done | rfl
                    simp only [Act.put, getElem_toArray, getElem_cons_zero, getElem_cons_succ, setIfInBounds_toArray, set_cons_zero, set_cons_succ]
                    refine NoPanic.normal ?_
                    go_wp2_with fail
                    exact ⟨⟨i + 1, by go_num, by omega, HOK2.out, H.out.tail⟩, by simp [intOf]; omega⟩
                  | false =>
                    have HF := hidp (us_bad (l := l) hgl (by rw [HAT.out, hu, hr, hpd.out, hX, decide_eq_false hz]; rfl))
                    clear hu hr
                    have tk0 := hidp trivial
                    go_wp2_with (first | (clear tk0; (refine wpL_idxR tyU rfl (.tmp 25) (.tmp 27) rfl BK off n _ i rfl rfl hlt ?_); (try simp only [Act.put, setIfInBounds_toArray, set_cons_zero, set_cons_succ]); have tk1 := hidp trivial) | (clear tk1; (refine wpL_atR tyU rfl (.tmp 30) rfl BK (off + 2 * i) (uR p) rfl rfl HRI.out ?_); (try simp only [Act.put, setIfInBounds_toArray, set_cons_zero, set_cons_succ]); have tk2 := hidp trivial) | (clear tk2; (refine Mm.new tyP H (some 6) rfl rfl rfl ?_; clear H; intro b6 _ H nw; have hb := nw.below; clear hb nw); (try simp only [Act.put, setIfInBounds_toArray, set_cons_zero, set_cons_succ]); have tk3 := hidp trivial) | (clear tk3; (refine Mm.put0 tyP H rfl (.tmp 6) (.tmp 31) (uR p) rfl rfl rfl rfl (uR_one p) rfl ?_; intro _ H2 st; clear st H; have H := H2; clear H2); (try simp only [Act.put, setIfInBounds_toArray, set_cons_zero, set_cons_succ]); have tk4 := hidp trivial) | (clear tk4; (refine Mm.ld0 naSx H rfl (.tmp 33) 0 (.string p.1) rfl rfl rfl ?_); (try simp only [Act.put, setIfInBounds_toArray, set_cons_zero, set_cons_succ]); have tk5 := hidp trivial) | (clear tk5; (go_at_call 74; refine (cu.out _).mono ?_; rintro e _ ⟨rfl, hb⟩; replace H := hidp (H.out.call hb); clear cu; clear hb); (try simp only [Act.put, setIfInBounds_toArray, set_cons_zero, set_cons_succ]); have tk6 := hidp trivial))
                    try clear tk6
                    refine Mm.region H (.take 0 (.take 1 (.take 2 (.take 3 (.take 4 (.one 5 (.take 6 (.take 7 (.take 8 (.take 9 (.take 10 (.take 11 (.take 12 (.take 13 (.take 14 (.take 15 (.take 16 (.take 17 (.take 18 (.take 19 (.take 20 (.take 21 (.take 22 (.take 23 .done)))))))))))))))))))))))) (by kernel_rfl) (by kernel_rfl) (by simp [Scr.depth]) (by kernel_rfl) ?_
                    clear H
                    intro _ H hb
                    clear hb
                    apply s_val
                    case ho | hw => rfl
                    case hv => intro w hw; go_simp; first | done | rfl
                    simp only [Act.put, getElem_toArray, getElem_cons_zero, getElem_cons_succ, setIfInBounds_toArray, set_cons_zero, set_cons_succ]
                    apply s_val
                    case ho | hw => rfl
                    case hv => intro w hw; go_simp; first | done | rfl
                    simp only [Act.put, getElem_toArray, getElem_cons_zero, getElem_cons_succ, setIfInBounds_toArray, set_cons_zero, set_cons_succ]
                    apply s_val
                    case ho | hw => rfl
                    case hv => intro w hw; go_simp; first | done | rfl
                    simp only [Act.put, getElem_toArray, getElem_cons_zero, getElem_cons_succ, setIfInBounds_toArray, set_cons_zero, set_cons_succ]
                    apply s_val
                    case ho | hw => rfl
                    case hv => intro w hw; go_simp; first | done | rfl
                    simp only [Act.put, getElem_toArray, getElem_cons_zero, getElem_cons_succ, setIfInBounds_toArray, set_cons_zero, set_cons_succ]
                    refine Mm.sld0 naIx (fun w h => h) rfl rfl (.tmp 41) 1 (.int .i64 p.2) rfl rfl rfl ?_
                    simp only [Act.put, getElem_toArray, getElem_cons_zero, getElem_cons_succ, setIfInBounds_toArray, set_cons_zero, set_cons_succ]
                    refine Mm.o_callH (v := .bool true) H (fun W h => h) rfl rfl 73 (#[.int .i64 p.2]) (by go_simp; first | done | rfl) (cl.out _) ?_
                    clear H
                    intro _ H hb
                    clear hb
                    simp only [Act.put, getElem_toArray, getElem_cons_zero, getElem_cons_succ, setIfInBounds_toArray, set_cons_zero, set_cons_succ]
                    apply s_val
                    case ho | hw => rfl
                    case hv => intro w hw; go_simp; first | done | rfl
                    simp only [Act.put, getElem_toArray, getElem_cons_zero, getElem_cons_succ, setIfInBounds_toArray, set_cons_zero, set_cons_succ]
                    apply s_val
                    case ho | hw => rfl
                    case hv => intro w hw; go_simp; first | done | rfl
                    simp only [Act.put, getElem_toArray, getElem_cons_zero, getElem_cons_succ, setIfInBounds_toArray, set_cons_zero, set_cons_succ]
                    apply s_val
                    case ho | hw => rfl
                    case hv => intro w hw; go_simp; first | done | rfl
                    simp only [Act.put, getElem_toArray, getElem_cons_zero, getElem_cons_succ, setIfInBounds_toArray, set_cons_zero, set_cons_succ]
                    apply s_val
                    case ho | hw => rfl
                    case hv => intro w hw; go_simp; first | done | rfl
                    simp only [Act.put, getElem_toArray, getElem_cons_zero, getElem_cons_succ, setIfInBounds_toArray, set_cons_zero, set_cons_succ]
                    apply s_val
                    case ho | hw => rfl
                    case hv => intro w hw; have q := ei; go_simp; first | done | rfl
                    simp only [Act.put, getElem_toArray, getElem_cons_zero, getElem_cons_succ, setIfInBounds_toArray, set_cons_zero, set_cons_succ]
                    apply s_val
                    case ho | hw => rfl
                    case hv => intro w hw; go_simp; first | done | rfl
                    simp only [Act.put, getElem_toArray, getElem_cons_zero, getElem_cons_succ, setIfInBounds_toArray, set_cons_zero, set_cons_succ]
                    apply s_val
                    case ho | hw => rfl
                    case hv => intro w hw; go_simp; first | done | rfl
                    simp only [Act.put, getElem_toArray, getElem_cons_zero, getElem_cons_succ, setIfInBounds_toArray, set_cons_zero, set_cons_succ]
                    refine Mm.sld1 naSU (fun w h => h) rfl rfl (.tmp 50) 6 (.slice (some ⟨BK, off, none⟩) n cv) rfl rfl rfl ?_
                    simp only [Act.put, getElem_toArray, getElem_cons_zero, getElem_cons_succ, setIfInBounds_toArray, set_cons_zero, set_cons_succ]
                    apply s_val
                    case ho | hw => rfl
                    case hv => intro w hw; go_simp; first | done | rfl
                    simp only [Act.put, getElem_toArray, getElem_cons_zero, getElem_cons_succ, setIfInBounds_toArray, set_cons_zero, set_cons_succ]
                    apply s_val (v := .int .i64 ((i - 1 : Nat) : Int))
                    case ho | hw => rfl
                    case hv => intro w hw; have q := hwi; go_simp; first | done | rfl
                    simp only [Act.put, getElem_toArray, getElem_cons_zero, getElem_cons_succ, setIfInBounds_toArray, set_cons_zero, set_cons_succ]
                    refine s_idxR tyU rfl rfl (.tmp 51) (.tmp 53) rfl BK off n _ (i - 1) rfl rfl (by omega) ?_
                    simp only [Act.put, getElem_toArray, getElem_cons_zero, getElem_cons_succ, setIfInBounds_toArray, set_cons_zero, set_cons_succ]
                    apply s_val
                    case ho | hw => rfl
                    case hv => intro w hw; go_simp; first | done | rfl
                    simp only [Act.put, getElem_toArray, getElem_cons_zero, getElem_cons_succ, setIfInBounds_toArray, set_cons_zero, set_cons_succ]
                    refine Mm.s_ldc naSx rfl rfl (.tmp 55) ⟨BK, off + 2 * (i - 1), none⟩ (.string z.1) rfl rfl (fun w h => (rangeAt_below HRP.out h.below hBK.out) 0 _ rfl) ?_
                    simp only [Act.put, getElem_toArray, getElem_cons_zero, getElem_cons_succ, setIfInBounds_toArray, set_cons_zero, set_cons_succ]
                    apply s_val
                    case ho | hw => rfl
                    case hv => intro w hw; go_simp; first | done | rfl
                    simp only [Act.put, getElem_toArray, getElem_cons_zero, getElem_cons_succ, setIfInBounds_toArray, set_cons_zero, set_cons_succ]
                    refine Mm.sld0 naSx (fun w h => h) rfl rfl (.tmp 57) 0 (.string p.1) rfl rfl rfl ?_
                    simp only [Act.put, getElem_toArray, getElem_cons_zero, getElem_cons_succ, setIfInBounds_toArray, set_cons_zero, set_cons_succ]
                    apply s_val (v := .bool true)
                    case ho | hw => rfl
                    case hv => intro w hw; have q := hX; go_simp; first | done | rfl
                    simp only [Act.put, getElem_toArray, getElem_cons_zero, getElem_cons_succ, setIfInBounds_toArray, set_cons_zero, set_cons_succ]
                    apply s_val
                    case ho | hw => rfl
                    case hv => intro w hw; go_simp; first | done | rfl
                    simp only [Act.put, getElem_toArray, getElem_cons_zero, getElem_cons_succ, setIfInBounds_toArray, set_cons_zero, set_cons_succ]
                    apply s_val
                    case ho | hw => rfl
                    case hv => intro w hw; go_simp; first | done | rfl
                    simp only [Act.put, getElem_toArray, getElem_cons_zero, getElem_cons_succ, setIfInBounds_toArray, set_cons_zero, set_cons_succ]
                    refine NoPanic.normal ?_
                    go_wp2_with fail
                    go_ret
                    exact ⟨by rw [HF.out]; rfl, H.out.below⟩
          · have e1 : decide ((i : Int) < (n : Int)) = false := by simp; omega
            have hin : i = n := by omega
            have HF := hidp (show lvE l = 0 from if_pos (by unfold lvOk; rw [H6.out, decide_eq_true (show l.us.length ≤ 16 by rw [HN.out]; omega), HN.out, ← hin, HOK.out]; rfl))
            clear hin
            go_wp2_with fail
            go_ret
            exact ⟨by rw [HF.out]; rfl, H.out.below⟩
end Go.Proofs.YtiakfopdohcigaaGreatDoor
