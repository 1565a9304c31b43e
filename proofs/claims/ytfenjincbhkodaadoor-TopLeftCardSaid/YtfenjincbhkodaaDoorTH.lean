/-
  Joined: StE.
-/
import Derived.Test.YtfenjincbhkodaaDoorTG
namespace Go.Proofs.YtfenjincbhkodaaDoor
set_option maxRecDepth 100000
set_option linter.unusedVariables false
set_option linter.unusedSimpArgs false
open Go.RowKit Rw


theorem search_lo {cs : List Ce} {c : Ce} (hp : cs.Pairwise ltC) {h : Nat} (hh : h < cs.length) (hy : cmpC cs[h] c < 0) : ∀ q, q < h + 1 → (hq : q < cs.length) → cmpC cs[q] c < 0 := by
  intro q hq hql
  rw [List.pairwise_iff_getElem] at hp
  rcases Nat.lt_or_ge q h with hl | hg
  · exact cmpC_neg.2 (ltC_trans (hp q h hql hh hl) (cmpC_neg.1 hy))
  · have : q = h := by omega
    subst this; exact hy
theorem search_hi {cs : List Ce} {c : Ce} (hp : cs.Pairwise ltC) {h : Nat} (hh : h < cs.length) (hy : ¬ cmpC cs[h] c < 0) : ∀ q, h ≤ q → (hq : q < cs.length) → 0 ≤ cmpC cs[q] c := by
  intro q hq hql
  rw [List.pairwise_iff_getElem] at hp
  rcases Nat.lt_or_ge h q with hl | hg
  · refine Int.not_lt.1 fun g => hy (cmpC_neg.2 (ltC_trans (hp h q hh hql hl) (cmpC_neg.1 g)))
  · have : q = h := by omega
    subst this; omega
set_option maxHeartbeats 16000000 in
theorem search_any (w : World) (v : Value) (cs : List Ce) (hv : CsAt w v cs) (c : Ce) (hp : cs.Pairwise ltC) (hn256 : cs.length ≤ 256) :
    Calls Tryd.prog 58 #[v, .agg c.row.toArray, .func (.func 59) #[] #[]] w fun e w' => e = .returned (.tuple #[.int .i64 (posS cs c : Int), .bool (fndS cs c)]) ∧ Below w.heap.size w w' := by
  have HV := hidp hv; clear hv
  have HPW := hidp hp; clear hp
  obtain ⟨av, cv0, rfl⟩ := HV.out.form
  obtain ⟨n, hn⟩ : ∃ n, cs.length = n := ⟨_, rfl⟩
  have HN := hidp hn
  rw [hn] at HV hn256 ⊢
  clear hn
  have H := hidp (Mm.M.nil w)
  go_enter Tryd.func58, Tryd.ntmps58
  go_wp2_with (refine Mm.box 68 H rfl (.tmp 1) rfl c.row rfl ?_; clear H; intro b4 _ H nw; clear nw)
  go_loopw [9, 10] (fun t9 t10 wr => ∃ i j : Nat, t9 = .int .i64 (i : Int) ∧ t10 = .int .i64 (j : Int) ∧ i ≤ j ∧ j ≤ n ∧ Hid (∀ q, q < i → (hq : q < cs.length) → cmpC cs[q] c < 0) ∧ Hid (∀ q, j ≤ q → (hq : q < cs.length) → 0 ≤ cmpC cs[q] c) ∧ Mm.M w.heap.size w wr [⟨b4, 68, c.row⟩]) (fun t9 t10 _ => (intOf t10).toNat - (intOf t9).toNat)
  case atStart => exact ⟨0, n, rfl, rfl, by omega, by omega, hidp (fun q h => absurd h (Nat.not_lt_zero _)), hidp (fun q h hq => by rw [HN.out] at hq; omega), H.out⟩
  case round =>
    clear H
    obtain ⟨i, j, rfl, rfl, hij, hjn, HLO, HHI, hM⟩ := hrel
    have H := hidp hM
    clear hM
    by_cases hlt : i < j
    · have e1 : decide ((i : Int) < (j : Int)) = true := by simp; omega
      obtain ⟨h, hh⟩ : ∃ h, (i + j) / 2 = h := ⟨_, rfl⟩
      have hb1 : i ≤ h := by omega
      have hb2 : h < j := by omega
      have HMID := hidp (show ((i : Int) + (j : Int)) / 2 = (h : Int) from by omega)
      clear hh
      obtain ⟨BK, off, c0, e2, hc, hBK0, hR0⟩ := HV.out.get (by rw [HN.out]; omega)
      rw [HN.out] at e2
      simp only [Value.slice.injEq] at e2
      obtain ⟨rfl, -, rfl⟩ := e2
      have hBK := hidp hBK0
      have hql : h < cs.length := by rw [HN.out]; omega
      obtain ⟨p, hge⟩ : ∃ p, cs[h] = p := ⟨_, rfl⟩
      have HRP := hidp (show w.rangeAt BK (off + 8 * h) p.row from by rw [← hge]; exact hR0 h hql)
      have HGE := hidp (show cs[h] = p from hge)
      have cc := hidp (fun W => compare_any W p c)
      obtain ⟨Y, hY⟩ : ∃ Y, cmpC p c = Y := ⟨_, rfl⟩
      rw [hY] at cc
      clear hR0 hBK0 hge hc
      by_cases hf : Y < 0
      · have HY := hidp (show decide (Y < 0) = true from decide_eq_true hf)
        have HLO2 := hidp (search_lo HPW.out hql (by rw [HGE.out, hY]; exact hf))
        clear hY hf
        go_wp2_with fail
        simp only [HMID.out]
        refine Mm.region H (.take 0 (.take 1 (.take 2 (.take 3 (.take 4 (.take 5 (.one 6 (.take 7 .done)))))))) (by kernel_rfl) (by kernel_rfl) (by simp [Scr.depth]) (by kernel_rfl) ?_
        clear H
        intro _ H hb
        clear hb
        apply s_val
        case ho => rfl
        case hw => rfl
        case hv => intro w hw; go_simp; first | done | with_reducible rfl | rfl
        simp only [Act.put, List.getElem_toArray, List.getElem_cons_zero, List.getElem_cons_succ, List.setIfInBounds_toArray, List.set_cons_zero, List.set_cons_succ]
        apply s_val
        case ho => rfl
        case hw => rfl
        case hv => intro w hw; go_simp; first | done | with_reducible rfl | rfl
        simp only [Act.put, List.getElem_toArray, List.getElem_cons_zero, List.getElem_cons_succ, List.setIfInBounds_toArray, List.set_cons_zero, List.set_cons_succ]
        apply s_val
        case ho => rfl
        case hw => rfl
        case hv => intro w hw; go_simp; first | done | with_reducible rfl | rfl
        simp only [Act.put, List.getElem_toArray, List.getElem_cons_zero, List.getElem_cons_succ, List.setIfInBounds_toArray, List.set_cons_zero, List.set_cons_succ]
        refine s_idxR tyC rfl rfl (.tmp 25) (.tmp 26) rfl BK off n _ h rfl rfl (by omega) ?_
        simp only [Act.put, List.getElem_toArray, List.getElem_cons_zero, List.getElem_cons_succ, List.setIfInBounds_toArray, List.set_cons_zero, List.set_cons_succ]
        refine s_mid rtC rfl rfl (.tmp 27) BK (off + 8 * h) p.row rfl rfl rfl (fun w h => rangeAt_below HRP.out h.below hBK.out) ?_
        simp only [Act.put, List.getElem_toArray, List.getElem_cons_zero, List.getElem_cons_succ, List.setIfInBounds_toArray, List.set_cons_zero, List.set_cons_succ]
        refine Mm.sget0 rtC (fun w h => h) rfl rfl (.tmp 4) rfl rfl rfl ?_
        simp only [Act.put, List.getElem_toArray, List.getElem_cons_zero, List.getElem_cons_succ, List.setIfInBounds_toArray, List.set_cons_zero, List.set_cons_succ]
        refine Mm.o_callH (v := .int .i64 Y) H (fun W h => h) rfl rfl 59 (#[.agg p.row.toArray, .agg c.row.toArray]) (by go_simp; first | done | rfl) (cc.out _) ?_
        clear H
        intro _ H hb
        clear hb
        simp only [Act.put, List.getElem_toArray, List.getElem_cons_zero, List.getElem_cons_succ, List.setIfInBounds_toArray, List.set_cons_zero, List.set_cons_succ]
        apply s_val
        case ho => rfl
        case hw => rfl
        case hv => intro w hw; have q := HY.out; go_simp; first | done | with_reducible rfl | rfl
        simp only [Act.put, List.getElem_toArray, List.getElem_cons_zero, List.getElem_cons_succ, List.setIfInBounds_toArray, List.set_cons_zero, List.set_cons_succ]
        refine NoPanic.normal ?_
        go_wp2_with fail
        exact ⟨⟨h + 1, j, by go_num, rfl, by omega, by omega, HLO2, HHI, H.out⟩, by simp [intOf]; omega⟩
      · have HY := hidp (show decide (Y < 0) = false from decide_eq_false hf)
        have HHI2 := hidp (search_hi HPW.out hql (by rw [HGE.out, hY]; exact hf))
        clear hY hf
        go_wp2_with fail
        simp only [HMID.out]
        refine Mm.region H (.take 0 (.take 1 (.take 2 (.take 3 (.take 4 (.take 5 (.one 6 (.take 7 .done)))))))) (by kernel_rfl) (by kernel_rfl) (by simp [Scr.depth]) (by kernel_rfl) ?_
        clear H
        intro _ H hb
        clear hb
        apply s_val
        case ho => rfl
        case hw => rfl
        case hv => intro w hw; go_simp; first | done | with_reducible rfl | rfl
        simp only [Act.put, List.getElem_toArray, List.getElem_cons_zero, List.getElem_cons_succ, List.setIfInBounds_toArray, List.set_cons_zero, List.set_cons_succ]
        apply s_val
        case ho => rfl
        case hw => rfl
        case hv => intro w hw; go_simp; first | done | with_reducible rfl | rfl
        simp only [Act.put, List.getElem_toArray, List.getElem_cons_zero, List.getElem_cons_succ, List.setIfInBounds_toArray, List.set_cons_zero, List.set_cons_succ]
        apply s_val
        case ho => rfl
        case hw => rfl
        case hv => intro w hw; go_simp; first | done | with_reducible rfl | rfl
        simp only [Act.put, List.getElem_toArray, List.getElem_cons_zero, List.getElem_cons_succ, List.setIfInBounds_toArray, List.set_cons_zero, List.set_cons_succ]
        refine s_idxR tyC rfl rfl (.tmp 25) (.tmp 26) rfl BK off n _ h rfl rfl (by omega) ?_
        simp only [Act.put, List.getElem_toArray, List.getElem_cons_zero, List.getElem_cons_succ, List.setIfInBounds_toArray, List.set_cons_zero, List.set_cons_succ]
        refine s_mid rtC rfl rfl (.tmp 27) BK (off + 8 * h) p.row rfl rfl rfl (fun w h => rangeAt_below HRP.out h.below hBK.out) ?_
        simp only [Act.put, List.getElem_toArray, List.getElem_cons_zero, List.getElem_cons_succ, List.setIfInBounds_toArray, List.set_cons_zero, List.set_cons_succ]
        refine Mm.sget0 rtC (fun w h => h) rfl rfl (.tmp 4) rfl rfl rfl ?_
        simp only [Act.put, List.getElem_toArray, List.getElem_cons_zero, List.getElem_cons_succ, List.setIfInBounds_toArray, List.set_cons_zero, List.set_cons_succ]
        refine Mm.o_callH (v := .int .i64 Y) H (fun W h => h) rfl rfl 59 (#[.agg p.row.toArray, .agg c.row.toArray]) (by go_simp; first | done | rfl) (cc.out _) ?_
        clear H
        intro _ H hb
        clear hb
        simp only [Act.put, List.getElem_toArray, List.getElem_cons_zero, List.getElem_cons_succ, List.setIfInBounds_toArray, List.set_cons_zero, List.set_cons_succ]
        apply s_val
        case ho => rfl
        case hw => rfl
        case hv => intro w hw; have q := HY.out; go_simp; first | done | with_reducible rfl | rfl
        simp only [Act.put, List.getElem_toArray, List.getElem_cons_zero, List.getElem_cons_succ, List.setIfInBounds_toArray, List.set_cons_zero, List.set_cons_succ]
        refine NoPanic.normal ?_
        go_wp2_with fail
        exact ⟨⟨i, h, rfl, by go_num, by omega, by omega, HLO, HHI2, H.out⟩, by simp [intOf]; omega⟩
    · have e1 : decide ((i : Int) < (j : Int)) = false := by simp; omega
      have hij2 : j = i := by omega
      subst hij2
      have HPOS := hidp (posS_of (cs := cs) (c := c) (i := j) (by rw [HN.out]; exact hjn) HLO.out HHI.out)
      obtain ⟨i, hi0⟩ : ∃ i, j = i := ⟨_, rfl⟩
      subst hi0
      by_cases hin : j < n
      · have ei := hidp (show decide ((j : Int) < (n : Int)) = true from by simp; omega)
        obtain ⟨BK, off, c0, e2, hc, hBK0, hR0⟩ := HV.out.get (by rw [HN.out]; omega)
        rw [HN.out] at e2
        simp only [Value.slice.injEq] at e2
        obtain ⟨rfl, -, rfl⟩ := e2
        have hBK := hidp hBK0
        have hql : j < cs.length := by rw [HN.out]; omega
        obtain ⟨p, hge⟩ : ∃ p, cs[j] = p := ⟨_, rfl⟩
        have HRP := hidp (show w.rangeAt BK (off + 8 * j) p.row from by rw [← hge]; exact hR0 j hql)
        have HGE := hidp (show cs[j] = p from hge)
        have cc := hidp (fun W => compare_any W p c)
        obtain ⟨Y, hY⟩ : ∃ Y, cmpC p c = Y := ⟨_, rfl⟩
        rw [hY] at cc
        clear hR0 hBK0 hge hc
        by_cases hf : Y = 0
        · have HY := hidp (show (Y == 0) = true from by simp [hf])
          have HFND := hidp (show fndS cs c = true from by unfold fndS; rw [HPOS.out, getD_ce hql, HGE.out, hY, hf, decide_eq_true hql]; rfl)
          clear hY hf
          go_wp2_with fail
          refine Mm.region H (.take 0 (.take 1 (.take 2 (.take 3 (.take 4 (.take 5 (.take 6 (.take 7 (.take 8 (.take 9 (.take 10 (.one 11 (.take 12 (.take 13 (.take 14 (.take 15 .done)))))))))))))))) (by kernel_rfl) (by kernel_rfl) (by simp [Scr.depth]) (by kernel_rfl) ?_
          clear H
          intro _ H hb
          clear hb
          apply s_val
          case ho => rfl
          case hw => rfl
          case hv => intro w hw; go_simp; first | done | with_reducible rfl | rfl
          simp only [Act.put, List.getElem_toArray, List.getElem_cons_zero, List.getElem_cons_succ, List.setIfInBounds_toArray, List.set_cons_zero, List.set_cons_succ]
          apply s_val
          case ho => rfl
          case hw => rfl
          case hv => intro w hw; go_simp; first | done | with_reducible rfl | rfl
          simp only [Act.put, List.getElem_toArray, List.getElem_cons_zero, List.getElem_cons_succ, List.setIfInBounds_toArray, List.set_cons_zero, List.set_cons_succ]
          apply s_val
          case ho => rfl
          case hw => rfl
          case hv => intro w hw; go_simp; first | done | with_reducible rfl | rfl
          simp only [Act.put, List.getElem_toArray, List.getElem_cons_zero, List.getElem_cons_succ, List.setIfInBounds_toArray, List.set_cons_zero, List.set_cons_succ]
          apply s_val
          case ho => rfl
          case hw => rfl
          case hv => intro w hw; have q := ei.out; go_simp; first | done | with_reducible rfl | rfl
          simp only [Act.put, List.getElem_toArray, List.getElem_cons_zero, List.getElem_cons_succ, List.setIfInBounds_toArray, List.set_cons_zero, List.set_cons_succ]
          apply s_val
          case ho => rfl
          case hw => rfl
          case hv => intro w hw; go_simp; first | done | with_reducible rfl | rfl
          simp only [Act.put, List.getElem_toArray, List.getElem_cons_zero, List.getElem_cons_succ, List.setIfInBounds_toArray, List.set_cons_zero, List.set_cons_succ]
          apply s_val
          case ho => rfl
          case hw => rfl
          case hv => intro w hw; go_simp; first | done | with_reducible rfl | rfl
          simp only [Act.put, List.getElem_toArray, List.getElem_cons_zero, List.getElem_cons_succ, List.setIfInBounds_toArray, List.set_cons_zero, List.set_cons_succ]
          apply s_val
          case ho => rfl
          case hw => rfl
          case hv => intro w hw; go_simp; first | done | with_reducible rfl | rfl
          simp only [Act.put, List.getElem_toArray, List.getElem_cons_zero, List.getElem_cons_succ, List.setIfInBounds_toArray, List.set_cons_zero, List.set_cons_succ]
          apply s_val
          case ho => rfl
          case hw => rfl
          case hv => intro w hw; go_simp; first | done | with_reducible rfl | rfl
          simp only [Act.put, List.getElem_toArray, List.getElem_cons_zero, List.getElem_cons_succ, List.setIfInBounds_toArray, List.set_cons_zero, List.set_cons_succ]
          refine s_idxR tyC rfl rfl (.tmp 41) (.tmp 42) rfl BK off n _ j rfl rfl (by omega) ?_
          simp only [Act.put, List.getElem_toArray, List.getElem_cons_zero, List.getElem_cons_succ, List.setIfInBounds_toArray, List.set_cons_zero, List.set_cons_succ]
          refine s_mid rtC rfl rfl (.tmp 43) BK (off + 8 * j) p.row rfl rfl rfl (fun w h => rangeAt_below HRP.out h.below hBK.out) ?_
          simp only [Act.put, List.getElem_toArray, List.getElem_cons_zero, List.getElem_cons_succ, List.setIfInBounds_toArray, List.set_cons_zero, List.set_cons_succ]
          refine Mm.sget0 rtC (fun w h => h) rfl rfl (.tmp 4) rfl rfl rfl ?_
          simp only [Act.put, List.getElem_toArray, List.getElem_cons_zero, List.getElem_cons_succ, List.setIfInBounds_toArray, List.set_cons_zero, List.set_cons_succ]
          refine Mm.o_callH (v := .int .i64 Y) H (fun W h => h) rfl rfl 59 (#[.agg p.row.toArray, .agg c.row.toArray]) (by go_simp; first | done | rfl) (cc.out _) ?_
          clear H
          intro _ H hb
          clear hb
          simp only [Act.put, List.getElem_toArray, List.getElem_cons_zero, List.getElem_cons_succ, List.setIfInBounds_toArray, List.set_cons_zero, List.set_cons_succ]
          apply s_val
          case ho => rfl
          case hw => rfl
          case hv => intro w hw; have q := HY.out; go_simp; first | done | with_reducible rfl | rfl
          simp only [Act.put, List.getElem_toArray, List.getElem_cons_zero, List.getElem_cons_succ, List.setIfInBounds_toArray, List.set_cons_zero, List.set_cons_succ]
          apply s_val
          case ho => rfl
          case hw => rfl
          case hv => intro w hw; go_simp; first | done | with_reducible rfl | rfl
          simp only [Act.put, List.getElem_toArray, List.getElem_cons_zero, List.getElem_cons_succ, List.setIfInBounds_toArray, List.set_cons_zero, List.set_cons_succ]
          apply s_val
          case ho => rfl
          case hw => rfl
          case hv => intro w hw; go_simp; first | done | with_reducible rfl | rfl
          simp only [Act.put, List.getElem_toArray, List.getElem_cons_zero, List.getElem_cons_succ, List.setIfInBounds_toArray, List.set_cons_zero, List.set_cons_succ]
          apply s_val
          case ho => rfl
          case hw => rfl
          case hv => intro w hw; go_simp; first | done | with_reducible rfl | rfl
          simp only [Act.put, List.getElem_toArray, List.getElem_cons_zero, List.getElem_cons_succ, List.setIfInBounds_toArray, List.set_cons_zero, List.set_cons_succ]
          refine NoPanic.normal ?_
          go_wp2_with fail
          go_ret2
          exact ⟨by rw [HPOS.out, HFND.out]; rfl, H.out.below⟩
        · have HY := hidp (show (Y == 0) = false from by simp [hf])
          have HFND := hidp (show fndS cs c = false from by unfold fndS; rw [HPOS.out, getD_ce hql, HGE.out, hY, decide_eq_false hf, Bool.and_false])
          clear hY hf
          go_wp2_with fail
          refine Mm.region H (.take 0 (.take 1 (.take 2 (.take 3 (.take 4 (.take 5 (.take 6 (.take 7 (.take 8 (.take 9 (.take 10 (.one 11 (.take 12 (.take 13 (.take 14 (.take 15 .done)))))))))))))))) (by kernel_rfl) (by kernel_rfl) (by simp [Scr.depth]) (by kernel_rfl) ?_
          clear H
          intro _ H hb
          clear hb
          apply s_val
          case ho => rfl
          case hw => rfl
          case hv => intro w hw; go_simp; first | done | with_reducible rfl | rfl
          simp only [Act.put, List.getElem_toArray, List.getElem_cons_zero, List.getElem_cons_succ, List.setIfInBounds_toArray, List.set_cons_zero, List.set_cons_succ]
          apply s_val
          case ho => rfl
          case hw => rfl
          case hv => intro w hw; go_simp; first | done | with_reducible rfl | rfl
          simp only [Act.put, List.getElem_toArray, List.getElem_cons_zero, List.getElem_cons_succ, List.setIfInBounds_toArray, List.set_cons_zero, List.set_cons_succ]
          apply s_val
          case ho => rfl
          case hw => rfl
          case hv => intro w hw; go_simp; first | done | with_reducible rfl | rfl
          simp only [Act.put, List.getElem_toArray, List.getElem_cons_zero, List.getElem_cons_succ, List.setIfInBounds_toArray, List.set_cons_zero, List.set_cons_succ]
          apply s_val
          case ho => rfl
          case hw => rfl
          case hv => intro w hw; have q := ei.out; go_simp; first | done | with_reducible rfl | rfl
          simp only [Act.put, List.getElem_toArray, List.getElem_cons_zero, List.getElem_cons_succ, List.setIfInBounds_toArray, List.set_cons_zero, List.set_cons_succ]
          apply s_val
          case ho => rfl
          case hw => rfl
          case hv => intro w hw; go_simp; first | done | with_reducible rfl | rfl
          simp only [Act.put, List.getElem_toArray, List.getElem_cons_zero, List.getElem_cons_succ, List.setIfInBounds_toArray, List.set_cons_zero, List.set_cons_succ]
          apply s_val
          case ho => rfl
          case hw => rfl
          case hv => intro w hw; go_simp; first | done | with_reducible rfl | rfl
          simp only [Act.put, List.getElem_toArray, List.getElem_cons_zero, List.getElem_cons_succ, List.setIfInBounds_toArray, List.set_cons_zero, List.set_cons_succ]
          apply s_val
          case ho => rfl
          case hw => rfl
          case hv => intro w hw; go_simp; first | done | with_reducible rfl | rfl
          simp only [Act.put, List.getElem_toArray, List.getElem_cons_zero, List.getElem_cons_succ, List.setIfInBounds_toArray, List.set_cons_zero, List.set_cons_succ]
          apply s_val
          case ho => rfl
          case hw => rfl
          case hv => intro w hw; go_simp; first | done | with_reducible rfl | rfl
          simp only [Act.put, List.getElem_toArray, List.getElem_cons_zero, List.getElem_cons_succ, List.setIfInBounds_toArray, List.set_cons_zero, List.set_cons_succ]
          refine s_idxR tyC rfl rfl (.tmp 41) (.tmp 42) rfl BK off n _ j rfl rfl (by omega) ?_
          simp only [Act.put, List.getElem_toArray, List.getElem_cons_zero, List.getElem_cons_succ, List.setIfInBounds_toArray, List.set_cons_zero, List.set_cons_succ]
          refine s_mid rtC rfl rfl (.tmp 43) BK (off + 8 * j) p.row rfl rfl rfl (fun w h => rangeAt_below HRP.out h.below hBK.out) ?_
          simp only [Act.put, List.getElem_toArray, List.getElem_cons_zero, List.getElem_cons_succ, List.setIfInBounds_toArray, List.set_cons_zero, List.set_cons_succ]
          refine Mm.sget0 rtC (fun w h => h) rfl rfl (.tmp 4) rfl rfl rfl ?_
          simp only [Act.put, List.getElem_toArray, List.getElem_cons_zero, List.getElem_cons_succ, List.setIfInBounds_toArray, List.set_cons_zero, List.set_cons_succ]
          refine Mm.o_callH (v := .int .i64 Y) H (fun W h => h) rfl rfl 59 (#[.agg p.row.toArray, .agg c.row.toArray]) (by go_simp; first | done | rfl) (cc.out _) ?_
          clear H
          intro _ H hb
          clear hb
          simp only [Act.put, List.getElem_toArray, List.getElem_cons_zero, List.getElem_cons_succ, List.setIfInBounds_toArray, List.set_cons_zero, List.set_cons_succ]
          apply s_val
          case ho => rfl
          case hw => rfl
          case hv => intro w hw; have q := HY.out; go_simp; first | done | with_reducible rfl | rfl
          simp only [Act.put, List.getElem_toArray, List.getElem_cons_zero, List.getElem_cons_succ, List.setIfInBounds_toArray, List.set_cons_zero, List.set_cons_succ]
          apply s_val
          case ho => rfl
          case hw => rfl
          case hv => intro w hw; go_simp; first | done | with_reducible rfl | rfl
          simp only [Act.put, List.getElem_toArray, List.getElem_cons_zero, List.getElem_cons_succ, List.setIfInBounds_toArray, List.set_cons_zero, List.set_cons_succ]
          apply s_val
          case ho => rfl
          case hw => rfl
          case hv => intro w hw; go_simp; first | done | with_reducible rfl | rfl
          simp only [Act.put, List.getElem_toArray, List.getElem_cons_zero, List.getElem_cons_succ, List.setIfInBounds_toArray, List.set_cons_zero, List.set_cons_succ]
          apply s_val
          case ho => rfl
          case hw => rfl
          case hv => intro w hw; go_simp; first | done | with_reducible rfl | rfl
          simp only [Act.put, List.getElem_toArray, List.getElem_cons_zero, List.getElem_cons_succ, List.setIfInBounds_toArray, List.set_cons_zero, List.set_cons_succ]
          refine NoPanic.normal ?_
          go_wp2_with fail
          go_ret2
          exact ⟨by rw [HPOS.out, HFND.out]; rfl, H.out.below⟩
      · have ei := hidp (show decide ((j : Int) < (n : Int)) = false from by simp; omega)
        have HFND := hidp (show fndS cs c = false from by unfold fndS; rw [HPOS.out, decide_eq_false (by rw [HN.out]; exact hin)]; rfl)
        go_wp2_with fail
        refine Mm.region H (.take 0 (.take 1 (.take 2 (.take 3 (.take 4 (.take 5 (.take 6 (.take 7 (.take 8 (.take 9 (.take 10 (.take 11 (.take 12 (.take 13 (.take 14 (.take 15 .done)))))))))))))))) (by kernel_rfl) (by kernel_rfl) (by simp [Scr.depth]) (by kernel_rfl) ?_
        clear H
        intro _ H hb
        clear hb
        apply s_val
        case ho => rfl
        case hw => rfl
        case hv => intro w hw; go_simp; first | done | with_reducible rfl | rfl
        simp only [Act.put, List.getElem_toArray, List.getElem_cons_zero, List.getElem_cons_succ, List.setIfInBounds_toArray, List.set_cons_zero, List.set_cons_succ]
        apply s_val
        case ho => rfl
        case hw => rfl
        case hv => intro w hw; go_simp; first | done | with_reducible rfl | rfl
        simp only [Act.put, List.getElem_toArray, List.getElem_cons_zero, List.getElem_cons_succ, List.setIfInBounds_toArray, List.set_cons_zero, List.set_cons_succ]
        apply s_val
        case ho => rfl
        case hw => rfl
        case hv => intro w hw; go_simp; first | done | with_reducible rfl | rfl
        simp only [Act.put, List.getElem_toArray, List.getElem_cons_zero, List.getElem_cons_succ, List.setIfInBounds_toArray, List.set_cons_zero, List.set_cons_succ]
        apply s_val
        case ho => rfl
        case hw => rfl
        case hv => intro w hw; have q := ei.out; go_simp; first | done | with_reducible rfl | rfl
        simp only [Act.put, List.getElem_toArray, List.getElem_cons_zero, List.getElem_cons_succ, List.setIfInBounds_toArray, List.set_cons_zero, List.set_cons_succ]
        apply s_val
        case ho => rfl
        case hw => rfl
        case hv => intro w hw; go_simp; first | done | with_reducible rfl | rfl
        simp only [Act.put, List.getElem_toArray, List.getElem_cons_zero, List.getElem_cons_succ, List.setIfInBounds_toArray, List.set_cons_zero, List.set_cons_succ]
        refine Rt.s_skip rfl rfl ?_
        simp only [Act.put, List.getElem_toArray, List.getElem_cons_zero, List.getElem_cons_succ, List.setIfInBounds_toArray, List.set_cons_zero, List.set_cons_succ]
        refine Rt.s_skip rfl rfl ?_
        simp only [Act.put, List.getElem_toArray, List.getElem_cons_zero, List.getElem_cons_succ, List.setIfInBounds_toArray, List.set_cons_zero, List.set_cons_succ]
        refine Rt.s_skip rfl rfl ?_
        simp only [Act.put, List.getElem_toArray, List.getElem_cons_zero, List.getElem_cons_succ, List.setIfInBounds_toArray, List.set_cons_zero, List.set_cons_succ]
        refine Rt.s_skip rfl rfl ?_
        simp only [Act.put, List.getElem_toArray, List.getElem_cons_zero, List.getElem_cons_succ, List.setIfInBounds_toArray, List.set_cons_zero, List.set_cons_succ]
        refine Rt.s_skip rfl rfl ?_
        simp only [Act.put, List.getElem_toArray, List.getElem_cons_zero, List.getElem_cons_succ, List.setIfInBounds_toArray, List.set_cons_zero, List.set_cons_succ]
        refine Rt.s_skip rfl rfl ?_
        simp only [Act.put, List.getElem_toArray, List.getElem_cons_zero, List.getElem_cons_succ, List.setIfInBounds_toArray, List.set_cons_zero, List.set_cons_succ]
        refine Rt.s_skip rfl rfl ?_
        simp only [Act.put, List.getElem_toArray, List.getElem_cons_zero, List.getElem_cons_succ, List.setIfInBounds_toArray, List.set_cons_zero, List.set_cons_succ]
        refine Rt.s_skip rfl rfl ?_
        simp only [Act.put, List.getElem_toArray, List.getElem_cons_zero, List.getElem_cons_succ, List.setIfInBounds_toArray, List.set_cons_zero, List.set_cons_succ]
        apply s_val
        case ho => rfl
        case hw => rfl
        case hv => intro w hw; go_simp; first | done | with_reducible rfl | rfl
        simp only [Act.put, List.getElem_toArray, List.getElem_cons_zero, List.getElem_cons_succ, List.setIfInBounds_toArray, List.set_cons_zero, List.set_cons_succ]
        apply s_val
        case ho => rfl
        case hw => rfl
        case hv => intro w hw; go_simp; first | done | with_reducible rfl | rfl
        simp only [Act.put, List.getElem_toArray, List.getElem_cons_zero, List.getElem_cons_succ, List.setIfInBounds_toArray, List.set_cons_zero, List.set_cons_succ]
        apply s_val
        case ho => rfl
        case hw => rfl
        case hv => intro w hw; go_simp; first | done | with_reducible rfl | rfl
        simp only [Act.put, List.getElem_toArray, List.getElem_cons_zero, List.getElem_cons_succ, List.setIfInBounds_toArray, List.set_cons_zero, List.set_cons_succ]
        refine NoPanic.normal ?_
        go_wp2_with fail
        go_ret2
        exact ⟨by rw [HPOS.out, HFND.out]; rfl, H.out.below⟩
end Go.Proofs.YtfenjincbhkodaaDoor
