
/-
  power: six, Same at equal levels.
-/
import Derived.Test.YtiakfopdohcigaaGreatDoorPwL
namespace Go.Proofs.YtiakfopdohcigaaGreatDoor
set_option maxRecDepth 100000
set_option linter.unusedVariables false
set_option linter.unusedSimpArgs false
open Go.RowKit Rw Go.Shelf
attribute [local go_sem] Oper.semAt_some


section
variable {P : Program} {ops : Array Oper} {Q : Exit → Act → World → Prop} {S : World → Prop} {k : Nat} {o : Oper} {a : Act} {w : World} {K : Act → World → Prop}
theorem o_callE (ho : ops[k]? = some o) (hw : Region.wanted o (yielded ops a.tmps) = true) (f : FuncId) (args : Array Value) (hop : (execOp a.eval o).run P w = .ok (.enter f args) w) {R : Value → World → Prop} (hc : Calls P f args w fun e w' => ∃ v, e = .returned v ∧ R v w')
    (h : ∀ v w', R v w' → S w' ∧ K (a.put o.dst v) w') : opW P ops Q S k K a w := by
  refine ⟨o, ho, hw, ?_⟩
  unfold Oper.wp
  rw [hop]
  exact hc.mono fun e w' ⟨v, he, hr⟩ => by subst he; exact h v w' hr
end
theorem six_cellI {w : World} {b T : Nat} {l : Lv} {i : Nat} (h : Arr w b T [.int .i64 l.a, .int .i64 l.s, .int .i64 l.i, .int .i64 l.k, .int .i64 l.b, .int .i64 l.r]) (hi : i < 6) : w.cell? ⟨b, i, none⟩ = some (.int .i64 ((sixL l).getD i 0)) := by
  match i, hi with
  | 0, _ => exact h.cell 0 (by simp)
  | 1, _ => exact h.cell 1 (by simp)
  | 2, _ => exact h.cell 2 (by simp)
  | 3, _ => exact h.cell 3 (by simp)
  | 4, _ => exact h.cell 4 (by simp)
  | 5, _ => exact h.cell 5 (by simp)
set_option maxHeartbeats 4000000 in
theorem six_any (w : World) (l : Lv) (v : Value) :
    Calls Tryz.prog 63 #[.agg #[.int .i64 l.a, .int .i64 l.s, .int .i64 l.i, .int .i64 l.k, .int .i64 l.b, .int .i64 l.r, v]] w fun e w' => ∃ v', e = .returned v' ∧ (∃ g, v' = .slice (some ⟨g, 0, none⟩) 6 6 ∧ Arr w' g 3 [.int .i64 l.a, .int .i64 l.s, .int .i64 l.i, .int .i64 l.k, .int .i64 l.b, .int .i64 l.r]) ∧ Below w.heap.size w w' := by
  go_enter Tryz.func63, Tryz.ntmps63
  go_wp2_with (refine Rt.wpL_box 37 rfl (.tmp 0) rfl [.int .i64 l.a, .int .i64 l.s, .int .i64 l.i, .int .i64 l.k, .int .i64 l.b, .int .i64 l.r, v] rfl ?_; intro b1 w1 n1; have HB1 := hidp n1.below; have hg_b1 := hidp n1.le; have HA1 := hidp n1.arr; clear n1; obtain ⟨x0, x1, x2, x3, x4, x5, x6⟩ := arr7 HA1.out)
  go_ret
  exact ⟨_, rfl, ⟨_, rfl, Arr.new _ _ _⟩, HB1.out.alloc HB1.out.size _⟩

set_option maxHeartbeats 16000000 in
theorem same_any (w : World) (l : Lv) (v1 v2 : Value) (h1 : UsAt w v1 l.us) (h2 : UsAt w v2 l.us) :
    Calls Tryz.prog 24 #[.agg #[.int .i64 l.a, .int .i64 l.s, .int .i64 l.i, .int .i64 l.k, .int .i64 l.b, .int .i64 l.r, v1], .agg #[.int .i64 l.a, .int .i64 l.s, .int .i64 l.i, .int .i64 l.k, .int .i64 l.b, .int .i64 l.r, v2]] w fun e w' => e = .returned (.bool true) ∧ Below w.heap.size w w' := by
  have HV1 := hidp h1; have HV2 := hidp h2
  clear h1 h2
  obtain ⟨a1, c1, rfl⟩ := HV1.out.form
  obtain ⟨a2, c2, rfl⟩ := HV2.out.form
  obtain ⟨n, hn⟩ : ∃ n, l.us.length = n := ⟨_, rfl⟩
  have HN := hidp hn
  have hn47 := HV1.out.len
  rw [hn] at HV1 HV2 hn47 ⊢
  clear hn
  go_enter Tryz.func24, Tryz.ntmps24
  go_wp2_with (first | (refine Rt.wpL_box 37 rfl (.tmp 0) rfl [.int .i64 l.a, .int .i64 l.s, .int .i64 l.i, .int .i64 l.k, .int .i64 l.b, .int .i64 l.r, .slice a1 n c1] rfl ?_; intro b2 w1 n1; have HB1 := hidp n1.below; have hg_b2 := hidp n1.le; have HA1 := hidp n1.arr; clear n1) | (refine Rt.wpL_box 37 rfl (.tmp 1) rfl [.int .i64 l.a, .int .i64 l.s, .int .i64 l.i, .int .i64 l.k, .int .i64 l.b, .int .i64 l.r, .slice a2 n c2] rfl ?_; intro b3 w2 n2; have HB2 := hidp (HB1.out.trans (n2.below.mono HB1.out.size)); have hg_b3 := hidp (Nat.le_trans HB1.out.size n2.le); have HA2 := hidp (n2.old HA1.out); have hl_HA_b3 := hidp (show b2 < b3 from by have := n2.at_; have := HA1.out.lt; omega); have HC2 := hidp n2.arr; clear n2 HA1 HB1; obtain ⟨x0, x1, x2, x3, x4, x5, x6⟩ := arr7 HA2.out; obtain ⟨y0, y1, y2, y3, y4, y5, y6⟩ := arr7 HC2.out))
  clear x0 x1 x2 x3 x4 x5 x6 y0 y1 y2 y3 y4 y5 y6
  go_loopw [19] (fun t19 wr => ∃ i : Nat, t19 = .int .i64 (i : Int) ∧ i ≤ n ∧ Below w.heap.size w wr ∧ Below w2.heap.size w2 wr) (fun t19 _ => n - (intOf t19).toNat)
  case atStart => exact ⟨0, rfl, by omega, HB2.out, Below.refl _ _⟩
  case round =>
    obtain ⟨i, rfl, hi, hb, hb2⟩ := hrel
    have HB := hidp hb; have Hw2 := hidp hb2
    clear hb hb2
    have HAr := hidp (HA2.out.below Hw2.out HA2.out.lt); have HCr := hidp (HC2.out.below Hw2.out HC2.out.lt)
    by_cases hlt : i < n
    · have e1 : decide ((i : Int) < (n : Int)) = true := by simp; omega
      have hgl : i < l.us.length := by rw [HN.out]; exact hlt
      obtain ⟨p, hpe0⟩ : ∃ p, l.us[i] = p := ⟨_, rfl⟩
      obtain ⟨BK1, o1, d1, e2, hc1, hB1, hR1⟩ := HV1.out.get (by rw [HN.out]; omega)
      rw [HN.out] at e2
      simp only [Value.slice.injEq] at e2
      obtain ⟨rfl, -, rfl⟩ := e2
      have HR1 := hidp (show wr.rangeAt BK1 (o1 + 2 * i) (uR p) from by rw [← hpe0]; exact rangeAt_below (hR1 i hgl) HB.out hB1)
      have hb1r := hidp (show BK1 < wr.heap.size from Nat.lt_of_lt_of_le hB1 HB.out.size)
      clear hR1 hB1 hc1
      obtain ⟨BK2, o2, d2, e2, hc2, hB2, hR2⟩ := HV2.out.get (by rw [HN.out]; omega)
      rw [HN.out] at e2
      simp only [Value.slice.injEq] at e2
      obtain ⟨rfl, -, rfl⟩ := e2
      have HR2 := hidp (show wr.rangeAt BK2 (o2 + 2 * i) (uR p) from by rw [← hpe0]; exact rangeAt_below (hR2 i hgl) HB.out hB2)
      have hb2r := hidp (show BK2 < wr.heap.size from Nat.lt_of_lt_of_le hB2 HB.out.size)
      clear hR2 hB2 hc2
      clear hpe0
      go_wp2_with fail
      obtain ⟨U, hU⟩ : ∃ U, ({ wr with drawn := wr.drawn + 1 } : World) = U := ⟨_, rfl⟩
      have bU : Below wr.heap.size wr U := by rw [← hU]; exact (Below.refl _ _).drew
      have HBU := hidp (HB.out.trans (bU.mono HB.out.size)); have HW2 := hidp (Hw2.out.trans (bU.mono Hw2.out.size))
      have HSU := hidp (show Arr U b2 37 [.int .i64 l.a, .int .i64 l.s, .int .i64 l.i, .int .i64 l.k, .int .i64 l.b, .int .i64 l.r, .slice (some ⟨BK1, o1, none⟩) n c1] ∧ Arr U b3 37 [.int .i64 l.a, .int .i64 l.s, .int .i64 l.i, .int .i64 l.k, .int .i64 l.b, .int .i64 l.r, .slice (some ⟨BK2, o2, none⟩) n c2] ∧ U.rangeAt BK1 (o1 + 2 * i) (uR p) ∧ U.rangeAt BK2 (o2 + 2 * i) (uR p) from ⟨HAr.out.below bU HAr.out.lt, HCr.out.below bU HCr.out.lt, rangeAt_below HR1.out bU hb1r.out, rangeAt_below HR2.out bU hb2r.out⟩)
      clear bU HAr HCr
      refine wp_region_noPanic ?_
      refine wp_region_scr (S := fun W => Arr W b2 37 [.int .i64 l.a, .int .i64 l.s, .int .i64 l.i, .int .i64 l.k, .int .i64 l.b, .int .i64 l.r, .slice (some ⟨BK1, o1, none⟩) n c1] ∧ Arr W b3 37 [.int .i64 l.a, .int .i64 l.s, .int .i64 l.i, .int .i64 l.k, .int .i64 l.b, .int .i64 l.r, .slice (some ⟨BK2, o2, none⟩) n c2] ∧ W.rangeAt BK1 (o1 + 2 * i) (uR p) ∧ W.rangeAt BK2 (o2 + 2 * i) (uR p)) (.take 0 (.take 1 (.take 2 (.take 3 (.take 4 (.take 5 (.take 6 (.take 7 (.take 8 (.take 9 (.take 10 .done))))))))))) (by kernel_rfl) (by kernel_rfl) (fun _ _ _ _ _ h => h) (by simp [Scr.depth]) (by kernel_rfl) (by rw [hU]; exact HSU.out) ?_
      simp only [hU]
      clear hU
      apply s_val
      case ho => rfl
      case hw => rfl
      case hv => intro w hw; obtain ⟨x0, x1, x2, x3, x4, x5, x6⟩ := arr7 hw.1; obtain ⟨y0, y1, y2, y3, y4, y5, y6⟩ := arr7 hw.2.1; obtain ⟨z0, z1⟩ := uR_cells hw.2.2.1; obtain ⟨z2, z3⟩ := uR_cells hw.2.2.2; go_simp; first | done | with_reducible rfl | rfl
      simp only [Act.put, List.getElem_toArray, List.getElem_cons_zero, List.getElem_cons_succ, List.setIfInBounds_toArray, List.set_cons_zero, List.set_cons_succ]
      apply s_val
      case ho => rfl
      case hw => rfl
      case hv => intro w hw; obtain ⟨x0, x1, x2, x3, x4, x5, x6⟩ := arr7 hw.1; obtain ⟨y0, y1, y2, y3, y4, y5, y6⟩ := arr7 hw.2.1; obtain ⟨z0, z1⟩ := uR_cells hw.2.2.1; obtain ⟨z2, z3⟩ := uR_cells hw.2.2.2; go_simp; first | done | with_reducible rfl | rfl
      simp only [Act.put, List.getElem_toArray, List.getElem_cons_zero, List.getElem_cons_succ, List.setIfInBounds_toArray, List.set_cons_zero, List.set_cons_succ]
      apply s_val
      case ho => rfl
      case hw => rfl
      case hv => intro w hw; obtain ⟨x0, x1, x2, x3, x4, x5, x6⟩ := arr7 hw.1; obtain ⟨y0, y1, y2, y3, y4, y5, y6⟩ := arr7 hw.2.1; obtain ⟨z0, z1⟩ := uR_cells hw.2.2.1; obtain ⟨z2, z3⟩ := uR_cells hw.2.2.2; go_simp; first | done | with_reducible rfl | rfl
      simp only [Act.put, List.getElem_toArray, List.getElem_cons_zero, List.getElem_cons_succ, List.setIfInBounds_toArray, List.set_cons_zero, List.set_cons_succ]
      refine s_idxR tyU rfl rfl (.tmp 23) (.tmp 24) rfl BK1 o1 n _ i rfl rfl hlt ?_
      simp only [Act.put, List.getElem_toArray, List.getElem_cons_zero, List.getElem_cons_succ, List.setIfInBounds_toArray, List.set_cons_zero, List.set_cons_succ]
      apply s_val
      case ho => rfl
      case hw => rfl
      case hv => intro w hw; obtain ⟨x0, x1, x2, x3, x4, x5, x6⟩ := arr7 hw.1; obtain ⟨y0, y1, y2, y3, y4, y5, y6⟩ := arr7 hw.2.1; obtain ⟨z0, z1⟩ := uR_cells hw.2.2.1; obtain ⟨z2, z3⟩ := uR_cells hw.2.2.2; go_simp; first | done | with_reducible rfl | rfl
      simp only [Act.put, List.getElem_toArray, List.getElem_cons_zero, List.getElem_cons_succ, List.setIfInBounds_toArray, List.set_cons_zero, List.set_cons_succ]
      apply s_val
      case ho => rfl
      case hw => rfl
      case hv => intro w hw; obtain ⟨x0, x1, x2, x3, x4, x5, x6⟩ := arr7 hw.1; obtain ⟨y0, y1, y2, y3, y4, y5, y6⟩ := arr7 hw.2.1; obtain ⟨z0, z1⟩ := uR_cells hw.2.2.1; obtain ⟨z2, z3⟩ := uR_cells hw.2.2.2; go_simp; first | done | with_reducible rfl | rfl
      simp only [Act.put, List.getElem_toArray, List.getElem_cons_zero, List.getElem_cons_succ, List.setIfInBounds_toArray, List.set_cons_zero, List.set_cons_succ]
      apply s_val
      case ho => rfl
      case hw => rfl
      case hv => intro w hw; obtain ⟨x0, x1, x2, x3, x4, x5, x6⟩ := arr7 hw.1; obtain ⟨y0, y1, y2, y3, y4, y5, y6⟩ := arr7 hw.2.1; obtain ⟨z0, z1⟩ := uR_cells hw.2.2.1; obtain ⟨z2, z3⟩ := uR_cells hw.2.2.2; go_simp; first | done | with_reducible rfl | rfl
      simp only [Act.put, List.getElem_toArray, List.getElem_cons_zero, List.getElem_cons_succ, List.setIfInBounds_toArray, List.set_cons_zero, List.set_cons_succ]
      apply s_val
      case ho => rfl
      case hw => rfl
      case hv => intro w hw; obtain ⟨x0, x1, x2, x3, x4, x5, x6⟩ := arr7 hw.1; obtain ⟨y0, y1, y2, y3, y4, y5, y6⟩ := arr7 hw.2.1; obtain ⟨z0, z1⟩ := uR_cells hw.2.2.1; obtain ⟨z2, z3⟩ := uR_cells hw.2.2.2; go_simp; first | done | with_reducible rfl | rfl
      simp only [Act.put, List.getElem_toArray, List.getElem_cons_zero, List.getElem_cons_succ, List.setIfInBounds_toArray, List.set_cons_zero, List.set_cons_succ]
      refine s_idxR tyU rfl rfl (.tmp 28) (.tmp 29) rfl BK2 o2 n _ i rfl rfl hlt ?_
      simp only [Act.put, List.getElem_toArray, List.getElem_cons_zero, List.getElem_cons_succ, List.setIfInBounds_toArray, List.set_cons_zero, List.set_cons_succ]
      apply s_val
      case ho => rfl
      case hw => rfl
      case hv => intro w hw; obtain ⟨x0, x1, x2, x3, x4, x5, x6⟩ := arr7 hw.1; obtain ⟨y0, y1, y2, y3, y4, y5, y6⟩ := arr7 hw.2.1; obtain ⟨z0, z1⟩ := uR_cells hw.2.2.1; obtain ⟨z2, z3⟩ := uR_cells hw.2.2.2; go_simp; first | done | with_reducible rfl | rfl
      simp only [Act.put, List.getElem_toArray, List.getElem_cons_zero, List.getElem_cons_succ, List.setIfInBounds_toArray, List.set_cons_zero, List.set_cons_succ]
      apply s_val (v := .bool false)
      case ho => rfl
      case hw => rfl
      case hv => intro w hw; go_simp; first | done | with_reducible rfl | rfl
      simp only [Act.put, List.getElem_toArray, List.getElem_cons_zero, List.getElem_cons_succ, List.setIfInBounds_toArray, List.set_cons_zero, List.set_cons_succ]
      refine NoPanic.normal ?_
      go_wp2_with fail
      exact ⟨⟨i + 1, by go_num, by omega, HBU.out, HW2.out⟩, by simp [intOf]; omega⟩
    · have e1 : decide ((i : Int) < (n : Int)) = false := by simp; omega
      go_wp2_with fail
      obtain ⟨X0, hU⟩ : ∃ U, ({ wr with drawn := wr.drawn + 1 } : World) = U := ⟨_, rfl⟩
      have bU : Below wr.heap.size wr X0 := by rw [← hU]; exact (Below.refl _ _).drew
      have HX0 := hidp (HB.out.trans (bU.mono HB.out.size))
      have HS0 := hidp (show Arr X0 b2 37 [.int .i64 l.a, .int .i64 l.s, .int .i64 l.i, .int .i64 l.k, .int .i64 l.b, .int .i64 l.r, .slice a1 n c1] ∧ Arr X0 b3 37 [.int .i64 l.a, .int .i64 l.s, .int .i64 l.i, .int .i64 l.k, .int .i64 l.b, .int .i64 l.r, .slice a2 n c2] from ⟨HAr.out.below bU HAr.out.lt, HCr.out.below bU HCr.out.lt⟩)
      clear bU HAr HCr HB
      refine wp_region_noPanic ?_
      refine wp_region_scr (S := fun W => Arr W b2 37 [.int .i64 l.a, .int .i64 l.s, .int .i64 l.i, .int .i64 l.k, .int .i64 l.b, .int .i64 l.r, .slice a1 n c1] ∧ Arr W b3 37 [.int .i64 l.a, .int .i64 l.s, .int .i64 l.i, .int .i64 l.k, .int .i64 l.b, .int .i64 l.r, .slice a2 n c2]) (.take 0 (.take 2 (.one 1 (.one 3 (.take 4 (.take 5 .done)))))) (by kernel_rfl) (by kernel_rfl) (fun _ _ _ _ _ h => h) (by simp [Scr.depth]) (by kernel_rfl) (by rw [hU]; exact HS0.out) ?_
      simp only [hU]
      clear hU
      refine Rt.s_get tyL rfl rfl (.tmp 2) rfl b2 [.int .i64 l.a, .int .i64 l.s, .int .i64 l.i, .int .i64 l.k, .int .i64 l.b, .int .i64 l.r, .slice a1 n c1] rfl rfl (fun w h => h.1) ?_
      simp only [Act.put, List.getElem_toArray, List.getElem_cons_zero, List.getElem_cons_succ, List.setIfInBounds_toArray, List.set_cons_zero, List.set_cons_succ]
      refine Rt.s_get tyL rfl rfl (.tmp 3) rfl b3 [.int .i64 l.a, .int .i64 l.s, .int .i64 l.i, .int .i64 l.k, .int .i64 l.b, .int .i64 l.r, .slice a2 n c2] rfl rfl (fun w h => h.2) ?_
      simp only [Act.put, List.getElem_toArray, List.getElem_cons_zero, List.getElem_cons_succ, List.setIfInBounds_toArray, List.set_cons_zero, List.set_cons_succ]
      apply o_callE (f := 63) (args := #[.agg #[.int .i64 l.a, .int .i64 l.s, .int .i64 l.i, .int .i64 l.k, .int .i64 l.b, .int .i64 l.r, .slice a1 n c1]]) (hc := six_any _ l _)
      case ho => rfl
      case hw => rfl
      case hop => go_simp; first | done | rfl
      rintro _ X1 ⟨⟨g1, rfl, h1⟩, hb⟩
      have HX1 := hidp (HX0.out.trans (hb.mono HX0.out.size))
      have HG1 := hidp h1
      have HS1 := hidp (show Arr X1 b2 37 [.int .i64 l.a, .int .i64 l.s, .int .i64 l.i, .int .i64 l.k, .int .i64 l.b, .int .i64 l.r, .slice a1 n c1] ∧ Arr X1 b3 37 [.int .i64 l.a, .int .i64 l.s, .int .i64 l.i, .int .i64 l.k, .int .i64 l.b, .int .i64 l.r, .slice a2 n c2] from ⟨HS0.out.1.below hb HS0.out.1.lt, HS0.out.2.below hb HS0.out.2.lt⟩)
      refine ⟨HS1.out, ?_⟩
      clear hb h1 HX0 HS0
      simp only [Act.put, List.getElem_toArray, List.getElem_cons_zero, List.getElem_cons_succ, List.setIfInBounds_toArray, List.set_cons_zero, List.set_cons_succ]
      apply o_callE (f := 63) (args := #[.agg #[.int .i64 l.a, .int .i64 l.s, .int .i64 l.i, .int .i64 l.k, .int .i64 l.b, .int .i64 l.r, .slice a2 n c2]]) (hc := six_any _ l _)
      case ho => rfl
      case hw => rfl
      case hop => go_simp; first | done | rfl
      rintro _ X2 ⟨⟨g2, rfl, h1⟩, hb⟩
      have HX2 := hidp (HX1.out.trans (hb.mono HX1.out.size))
      have HG2 := hidp h1
      have HG1 := hidp (HG1.out.below hb HG1.out.lt)
      have HS2 := hidp (show Arr X2 b2 37 [.int .i64 l.a, .int .i64 l.s, .int .i64 l.i, .int .i64 l.k, .int .i64 l.b, .int .i64 l.r, .slice a1 n c1] ∧ Arr X2 b3 37 [.int .i64 l.a, .int .i64 l.s, .int .i64 l.i, .int .i64 l.k, .int .i64 l.b, .int .i64 l.r, .slice a2 n c2] from ⟨HS1.out.1.below hb HS1.out.1.lt, HS1.out.2.below hb HS1.out.2.lt⟩)
      refine ⟨HS2.out, ?_⟩
      clear hb h1 HX1 HS1
      simp only [Act.put, List.getElem_toArray, List.getElem_cons_zero, List.getElem_cons_succ, List.setIfInBounds_toArray, List.set_cons_zero, List.set_cons_succ]
      apply s_val
      case ho => rfl
      case hw => rfl
      case hv => intro w hw; go_simp; first | done | with_reducible rfl | rfl
      simp only [Act.put, List.getElem_toArray, List.getElem_cons_zero, List.getElem_cons_succ, List.setIfInBounds_toArray, List.set_cons_zero, List.set_cons_succ]
      apply s_val
      case ho => rfl
      case hw => rfl
      case hv => intro w hw; go_simp; first | done | with_reducible rfl | rfl
      simp only [Act.put, List.getElem_toArray, List.getElem_cons_zero, List.getElem_cons_succ, List.setIfInBounds_toArray, List.set_cons_zero, List.set_cons_succ]
      refine NoPanic.normal ?_
      go_wp2_with fail
      go_loopw [40] (fun t40 wr => ∃ i : Nat, t40 = .int .i64 (i : Int) ∧ i ≤ 6 ∧ Below X2.heap.size X2 wr) (fun t40 _ => 6 - (intOf t40).toNat)
      case atStart => exact ⟨0, rfl, by omega, Below.refl _ _⟩
      case round =>
        obtain ⟨i, rfl, hi, hb⟩ := hrel
        have HB := hidp hb
        clear hb
        by_cases hlt : i < 6
        · have e1 : decide ((i : Int) < 6) = true := by simp; omega
          have e1n : (i : Int) < 6 := by omega
          have e1z : (0 : Int) ≤ (i : Int) := by omega
          obtain ⟨x, hx⟩ : ∃ x, (sixL l).getD i 0 = x := ⟨_, rfl⟩
          have HX1 := hidp (show ∀ W, Below X2.heap.size X2 W → W.cell? ⟨g1, i, none⟩ = some (.int .i64 x) from fun W h => by rw [← hx]; exact six_cellI (HG1.out.below h HG1.out.lt) hlt)
          have HX3 := hidp (show ∀ W, Below X2.heap.size X2 W → W.cell? ⟨g2, i, none⟩ = some (.int .i64 x) from fun W h => by rw [← hx]; exact six_cellI (HG2.out.below h HG2.out.lt) hlt)
          clear hx
          go_wp2_with fail
          obtain ⟨U, hU⟩ : ∃ U, ({ wr with drawn := wr.drawn + 1 } : World) = U := ⟨_, rfl⟩
          have bU : Below wr.heap.size wr U := by rw [← hU]; exact (Below.refl _ _).drew
          have HBU := hidp (HB.out.trans (bU.mono HB.out.size))
          have HSU := hidp (show U.cell? ⟨g1, i, none⟩ = some (.int .i64 x) ∧ U.cell? ⟨g2, i, none⟩ = some (.int .i64 x) from ⟨HX1.out U HBU.out, HX3.out U HBU.out⟩)
          clear bU
          refine wp_region_noPanic ?_
          refine wp_region_scr (S := fun W => W.cell? ⟨g1, i, none⟩ = some (.int .i64 x) ∧ W.cell? ⟨g2, i, none⟩ = some (.int .i64 x)) (.take 0 (.take 1 (.take 2 (.take 3 (.take 4 (.take 5 (.take 6 (.take 7 (.take 8 .done))))))))) (by kernel_rfl) (by kernel_rfl) (fun _ _ _ _ _ h => h) (by simp [Scr.depth]) (by kernel_rfl) (by rw [hU]; exact HSU.out) ?_
          simp only [hU]
          clear hU
          apply s_val
          case ho => rfl
          case hw => rfl
          case hv => intro w hw; obtain ⟨z0, z1⟩ := hw; go_simp; first | done | with_reducible rfl | rfl
          simp only [Act.put, List.getElem_toArray, List.getElem_cons_zero, List.getElem_cons_succ, List.setIfInBounds_toArray, List.set_cons_zero, List.set_cons_succ]
          apply s_val
          case ho => rfl
          case hw => rfl
          case hv => intro w hw; obtain ⟨z0, z1⟩ := hw; go_simp; first | done | with_reducible rfl | rfl
          simp only [Act.put, List.getElem_toArray, List.getElem_cons_zero, List.getElem_cons_succ, List.setIfInBounds_toArray, List.set_cons_zero, List.set_cons_succ]
          apply s_val
          case ho => rfl
          case hw => rfl
          case hv => intro w hw; obtain ⟨z0, z1⟩ := hw; go_simp; first | done | with_reducible rfl | rfl
          simp only [Act.put, List.getElem_toArray, List.getElem_cons_zero, List.getElem_cons_succ, List.setIfInBounds_toArray, List.set_cons_zero, List.set_cons_succ]
          apply s_val
          case ho => rfl
          case hw => rfl
          case hv => intro w hw; obtain ⟨z0, z1⟩ := hw; go_simp; first | done | with_reducible rfl | rfl
          simp only [Act.put, List.getElem_toArray, List.getElem_cons_zero, List.getElem_cons_succ, List.setIfInBounds_toArray, List.set_cons_zero, List.set_cons_succ]
          apply s_val
          case ho => rfl
          case hw => rfl
          case hv => intro w hw; obtain ⟨z0, z1⟩ := hw; go_simp; first | done | with_reducible rfl | rfl
          simp only [Act.put, List.getElem_toArray, List.getElem_cons_zero, List.getElem_cons_succ, List.setIfInBounds_toArray, List.set_cons_zero, List.set_cons_succ]
          apply s_val
          case ho => rfl
          case hw => rfl
          case hv => intro w hw; obtain ⟨z0, z1⟩ := hw; go_simp; first | done | with_reducible rfl | rfl
          simp only [Act.put, List.getElem_toArray, List.getElem_cons_zero, List.getElem_cons_succ, List.setIfInBounds_toArray, List.set_cons_zero, List.set_cons_succ]
          apply s_val
          case ho => rfl
          case hw => rfl
          case hv => intro w hw; obtain ⟨z0, z1⟩ := hw; go_simp; first | done | with_reducible rfl | rfl
          simp only [Act.put, List.getElem_toArray, List.getElem_cons_zero, List.getElem_cons_succ, List.setIfInBounds_toArray, List.set_cons_zero, List.set_cons_succ]
          apply s_val
          case ho => rfl
          case hw => rfl
          case hv => intro w hw; obtain ⟨z0, z1⟩ := hw; go_simp; first | done | with_reducible rfl | rfl
          simp only [Act.put, List.getElem_toArray, List.getElem_cons_zero, List.getElem_cons_succ, List.setIfInBounds_toArray, List.set_cons_zero, List.set_cons_succ]
          apply s_val (v := .bool false)
          case ho => rfl
          case hw => rfl
          case hv => intro w hw; obtain ⟨z0, z1⟩ := hw; go_simp; first | done | with_reducible rfl | rfl
          simp only [Act.put, List.getElem_toArray, List.getElem_cons_zero, List.getElem_cons_succ, List.setIfInBounds_toArray, List.set_cons_zero, List.set_cons_succ]
          refine NoPanic.normal ?_
          go_wp2_with fail
          exact ⟨⟨i + 1, by go_num, by omega, HBU.out⟩, by simp [intOf]; omega⟩
        · have e1 : decide ((i : Int) < 6) = false := by simp; omega
          have HBF := hidp (HX2.out.trans (HB.out.mono HX2.out.size))
          go_wp2_with fail
          go_ret
          exact ⟨rfl, HBF.out⟩
end Go.Proofs.YtiakfopdohcigaaGreatDoor
