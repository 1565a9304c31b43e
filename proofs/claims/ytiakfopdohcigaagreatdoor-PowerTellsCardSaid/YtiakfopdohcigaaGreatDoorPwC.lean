
/-
  power: Check.
-/
import Derived.Test.YtiakfopdohcigaaGreatDoorPwB
namespace Go.Proofs.YtiakfopdohcigaaGreatDoor
set_option maxRecDepth 100000
set_option linter.unusedVariables false
set_option linter.unusedSimpArgs false
open Go.RowKit Rw


theorem uR_cells {w : World} {b o : Nat} {p : ByteArray × Int} (h : w.rangeAt b o (uR p)) : w.cell? ⟨b, o, none⟩ = some (.string p.1) ∧ w.cell? ⟨b, o + 1, none⟩ = some (.int .i64 p.2) := ⟨h 0 _ rfl, h 1 _ rfl⟩
theorem index_num (l : Lv) (i : Nat) (hi : i < 6) (W : World) : (Instr.index 85 (.agg #[.int .i64 l.a, .int .i64 l.s, .int .i64 l.i, .int .i64 l.k, .int .i64 l.b, .int .i64 l.r]) (.int .i64 (i : Int))).run Tryz.prog W = .ok (.int .i64 ((sixL l).getD i 0)) W := by
  obtain ⟨i0, hi0, hz1⟩ : ∃ i0, Tryz.prog.info? 3 = some i0 ∧ i0.size = 1 := by
    have h : (Tryz.prog.info? 3).map (·.size) = some 1 := by kernel_rfl
    cases hq : Tryz.prog.info? 3 with
    | none => rw [hq] at h; cases h
    | some i0 => rw [hq] at h; exact ⟨i0, rfl, by simpa using h⟩
  have hu : Tryz.prog.underlying 85 = some (.array 6 3) := by kernel_rfl
  have h1 : (0 : Int) ≤ (i : Int) ∧ (i : Int) < ((6 : Nat) : Int) := by omega
  have hx : (#[.int .i64 l.a, .int .i64 l.s, .int .i64 l.i, .int .i64 l.k, .int .i64 l.b, .int .i64 l.r] : Array Value)[i]? = some (.int .i64 ((sixL l).getD i 0)) := by
    match i, hi with
    | 0, _ => rfl
    | 1, _ => rfl
    | 2, _ => rfl
    | 3, _ => rfl
    | 4, _ => rfl
    | 5, _ => rfl
  obtain ⟨xs, hxs⟩ : ∃ xs : Array Value, (#[.int .i64 l.a, .int .i64 l.s, .int .i64 l.i, .int .i64 l.k, .int .i64 l.b, .int .i64 l.r] : Array Value) = xs := ⟨_, rfl⟩
  rw [hxs] at hx ⊢
  simp [Instr.index, run_underlying hu, asIntOf, part, sizeOf, typeInfo, hi0, hz1, hx, hi, go_sem]
theorem same_b {f : FuncId} {args : Array Value} {w : World} {v : Value} (h : Calls Tryz.prog f args w fun e w' => e = .returned v ∧ w' = w) : Calls Tryz.prog f args w fun e w' => e = .returned v ∧ Below w.heap.size w w' :=
  h.mono fun e w' ⟨he, hw⟩ => ⟨he, hw ▸ Below.refl _ _⟩
theorem six_bad {l : Lv} {i : Nat} (hi : i < 6) (h : inR ((sixL l).getD i 0) = false) : lvE l = 2 := by
  refine if_neg fun hh => ?_
  unfold lvOk at hh
  simp only [Bool.and_eq_true, List.all_eq_true] at hh
  have hl : i < (sixL l).length := hi
  have := hh.1.1 _ (List.getElem_mem hl)
  rw [List.getD_eq_getElem?_getD, List.getElem?_eq_getElem hl] at h
  rw [show ((some (sixL l)[i]).getD 0) = (sixL l)[i] from rfl, this] at h
  cases h
theorem us_bad {l : Lv} {i : Nat} (hi : i < l.us.length) (h : uAt l.us i = false) : lvE l = 2 := by
  refine if_neg fun hh => ?_
  unfold lvOk at hh
  simp only [Bool.and_eq_true] at hh
  have := uTo_le hh.2 hi
  rw [this] at h; cases h

set_option maxHeartbeats 32000000 in
theorem lvCheck_any (w : World) (l : Lv) (v : Value) (hv : UsAt w v l.us) (hP : PT w) :
    Calls Tryz.prog 22 #[.agg #[.int .i64 l.a, .int .i64 l.s, .int .i64 l.i, .int .i64 l.k, .int .i64 l.b, .int .i64 l.r, v]] w fun e w' => e = .returned (.int .i64 (lvE l)) ∧ Below w.heap.size w w' := by
  have HP := hidp hP; clear hP
  have HV := hidp hv; clear hv
  obtain ⟨av, cv, rfl⟩ := HV.out.form
  obtain ⟨n, hn⟩ : ∃ n, l.us.length = n := ⟨_, rfl⟩
  have HN := hidp hn
  have hn47 := HV.out.len
  rw [hn] at HV hn47 ⊢
  clear hn
  have cn := hidp (fun W => numbersOf_any W l (.slice av n cv))
  by_cases h16 : 16 < n
  · have e0 : decide ((n : Int) > 16) = true := by simp; omega
    have HF := hidp (show lvE l = 2 from if_neg fun h => by unfold lvOk at h; simp only [Bool.and_eq_true, decide_eq_true_eq] at h; have := HN.out; omega)
    go_enter Tryz.func22, Tryz.ntmps22
    go_wp2_with (refine Rt.wpL_box 37 rfl (.tmp 0) rfl [.int .i64 l.a, .int .i64 l.s, .int .i64 l.i, .int .i64 l.k, .int .i64 l.b, .int .i64 l.r, .slice av n cv] rfl ?_; intro b1 w1 n1; have HB1 := hidp n1.below; have hg_b1 := hidp n1.le; have HA1 := hidp n1.arr; clear n1; obtain ⟨x0, x1, x2, x3, x4, x5, x6⟩ := arr7 HA1.out)
    go_ret
    exact ⟨by rw [HF.out]; rfl, HB1.out⟩
  · have e0 : decide ((n : Int) > 16) = false := by simp; omega
    go_enter Tryz.func22, Tryz.ntmps22
    go_wp2_with (first | (refine Rt.wpL_box 37 rfl (.tmp 0) rfl [.int .i64 l.a, .int .i64 l.s, .int .i64 l.i, .int .i64 l.k, .int .i64 l.b, .int .i64 l.r, .slice av n cv] rfl ?_; intro b1 w1 n1; have HB1 := hidp n1.below; have hg_b1 := hidp n1.le; have HA1 := hidp n1.arr; clear n1; obtain ⟨x0, x1, x2, x3, x4, x5, x6⟩ := arr7 HA1.out) | (refine Rt.wpL_get tyL rfl (.tmp 1) rfl b1 [.int .i64 l.a, .int .i64 l.s, .int .i64 l.i, .int .i64 l.k, .int .i64 l.b, .int .i64 l.r, .slice av n cv] rfl rfl HA1.out ?_) | (go_at_call 60; refine (cn.out _).mono ?_; rintro e w2 ⟨rfl, hb⟩; have HB2 := hidp (HB1.out.trans (hb.mono HB1.out.size)); have HA2 := hidp (HA1.out.below hb HA1.out.lt); clear hb HB1 HA1))
    go_loopw [13] (fun t13 wr => ∃ i : Nat, t13 = .int .i64 (i : Int) ∧ i ≤ 6 ∧ ((sixL l).take i).all inR = true ∧ Below w.heap.size w wr ∧ Arr wr b1 37 [.int .i64 l.a, .int .i64 l.s, .int .i64 l.i, .int .i64 l.k, .int .i64 l.b, .int .i64 l.r, .slice av n cv]) (fun t13 _ => 6 - (intOf t13).toNat)
    case atStart => exact ⟨0, rfl, by omega, rfl, HB2.out, HA2.out⟩
    case round =>
      obtain ⟨i, rfl, hi, hok, hb, ha⟩ := hrel
      have HOK := hidp hok; have HB := hidp hb; have HA := hidp ha
      clear x0 x1 x2 x3 x4 x5 x6
      clear hok hb ha
      by_cases hlt : i < 6
      · have e1 : decide ((i : Int) < 6) = true := by simp; omega
        have e1n : (i : Int) < 6 := by omega
        have hix := index_num l i hlt wr
        have ci := hidp (fun W => inRange_any W ((sixL l).getD i 0))
        obtain ⟨z, hz⟩ : ∃ z, (sixL l).getD i 0 = z := ⟨_, rfl⟩
        have HZ := hidp hz
        rw [hz] at hix ci
        clear hz
        cases hq : inR z with
        | true =>
          rw [hq] at ci
          have HOK2 := hidp (show ((sixL l).take (i + 1)).all inR = true from by
            rw [List.take_add_one, List.all_append, HOK.out, List.getElem?_eq_getElem (show i < (sixL l).length from hlt)]
            have := HZ.out
            rw [List.getD_eq_getElem?_getD, List.getElem?_eq_getElem (show i < (sixL l).length from hlt)] at this
            simp only [Option.getD_some] at this
            simp [this, hq])
          clear hq
          go_wp2_with (go_at_call 71; refine (ci.out _).mono ?_; rintro e w5 ⟨rfl, rfl⟩)
          exact ⟨⟨i + 1, by go_num, by omega, HOK2.out, HB.out, HA.out⟩, by simp [intOf]; omega⟩
        | false =>
          rw [hq] at ci
          have HF := hidp (six_bad (l := l) hlt (by rw [HZ.out]; exact hq))
          clear hq
          go_wp2_with (go_at_call 71; refine (ci.out _).mono ?_; rintro e w5 ⟨rfl, rfl⟩)
          go_ret
          exact ⟨by rw [HF.out]; rfl, HB.out⟩
      · have e1 : decide ((i : Int) < 6) = false := by simp; omega
        obtain rfl : i = 6 := by omega
        have H6 := hidp (show (sixL l).all inR = true from HOK.out)
        clear HOK
        obtain ⟨x0, x1, x2, x3, x4, x5, x6⟩ := arr7 HA.out
        go_wp2_with fail
        clear e1 hlt hi
        clear x0 x1 x2 x3 x4 x5 x6
        have HBs := HB; have HAs := HA
        clear HB HA
        go_loopw [23] (fun t23 wr => ∃ i : Nat, t23 = .int .i64 (i : Int) ∧ i ≤ n ∧ uTo l.us i = true ∧ Below w.heap.size w wr ∧ Arr wr b1 37 [.int .i64 l.a, .int .i64 l.s, .int .i64 l.i, .int .i64 l.k, .int .i64 l.b, .int .i64 l.r, .slice av n cv]) (fun t23 _ => n - (intOf t23).toNat)
        case atStart => exact ⟨0, rfl, by omega, rfl, HBs.out, HAs.out⟩
        case round =>
          obtain ⟨i, rfl, hi, hok, hb, ha⟩ := hrel
          have HOK := hidp hok; have HB := hidp hb; have HA := hidp ha
          clear hok hb ha HBs HAs
          by_cases hlt : i < n
          · have e1 : decide ((i : Int) < (n : Int)) = true := by simp; omega
            have hgl : i < l.us.length := by rw [HN.out]; exact hlt
            obtain ⟨BK, off, c, e2, hc, hBK0, hR0⟩ := HV.out.get (by rw [HN.out]; omega)
            rw [HN.out] at e2
            simp only [Value.slice.injEq] at e2
            obtain ⟨rfl, -, rfl⟩ := e2
            have hBK := hidp (show BK < wr.heap.size from Nat.lt_of_lt_of_le hBK0 HB.out.size)
            obtain ⟨p, hpe0⟩ : ∃ p, l.us[i] = p := ⟨_, rfl⟩
            have HRI := hidp (show wr.rangeAt BK (off + 2 * i) (uR p) from by rw [← hpe0]; exact rangeAt_below (hR0 i hgl) HB.out hBK0)
            have hR0 := hidp hR0; have hBK0 := hidp hBK0
            have HAT := hidp (show uAt l.us i = (usr p.1 && inR p.2 && (decide (i = 0) || Op.bytesLess (l.us.getD (i - 1) uz).1.toList p.1.toList)) from by unfold uAt; rw [getU hgl, hpe0])
            have cu := hidp (fun W h => isUser_any W p.1 (by have := HV.out.sz p (by rw [← hpe0]; exact List.getElem_mem hgl); omega) h)
            have ci := hidp (fun W => same_b (inRange_any W p.2))
            clear hpe0 hc
            cases hu : usr p.1 with
            | false =>
              rw [hu] at cu
              have HF := hidp (us_bad hgl (by rw [HAT.out, hu]; rfl))
              clear hu
              go_wp2_with (first | (refine wpL_idxR tyU rfl (.tmp 21) (.tmp 23) rfl BK off n _ i rfl rfl hlt ?_) | (refine wpL_atR tyU rfl (.tmp 26) rfl BK (off + 2 * i) (uR p) rfl rfl HRI.out ?_) | (refine Rt.wpL_new tyP (some 6) rfl rfl rfl ?_; intro b6 wq1 n1; have HB1 := hidp (HB.out.trans (n1.below.mono HB.out.size)); have hbw := hidp (Nat.le_trans HB.out.size n1.le); have HA1 := hidp (n1.old HA.out); have hab := hidp (show b1 < b6 from by have := n1.at_; have := HA.out.lt; omega)) | (refine Rt.wpL_put tyP rfl (.tmp 6) (.tmp 27) rfl b6 (uR p) rfl rfl rfl (uR_one p) zU rfl n1.arr ?_; intro wq2 ha hp; have HB2 := hidp (hp.below' HB1.out hbw.out); have HE2 := hidp (show Arr wq2 b6 83 [.string p.1, .int .i64 p.2] from ha); have HA2 := hidp (hp.arr (by have := hab.out; omega) HA1.out); obtain ⟨y0, y1⟩ := arr2 HE2.out; clear ha hp n1 HB1 HA1))
              obtain ⟨U, hU⟩ : ∃ U, ({ wq2 with drawn := wq2.drawn + 1 } : World) = U := ⟨_, rfl⟩
              have bU : Below wq2.heap.size wq2 U := by rw [← hU]; exact (Below.refl _ _).drew
              have HE3 := hidp (HE2.out.below bU HE2.out.lt); have HA3 := hidp (HA2.out.below bU HA2.out.lt); have HB3 := hidp (HB2.out.trans (bU.mono HB2.out.size))
              clear bU HE2 HA2 HB2 y0 y1
              refine wp_region_noPanic ?_
              refine wp_region_scr (S := fun W => Arr W b6 83 [.string p.1, .int .i64 p.2] ∧ Arr W b1 37 [.int .i64 l.a, .int .i64 l.s, .int .i64 l.i, .int .i64 l.k, .int .i64 l.b, .int .i64 l.r, .slice (some ⟨BK, off, none⟩) n cv]) (.take 0 (.take 1 (.one 2 (.take 3 (.take 4 (.take 5 (.take 6 (.take 7 (.take 8 (.take 9 (.take 10 (.take 11 (.take 12 (.take 13 (.take 14 (.take 15 (.take 16 (.take 17 (.take 18 (.take 19 (.take 20 (.take 21 (.take 22 (.take 23 (.take 24 (.take 25 .done)))))))))))))))))))))))))) (by kernel_rfl) (by kernel_rfl) (fun _ _ _ _ _ h => h) (by simp [Scr.depth]) (by kernel_rfl) (by rw [hU]; exact ⟨HE3.out, HA3.out⟩) ?_
              simp only [hU]
              clear hU
              apply s_val
              case ho => rfl
              case hw => rfl
              case hv => intro w hw; obtain ⟨y0, y1⟩ := arr2 hw.1; obtain ⟨x0, x1, x2, x3, x4, x5, x6⟩ := arr7 hw.2; go_simp; first | done | with_reducible rfl | rfl
              simp only [Act.put, List.getElem_toArray, List.getElem_cons_zero, List.getElem_cons_succ, List.setIfInBounds_toArray, List.set_cons_zero, List.set_cons_succ]
              apply s_val
              case ho => rfl
              case hw => rfl
              case hv => intro w hw; obtain ⟨y0, y1⟩ := arr2 hw.1; obtain ⟨x0, x1, x2, x3, x4, x5, x6⟩ := arr7 hw.2; go_simp; first | done | with_reducible rfl | rfl
              simp only [Act.put, List.getElem_toArray, List.getElem_cons_zero, List.getElem_cons_succ, List.setIfInBounds_toArray, List.set_cons_zero, List.set_cons_succ]
              apply o_call (f := 72) (args := #[.string p.1]) (v := .bool false) (hc := cu.out _ (HP.out.1.below HB3.out (Nat.le_refl _)))
              case ho => rfl
              case hw => rfl
              case hop => go_simp; first | done | rfl
              rintro X4 hb
              refine ⟨⟨HE3.out.below hb HE3.out.lt, HA3.out.below hb HA3.out.lt⟩, ?_⟩
              have HE4 := hidp (HE3.out.below hb HE3.out.lt); have HA4 := hidp (HA3.out.below hb HA3.out.lt); have HB4 := hidp (HB3.out.trans (hb.mono HB3.out.size))
              clear hb
              simp only [Act.put, List.getElem_toArray, List.getElem_cons_zero, List.getElem_cons_succ, List.setIfInBounds_toArray, List.set_cons_zero, List.set_cons_succ]
              apply s_val
              case ho => rfl
              case hw => rfl
              case hv => intro w hw; obtain ⟨y0, y1⟩ := arr2 hw.1; obtain ⟨x0, x1, x2, x3, x4, x5, x6⟩ := arr7 hw.2; go_simp; first | done | with_reducible rfl | rfl
              simp only [Act.put, List.getElem_toArray, List.getElem_cons_zero, List.getElem_cons_succ, List.setIfInBounds_toArray, List.set_cons_zero, List.set_cons_succ]
              apply s_val
              case ho => rfl
              case hw => rfl
              case hv => intro w hw; obtain ⟨y0, y1⟩ := arr2 hw.1; obtain ⟨x0, x1, x2, x3, x4, x5, x6⟩ := arr7 hw.2; go_simp; first | done | with_reducible rfl | rfl
              simp only [Act.put, List.getElem_toArray, List.getElem_cons_zero, List.getElem_cons_succ, List.setIfInBounds_toArray, List.set_cons_zero, List.set_cons_succ]
              refine Rt.s_skip rfl rfl ?_
              simp only [Act.put, List.getElem_toArray, List.getElem_cons_zero, List.getElem_cons_succ, List.setIfInBounds_toArray, List.set_cons_zero, List.set_cons_succ]
              refine Rt.s_skip rfl rfl ?_
              simp only [Act.put, List.getElem_toArray, List.getElem_cons_zero, List.getElem_cons_succ, List.setIfInBounds_toArray, List.set_cons_zero, List.set_cons_succ]
              refine Rt.s_skip rfl rfl ?_
              simp only [Act.put, List.getElem_toArray, List.getElem_cons_zero, List.getElem_cons_succ, List.setIfInBounds_toArray, List.set_cons_zero, List.set_cons_succ]
              refine Rt.s_skip rfl rfl ?_
              simp only [Act.put, List.getElem_toArray, List.getElem_cons_zero, List.getElem_cons_succ, List.setIfInBounds_toArray, List.set_cons_zero, List.set_cons_succ]
              apply s_val
              case ho => rfl
              case hw => rfl
              case hv => intro w hw; obtain ⟨y0, y1⟩ := arr2 hw.1; obtain ⟨x0, x1, x2, x3, x4, x5, x6⟩ := arr7 hw.2; go_simp; first | done | with_reducible rfl | rfl
              simp only [Act.put, List.getElem_toArray, List.getElem_cons_zero, List.getElem_cons_succ, List.setIfInBounds_toArray, List.set_cons_zero, List.set_cons_succ]
              apply s_val
              case ho => rfl
              case hw => rfl
              case hv => intro w hw; obtain ⟨y0, y1⟩ := arr2 hw.1; obtain ⟨x0, x1, x2, x3, x4, x5, x6⟩ := arr7 hw.2; go_simp; first | done | with_reducible rfl | rfl
              simp only [Act.put, List.getElem_toArray, List.getElem_cons_zero, List.getElem_cons_succ, List.setIfInBounds_toArray, List.set_cons_zero, List.set_cons_succ]
              refine Rt.s_skip rfl rfl ?_
              simp only [Act.put, List.getElem_toArray, List.getElem_cons_zero, List.getElem_cons_succ, List.setIfInBounds_toArray, List.set_cons_zero, List.set_cons_succ]
              refine Rt.s_skip rfl rfl ?_
              simp only [Act.put, List.getElem_toArray, List.getElem_cons_zero, List.getElem_cons_succ, List.setIfInBounds_toArray, List.set_cons_zero, List.set_cons_succ]
              refine Rt.s_skip rfl rfl ?_
              simp only [Act.put, List.getElem_toArray, List.getElem_cons_zero, List.getElem_cons_succ, List.setIfInBounds_toArray, List.set_cons_zero, List.set_cons_succ]
              refine Rt.s_skip rfl rfl ?_
              simp only [Act.put, List.getElem_toArray, List.getElem_cons_zero, List.getElem_cons_succ, List.setIfInBounds_toArray, List.set_cons_zero, List.set_cons_succ]
              refine Rt.s_skip rfl rfl ?_
              simp only [Act.put, List.getElem_toArray, List.getElem_cons_zero, List.getElem_cons_succ, List.setIfInBounds_toArray, List.set_cons_zero, List.set_cons_succ]
              refine Rt.s_skip rfl rfl ?_
              simp only [Act.put, List.getElem_toArray, List.getElem_cons_zero, List.getElem_cons_succ, List.setIfInBounds_toArray, List.set_cons_zero, List.set_cons_succ]
              refine Rt.s_skip rfl rfl ?_
              simp only [Act.put, List.getElem_toArray, List.getElem_cons_zero, List.getElem_cons_succ, List.setIfInBounds_toArray, List.set_cons_zero, List.set_cons_succ]
              refine Rt.s_skip rfl rfl ?_
              simp only [Act.put, List.getElem_toArray, List.getElem_cons_zero, List.getElem_cons_succ, List.setIfInBounds_toArray, List.set_cons_zero, List.set_cons_succ]
              refine Rt.s_skip rfl rfl ?_
              simp only [Act.put, List.getElem_toArray, List.getElem_cons_zero, List.getElem_cons_succ, List.setIfInBounds_toArray, List.set_cons_zero, List.set_cons_succ]
              refine Rt.s_skip rfl rfl ?_
              simp only [Act.put, List.getElem_toArray, List.getElem_cons_zero, List.getElem_cons_succ, List.setIfInBounds_toArray, List.set_cons_zero, List.set_cons_succ]
              refine Rt.s_skip rfl rfl ?_
              simp only [Act.put, List.getElem_toArray, List.getElem_cons_zero, List.getElem_cons_succ, List.setIfInBounds_toArray, List.set_cons_zero, List.set_cons_succ]
              refine Rt.s_skip rfl rfl ?_
              simp only [Act.put, List.getElem_toArray, List.getElem_cons_zero, List.getElem_cons_succ, List.setIfInBounds_toArray, List.set_cons_zero, List.set_cons_succ]
              refine Rt.s_skip rfl rfl ?_
              simp only [Act.put, List.getElem_toArray, List.getElem_cons_zero, List.getElem_cons_succ, List.setIfInBounds_toArray, List.set_cons_zero, List.set_cons_succ]
              refine Rt.s_skip rfl rfl ?_
              simp only [Act.put, List.getElem_toArray, List.getElem_cons_zero, List.getElem_cons_succ, List.setIfInBounds_toArray, List.set_cons_zero, List.set_cons_succ]
              apply s_val
              case ho => rfl
              case hw => rfl
              case hv => intro w hw; obtain ⟨y0, y1⟩ := arr2 hw.1; obtain ⟨x0, x1, x2, x3, x4, x5, x6⟩ := arr7 hw.2; go_simp; first | done | with_reducible rfl | rfl
              simp only [Act.put, List.getElem_toArray, List.getElem_cons_zero, List.getElem_cons_succ, List.setIfInBounds_toArray, List.set_cons_zero, List.set_cons_succ]
              refine NoPanic.normal ?_
              have HBZ := HB4; have HAZ := HA4
              go_wp2_with fail
              go_ret
              exact ⟨by rw [HF.out]; rfl, HBZ.out⟩
            | true =>
              rw [hu] at cu
              cases hr : inR p.2 with
              | false =>
                rw [hr] at ci
                have HF := hidp (us_bad hgl (by rw [HAT.out, hu, hr]; rfl))
                clear hu hr
                go_wp2_with (first | (refine wpL_idxR tyU rfl (.tmp 21) (.tmp 23) rfl BK off n _ i rfl rfl hlt ?_) | (refine wpL_atR tyU rfl (.tmp 26) rfl BK (off + 2 * i) (uR p) rfl rfl HRI.out ?_) | (refine Rt.wpL_new tyP (some 6) rfl rfl rfl ?_; intro b6 wq1 n1; have HB1 := hidp (HB.out.trans (n1.below.mono HB.out.size)); have hbw := hidp (Nat.le_trans HB.out.size n1.le); have HA1 := hidp (n1.old HA.out); have hab := hidp (show b1 < b6 from by have := n1.at_; have := HA.out.lt; omega)) | (refine Rt.wpL_put tyP rfl (.tmp 6) (.tmp 27) rfl b6 (uR p) rfl rfl rfl (uR_one p) zU rfl n1.arr ?_; intro wq2 ha hp; have HB2 := hidp (hp.below' HB1.out hbw.out); have HE2 := hidp (show Arr wq2 b6 83 [.string p.1, .int .i64 p.2] from ha); have HA2 := hidp (hp.arr (by have := hab.out; omega) HA1.out); obtain ⟨y0, y1⟩ := arr2 HE2.out; clear ha hp n1 HB1 HA1))
                obtain ⟨U, hU⟩ : ∃ U, ({ wq2 with drawn := wq2.drawn + 1 } : World) = U := ⟨_, rfl⟩
                have bU : Below wq2.heap.size wq2 U := by rw [← hU]; exact (Below.refl _ _).drew
                have HE3 := hidp (HE2.out.below bU HE2.out.lt); have HA3 := hidp (HA2.out.below bU HA2.out.lt); have HB3 := hidp (HB2.out.trans (bU.mono HB2.out.size))
                clear bU HE2 HA2 HB2 y0 y1
                refine wp_region_noPanic ?_
                refine wp_region_scr (S := fun W => Arr W b6 83 [.string p.1, .int .i64 p.2] ∧ Arr W b1 37 [.int .i64 l.a, .int .i64 l.s, .int .i64 l.i, .int .i64 l.k, .int .i64 l.b, .int .i64 l.r, .slice (some ⟨BK, off, none⟩) n cv]) (.take 0 (.take 1 (.one 2 (.take 3 (.take 4 (.take 5 (.take 6 (.one 7 (.take 8 (.take 9 (.take 10 (.take 11 (.take 12 (.take 13 (.take 14 (.take 15 (.take 16 (.take 17 (.take 18 (.take 19 (.take 20 (.take 21 (.take 22 (.take 23 (.take 24 (.take 25 .done)))))))))))))))))))))))))) (by kernel_rfl) (by kernel_rfl) (fun _ _ _ _ _ h => h) (by simp [Scr.depth]) (by kernel_rfl) (by rw [hU]; exact ⟨HE3.out, HA3.out⟩) ?_
                simp only [hU]
                clear hU
                apply s_val
                case ho => rfl
                case hw => rfl
                case hv => intro w hw; obtain ⟨y0, y1⟩ := arr2 hw.1; obtain ⟨x0, x1, x2, x3, x4, x5, x6⟩ := arr7 hw.2; go_simp; first | done | with_reducible rfl | rfl
                simp only [Act.put, List.getElem_toArray, List.getElem_cons_zero, List.getElem_cons_succ, List.setIfInBounds_toArray, List.set_cons_zero, List.set_cons_succ]
                apply s_val
                case ho => rfl
                case hw => rfl
                case hv => intro w hw; obtain ⟨y0, y1⟩ := arr2 hw.1; obtain ⟨x0, x1, x2, x3, x4, x5, x6⟩ := arr7 hw.2; go_simp; first | done | with_reducible rfl | rfl
                simp only [Act.put, List.getElem_toArray, List.getElem_cons_zero, List.getElem_cons_succ, List.setIfInBounds_toArray, List.set_cons_zero, List.set_cons_succ]
                apply o_call (f := 72) (args := #[.string p.1]) (v := .bool true) (hc := cu.out _ (HP.out.1.below HB3.out (Nat.le_refl _)))
                case ho => rfl
                case hw => rfl
                case hop => go_simp; first | done | rfl
                rintro X4 hb
                refine ⟨⟨HE3.out.below hb HE3.out.lt, HA3.out.below hb HA3.out.lt⟩, ?_⟩
                have HE4 := hidp (HE3.out.below hb HE3.out.lt); have HA4 := hidp (HA3.out.below hb HA3.out.lt); have HB4 := hidp (HB3.out.trans (hb.mono HB3.out.size))
                clear hb
                simp only [Act.put, List.getElem_toArray, List.getElem_cons_zero, List.getElem_cons_succ, List.setIfInBounds_toArray, List.set_cons_zero, List.set_cons_succ]
                apply s_val
                case ho => rfl
                case hw => rfl
                case hv => intro w hw; obtain ⟨y0, y1⟩ := arr2 hw.1; obtain ⟨x0, x1, x2, x3, x4, x5, x6⟩ := arr7 hw.2; go_simp; first | done | with_reducible rfl | rfl
                simp only [Act.put, List.getElem_toArray, List.getElem_cons_zero, List.getElem_cons_succ, List.setIfInBounds_toArray, List.set_cons_zero, List.set_cons_succ]
                apply s_val
                case ho => rfl
                case hw => rfl
                case hv => intro w hw; obtain ⟨y0, y1⟩ := arr2 hw.1; obtain ⟨x0, x1, x2, x3, x4, x5, x6⟩ := arr7 hw.2; go_simp; first | done | with_reducible rfl | rfl
                simp only [Act.put, List.getElem_toArray, List.getElem_cons_zero, List.getElem_cons_succ, List.setIfInBounds_toArray, List.set_cons_zero, List.set_cons_succ]
                apply s_val
                case ho => rfl
                case hw => rfl
                case hv => intro w hw; obtain ⟨y0, y1⟩ := arr2 hw.1; obtain ⟨x0, x1, x2, x3, x4, x5, x6⟩ := arr7 hw.2; go_simp; first | done | with_reducible rfl | rfl
                simp only [Act.put, List.getElem_toArray, List.getElem_cons_zero, List.getElem_cons_succ, List.setIfInBounds_toArray, List.set_cons_zero, List.set_cons_succ]
                apply s_val
                case ho => rfl
                case hw => rfl
                case hv => intro w hw; obtain ⟨y0, y1⟩ := arr2 hw.1; obtain ⟨x0, x1, x2, x3, x4, x5, x6⟩ := arr7 hw.2; go_simp; first | done | with_reducible rfl | rfl
                simp only [Act.put, List.getElem_toArray, List.getElem_cons_zero, List.getElem_cons_succ, List.setIfInBounds_toArray, List.set_cons_zero, List.set_cons_succ]
                apply o_call (f := 71) (args := #[.int .i64 p.2]) (v := .bool false) (hc := ci.out _)
                case ho => rfl
                case hw => rfl
                case hop => go_simp; first | done | rfl
                rintro X5 hb
                refine ⟨⟨HE4.out.below hb HE4.out.lt, HA4.out.below hb HA4.out.lt⟩, ?_⟩
                have HE5 := hidp (HE4.out.below hb HE4.out.lt); have HA5 := hidp (HA4.out.below hb HA4.out.lt); have HB5 := hidp (HB4.out.trans (hb.mono HB4.out.size))
                clear hb
                simp only [Act.put, List.getElem_toArray, List.getElem_cons_zero, List.getElem_cons_succ, List.setIfInBounds_toArray, List.set_cons_zero, List.set_cons_succ]
                apply s_val
                case ho => rfl
                case hw => rfl
                case hv => intro w hw; obtain ⟨y0, y1⟩ := arr2 hw.1; obtain ⟨x0, x1, x2, x3, x4, x5, x6⟩ := arr7 hw.2; go_simp; first | done | with_reducible rfl | rfl
                simp only [Act.put, List.getElem_toArray, List.getElem_cons_zero, List.getElem_cons_succ, List.setIfInBounds_toArray, List.set_cons_zero, List.set_cons_succ]
                apply s_val
                case ho => rfl
                case hw => rfl
                case hv => intro w hw; obtain ⟨y0, y1⟩ := arr2 hw.1; obtain ⟨x0, x1, x2, x3, x4, x5, x6⟩ := arr7 hw.2; go_simp; first | done | with_reducible rfl | rfl
                simp only [Act.put, List.getElem_toArray, List.getElem_cons_zero, List.getElem_cons_succ, List.setIfInBounds_toArray, List.set_cons_zero, List.set_cons_succ]
                apply s_val
                case ho => rfl
                case hw => rfl
                case hv => intro w hw; obtain ⟨y0, y1⟩ := arr2 hw.1; obtain ⟨x0, x1, x2, x3, x4, x5, x6⟩ := arr7 hw.2; go_simp; first | done | with_reducible rfl | rfl
                simp only [Act.put, List.getElem_toArray, List.getElem_cons_zero, List.getElem_cons_succ, List.setIfInBounds_toArray, List.set_cons_zero, List.set_cons_succ]
                refine Rt.s_skip rfl rfl ?_
                simp only [Act.put, List.getElem_toArray, List.getElem_cons_zero, List.getElem_cons_succ, List.setIfInBounds_toArray, List.set_cons_zero, List.set_cons_succ]
                refine Rt.s_skip rfl rfl ?_
                simp only [Act.put, List.getElem_toArray, List.getElem_cons_zero, List.getElem_cons_succ, List.setIfInBounds_toArray, List.set_cons_zero, List.set_cons_succ]
                refine Rt.s_skip rfl rfl ?_
                simp only [Act.put, List.getElem_toArray, List.getElem_cons_zero, List.getElem_cons_succ, List.setIfInBounds_toArray, List.set_cons_zero, List.set_cons_succ]
                refine Rt.s_skip rfl rfl ?_
                simp only [Act.put, List.getElem_toArray, List.getElem_cons_zero, List.getElem_cons_succ, List.setIfInBounds_toArray, List.set_cons_zero, List.set_cons_succ]
                refine Rt.s_skip rfl rfl ?_
                simp only [Act.put, List.getElem_toArray, List.getElem_cons_zero, List.getElem_cons_succ, List.setIfInBounds_toArray, List.set_cons_zero, List.set_cons_succ]
                refine Rt.s_skip rfl rfl ?_
                simp only [Act.put, List.getElem_toArray, List.getElem_cons_zero, List.getElem_cons_succ, List.setIfInBounds_toArray, List.set_cons_zero, List.set_cons_succ]
                refine Rt.s_skip rfl rfl ?_
                simp only [Act.put, List.getElem_toArray, List.getElem_cons_zero, List.getElem_cons_succ, List.setIfInBounds_toArray, List.set_cons_zero, List.set_cons_succ]
                refine Rt.s_skip rfl rfl ?_
                simp only [Act.put, List.getElem_toArray, List.getElem_cons_zero, List.getElem_cons_succ, List.setIfInBounds_toArray, List.set_cons_zero, List.set_cons_succ]
                refine Rt.s_skip rfl rfl ?_
                simp only [Act.put, List.getElem_toArray, List.getElem_cons_zero, List.getElem_cons_succ, List.setIfInBounds_toArray, List.set_cons_zero, List.set_cons_succ]
                refine Rt.s_skip rfl rfl ?_
                simp only [Act.put, List.getElem_toArray, List.getElem_cons_zero, List.getElem_cons_succ, List.setIfInBounds_toArray, List.set_cons_zero, List.set_cons_succ]
                refine Rt.s_skip rfl rfl ?_
                simp only [Act.put, List.getElem_toArray, List.getElem_cons_zero, List.getElem_cons_succ, List.setIfInBounds_toArray, List.set_cons_zero, List.set_cons_succ]
                refine Rt.s_skip rfl rfl ?_
                simp only [Act.put, List.getElem_toArray, List.getElem_cons_zero, List.getElem_cons_succ, List.setIfInBounds_toArray, List.set_cons_zero, List.set_cons_succ]
                refine Rt.s_skip rfl rfl ?_
                simp only [Act.put, List.getElem_toArray, List.getElem_cons_zero, List.getElem_cons_succ, List.setIfInBounds_toArray, List.set_cons_zero, List.set_cons_succ]
                refine Rt.s_skip rfl rfl ?_
                simp only [Act.put, List.getElem_toArray, List.getElem_cons_zero, List.getElem_cons_succ, List.setIfInBounds_toArray, List.set_cons_zero, List.set_cons_succ]
                apply s_val
                case ho => rfl
                case hw => rfl
                case hv => intro w hw; obtain ⟨y0, y1⟩ := arr2 hw.1; obtain ⟨x0, x1, x2, x3, x4, x5, x6⟩ := arr7 hw.2; go_simp; first | done | with_reducible rfl | rfl
                simp only [Act.put, List.getElem_toArray, List.getElem_cons_zero, List.getElem_cons_succ, List.setIfInBounds_toArray, List.set_cons_zero, List.set_cons_succ]
                refine NoPanic.normal ?_
                have HBZ := HB5; have HAZ := HA5
                go_wp2_with fail
                go_ret
                exact ⟨by rw [HF.out]; rfl, HBZ.out⟩
              | true =>
                rw [hr] at ci
                by_cases hz : i = 0
                · have ei : decide ((i : Int) > 0) = false := by simp; omega
                  have HOK2 := hidp (show uTo l.us (i + 1) = true from by rw [uTo_succ, HOK.out, HAT.out, hu, hr, decide_eq_true hz]; rfl)
                  have HZ0 := hidp hz
                  clear hu hr hz
                  go_wp2_with (first | (refine wpL_idxR tyU rfl (.tmp 21) (.tmp 23) rfl BK off n _ i rfl rfl hlt ?_) | (refine wpL_atR tyU rfl (.tmp 26) rfl BK (off + 2 * i) (uR p) rfl rfl HRI.out ?_) | (refine Rt.wpL_new tyP (some 6) rfl rfl rfl ?_; intro b6 wq1 n1; have HB1 := hidp (HB.out.trans (n1.below.mono HB.out.size)); have hbw := hidp (Nat.le_trans HB.out.size n1.le); have HA1 := hidp (n1.old HA.out); have hab := hidp (show b1 < b6 from by have := n1.at_; have := HA.out.lt; omega)) | (refine Rt.wpL_put tyP rfl (.tmp 6) (.tmp 27) rfl b6 (uR p) rfl rfl rfl (uR_one p) zU rfl n1.arr ?_; intro wq2 ha hp; have HB2 := hidp (hp.below' HB1.out hbw.out); have HE2 := hidp (show Arr wq2 b6 83 [.string p.1, .int .i64 p.2] from ha); have HA2 := hidp (hp.arr (by have := hab.out; omega) HA1.out); obtain ⟨y0, y1⟩ := arr2 HE2.out; clear ha hp n1 HB1 HA1))
                  obtain ⟨U, hU⟩ : ∃ U, ({ wq2 with drawn := wq2.drawn + 1 } : World) = U := ⟨_, rfl⟩
                  have bU : Below wq2.heap.size wq2 U := by rw [← hU]; exact (Below.refl _ _).drew
                  have HE3 := hidp (HE2.out.below bU HE2.out.lt); have HA3 := hidp (HA2.out.below bU HA2.out.lt); have HB3 := hidp (HB2.out.trans (bU.mono HB2.out.size))
                  clear bU HE2 HA2 HB2 y0 y1
                  refine wp_region_noPanic ?_
                  refine wp_region_scr (S := fun W => Arr W b6 83 [.string p.1, .int .i64 p.2] ∧ Arr W b1 37 [.int .i64 l.a, .int .i64 l.s, .int .i64 l.i, .int .i64 l.k, .int .i64 l.b, .int .i64 l.r, .slice (some ⟨BK, off, none⟩) n cv]) (.take 0 (.take 1 (.one 2 (.take 3 (.take 4 (.take 5 (.take 6 (.one 7 (.take 8 (.take 9 (.take 10 (.take 11 (.take 12 (.take 13 (.take 14 (.take 15 (.take 16 (.take 17 (.take 18 (.take 19 (.take 20 (.take 21 (.take 22 (.take 23 (.take 24 (.take 25 .done)))))))))))))))))))))))))) (by kernel_rfl) (by kernel_rfl) (fun _ _ _ _ _ h => h) (by simp [Scr.depth]) (by kernel_rfl) (by rw [hU]; exact ⟨HE3.out, HA3.out⟩) ?_
                  simp only [hU]
                  clear hU
                  apply s_val
                  case ho => rfl
                  case hw => rfl
                  case hv => intro w hw; obtain ⟨y0, y1⟩ := arr2 hw.1; obtain ⟨x0, x1, x2, x3, x4, x5, x6⟩ := arr7 hw.2; go_simp; first | done | with_reducible rfl | rfl
                  simp only [Act.put, List.getElem_toArray, List.getElem_cons_zero, List.getElem_cons_succ, List.setIfInBounds_toArray, List.set_cons_zero, List.set_cons_succ]
                  apply s_val
                  case ho => rfl
                  case hw => rfl
                  case hv => intro w hw; obtain ⟨y0, y1⟩ := arr2 hw.1; obtain ⟨x0, x1, x2, x3, x4, x5, x6⟩ := arr7 hw.2; go_simp; first | done | with_reducible rfl | rfl
                  simp only [Act.put, List.getElem_toArray, List.getElem_cons_zero, List.getElem_cons_succ, List.setIfInBounds_toArray, List.set_cons_zero, List.set_cons_succ]
                  apply o_call (f := 72) (args := #[.string p.1]) (v := .bool true) (hc := cu.out _ (HP.out.1.below HB3.out (Nat.le_refl _)))
                  case ho => rfl
                  case hw => rfl
                  case hop => go_simp; first | done | rfl
                  rintro X4 hb
                  refine ⟨⟨HE3.out.below hb HE3.out.lt, HA3.out.below hb HA3.out.lt⟩, ?_⟩
                  have HE4 := hidp (HE3.out.below hb HE3.out.lt); have HA4 := hidp (HA3.out.below hb HA3.out.lt); have HB4 := hidp (HB3.out.trans (hb.mono HB3.out.size))
                  clear hb
                  simp only [Act.put, List.getElem_toArray, List.getElem_cons_zero, List.getElem_cons_succ, List.setIfInBounds_toArray, List.set_cons_zero, List.set_cons_succ]
                  apply s_val
                  case ho => rfl
                  case hw => rfl
                  case hv => intro w hw; obtain ⟨y0, y1⟩ := arr2 hw.1; obtain ⟨x0, x1, x2, x3, x4, x5, x6⟩ := arr7 hw.2; go_simp; first | done | with_reducible rfl | rfl
                  simp only [Act.put, List.getElem_toArray, List.getElem_cons_zero, List.getElem_cons_succ, List.setIfInBounds_toArray, List.set_cons_zero, List.set_cons_succ]
                  apply s_val
                  case ho => rfl
                  case hw => rfl
                  case hv => intro w hw; obtain ⟨y0, y1⟩ := arr2 hw.1; obtain ⟨x0, x1, x2, x3, x4, x5, x6⟩ := arr7 hw.2; go_simp; first | done | with_reducible rfl | rfl
                  simp only [Act.put, List.getElem_toArray, List.getElem_cons_zero, List.getElem_cons_succ, List.setIfInBounds_toArray, List.set_cons_zero, List.set_cons_succ]
                  apply s_val
                  case ho => rfl
                  case hw => rfl
                  case hv => intro w hw; obtain ⟨y0, y1⟩ := arr2 hw.1; obtain ⟨x0, x1, x2, x3, x4, x5, x6⟩ := arr7 hw.2; go_simp; first | done | with_reducible rfl | rfl
                  simp only [Act.put, List.getElem_toArray, List.getElem_cons_zero, List.getElem_cons_succ, List.setIfInBounds_toArray, List.set_cons_zero, List.set_cons_succ]
                  apply s_val
                  case ho => rfl
                  case hw => rfl
                  case hv => intro w hw; obtain ⟨y0, y1⟩ := arr2 hw.1; obtain ⟨x0, x1, x2, x3, x4, x5, x6⟩ := arr7 hw.2; go_simp; first | done | with_reducible rfl | rfl
                  simp only [Act.put, List.getElem_toArray, List.getElem_cons_zero, List.getElem_cons_succ, List.setIfInBounds_toArray, List.set_cons_zero, List.set_cons_succ]
                  apply o_call (f := 71) (args := #[.int .i64 p.2]) (v := .bool true) (hc := ci.out _)
                  case ho => rfl
                  case hw => rfl
                  case hop => go_simp; first | done | rfl
                  rintro X5 hb
                  refine ⟨⟨HE4.out.below hb HE4.out.lt, HA4.out.below hb HA4.out.lt⟩, ?_⟩
                  have HE5 := hidp (HE4.out.below hb HE4.out.lt); have HA5 := hidp (HA4.out.below hb HA4.out.lt); have HB5 := hidp (HB4.out.trans (hb.mono HB4.out.size))
                  clear hb
                  simp only [Act.put, List.getElem_toArray, List.getElem_cons_zero, List.getElem_cons_succ, List.setIfInBounds_toArray, List.set_cons_zero, List.set_cons_succ]
                  apply s_val
                  case ho => rfl
                  case hw => rfl
                  case hv => intro w hw; obtain ⟨y0, y1⟩ := arr2 hw.1; obtain ⟨x0, x1, x2, x3, x4, x5, x6⟩ := arr7 hw.2; go_simp; first | done | with_reducible rfl | rfl
                  simp only [Act.put, List.getElem_toArray, List.getElem_cons_zero, List.getElem_cons_succ, List.setIfInBounds_toArray, List.set_cons_zero, List.set_cons_succ]
                  apply s_val
                  case ho => rfl
                  case hw => rfl
                  case hv => intro w hw; obtain ⟨y0, y1⟩ := arr2 hw.1; obtain ⟨x0, x1, x2, x3, x4, x5, x6⟩ := arr7 hw.2; go_simp; first | done | with_reducible rfl | rfl
                  simp only [Act.put, List.getElem_toArray, List.getElem_cons_zero, List.getElem_cons_succ, List.setIfInBounds_toArray, List.set_cons_zero, List.set_cons_succ]
                  apply s_val
                  case ho => rfl
                  case hw => rfl
                  case hv => intro w hw; obtain ⟨y0, y1⟩ := arr2 hw.1; obtain ⟨x0, x1, x2, x3, x4, x5, x6⟩ := arr7 hw.2; go_simp; first | done | with_reducible rfl | rfl
                  simp only [Act.put, List.getElem_toArray, List.getElem_cons_zero, List.getElem_cons_succ, List.setIfInBounds_toArray, List.set_cons_zero, List.set_cons_succ]
                  apply s_val
                  case ho => rfl
                  case hw => rfl
                  case hv => intro w hw; obtain ⟨y0, y1⟩ := arr2 hw.1; obtain ⟨x0, x1, x2, x3, x4, x5, x6⟩ := arr7 hw.2; go_simp; first | done | with_reducible rfl | rfl
                  simp only [Act.put, List.getElem_toArray, List.getElem_cons_zero, List.getElem_cons_succ, List.setIfInBounds_toArray, List.set_cons_zero, List.set_cons_succ]
                  apply s_val (v := .bool false)
                  case ho => rfl
                  case hw => rfl
                  case hv => intro w hw; have q1 := ei; go_simp; first | done | exact HZ0.out | omega | with_reducible rfl | rfl
                  simp only [Act.put, List.getElem_toArray, List.getElem_cons_zero, List.getElem_cons_succ, List.setIfInBounds_toArray, List.set_cons_zero, List.set_cons_succ]
                  apply s_val
                  case ho => rfl
                  case hw => rfl
                  case hv => intro w hw; obtain ⟨y0, y1⟩ := arr2 hw.1; obtain ⟨x0, x1, x2, x3, x4, x5, x6⟩ := arr7 hw.2; go_simp; first | done | with_reducible rfl | rfl
                  simp only [Act.put, List.getElem_toArray, List.getElem_cons_zero, List.getElem_cons_succ, List.setIfInBounds_toArray, List.set_cons_zero, List.set_cons_succ]
                  refine Rt.s_skip rfl rfl ?_
                  simp only [Act.put, List.getElem_toArray, List.getElem_cons_zero, List.getElem_cons_succ, List.setIfInBounds_toArray, List.set_cons_zero, List.set_cons_succ]
                  refine Rt.s_skip rfl rfl ?_
                  simp only [Act.put, List.getElem_toArray, List.getElem_cons_zero, List.getElem_cons_succ, List.setIfInBounds_toArray, List.set_cons_zero, List.set_cons_succ]
                  refine Rt.s_skip rfl rfl ?_
                  simp only [Act.put, List.getElem_toArray, List.getElem_cons_zero, List.getElem_cons_succ, List.setIfInBounds_toArray, List.set_cons_zero, List.set_cons_succ]
                  refine Rt.s_skip rfl rfl ?_
                  simp only [Act.put, List.getElem_toArray, List.getElem_cons_zero, List.getElem_cons_succ, List.setIfInBounds_toArray, List.set_cons_zero, List.set_cons_succ]
                  refine Rt.s_skip rfl rfl ?_
                  simp only [Act.put, List.getElem_toArray, List.getElem_cons_zero, List.getElem_cons_succ, List.setIfInBounds_toArray, List.set_cons_zero, List.set_cons_succ]
                  refine Rt.s_skip rfl rfl ?_
                  simp only [Act.put, List.getElem_toArray, List.getElem_cons_zero, List.getElem_cons_succ, List.setIfInBounds_toArray, List.set_cons_zero, List.set_cons_succ]
                  refine Rt.s_skip rfl rfl ?_
                  simp only [Act.put, List.getElem_toArray, List.getElem_cons_zero, List.getElem_cons_succ, List.setIfInBounds_toArray, List.set_cons_zero, List.set_cons_succ]
                  refine Rt.s_skip rfl rfl ?_
                  simp only [Act.put, List.getElem_toArray, List.getElem_cons_zero, List.getElem_cons_succ, List.setIfInBounds_toArray, List.set_cons_zero, List.set_cons_succ]
                  refine Rt.s_skip rfl rfl ?_
                  simp only [Act.put, List.getElem_toArray, List.getElem_cons_zero, List.getElem_cons_succ, List.setIfInBounds_toArray, List.set_cons_zero, List.set_cons_succ]
                  refine Rt.s_skip rfl rfl ?_
                  simp only [Act.put, List.getElem_toArray, List.getElem_cons_zero, List.getElem_cons_succ, List.setIfInBounds_toArray, List.set_cons_zero, List.set_cons_succ]
                  apply s_val
                  case ho => rfl
                  case hw => rfl
                  case hv => intro w hw; obtain ⟨y0, y1⟩ := arr2 hw.1; obtain ⟨x0, x1, x2, x3, x4, x5, x6⟩ := arr7 hw.2; go_simp; first | done | with_reducible rfl | rfl
                  simp only [Act.put, List.getElem_toArray, List.getElem_cons_zero, List.getElem_cons_succ, List.setIfInBounds_toArray, List.set_cons_zero, List.set_cons_succ]
                  apply s_val
                  case ho => rfl
                  case hw => rfl
                  case hv => intro w hw; obtain ⟨y0, y1⟩ := arr2 hw.1; obtain ⟨x0, x1, x2, x3, x4, x5, x6⟩ := arr7 hw.2; go_simp; first | done | with_reducible rfl | rfl
                  simp only [Act.put, List.getElem_toArray, List.getElem_cons_zero, List.getElem_cons_succ, List.setIfInBounds_toArray, List.set_cons_zero, List.set_cons_succ]
                  refine NoPanic.normal ?_
                  have HBZ := HB5; have HAZ := HA5
                  go_wp2_with fail
                  exact ⟨⟨_, _, _, _, _, _, _, _, _, _, _, _, _, _, _, _, _, _, _, _, _, _, _, _, _, _, _, _, _, _, _, _, _, _, _, ⟨i + 1, by go_num, by omega, HOK2.out, HBZ.out, HAZ.out⟩, rfl⟩, by simp [intOf]; omega⟩
                · have hi0 : 0 < i := by omega
                  have ei : decide ((i : Int) > 0) = true := by simp; omega
                  have hwi : IntKind.i64.wrap ((i : Int) - 1) = ((i - 1 : Nat) : Int) := by rw [IntKind.wrap_i64]; omega
                  have hpl : i - 1 < l.us.length := by omega
                  obtain ⟨q, hqe0⟩ : ∃ q, l.us[i - 1] = q := ⟨_, rfl⟩
                  have hqd : l.us.getD (i - 1) uz = q := by rw [getU hpl]; exact hqe0
                  have hRq := hidp (show w.rangeAt BK (off + 2 * (i - 1)) (uR q) from by rw [← hqe0]; exact hR0.out (i - 1) hpl)
                  have hBKw := hBK0
                  clear hqe0
                  cases hl : Op.bytesLess q.1.toList p.1.toList with
                  | false =>
                    have HF := hidp (us_bad hgl (by rw [HAT.out, hu, hr, hqd, hl, decide_eq_false hz]; rfl))
                    clear hu hr
                    go_wp2_with (first | (refine wpL_idxR tyU rfl (.tmp 21) (.tmp 23) rfl BK off n _ i rfl rfl hlt ?_) | (refine wpL_atR tyU rfl (.tmp 26) rfl BK (off + 2 * i) (uR p) rfl rfl HRI.out ?_) | (refine Rt.wpL_new tyP (some 6) rfl rfl rfl ?_; intro b6 wq1 n1; have HB1 := hidp (HB.out.trans (n1.below.mono HB.out.size)); have hbw := hidp (Nat.le_trans HB.out.size n1.le); have HA1 := hidp (n1.old HA.out); have hab := hidp (show b1 < b6 from by have := n1.at_; have := HA.out.lt; omega)) | (refine Rt.wpL_put tyP rfl (.tmp 6) (.tmp 27) rfl b6 (uR p) rfl rfl rfl (uR_one p) zU rfl n1.arr ?_; intro wq2 ha hp; have HB2 := hidp (hp.below' HB1.out hbw.out); have HE2 := hidp (show Arr wq2 b6 83 [.string p.1, .int .i64 p.2] from ha); have HA2 := hidp (hp.arr (by have := hab.out; omega) HA1.out); obtain ⟨y0, y1⟩ := arr2 HE2.out; clear ha hp n1 HB1 HA1))
                    obtain ⟨U, hU⟩ : ∃ U, ({ wq2 with drawn := wq2.drawn + 1 } : World) = U := ⟨_, rfl⟩
                    have bU : Below wq2.heap.size wq2 U := by rw [← hU]; exact (Below.refl _ _).drew
                    have HE3 := hidp (HE2.out.below bU HE2.out.lt); have HA3 := hidp (HA2.out.below bU HA2.out.lt); have HB3 := hidp (HB2.out.trans (bU.mono HB2.out.size))
                    have HQ3 := hidp (show U.rangeAt BK (off + 2 * (i - 1)) (uR q) from rangeAt_below (hRq.out) HB3.out hBKw.out)
                    clear bU HE2 HA2 HB2 y0 y1
                    refine wp_region_noPanic ?_
                    refine wp_region_scr (S := fun W => Arr W b6 83 [.string p.1, .int .i64 p.2] ∧ Arr W b1 37 [.int .i64 l.a, .int .i64 l.s, .int .i64 l.i, .int .i64 l.k, .int .i64 l.b, .int .i64 l.r, .slice (some ⟨BK, off, none⟩) n cv] ∧ W.rangeAt BK (off + 2 * (i - 1)) (uR q)) (.take 0 (.take 1 (.one 2 (.take 3 (.take 4 (.take 5 (.take 6 (.one 7 (.take 8 (.take 9 (.take 10 (.take 11 (.take 12 (.take 13 (.take 14 (.take 15 (.take 16 (.take 17 (.take 18 (.take 19 (.take 20 (.take 21 (.take 22 (.take 23 (.take 24 (.take 25 .done)))))))))))))))))))))))))) (by kernel_rfl) (by kernel_rfl) (fun _ _ _ _ _ h => h) (by simp [Scr.depth]) (by kernel_rfl) (by rw [hU]; exact ⟨HE3.out, HA3.out, HQ3.out⟩) ?_
                    simp only [hU]
                    clear hU
                    apply s_val
                    case ho => rfl
                    case hw => rfl
                    case hv => intro w hw; obtain ⟨y0, y1⟩ := arr2 hw.1; obtain ⟨x0, x1, x2, x3, x4, x5, x6⟩ := arr7 hw.2.1; obtain ⟨z0, z1⟩ := uR_cells hw.2.2; go_simp; first | done | with_reducible rfl | rfl
                    simp only [Act.put, List.getElem_toArray, List.getElem_cons_zero, List.getElem_cons_succ, List.setIfInBounds_toArray, List.set_cons_zero, List.set_cons_succ]
                    apply s_val
                    case ho => rfl
                    case hw => rfl
                    case hv => intro w hw; obtain ⟨y0, y1⟩ := arr2 hw.1; obtain ⟨x0, x1, x2, x3, x4, x5, x6⟩ := arr7 hw.2.1; obtain ⟨z0, z1⟩ := uR_cells hw.2.2; go_simp; first | done | with_reducible rfl | rfl
                    simp only [Act.put, List.getElem_toArray, List.getElem_cons_zero, List.getElem_cons_succ, List.setIfInBounds_toArray, List.set_cons_zero, List.set_cons_succ]
                    apply o_call (f := 72) (args := #[.string p.1]) (v := .bool true) (hc := cu.out _ (HP.out.1.below HB3.out (Nat.le_refl _)))
                    case ho => rfl
                    case hw => rfl
                    case hop => go_simp; first | done | rfl
                    rintro X4 hb
                    refine ⟨⟨HE3.out.below hb HE3.out.lt, HA3.out.below hb HA3.out.lt, rangeAt_below HQ3.out hb (Nat.lt_of_lt_of_le hBKw.out HB3.out.size)⟩, ?_⟩
                    have HE4 := hidp (HE3.out.below hb HE3.out.lt); have HA4 := hidp (HA3.out.below hb HA3.out.lt); have HB4 := hidp (HB3.out.trans (hb.mono HB3.out.size)); have HQ4 := hidp (rangeAt_below HQ3.out hb (Nat.lt_of_lt_of_le hBKw.out HB3.out.size))
                    clear hb
                    simp only [Act.put, List.getElem_toArray, List.getElem_cons_zero, List.getElem_cons_succ, List.setIfInBounds_toArray, List.set_cons_zero, List.set_cons_succ]
                    apply s_val
                    case ho => rfl
                    case hw => rfl
                    case hv => intro w hw; obtain ⟨y0, y1⟩ := arr2 hw.1; obtain ⟨x0, x1, x2, x3, x4, x5, x6⟩ := arr7 hw.2.1; obtain ⟨z0, z1⟩ := uR_cells hw.2.2; go_simp; first | done | with_reducible rfl | rfl
                    simp only [Act.put, List.getElem_toArray, List.getElem_cons_zero, List.getElem_cons_succ, List.setIfInBounds_toArray, List.set_cons_zero, List.set_cons_succ]
                    apply s_val
                    case ho => rfl
                    case hw => rfl
                    case hv => intro w hw; obtain ⟨y0, y1⟩ := arr2 hw.1; obtain ⟨x0, x1, x2, x3, x4, x5, x6⟩ := arr7 hw.2.1; obtain ⟨z0, z1⟩ := uR_cells hw.2.2; go_simp; first | done | with_reducible rfl | rfl
                    simp only [Act.put, List.getElem_toArray, List.getElem_cons_zero, List.getElem_cons_succ, List.setIfInBounds_toArray, List.set_cons_zero, List.set_cons_succ]
                    apply s_val
                    case ho => rfl
                    case hw => rfl
                    case hv => intro w hw; obtain ⟨y0, y1⟩ := arr2 hw.1; obtain ⟨x0, x1, x2, x3, x4, x5, x6⟩ := arr7 hw.2.1; obtain ⟨z0, z1⟩ := uR_cells hw.2.2; go_simp; first | done | with_reducible rfl | rfl
                    simp only [Act.put, List.getElem_toArray, List.getElem_cons_zero, List.getElem_cons_succ, List.setIfInBounds_toArray, List.set_cons_zero, List.set_cons_succ]
                    apply s_val
                    case ho => rfl
                    case hw => rfl
                    case hv => intro w hw; obtain ⟨y0, y1⟩ := arr2 hw.1; obtain ⟨x0, x1, x2, x3, x4, x5, x6⟩ := arr7 hw.2.1; obtain ⟨z0, z1⟩ := uR_cells hw.2.2; go_simp; first | done | with_reducible rfl | rfl
                    simp only [Act.put, List.getElem_toArray, List.getElem_cons_zero, List.getElem_cons_succ, List.setIfInBounds_toArray, List.set_cons_zero, List.set_cons_succ]
                    apply o_call (f := 71) (args := #[.int .i64 p.2]) (v := .bool true) (hc := ci.out _)
                    case ho => rfl
                    case hw => rfl
                    case hop => go_simp; first | done | rfl
                    rintro X5 hb
                    refine ⟨⟨HE4.out.below hb HE4.out.lt, HA4.out.below hb HA4.out.lt, rangeAt_below HQ4.out hb (Nat.lt_of_lt_of_le hBKw.out HB4.out.size)⟩, ?_⟩
                    have HE5 := hidp (HE4.out.below hb HE4.out.lt); have HA5 := hidp (HA4.out.below hb HA4.out.lt); have HB5 := hidp (HB4.out.trans (hb.mono HB4.out.size)); have HQ5 := hidp (rangeAt_below HQ4.out hb (Nat.lt_of_lt_of_le hBKw.out HB4.out.size))
                    clear hb
                    simp only [Act.put, List.getElem_toArray, List.getElem_cons_zero, List.getElem_cons_succ, List.setIfInBounds_toArray, List.set_cons_zero, List.set_cons_succ]
                    apply s_val
                    case ho => rfl
                    case hw => rfl
                    case hv => intro w hw; obtain ⟨y0, y1⟩ := arr2 hw.1; obtain ⟨x0, x1, x2, x3, x4, x5, x6⟩ := arr7 hw.2.1; obtain ⟨z0, z1⟩ := uR_cells hw.2.2; go_simp; first | done | with_reducible rfl | rfl
                    simp only [Act.put, List.getElem_toArray, List.getElem_cons_zero, List.getElem_cons_succ, List.setIfInBounds_toArray, List.set_cons_zero, List.set_cons_succ]
                    apply s_val
                    case ho => rfl
                    case hw => rfl
                    case hv => intro w hw; obtain ⟨y0, y1⟩ := arr2 hw.1; obtain ⟨x0, x1, x2, x3, x4, x5, x6⟩ := arr7 hw.2.1; obtain ⟨z0, z1⟩ := uR_cells hw.2.2; go_simp; first | done | with_reducible rfl | rfl
                    simp only [Act.put, List.getElem_toArray, List.getElem_cons_zero, List.getElem_cons_succ, List.setIfInBounds_toArray, List.set_cons_zero, List.set_cons_succ]
                    apply s_val
                    case ho => rfl
                    case hw => rfl
                    case hv => intro w hw; obtain ⟨y0, y1⟩ := arr2 hw.1; obtain ⟨x0, x1, x2, x3, x4, x5, x6⟩ := arr7 hw.2.1; obtain ⟨z0, z1⟩ := uR_cells hw.2.2; go_simp; first | done | with_reducible rfl | rfl
                    simp only [Act.put, List.getElem_toArray, List.getElem_cons_zero, List.getElem_cons_succ, List.setIfInBounds_toArray, List.set_cons_zero, List.set_cons_succ]
                    apply s_val
                    case ho => rfl
                    case hw => rfl
                    case hv => intro w hw; obtain ⟨y0, y1⟩ := arr2 hw.1; obtain ⟨x0, x1, x2, x3, x4, x5, x6⟩ := arr7 hw.2.1; obtain ⟨z0, z1⟩ := uR_cells hw.2.2; go_simp; first | done | with_reducible rfl | rfl
                    simp only [Act.put, List.getElem_toArray, List.getElem_cons_zero, List.getElem_cons_succ, List.setIfInBounds_toArray, List.set_cons_zero, List.set_cons_succ]
                    apply s_val (v := .bool true)
                    case ho => rfl
                    case hw => rfl
                    case hv => intro w hw; have q1 := ei; go_simp; first | done | omega | with_reducible rfl | rfl
                    simp only [Act.put, List.getElem_toArray, List.getElem_cons_zero, List.getElem_cons_succ, List.setIfInBounds_toArray, List.set_cons_zero, List.set_cons_succ]
                    apply s_val
                    case ho => rfl
                    case hw => rfl
                    case hv => intro w hw; obtain ⟨y0, y1⟩ := arr2 hw.1; obtain ⟨x0, x1, x2, x3, x4, x5, x6⟩ := arr7 hw.2.1; obtain ⟨z0, z1⟩ := uR_cells hw.2.2; go_simp; first | done | with_reducible rfl | rfl
                    simp only [Act.put, List.getElem_toArray, List.getElem_cons_zero, List.getElem_cons_succ, List.setIfInBounds_toArray, List.set_cons_zero, List.set_cons_succ]
                    apply s_val
                    case ho => rfl
                    case hw => rfl
                    case hv => intro w hw; obtain ⟨y0, y1⟩ := arr2 hw.1; obtain ⟨x0, x1, x2, x3, x4, x5, x6⟩ := arr7 hw.2.1; obtain ⟨z0, z1⟩ := uR_cells hw.2.2; go_simp; first | done | with_reducible rfl | rfl
                    simp only [Act.put, List.getElem_toArray, List.getElem_cons_zero, List.getElem_cons_succ, List.setIfInBounds_toArray, List.set_cons_zero, List.set_cons_succ]
                    apply s_val
                    case ho => rfl
                    case hw => rfl
                    case hv => intro w hw; obtain ⟨y0, y1⟩ := arr2 hw.1; obtain ⟨x0, x1, x2, x3, x4, x5, x6⟩ := arr7 hw.2.1; obtain ⟨z0, z1⟩ := uR_cells hw.2.2; go_simp; first | done | with_reducible rfl | rfl
                    simp only [Act.put, List.getElem_toArray, List.getElem_cons_zero, List.getElem_cons_succ, List.setIfInBounds_toArray, List.set_cons_zero, List.set_cons_succ]
                    apply s_val
                    case ho => rfl
                    case hw => rfl
                    case hv => intro w hw; obtain ⟨y0, y1⟩ := arr2 hw.1; obtain ⟨x0, x1, x2, x3, x4, x5, x6⟩ := arr7 hw.2.1; obtain ⟨z0, z1⟩ := uR_cells hw.2.2; go_simp; first | done | with_reducible rfl | rfl
                    simp only [Act.put, List.getElem_toArray, List.getElem_cons_zero, List.getElem_cons_succ, List.setIfInBounds_toArray, List.set_cons_zero, List.set_cons_succ]
                    apply s_val (v := .int .i64 ((i - 1 : Nat) : Int))
                    case ho => rfl
                    case hw => rfl
                    case hv => intro w hw; have q1 := hwi; go_simp; first | done | with_reducible rfl | rfl
                    simp only [Act.put, List.getElem_toArray, List.getElem_cons_zero, List.getElem_cons_succ, List.setIfInBounds_toArray, List.set_cons_zero, List.set_cons_succ]
                    refine s_idxR tyU rfl rfl (.tmp 43) (.tmp 45) rfl BK off n _ (i - 1) rfl rfl (by omega) ?_
                    simp only [Act.put, List.getElem_toArray, List.getElem_cons_zero, List.getElem_cons_succ, List.setIfInBounds_toArray, List.set_cons_zero, List.set_cons_succ]
                    apply s_val
                    case ho => rfl
                    case hw => rfl
                    case hv => intro w hw; obtain ⟨y0, y1⟩ := arr2 hw.1; obtain ⟨x0, x1, x2, x3, x4, x5, x6⟩ := arr7 hw.2.1; obtain ⟨z0, z1⟩ := uR_cells hw.2.2; go_simp; first | done | with_reducible rfl | rfl
                    simp only [Act.put, List.getElem_toArray, List.getElem_cons_zero, List.getElem_cons_succ, List.setIfInBounds_toArray, List.set_cons_zero, List.set_cons_succ]
                    apply s_val
                    case ho => rfl
                    case hw => rfl
                    case hv => intro w hw; obtain ⟨y0, y1⟩ := arr2 hw.1; obtain ⟨x0, x1, x2, x3, x4, x5, x6⟩ := arr7 hw.2.1; obtain ⟨z0, z1⟩ := uR_cells hw.2.2; go_simp; first | done | with_reducible rfl | rfl
                    simp only [Act.put, List.getElem_toArray, List.getElem_cons_zero, List.getElem_cons_succ, List.setIfInBounds_toArray, List.set_cons_zero, List.set_cons_succ]
                    apply s_val
                    case ho => rfl
                    case hw => rfl
                    case hv => intro w hw; obtain ⟨y0, y1⟩ := arr2 hw.1; obtain ⟨x0, x1, x2, x3, x4, x5, x6⟩ := arr7 hw.2.1; obtain ⟨z0, z1⟩ := uR_cells hw.2.2; go_simp; first | done | with_reducible rfl | rfl
                    simp only [Act.put, List.getElem_toArray, List.getElem_cons_zero, List.getElem_cons_succ, List.setIfInBounds_toArray, List.set_cons_zero, List.set_cons_succ]
                    apply s_val
                    case ho => rfl
                    case hw => rfl
                    case hv => intro w hw; obtain ⟨y0, y1⟩ := arr2 hw.1; obtain ⟨x0, x1, x2, x3, x4, x5, x6⟩ := arr7 hw.2.1; obtain ⟨z0, z1⟩ := uR_cells hw.2.2; go_simp; first | done | with_reducible rfl | rfl
                    simp only [Act.put, List.getElem_toArray, List.getElem_cons_zero, List.getElem_cons_succ, List.setIfInBounds_toArray, List.set_cons_zero, List.set_cons_succ]
                    apply s_val
                    case ho => rfl
                    case hw => rfl
                    case hv => intro w hw; obtain ⟨y0, y1⟩ := arr2 hw.1; obtain ⟨x0, x1, x2, x3, x4, x5, x6⟩ := arr7 hw.2.1; obtain ⟨z0, z1⟩ := uR_cells hw.2.2; go_simp; first | done | with_reducible rfl | rfl
                    simp only [Act.put, List.getElem_toArray, List.getElem_cons_zero, List.getElem_cons_succ, List.setIfInBounds_toArray, List.set_cons_zero, List.set_cons_succ]
                    apply s_val
                    case ho => rfl
                    case hw => rfl
                    case hv => intro w hw; obtain ⟨y0, y1⟩ := arr2 hw.1; obtain ⟨x0, x1, x2, x3, x4, x5, x6⟩ := arr7 hw.2.1; obtain ⟨z0, z1⟩ := uR_cells hw.2.2; go_simp; first | done | with_reducible rfl | rfl
                    simp only [Act.put, List.getElem_toArray, List.getElem_cons_zero, List.getElem_cons_succ, List.setIfInBounds_toArray, List.set_cons_zero, List.set_cons_succ]
                    apply s_val
                    case ho => rfl
                    case hw => rfl
                    case hv => intro w hw; obtain ⟨y0, y1⟩ := arr2 hw.1; obtain ⟨x0, x1, x2, x3, x4, x5, x6⟩ := arr7 hw.2.1; obtain ⟨z0, z1⟩ := uR_cells hw.2.2; go_simp; first | done | with_reducible rfl | rfl
                    simp only [Act.put, List.getElem_toArray, List.getElem_cons_zero, List.getElem_cons_succ, List.setIfInBounds_toArray, List.set_cons_zero, List.set_cons_succ]
                    refine NoPanic.normal ?_
                    have HBZ := HB5; have HAZ := HA5
                    go_wp2_with fail
                    go_ret
                    exact ⟨by rw [HF.out]; rfl, HBZ.out⟩
                  | true =>
                    have HOK2 := hidp (show uTo l.us (i + 1) = true from by rw [uTo_succ, HOK.out, HAT.out, hu, hr, hqd, hl]; simp)
                    clear hu hr
                    go_wp2_with (first | (refine wpL_idxR tyU rfl (.tmp 21) (.tmp 23) rfl BK off n _ i rfl rfl hlt ?_) | (refine wpL_atR tyU rfl (.tmp 26) rfl BK (off + 2 * i) (uR p) rfl rfl HRI.out ?_) | (refine Rt.wpL_new tyP (some 6) rfl rfl rfl ?_; intro b6 wq1 n1; have HB1 := hidp (HB.out.trans (n1.below.mono HB.out.size)); have hbw := hidp (Nat.le_trans HB.out.size n1.le); have HA1 := hidp (n1.old HA.out); have hab := hidp (show b1 < b6 from by have := n1.at_; have := HA.out.lt; omega)) | (refine Rt.wpL_put tyP rfl (.tmp 6) (.tmp 27) rfl b6 (uR p) rfl rfl rfl (uR_one p) zU rfl n1.arr ?_; intro wq2 ha hp; have HB2 := hidp (hp.below' HB1.out hbw.out); have HE2 := hidp (show Arr wq2 b6 83 [.string p.1, .int .i64 p.2] from ha); have HA2 := hidp (hp.arr (by have := hab.out; omega) HA1.out); obtain ⟨y0, y1⟩ := arr2 HE2.out; clear ha hp n1 HB1 HA1))
                    obtain ⟨U, hU⟩ : ∃ U, ({ wq2 with drawn := wq2.drawn + 1 } : World) = U := ⟨_, rfl⟩
                    have bU : Below wq2.heap.size wq2 U := by rw [← hU]; exact (Below.refl _ _).drew
                    have HE3 := hidp (HE2.out.below bU HE2.out.lt); have HA3 := hidp (HA2.out.below bU HA2.out.lt); have HB3 := hidp (HB2.out.trans (bU.mono HB2.out.size))
                    have HQ3 := hidp (show U.rangeAt BK (off + 2 * (i - 1)) (uR q) from rangeAt_below (hRq.out) HB3.out hBKw.out)
                    clear bU HE2 HA2 HB2 y0 y1
                    refine wp_region_noPanic ?_
                    refine wp_region_scr (S := fun W => Arr W b6 83 [.string p.1, .int .i64 p.2] ∧ Arr W b1 37 [.int .i64 l.a, .int .i64 l.s, .int .i64 l.i, .int .i64 l.k, .int .i64 l.b, .int .i64 l.r, .slice (some ⟨BK, off, none⟩) n cv] ∧ W.rangeAt BK (off + 2 * (i - 1)) (uR q)) (.take 0 (.take 1 (.one 2 (.take 3 (.take 4 (.take 5 (.take 6 (.one 7 (.take 8 (.take 9 (.take 10 (.take 11 (.take 12 (.take 13 (.take 14 (.take 15 (.take 16 (.take 17 (.take 18 (.take 19 (.take 20 (.take 21 (.take 22 (.take 23 (.take 24 (.take 25 .done)))))))))))))))))))))))))) (by kernel_rfl) (by kernel_rfl) (fun _ _ _ _ _ h => h) (by simp [Scr.depth]) (by kernel_rfl) (by rw [hU]; exact ⟨HE3.out, HA3.out, HQ3.out⟩) ?_
                    simp only [hU]
                    clear hU
                    apply s_val
                    case ho => rfl
                    case hw => rfl
                    case hv => intro w hw; obtain ⟨y0, y1⟩ := arr2 hw.1; obtain ⟨x0, x1, x2, x3, x4, x5, x6⟩ := arr7 hw.2.1; obtain ⟨z0, z1⟩ := uR_cells hw.2.2; go_simp; first | done | with_reducible rfl | rfl
                    simp only [Act.put, List.getElem_toArray, List.getElem_cons_zero, List.getElem_cons_succ, List.setIfInBounds_toArray, List.set_cons_zero, List.set_cons_succ]
                    apply s_val
                    case ho => rfl
                    case hw => rfl
                    case hv => intro w hw; obtain ⟨y0, y1⟩ := arr2 hw.1; obtain ⟨x0, x1, x2, x3, x4, x5, x6⟩ := arr7 hw.2.1; obtain ⟨z0, z1⟩ := uR_cells hw.2.2; go_simp; first | done | with_reducible rfl | rfl
                    simp only [Act.put, List.getElem_toArray, List.getElem_cons_zero, List.getElem_cons_succ, List.setIfInBounds_toArray, List.set_cons_zero, List.set_cons_succ]
                    apply o_call (f := 72) (args := #[.string p.1]) (v := .bool true) (hc := cu.out _ (HP.out.1.below HB3.out (Nat.le_refl _)))
                    case ho => rfl
                    case hw => rfl
                    case hop => go_simp; first | done | rfl
                    rintro X4 hb
                    refine ⟨⟨HE3.out.below hb HE3.out.lt, HA3.out.below hb HA3.out.lt, rangeAt_below HQ3.out hb (Nat.lt_of_lt_of_le hBKw.out HB3.out.size)⟩, ?_⟩
                    have HE4 := hidp (HE3.out.below hb HE3.out.lt); have HA4 := hidp (HA3.out.below hb HA3.out.lt); have HB4 := hidp (HB3.out.trans (hb.mono HB3.out.size)); have HQ4 := hidp (rangeAt_below HQ3.out hb (Nat.lt_of_lt_of_le hBKw.out HB3.out.size))
                    clear hb
                    simp only [Act.put, List.getElem_toArray, List.getElem_cons_zero, List.getElem_cons_succ, List.setIfInBounds_toArray, List.set_cons_zero, List.set_cons_succ]
                    apply s_val
                    case ho => rfl
                    case hw => rfl
                    case hv => intro w hw; obtain ⟨y0, y1⟩ := arr2 hw.1; obtain ⟨x0, x1, x2, x3, x4, x5, x6⟩ := arr7 hw.2.1; obtain ⟨z0, z1⟩ := uR_cells hw.2.2; go_simp; first | done | with_reducible rfl | rfl
                    simp only [Act.put, List.getElem_toArray, List.getElem_cons_zero, List.getElem_cons_succ, List.setIfInBounds_toArray, List.set_cons_zero, List.set_cons_succ]
                    apply s_val
                    case ho => rfl
                    case hw => rfl
                    case hv => intro w hw; obtain ⟨y0, y1⟩ := arr2 hw.1; obtain ⟨x0, x1, x2, x3, x4, x5, x6⟩ := arr7 hw.2.1; obtain ⟨z0, z1⟩ := uR_cells hw.2.2; go_simp; first | done | with_reducible rfl | rfl
                    simp only [Act.put, List.getElem_toArray, List.getElem_cons_zero, List.getElem_cons_succ, List.setIfInBounds_toArray, List.set_cons_zero, List.set_cons_succ]
                    apply s_val
                    case ho => rfl
                    case hw => rfl
                    case hv => intro w hw; obtain ⟨y0, y1⟩ := arr2 hw.1; obtain ⟨x0, x1, x2, x3, x4, x5, x6⟩ := arr7 hw.2.1; obtain ⟨z0, z1⟩ := uR_cells hw.2.2; go_simp; first | done | with_reducible rfl | rfl
                    simp only [Act.put, List.getElem_toArray, List.getElem_cons_zero, List.getElem_cons_succ, List.setIfInBounds_toArray, List.set_cons_zero, List.set_cons_succ]
                    apply s_val
                    case ho => rfl
                    case hw => rfl
                    case hv => intro w hw; obtain ⟨y0, y1⟩ := arr2 hw.1; obtain ⟨x0, x1, x2, x3, x4, x5, x6⟩ := arr7 hw.2.1; obtain ⟨z0, z1⟩ := uR_cells hw.2.2; go_simp; first | done | with_reducible rfl | rfl
                    simp only [Act.put, List.getElem_toArray, List.getElem_cons_zero, List.getElem_cons_succ, List.setIfInBounds_toArray, List.set_cons_zero, List.set_cons_succ]
                    apply o_call (f := 71) (args := #[.int .i64 p.2]) (v := .bool true) (hc := ci.out _)
                    case ho => rfl
                    case hw => rfl
                    case hop => go_simp; first | done | rfl
                    rintro X5 hb
                    refine ⟨⟨HE4.out.below hb HE4.out.lt, HA4.out.below hb HA4.out.lt, rangeAt_below HQ4.out hb (Nat.lt_of_lt_of_le hBKw.out HB4.out.size)⟩, ?_⟩
                    have HE5 := hidp (HE4.out.below hb HE4.out.lt); have HA5 := hidp (HA4.out.below hb HA4.out.lt); have HB5 := hidp (HB4.out.trans (hb.mono HB4.out.size)); have HQ5 := hidp (rangeAt_below HQ4.out hb (Nat.lt_of_lt_of_le hBKw.out HB4.out.size))
                    clear hb
                    simp only [Act.put, List.getElem_toArray, List.getElem_cons_zero, List.getElem_cons_succ, List.setIfInBounds_toArray, List.set_cons_zero, List.set_cons_succ]
                    apply s_val
                    case ho => rfl
                    case hw => rfl
                    case hv => intro w hw; obtain ⟨y0, y1⟩ := arr2 hw.1; obtain ⟨x0, x1, x2, x3, x4, x5, x6⟩ := arr7 hw.2.1; obtain ⟨z0, z1⟩ := uR_cells hw.2.2; go_simp; first | done | with_reducible rfl | rfl
                    simp only [Act.put, List.getElem_toArray, List.getElem_cons_zero, List.getElem_cons_succ, List.setIfInBounds_toArray, List.set_cons_zero, List.set_cons_succ]
                    apply s_val
                    case ho => rfl
                    case hw => rfl
                    case hv => intro w hw; obtain ⟨y0, y1⟩ := arr2 hw.1; obtain ⟨x0, x1, x2, x3, x4, x5, x6⟩ := arr7 hw.2.1; obtain ⟨z0, z1⟩ := uR_cells hw.2.2; go_simp; first | done | with_reducible rfl | rfl
                    simp only [Act.put, List.getElem_toArray, List.getElem_cons_zero, List.getElem_cons_succ, List.setIfInBounds_toArray, List.set_cons_zero, List.set_cons_succ]
                    apply s_val
                    case ho => rfl
                    case hw => rfl
                    case hv => intro w hw; obtain ⟨y0, y1⟩ := arr2 hw.1; obtain ⟨x0, x1, x2, x3, x4, x5, x6⟩ := arr7 hw.2.1; obtain ⟨z0, z1⟩ := uR_cells hw.2.2; go_simp; first | done | with_reducible rfl | rfl
                    simp only [Act.put, List.getElem_toArray, List.getElem_cons_zero, List.getElem_cons_succ, List.setIfInBounds_toArray, List.set_cons_zero, List.set_cons_succ]
                    apply s_val
                    case ho => rfl
                    case hw => rfl
                    case hv => intro w hw; obtain ⟨y0, y1⟩ := arr2 hw.1; obtain ⟨x0, x1, x2, x3, x4, x5, x6⟩ := arr7 hw.2.1; obtain ⟨z0, z1⟩ := uR_cells hw.2.2; go_simp; first | done | with_reducible rfl | rfl
                    simp only [Act.put, List.getElem_toArray, List.getElem_cons_zero, List.getElem_cons_succ, List.setIfInBounds_toArray, List.set_cons_zero, List.set_cons_succ]
                    apply s_val (v := .bool true)
                    case ho => rfl
                    case hw => rfl
                    case hv => intro w hw; have q1 := ei; go_simp; first | done | omega | with_reducible rfl | rfl
                    simp only [Act.put, List.getElem_toArray, List.getElem_cons_zero, List.getElem_cons_succ, List.setIfInBounds_toArray, List.set_cons_zero, List.set_cons_succ]
                    apply s_val
                    case ho => rfl
                    case hw => rfl
                    case hv => intro w hw; obtain ⟨y0, y1⟩ := arr2 hw.1; obtain ⟨x0, x1, x2, x3, x4, x5, x6⟩ := arr7 hw.2.1; obtain ⟨z0, z1⟩ := uR_cells hw.2.2; go_simp; first | done | with_reducible rfl | rfl
                    simp only [Act.put, List.getElem_toArray, List.getElem_cons_zero, List.getElem_cons_succ, List.setIfInBounds_toArray, List.set_cons_zero, List.set_cons_succ]
                    apply s_val
                    case ho => rfl
                    case hw => rfl
                    case hv => intro w hw; obtain ⟨y0, y1⟩ := arr2 hw.1; obtain ⟨x0, x1, x2, x3, x4, x5, x6⟩ := arr7 hw.2.1; obtain ⟨z0, z1⟩ := uR_cells hw.2.2; go_simp; first | done | with_reducible rfl | rfl
                    simp only [Act.put, List.getElem_toArray, List.getElem_cons_zero, List.getElem_cons_succ, List.setIfInBounds_toArray, List.set_cons_zero, List.set_cons_succ]
                    apply s_val
                    case ho => rfl
                    case hw => rfl
                    case hv => intro w hw; obtain ⟨y0, y1⟩ := arr2 hw.1; obtain ⟨x0, x1, x2, x3, x4, x5, x6⟩ := arr7 hw.2.1; obtain ⟨z0, z1⟩ := uR_cells hw.2.2; go_simp; first | done | with_reducible rfl | rfl
                    simp only [Act.put, List.getElem_toArray, List.getElem_cons_zero, List.getElem_cons_succ, List.setIfInBounds_toArray, List.set_cons_zero, List.set_cons_succ]
                    apply s_val
                    case ho => rfl
                    case hw => rfl
                    case hv => intro w hw; obtain ⟨y0, y1⟩ := arr2 hw.1; obtain ⟨x0, x1, x2, x3, x4, x5, x6⟩ := arr7 hw.2.1; obtain ⟨z0, z1⟩ := uR_cells hw.2.2; go_simp; first | done | with_reducible rfl | rfl
                    simp only [Act.put, List.getElem_toArray, List.getElem_cons_zero, List.getElem_cons_succ, List.setIfInBounds_toArray, List.set_cons_zero, List.set_cons_succ]
                    apply s_val (v := .int .i64 ((i - 1 : Nat) : Int))
                    case ho => rfl
                    case hw => rfl
                    case hv => intro w hw; have q1 := hwi; go_simp; first | done | with_reducible rfl | rfl
                    simp only [Act.put, List.getElem_toArray, List.getElem_cons_zero, List.getElem_cons_succ, List.setIfInBounds_toArray, List.set_cons_zero, List.set_cons_succ]
                    refine s_idxR tyU rfl rfl (.tmp 43) (.tmp 45) rfl BK off n _ (i - 1) rfl rfl (by omega) ?_
                    simp only [Act.put, List.getElem_toArray, List.getElem_cons_zero, List.getElem_cons_succ, List.setIfInBounds_toArray, List.set_cons_zero, List.set_cons_succ]
                    apply s_val
                    case ho => rfl
                    case hw => rfl
                    case hv => intro w hw; obtain ⟨y0, y1⟩ := arr2 hw.1; obtain ⟨x0, x1, x2, x3, x4, x5, x6⟩ := arr7 hw.2.1; obtain ⟨z0, z1⟩ := uR_cells hw.2.2; go_simp; first | done | with_reducible rfl | rfl
                    simp only [Act.put, List.getElem_toArray, List.getElem_cons_zero, List.getElem_cons_succ, List.setIfInBounds_toArray, List.set_cons_zero, List.set_cons_succ]
                    apply s_val
                    case ho => rfl
                    case hw => rfl
                    case hv => intro w hw; obtain ⟨y0, y1⟩ := arr2 hw.1; obtain ⟨x0, x1, x2, x3, x4, x5, x6⟩ := arr7 hw.2.1; obtain ⟨z0, z1⟩ := uR_cells hw.2.2; go_simp; first | done | with_reducible rfl | rfl
                    simp only [Act.put, List.getElem_toArray, List.getElem_cons_zero, List.getElem_cons_succ, List.setIfInBounds_toArray, List.set_cons_zero, List.set_cons_succ]
                    apply s_val
                    case ho => rfl
                    case hw => rfl
                    case hv => intro w hw; obtain ⟨y0, y1⟩ := arr2 hw.1; obtain ⟨x0, x1, x2, x3, x4, x5, x6⟩ := arr7 hw.2.1; obtain ⟨z0, z1⟩ := uR_cells hw.2.2; go_simp; first | done | with_reducible rfl | rfl
                    simp only [Act.put, List.getElem_toArray, List.getElem_cons_zero, List.getElem_cons_succ, List.setIfInBounds_toArray, List.set_cons_zero, List.set_cons_succ]
                    apply s_val
                    case ho => rfl
                    case hw => rfl
                    case hv => intro w hw; obtain ⟨y0, y1⟩ := arr2 hw.1; obtain ⟨x0, x1, x2, x3, x4, x5, x6⟩ := arr7 hw.2.1; obtain ⟨z0, z1⟩ := uR_cells hw.2.2; go_simp; first | done | with_reducible rfl | rfl
                    simp only [Act.put, List.getElem_toArray, List.getElem_cons_zero, List.getElem_cons_succ, List.setIfInBounds_toArray, List.set_cons_zero, List.set_cons_succ]
                    apply s_val
                    case ho => rfl
                    case hw => rfl
                    case hv => intro w hw; obtain ⟨y0, y1⟩ := arr2 hw.1; obtain ⟨x0, x1, x2, x3, x4, x5, x6⟩ := arr7 hw.2.1; obtain ⟨z0, z1⟩ := uR_cells hw.2.2; go_simp; first | done | with_reducible rfl | rfl
                    simp only [Act.put, List.getElem_toArray, List.getElem_cons_zero, List.getElem_cons_succ, List.setIfInBounds_toArray, List.set_cons_zero, List.set_cons_succ]
                    apply s_val
                    case ho => rfl
                    case hw => rfl
                    case hv => intro w hw; obtain ⟨y0, y1⟩ := arr2 hw.1; obtain ⟨x0, x1, x2, x3, x4, x5, x6⟩ := arr7 hw.2.1; obtain ⟨z0, z1⟩ := uR_cells hw.2.2; go_simp; first | done | with_reducible rfl | rfl
                    simp only [Act.put, List.getElem_toArray, List.getElem_cons_zero, List.getElem_cons_succ, List.setIfInBounds_toArray, List.set_cons_zero, List.set_cons_succ]
                    apply s_val
                    case ho => rfl
                    case hw => rfl
                    case hv => intro w hw; obtain ⟨y0, y1⟩ := arr2 hw.1; obtain ⟨x0, x1, x2, x3, x4, x5, x6⟩ := arr7 hw.2.1; obtain ⟨z0, z1⟩ := uR_cells hw.2.2; go_simp; first | done | with_reducible rfl | rfl
                    simp only [Act.put, List.getElem_toArray, List.getElem_cons_zero, List.getElem_cons_succ, List.setIfInBounds_toArray, List.set_cons_zero, List.set_cons_succ]
                    refine NoPanic.normal ?_
                    have HBZ := HB5; have HAZ := HA5
                    go_wp2_with fail
                    exact ⟨⟨_, _, _, _, _, _, _, _, _, _, _, _, _, _, _, _, _, _, _, _, _, _, _, _, _, _, _, _, _, _, _, _, _, _, _, ⟨i + 1, by go_num, by omega, HOK2.out, HBZ.out, HAZ.out⟩, rfl⟩, by simp [intOf]; omega⟩
          · have e1 : decide ((i : Int) < (n : Int)) = false := by simp; omega
            have hin : i = n := by omega
            have HF := hidp (show lvE l = 0 from if_pos (by unfold lvOk; rw [H6.out, HN.out, ← hin, HOK.out, decide_eq_true (show i ≤ 16 by omega)]; rfl))
            go_wp2_with fail
            go_ret
            exact ⟨by rw [HF.out]; rfl, HB.out⟩
end Go.Proofs.YtiakfopdohcigaaGreatDoor
