
/-
  power: the six numbers, a user's own number, Of.
-/
import Derived.Test.YtiakfopdohcigaaGreatDoorPwA
namespace Go.Proofs.YtiakfopdohcigaaGreatDoor
set_option maxRecDepth 100000
set_option linter.unusedVariables false
set_option linter.unusedSimpArgs false
open Go.RowKit Rw


set_option maxHeartbeats 4000000 in
theorem numbersOf_any (w : World) (l : Lv) (v : Value) :
    Calls Tryz.prog 60 #[.agg #[.int .i64 l.a, .int .i64 l.s, .int .i64 l.i, .int .i64 l.k, .int .i64 l.b, .int .i64 l.r, v]] w fun e w' => e = .returned (.agg #[.int .i64 l.a, .int .i64 l.s, .int .i64 l.i, .int .i64 l.k, .int .i64 l.b, .int .i64 l.r]) ∧ Below w.heap.size w w' := by
  go_enter Tryz.func60, Tryz.ntmps60
  go_wp2_with (first | (refine Rt.wpL_box 37 rfl (.tmp 0) rfl [.int .i64 l.a, .int .i64 l.s, .int .i64 l.i, .int .i64 l.k, .int .i64 l.b, .int .i64 l.r, v] rfl ?_; intro b1 w1 n1; have HB1 := hidp n1.below; have hg_b1 := hidp n1.le; have HA1 := hidp n1.arr; clear n1) | (refine Rt.wpL_new tyN (some 2) rfl rfl rfl ?_; intro b2 w2 n2; have HB2 := hidp (HB1.out.trans (n2.below.mono HB1.out.size)); have hg_b2 := hidp (Nat.le_trans HB1.out.size n2.le); have HA2 := hidp (n2.old HA1.out); have hl_HA_b2 := hidp (show b1 < b2 from by have := n2.at_; have := HA1.out.lt; omega); have HN2 := hidp n2.arr; clear n2 HA1 HB1; obtain ⟨x0, x1, x2, x3, x4, x5, x6⟩ := arr7 HA2.out) | (refine Rt.wpL_put tyN rfl (.tmp 2) (.tmp 15) rfl b2 [.int .i64 l.a, .int .i64 l.s, .int .i64 l.i, .int .i64 l.k, .int .i64 l.b, .int .i64 l.r] rfl rfl rfl (by simp [Value.oneCell']) zN rfl HN2.out ?_; intro w3 ha hp; have HB3 := hidp (hp.below' HB2.out hg_b2.out); have HA3 := hidp (hp.arr (by have := hl_HA_b2.out; omega) HA2.out); have HN3 := hidp ha; clear ha hp HB2 HA2 HN2))
  refine bodyPost_ret (results_cell_row (P := Tryz.prog) (p := 2) (ty := 85) Tryz.results60 _ _ b2 85 ([.int .i64 l.a, .int .i64 l.s, .int .i64 l.i, .int .i64 l.k, .int .i64 l.b, .int .i64 l.r] : List Value).toArray (0, 0) _ rfl HN3.out Tryz.underlying85 rfl (tyN.size rfl)) rfl ⟨rfl, HB3.out⟩

set_option maxHeartbeats 4000000 in
theorem levelsOf_any (w : World) (l : Lv) :
    Calls Tryz.prog 67 #[.agg #[.int .i64 l.a, .int .i64 l.s, .int .i64 l.i, .int .i64 l.k, .int .i64 l.b, .int .i64 l.r]] w fun e w' => e = .returned (.agg #[.int .i64 l.a, .int .i64 l.s, .int .i64 l.i, .int .i64 l.k, .int .i64 l.b, .int .i64 l.r, .slice none 0 0]) ∧ Below w.heap.size w w' := by
  go_enter Tryz.func67, Tryz.ntmps67
  go_wp2_with (first | (refine Rt.wpL_box 85 rfl (.tmp 0) rfl [.int .i64 l.a, .int .i64 l.s, .int .i64 l.i, .int .i64 l.k, .int .i64 l.b, .int .i64 l.r] rfl ?_; intro b1 w1 n1; have HB1 := hidp n1.below; have hg_b1 := hidp n1.le; have HA1 := hidp n1.arr; clear n1) | (refine Rt.wpL_new tyL (some 2) rfl rfl rfl ?_; intro b2 w2 n2; have HB2 := hidp (HB1.out.trans (n2.below.mono HB1.out.size)); have hg_b2 := hidp (Nat.le_trans HB1.out.size n2.le); have HA2 := hidp (n2.old HA1.out); have hl_HA_b2 := hidp (show b1 < b2 from by have := n2.at_; have := HA1.out.lt; omega); have HN2 := hidp n2.arr; clear n2 HA1 HB1; obtain ⟨x0, x1, x2, x3, x4, x5⟩ := arr6n HA2.out) | (refine Rt.wpL_put tyL rfl (.tmp 2) (.tmp 15) rfl b2 [.int .i64 l.a, .int .i64 l.s, .int .i64 l.i, .int .i64 l.k, .int .i64 l.b, .int .i64 l.r, .slice none 0 0] rfl rfl rfl (by simp [Value.oneCell']) zL rfl HN2.out ?_; intro w3 ha hp; have HB3 := hidp (hp.below' HB2.out hg_b2.out); have HA3 := hidp (hp.arr (by have := hl_HA_b2.out; omega) HA2.out); have HN3 := hidp ha; clear ha hp HB2 HA2 HN2))
  refine bodyPost_ret (results_cell_row (P := Tryz.prog) (p := 2) (ty := 37) Tryz.results67 _ _ b2 37 ([.int .i64 l.a, .int .i64 l.s, .int .i64 l.i, .int .i64 l.k, .int .i64 l.b, .int .i64 l.r, .slice none 0 0] : List Value).toArray (0, 0) _ rfl HN3.out Tryz.underlying37 rfl (tyL.size rfl)) rfl ⟨rfl, HB3.out⟩

set_option maxHeartbeats 8000000 in
theorem own_any (w : World) (l : Lv) (v : Value) (u : ByteArray) (hv : UsAt w v l.us) :
    Calls Tryz.prog 75 #[.agg #[.int .i64 l.a, .int .i64 l.s, .int .i64 l.i, .int .i64 l.k, .int .i64 l.b, .int .i64 l.r, v], .string u] w fun e w' => e = .returned (ownV (ownL l.us u)) ∧ Below w.heap.size w w' := by
  obtain ⟨us, hus⟩ : ∃ us, l.us = us := ⟨_, rfl⟩
  rw [hus] at hv ⊢
  clear hus
  have HV := hidp hv; clear hv
  obtain ⟨av, cv, rfl⟩ := HV.out.form
  obtain ⟨n, hn⟩ : ∃ n, us.length = n := ⟨_, rfl⟩
  have HN := hidp hn
  have hn47 := HV.out.len
  rw [hn] at HV hn47 ⊢
  clear hn
  go_enter Tryz.func75, Tryz.ntmps75
  go_wp2_with (refine Rt.wpL_box 37 rfl (.tmp 0) rfl [.int .i64 l.a, .int .i64 l.s, .int .i64 l.i, .int .i64 l.k, .int .i64 l.b, .int .i64 l.r, .slice av n cv] rfl ?_; intro b1 w1 n1; have HB1 := hidp n1.below; have hg_b1 := hidp n1.le; have HA1 := hidp n1.arr; clear n1; obtain ⟨x0, x1, x2, x3, x4, x5, x6⟩ := arr7 HA1.out)
  go_loopw [11] (fun t11 wr => ∃ i : Nat, t11 = .int .i64 (i : Int) ∧ i ≤ n ∧ ownL us u = ownL (us.drop i) u ∧ Below w.heap.size w wr ∧ Arr wr b1 37 [.int .i64 l.a, .int .i64 l.s, .int .i64 l.i, .int .i64 l.k, .int .i64 l.b, .int .i64 l.r, .slice av n cv]) (fun t11 _ => n - (intOf t11).toNat)
  case atStart => exact ⟨0, rfl, by omega, rfl, HB1.out, HA1.out⟩
  case round =>
    obtain ⟨i, rfl, hi, hok, hb, ha⟩ := hrel
    have HOK := hidp hok; have HB := hidp hb; have HA := hidp ha
    clear x0 x1 x2 x3 x4 x5 x6
    clear hok hb ha
    obtain ⟨x0, x1, x2, x3, x4, x5, x6⟩ := arr7 HA.out
    by_cases hlt : i < n
    · have e1 : decide ((i : Int) < (n : Int)) = true := by simp; omega
      have hgl : i < us.length := by rw [HN.out]; exact hlt
      obtain ⟨BK, off, c, e2, hc, hBK0, hR0⟩ := HV.out.get (by rw [HN.out]; omega)
      rw [HN.out] at e2
      simp only [Value.slice.injEq] at e2
      obtain ⟨rfl, -, rfl⟩ := e2
      have hBK := hidp (show BK < wr.heap.size from Nat.lt_of_lt_of_le hBK0 HB.out.size)
      obtain ⟨p, hpe0⟩ : ∃ p, us[i] = p := ⟨_, rfl⟩
      have HRI := hidp (show wr.rangeAt BK (off + 2 * i) (uR p) from by rw [← hpe0]; exact rangeAt_below (hR0 i hgl) HB.out hBK0)
      have HST := hidp (own_step (u := u) hgl)
      rw [hpe0] at HST
      clear hR0 hBK0 hpe0 hc
      cases hq : (p.1.toList == u.toList) with
      | true =>
        have HF := hidp (show ownL us u = some p.2 from by rw [HOK.out, HST.out, if_pos hq])
        clear x0 x1 x2 x3 x4 x5 x6
        go_wp2_with (first | (refine wpL_idxR tyU rfl (.tmp 9) (.tmp 11) rfl BK off n _ i rfl rfl hlt ?_) | (refine wpL_atR tyU rfl (.tmp 13) rfl BK (off + 2 * i) (uR p) rfl rfl HRI.out ?_) | (refine Rt.wpL_new tyP (some 7) rfl rfl rfl ?_; intro b7 wq1 n1; have HB1 := hidp (HB.out.trans (n1.below.mono HB.out.size)); have hbw := hidp (Nat.le_trans HB.out.size n1.le); have HA1 := hidp (n1.old HA.out); have hab := hidp (show b1 < b7 from by have := n1.at_; have := HA.out.lt; omega)) | (refine Rt.wpL_put tyP rfl (.tmp 7) (.tmp 14) rfl b7 (uR p) rfl rfl rfl (uR_one p) zU rfl n1.arr ?_; intro wq2 ha hp; have HB2 := hidp (hp.below' HB1.out hbw.out); have HE2 := hidp (show Arr wq2 b7 83 [.string p.1, .int .i64 p.2] from ha); have HA2 := hidp (hp.arr (by have := hab.out; omega) HA1.out); obtain ⟨y0, y1⟩ := arr2 HE2.out; clear ha hp n1 HB1 HA1))
        go_ret2
        exact ⟨by rw [HF.out]; rfl, HB2.out⟩
      | false =>
        have HF := hidp (show ownL us u = ownL (us.drop (i + 1)) u from by rw [HOK.out, HST.out, if_neg (by rw [hq]; exact Bool.false_ne_true)])
        clear x0 x1 x2 x3 x4 x5 x6
        go_wp2_with (first | (refine wpL_idxR tyU rfl (.tmp 9) (.tmp 11) rfl BK off n _ i rfl rfl hlt ?_) | (refine wpL_atR tyU rfl (.tmp 13) rfl BK (off + 2 * i) (uR p) rfl rfl HRI.out ?_) | (refine Rt.wpL_new tyP (some 7) rfl rfl rfl ?_; intro b7 wq1 n1; have HB1 := hidp (HB.out.trans (n1.below.mono HB.out.size)); have hbw := hidp (Nat.le_trans HB.out.size n1.le); have HA1 := hidp (n1.old HA.out); have hab := hidp (show b1 < b7 from by have := n1.at_; have := HA.out.lt; omega)) | (refine Rt.wpL_put tyP rfl (.tmp 7) (.tmp 14) rfl b7 (uR p) rfl rfl rfl (uR_one p) zU rfl n1.arr ?_; intro wq2 ha hp; have HB2 := hidp (hp.below' HB1.out hbw.out); have HE2 := hidp (show Arr wq2 b7 83 [.string p.1, .int .i64 p.2] from ha); have HA2 := hidp (hp.arr (by have := hab.out; omega) HA1.out); obtain ⟨y0, y1⟩ := arr2 HE2.out; clear ha hp n1 HB1 HA1))
        exact ⟨⟨i + 1, by go_num, by omega, HF.out, HB2.out, HA2.out⟩, by simp [intOf]; omega⟩
    · have e1 : decide ((i : Int) < (n : Int)) = false := by simp; omega
      have HF := hidp (show ownL us u = none from by rw [HOK.out, List.drop_eq_nil_of_le (by rw [HN.out]; omega)]; rfl)
      go_wp2_with fail
      go_ret2
      exact ⟨by rw [HF.out]; rfl, HB.out⟩

set_option maxHeartbeats 4000000 in
theorem of_any (w : World) (l : Lv) (v : Value) (u : ByteArray) (hv : UsAt w v l.us) :
    Calls Tryz.prog 27 #[.agg #[.int .i64 l.a, .int .i64 l.s, .int .i64 l.i, .int .i64 l.k, .int .i64 l.b, .int .i64 l.r, v], .string u] w fun e w' => e = .returned (.int .i64 (ofL l u)) ∧ Below w.heap.size w w' := by
  have HV := hidp hv
  have c := hidp (fun W h => own_any W l v u h)
  clear hv
  cases hq : ownL l.us u with
  | none =>
    rw [hq] at c
    have HF := hidp (show ofL l u = l.a from by unfold ofL; rw [hq]; rfl)
    simp only [ownV] at c
    go_enter Tryz.func27, Tryz.ntmps27
    go_wp2_with (first | (refine Rt.wpL_box 37 rfl (.tmp 0) rfl [.int .i64 l.a, .int .i64 l.s, .int .i64 l.i, .int .i64 l.k, .int .i64 l.b, .int .i64 l.r, v] rfl ?_; intro b2 w1 n1; have HB1 := hidp n1.below; have hg_b2 := hidp n1.le; have HA1 := hidp n1.arr; clear n1) | (refine Rt.wpL_get tyL rfl (.tmp 2) rfl b2 [.int .i64 l.a, .int .i64 l.s, .int .i64 l.i, .int .i64 l.k, .int .i64 l.b, .int .i64 l.r, v] rfl rfl HA1.out ?_) | (go_at_call 75; refine (c.out _ (HV.out.to HB1.out)).mono ?_; rintro e w2 ⟨rfl, hb⟩; have HB2 := hidp (HB1.out.trans (hb.mono HB1.out.size)); have HA2 := hidp (HA1.out.below hb HA1.out.lt); clear hb HB1 HA1; obtain ⟨x0, x1, x2, x3, x4, x5, x6⟩ := arr7 HA2.out))
    go_ret
    exact ⟨by rw [HF.out]; rfl, HB2.out⟩
  | some n =>
    rw [hq] at c
    have HF := hidp (show ofL l u = n from by unfold ofL; rw [hq]; rfl)
    simp only [ownV] at c
    go_enter Tryz.func27, Tryz.ntmps27
    go_wp2_with (first | (refine Rt.wpL_box 37 rfl (.tmp 0) rfl [.int .i64 l.a, .int .i64 l.s, .int .i64 l.i, .int .i64 l.k, .int .i64 l.b, .int .i64 l.r, v] rfl ?_; intro b2 w1 n1; have HB1 := hidp n1.below; have hg_b2 := hidp n1.le; have HA1 := hidp n1.arr; clear n1) | (refine Rt.wpL_get tyL rfl (.tmp 2) rfl b2 [.int .i64 l.a, .int .i64 l.s, .int .i64 l.i, .int .i64 l.k, .int .i64 l.b, .int .i64 l.r, v] rfl rfl HA1.out ?_) | (go_at_call 75; refine (c.out _ (HV.out.to HB1.out)).mono ?_; rintro e w2 ⟨rfl, hb⟩; have HB2 := hidp (HB1.out.trans (hb.mono HB1.out.size)); have HA2 := hidp (HA1.out.below hb HA1.out.lt); clear hb HB1 HA1; obtain ⟨x0, x1, x2, x3, x4, x5, x6⟩ := arr7 HA2.out))
    go_ret
    exact ⟨by rw [HF.out]; rfl, HB2.out⟩
end Go.Proofs.YtiakfopdohcigaaGreatDoor
