/-
  Joined: RaA.
-/
import Derived.Test.YtfenjincbhkodaaDoorUG
import Derived.Test.YtfenjincbhkodaaDoorUI
import Derived.Deep.Cut
namespace Go.Proofs.YtfenjincbhkodaaDoor.Bk
set_option maxRecDepth 100000
set_option linter.unusedVariables false
set_option linter.unusedSimpArgs false
open Go.RowKit
open List (getElem_toArray getElem_cons_zero getElem_cons_succ setIfInBounds_toArray set_cons_zero set_cons_succ)
open Rw

set_option maxHeartbeats 16000000 in
theorem radd_any (w : World) (v : Value) (gs : List Gr) (hv : GsAt w v gs) (g : Gr) (hgok : g.ok) :
    Calls Tryd.prog 8 #[v, .agg g.row.toArray] w fun e w' => ∃ v', e = .returned (.tuple #[v', .int .i64 (adE gs g)]) ∧ OwnR 26 36 w' w.heap.size v' (rows (adL gs g)) ∧ Below w.heap.size w w' := by
  have HV := hidp hv; clear hv
  have ck := hidp (fun W v (h : GsAt W v gs) => rbcheck_any W v gs h)
  have cv := hidp (fun W => rvalid_any W g)
  have HO1 := hidp (rows_one gs)
  have hrl := hidp (rows_len gs)
  obtain ⟨av, cv0, rfl⟩ := HV.out.form
  obtain ⟨n, hnn⟩ : ∃ n, gs.length = n := ⟨_, rfl⟩
  have HN := hidp hnn
  rw [hnn] at HV hrl ⊢
  cases hok : okB gs with
  | false =>
    have hc : ckB gs = 2 := by unfold ckB; rw [hok]; rfl
    have HF := hidp (show rows (adL gs g) = [] from by unfold adL; rw [hok]; rfl)
    have hE : adE gs g = 2 := by unfold adE; rw [hok]; rfl
    rw [hc] at ck
    rw [hE]
    clear hc hok hE hnn
    have H := hidp (Mm.M.nil w)
    go_enter Tryd.func8, Tryd.ntmps8
    have tk0 := hidp trivial
    go_wp2_with (first | (clear tk0; (refine Mm.box 26 H rfl (.tmp 1) rfl g.row rfl ?_; clear H; intro b3 _ H nw; have hb := nw.below; clear hb nw); (try simp only [Act.put, setIfInBounds_toArray, set_cons_zero, set_cons_succ]); have tk1 := hidp trivial) | (clear tk1; (go_at_call 11; refine (ck.out _ _ (HV.out.to H.out.below)).mono ?_; rintro e _ ⟨rfl, hb⟩; replace H := hidp (H.out.call hb); clear ck; clear hb); (try simp only [Act.put, setIfInBounds_toArray, set_cons_zero, set_cons_succ]); have tk2 := hidp trivial))
    try clear tk2
    go_ret2
    exact ⟨_, rfl, by rw [HF.out]; exact OwnR.nil _ _, H.out.below⟩
  | true =>
    have hc : ckB gs = 0 := by unfold ckB; rw [hok]; rfl
    have hn256 : n ≤ 256 := by unfold okB at hok; rw [Bool.and_eq_true, decide_eq_true_eq] at hok; omega
    have HOKB := hidp hok
    rw [hc] at ck
    cases hvg : vG g with
    | false =>
      have HF := hidp (show adL gs g = gs from by unfold adL; rw [hok, hvg]; rfl)
      have hE : adE gs g = 2 := by unfold adE; rw [hok, hvg]; rfl
      rw [hvg] at cv
      rw [hE]
      clear hc hok hE hvg hnn
      have H := hidp (Mm.M.nil w)
      go_enter Tryd.func8, Tryd.ntmps8
      have tk0 := hidp trivial
      go_upto_region 4 with (first | (clear tk0; (refine Mm.box 26 H rfl (.tmp 1) rfl g.row rfl ?_; clear H; intro b3 _ H nw; have hb := nw.below; clear hb nw); (try simp only [Act.put, setIfInBounds_toArray, set_cons_zero, set_cons_succ]); have tk1 := hidp trivial) | (clear tk1; (go_at_call 11; refine (ck.out _ _ (HV.out.to H.out.below)).mono ?_; rintro e _ ⟨rfl, hb⟩; replace H := hidp (H.out.call hb); clear ck; clear hb); (try simp only [Act.put, setIfInBounds_toArray, set_cons_zero, set_cons_succ]); have tk2 := hidp trivial) | (clear tk2; (refine Mm.get0 rtG H rfl (.tmp 3) rfl rfl (Gr.len hgok) ?_); (try simp only [Act.put, setIfInBounds_toArray, set_cons_zero, set_cons_succ]); have tk3 := hidp trivial) | (clear tk3; (go_at_call 41; refine (cv.out _).mono ?_; rintro e _ ⟨rfl, hb⟩; replace H := hidp (H.out.call hb); clear cv; clear hb); (try simp only [Act.put, setIfInBounds_toArray, set_cons_zero, set_cons_succ]); have tk4 := hidp trivial))
      try clear tk4
      have HB := hidp H.out.below; clear H
      go_wp2_with (first | (refine wpL_bs0R tyG rfl rfl ?_; intro bx wx nx; have HEx := hidp (OwnR.empty (k := 36) (B := w.heap.size) nx.arr (Nat.le_trans HB.out.size nx.le)); have HBx := hidp (HB.out.trans (nx.below.mono HB.out.size)); clear nx) | (refine wpL_appRs tyG rfl (.tmp 16) (.tmp 17) rfl w.heap.size _ _ [] (rows gs) rfl rfl HEx.out (HV.out.to HBx.out).1 HO1.out HBx.out.size (by simp only [List.length_nil]; rw [hrl.out]; omega) ?_; intro vy wy hoy hby; have HOy := hidp hoy; have HBy := hidp (HBx.out.trans (hby.mono (Nat.le_refl _))); clear hoy hby))
      go_ret2
      exact ⟨_, rfl, by rw [HF.out]; exact HOy.out, HBy.out⟩
    | true =>
      have HVG := hidp hvg
      rw [hvg] at cv
      by_cases h256 : n = 256
      · have HF := hidp (show adL gs g = gs from by unfold adL; rw [hok, hvg, if_pos rfl, if_pos rfl, if_pos (by omega)])
        have hE : adE gs g = 8 := by unfold adE; rw [hok, hvg, if_pos rfl, if_pos rfl, if_pos (by omega)]
        have e256 : ((n : Int) == 256) = true := by simp; omega
        rw [hE]
        clear hc hok hE hvg hnn h256
        have H := hidp (Mm.M.nil w)
        go_enter Tryd.func8, Tryd.ntmps8
        have tk0 := hidp trivial
        go_upto_region 6 with (first | (clear tk0; (refine Mm.box 26 H rfl (.tmp 1) rfl g.row rfl ?_; clear H; intro b3 _ H nw; have hb := nw.below; clear hb nw); (try simp only [Act.put, setIfInBounds_toArray, set_cons_zero, set_cons_succ]); have tk1 := hidp trivial) | (clear tk1; (go_at_call 11; refine (ck.out _ _ (HV.out.to H.out.below)).mono ?_; rintro e _ ⟨rfl, hb⟩; replace H := hidp (H.out.call hb); clear ck; clear hb); (try simp only [Act.put, setIfInBounds_toArray, set_cons_zero, set_cons_succ]); have tk2 := hidp trivial) | (clear tk2; (refine Mm.get0 rtG H rfl (.tmp 3) rfl rfl (Gr.len hgok) ?_); (try simp only [Act.put, setIfInBounds_toArray, set_cons_zero, set_cons_succ]); have tk3 := hidp trivial) | (clear tk3; (go_at_call 41; refine (cv.out _).mono ?_; rintro e _ ⟨rfl, hb⟩; replace H := hidp (H.out.call hb); clear cv; clear hb); (try simp only [Act.put, setIfInBounds_toArray, set_cons_zero, set_cons_succ]); have tk4 := hidp trivial))
        try clear tk4
        have HB := hidp H.out.below; clear H
        go_wp2_with (first | (refine wpL_bs0R tyG rfl rfl ?_; intro bx wx nx; have HEx := hidp (OwnR.empty (k := 36) (B := w.heap.size) nx.arr (Nat.le_trans HB.out.size nx.le)); have HBx := hidp (HB.out.trans (nx.below.mono HB.out.size)); clear nx) | (refine wpL_appRs tyG rfl (.tmp 22) (.tmp 23) rfl w.heap.size _ _ [] (rows gs) rfl rfl HEx.out (HV.out.to HBx.out).1 HO1.out HBx.out.size (by simp only [List.length_nil]; rw [hrl.out]; omega) ?_; intro vy wy hoy hby; have HOy := hidp hoy; have HBy := hidp (HBx.out.trans (hby.mono (Nat.le_refl _))); clear hoy hby))
        go_ret2
        exact ⟨_, rfl, by rw [HF.out]; exact HOy.out, HBy.out⟩
      · have e256 : ((n : Int) == 256) = false := by simp; omega
        have n256 : ¬ n = 256 := h256
        obtain ⟨fi, hfi⟩ : ∃ fi, (gs.findIdx fun x => fol x g) = fi := ⟨_, rfl⟩
        have HFI := hidp hfi
        have hfl := hidp (show fi ≤ n from by rw [← hfi, ← hnn]; exact List.findIdx_le_length)
        obtain ⟨E0, hE0⟩ : ∃ E0, adE gs g = E0 := ⟨_, rfl⟩
        rw [hE0]
        have HFm := hidp (show 0 ≤ posP (fun x => mt x g) gs → adL gs g = gs ∧ E0 = 4 from fun hm => ⟨by unfold adL; rw [hok, hvg, if_pos rfl, if_pos rfl, if_neg (by omega), if_pos hm], by rw [← hE0]; unfold adE; rw [hok, hvg, if_pos rfl, if_pos rfl, if_neg (by omega), if_pos hm]⟩)
        have HFo := hidp (show ¬ 0 ≤ posP (fun x => mt x g) gs → rows (adL gs g) = (rows gs).take fi ++ [g.row] ++ (rows gs).drop fi ∧ E0 = 0 from fun hm => ⟨by unfold adL; rw [hok, hvg, if_pos rfl, if_pos rfl, if_neg (by omega), if_neg hm, hfi, rows_ins], by rw [← hE0]; unfold adE; rw [hok, hvg, if_pos rfl, if_pos rfl, if_neg (by omega), if_neg hm]⟩)
        have hgt := hidp (vG_ft hvg)
        clear hc hok hvg hnn h256 hfi hE0
        have H := hidp (Mm.M.nil w)
        go_enter Tryd.func8, Tryd.ntmps8
        have tk0 := hidp trivial
        go_wp2_with (first | (clear tk0; (refine Mm.box 26 H rfl (.tmp 1) rfl g.row rfl ?_; clear H; intro b3 _ H nw; have hb := nw.below; clear hb nw); (try simp only [Act.put, setIfInBounds_toArray, set_cons_zero, set_cons_succ]); have tk1 := hidp trivial) | (clear tk1; (go_at_call 11; refine (ck.out _ _ (HV.out.to H.out.below)).mono ?_; rintro e _ ⟨rfl, hb⟩; replace H := hidp (H.out.call hb); clear ck; clear hb); (try simp only [Act.put, setIfInBounds_toArray, set_cons_zero, set_cons_succ]); have tk2 := hidp trivial) | (clear tk2; (refine Mm.get0 rtG H rfl (.tmp 3) rfl rfl (Gr.len hgok) ?_); (try simp only [Act.put, setIfInBounds_toArray, set_cons_zero, set_cons_succ]); have tk3 := hidp trivial) | (clear tk3; (go_at_call 41; refine (cv.out _).mono ?_; rintro e _ ⟨rfl, hb⟩; replace H := hidp (H.out.call hb); clear cv; clear hb); (try simp only [Act.put, setIfInBounds_toArray, set_cons_zero, set_cons_succ]); have tk4 := hidp trivial))
        try clear tk4
        have HB0 := hidp H.out
        go_loopw [6, 27] (fun t6 t27 wr => ∃ i m : Nat, t27 = .int .i64 (i : Int) ∧ t6 = .int .i64 (m : Int) ∧ i ≤ n ∧ m ≤ i ∧ Hid (m = min i fi) ∧ Hid (∀ j, j < i → (hj : j < gs.length) → mt gs[j] g = false) ∧ Mm.M w.heap.size w wr [⟨b3, 26, g.row⟩]) (fun _ t27 _ => n - (intOf t27).toNat)
        case atStart => exact ⟨0, 0, rfl, rfl, by omega, by omega, hidp (by simp), hidp (fun j h => absurd h (Nat.not_lt_zero _)), HB0.out⟩
        case round =>
          obtain ⟨i, m, rfl, rfl, hi, hmi, HM, HOK, hM⟩ := hrel
          clear H HB0
          have H := hidp hM
          clear hM
          by_cases hlt : i < n
          · have e1 : decide ((i : Int) < (n : Int)) = true := by simp; omega
            have hgl : i < gs.length := by rw [HN.out]; exact hlt
            obtain ⟨BK, off, c, e2, hc, hBK0, hR0⟩ := HV.out.get (by rw [HN.out]; omega)
            rw [HN.out] at e2
            simp only [Value.slice.injEq] at e2
            obtain ⟨rfl, -, rfl⟩ := e2
            obtain ⟨x, hxe⟩ : ∃ x, gs[i] = x := ⟨_, rfl⟩
            have HXE := hidp hxe
            have HRI := hidp (show wr.rangeAt BK (off + 36 * i) x.row from by rw [← hxe]; exact rangeAt_below (hR0 i hgl) H.out.below hBK0)
            have hxok := hidp (show x.ok from by rw [← hxe]; exact HV.out.2 _ (List.getElem_mem hgl))
            have hxt := hidp (show x.f ≤ x.t from by rw [← hxe]; exact vG_ft (okB_at HOKB.out hgl))
            clear hR0 hc hxe
            have hmiss := hidp (show mt x g = false → Hid (∀ j, j < i + 1 → (hj : j < gs.length) → mt gs[j] g = false) from fun hq => hidp (fun j h hj => by
              rcases (by omega : j < i ∨ j = i) with h | rfl
              · exact HOK.out j h hj
              · rw [HXE.out]; exact hq))
            have hps := hidp (show ∀ b : Bool, mt x g = false → tst x g = b → m + (if b = true then 1 else 0) = min (i + 1) fi from fun b h1 h2 => by
              have h := place_step HOKB.out HVG.out hgl (by rw [HXE.out]; exact h1)
              rw [HXE.out, h2, HFI.out, ← HM.out] at h
              exact h.symm)
            by_cases c0 : x.s = g.s
            · have d0 : (x.s == g.s) = true := by simp [c0]
              have e3 : decide (x.s < g.s) = false := by simp; omega
              by_cases c1 : x.f ≤ g.t
              · have d1 : decide (x.f ≤ g.t) = true := decide_eq_true c1
                by_cases c2 : g.f ≤ x.t
                · have d2 : decide (g.f ≤ x.t) = true := decide_eq_true c2
                  have hp : 0 ≤ posP (fun x => mt x g) gs := by
                    rw [pos_hit (p := fun x => mt x g) hgl (by show mt gs[i] g = true; rw [HXE.out]; unfold mt; simp [c0, c1, c2]) (fun j hj h => HOK.out j hj h)]; omega
                  have HF := hidp (HFm.out hp).1
                  have hE := (HFm.out hp).2
                  subst hE
                  clear hp c0 hmiss hps HFm HFo
                  have tk0 := hidp trivial
                  go_upto_region 12 with (first | (clear tk0; (refine Rw.wpL_idxR tyG rfl (.tmp 25) (.tmp 27) rfl BK off n _ i rfl rfl hlt ?_); (try simp only [Act.put, setIfInBounds_toArray, set_cons_zero, set_cons_succ]); have tk1 := hidp trivial) | (clear tk1; (refine Rw.wpL_atR tyG rfl (.tmp 29) rfl BK (off + 36 * i) x.row rfl (Gr.len hxok.out) HRI.out ?_); (try simp only [Act.put, setIfInBounds_toArray, set_cons_zero, set_cons_succ]); have tk2 := hidp trivial) | (clear tk2; (refine Mm.new rtG H (some 8) rfl rfl rfl ?_; clear H; intro b8 _ H nw; have hb := nw.below; clear hb nw); (try simp only [Act.put, setIfInBounds_toArray, set_cons_zero, set_cons_succ]); have tk3 := hidp trivial) | (clear tk3; (refine Mm.put0 rtG H rfl (.tmp 8) (.tmp 30) x.row rfl rfl rfl (Gr.len hxok.out) (Gr.one x) rfl ?_; intro _ H2 st; clear st H; have H := H2; clear H2); (try simp only [Act.put, setIfInBounds_toArray, set_cons_zero, set_cons_succ]); have tk4 := hidp trivial) | (clear tk4; (refine Mm.ld0 naI H rfl (.tmp 31) 0 (.int .i64 x.s) rfl rfl rfl ?_); (try simp only [Act.put, setIfInBounds_toArray, set_cons_zero, set_cons_succ]); have tk5 := hidp trivial) | (clear tk5; (refine Mm.ld1 naI H rfl (.tmp 33) 0 (.int .i64 g.s) rfl rfl rfl ?_); (try simp only [Act.put, setIfInBounds_toArray, set_cons_zero, set_cons_succ]); have tk6 := hidp trivial) | (clear tk6; (refine Mm.ld0 naL H rfl (.tmp 37) 1 (.int .i64 x.f) rfl rfl rfl ?_); (try simp only [Act.put, setIfInBounds_toArray, set_cons_zero, set_cons_succ]); have tk7 := hidp trivial) | (clear tk7; (refine Mm.ld1 naL H rfl (.tmp 39) 2 (.int .i64 g.t) rfl rfl rfl ?_); (try simp only [Act.put, setIfInBounds_toArray, set_cons_zero, set_cons_succ]); have tk8 := hidp trivial) | (clear tk8; (refine Mm.ld1 naL H rfl (.tmp 44) 1 (.int .i64 g.f) rfl rfl rfl ?_); (try simp only [Act.put, setIfInBounds_toArray, set_cons_zero, set_cons_succ]); have tk9 := hidp trivial) | (clear tk9; (refine Mm.ld0 naL H rfl (.tmp 46) 2 (.int .i64 x.t) rfl rfl rfl ?_); (try simp only [Act.put, setIfInBounds_toArray, set_cons_zero, set_cons_succ]); have tk10 := hidp trivial))
                  try clear tk10
                  have HB := hidp H.out.below; clear H
                  go_wp2_with (first | (refine wpL_bs0R tyG rfl rfl ?_; intro bx wx nx; have HEx := hidp (OwnR.empty (k := 36) (B := w.heap.size) nx.arr (Nat.le_trans HB.out.size nx.le)); have HBx := hidp (HB.out.trans (nx.below.mono HB.out.size)); clear nx) | (refine wpL_appRs tyG rfl (.tmp 50) (.tmp 51) rfl w.heap.size _ _ [] (rows gs) rfl rfl HEx.out (HV.out.to HBx.out).1 HO1.out HBx.out.size (by simp only [List.length_nil]; rw [hrl.out]; omega) ?_; intro vy wy hoy hby; have HOy := hidp hoy; have HBy := hidp (HBx.out.trans (hby.mono (Nat.le_refl _))); clear hoy hby))
                  go_ret2
                  exact ⟨_, rfl, by rw [HF.out]; exact HOy.out, HBy.out⟩
                · have d2 : decide (g.f ≤ x.t) = false := decide_eq_false c2
                  have e4 : decide (x.f < g.f) = true := decide_eq_true (by have := hxt.out; omega)
                  have hmf : mt x g = false := by unfold mt; simp [c2]
                  have HOK2 := hmiss.out hmf
                  have HMM := hidp (hps.out true hmf (by unfold tst; rw [e4, decide_eq_true c0]; simp))
                  clear hmiss hps c0 hmf HFm HFo
                  have tk0 := hidp trivial
                  go_upto_region 13 with (first | (clear tk0; (refine Rw.wpL_idxR tyG rfl (.tmp 25) (.tmp 27) rfl BK off n _ i rfl rfl hlt ?_); (try simp only [Act.put, setIfInBounds_toArray, set_cons_zero, set_cons_succ]); have tk1 := hidp trivial) | (clear tk1; (refine Rw.wpL_atR tyG rfl (.tmp 29) rfl BK (off + 36 * i) x.row rfl (Gr.len hxok.out) HRI.out ?_); (try simp only [Act.put, setIfInBounds_toArray, set_cons_zero, set_cons_succ]); have tk2 := hidp trivial) | (clear tk2; (refine Mm.new rtG H (some 8) rfl rfl rfl ?_; clear H; intro b8 _ H nw; have hb := nw.below; clear hb nw); (try simp only [Act.put, setIfInBounds_toArray, set_cons_zero, set_cons_succ]); have tk3 := hidp trivial) | (clear tk3; (refine Mm.put0 rtG H rfl (.tmp 8) (.tmp 30) x.row rfl rfl rfl (Gr.len hxok.out) (Gr.one x) rfl ?_; intro _ H2 st; clear st H; have H := H2; clear H2); (try simp only [Act.put, setIfInBounds_toArray, set_cons_zero, set_cons_succ]); have tk4 := hidp trivial) | (clear tk4; (refine Mm.ld0 naI H rfl (.tmp 31) 0 (.int .i64 x.s) rfl rfl rfl ?_); (try simp only [Act.put, setIfInBounds_toArray, set_cons_zero, set_cons_succ]); have tk5 := hidp trivial) | (clear tk5; (refine Mm.ld1 naI H rfl (.tmp 33) 0 (.int .i64 g.s) rfl rfl rfl ?_); (try simp only [Act.put, setIfInBounds_toArray, set_cons_zero, set_cons_succ]); have tk6 := hidp trivial) | (clear tk6; (refine Mm.ld0 naL H rfl (.tmp 37) 1 (.int .i64 x.f) rfl rfl rfl ?_); (try simp only [Act.put, setIfInBounds_toArray, set_cons_zero, set_cons_succ]); have tk7 := hidp trivial) | (clear tk7; (refine Mm.ld1 naL H rfl (.tmp 39) 2 (.int .i64 g.t) rfl rfl rfl ?_); (try simp only [Act.put, setIfInBounds_toArray, set_cons_zero, set_cons_succ]); have tk8 := hidp trivial) | (clear tk8; (refine Mm.ld1 naL H rfl (.tmp 44) 1 (.int .i64 g.f) rfl rfl rfl ?_); (try simp only [Act.put, setIfInBounds_toArray, set_cons_zero, set_cons_succ]); have tk9 := hidp trivial) | (clear tk9; (refine Mm.ld0 naL H rfl (.tmp 46) 2 (.int .i64 x.t) rfl rfl rfl ?_); (try simp only [Act.put, setIfInBounds_toArray, set_cons_zero, set_cons_succ]); have tk10 := hidp trivial))
                  try clear tk10
                  have tk0 := hidp trivial
                  go_wp2_with (first | (clear tk0; (refine Mm.ld0 naI H rfl (.tmp 53) 0 (.int .i64 x.s) rfl rfl rfl ?_); (try simp only [Act.put, setIfInBounds_toArray, set_cons_zero, set_cons_succ]); have tk1 := hidp trivial) | (clear tk1; (refine Mm.ld1 naI H rfl (.tmp 55) 0 (.int .i64 g.s) rfl rfl rfl ?_); (try simp only [Act.put, setIfInBounds_toArray, set_cons_zero, set_cons_succ]); have tk2 := hidp trivial) | (clear tk2; (refine Mm.ld0 naI H rfl (.tmp 59) 0 (.int .i64 x.s) rfl rfl rfl ?_); (try simp only [Act.put, setIfInBounds_toArray, set_cons_zero, set_cons_succ]); have tk3 := hidp trivial) | (clear tk3; (refine Mm.ld1 naI H rfl (.tmp 61) 0 (.int .i64 g.s) rfl rfl rfl ?_); (try simp only [Act.put, setIfInBounds_toArray, set_cons_zero, set_cons_succ]); have tk4 := hidp trivial) | (clear tk4; (refine Mm.ld0 naL H rfl (.tmp 65) 1 (.int .i64 x.f) rfl rfl rfl ?_); (try simp only [Act.put, setIfInBounds_toArray, set_cons_zero, set_cons_succ]); have tk5 := hidp trivial) | (clear tk5; (refine Mm.ld1 naL H rfl (.tmp 67) 1 (.int .i64 g.f) rfl rfl rfl ?_); (try simp only [Act.put, setIfInBounds_toArray, set_cons_zero, set_cons_succ]); have tk6 := hidp trivial))
                  try clear tk6
                  exact ⟨⟨i + 1, m + 1, by go_num, by go_num, by omega, by omega, HMM, HOK2, H.out.tail⟩, by simp [intOf]; omega⟩
              · have d1 : decide (x.f ≤ g.t) = false := decide_eq_false c1
                have e4 : decide (x.f < g.f) = false := decide_eq_false (by have := hgt.out; omega)
                have hmf : mt x g = false := by unfold mt; simp [c1]
                have HOK2 := hmiss.out hmf
                have HMM := hidp (hps.out false hmf (by unfold tst; rw [e4, e3]; simp))
                clear hmiss hps c0 hmf HFm HFo
                have tk0 := hidp trivial
                go_upto_region 13 with (first | (clear tk0; (refine Rw.wpL_idxR tyG rfl (.tmp 25) (.tmp 27) rfl BK off n _ i rfl rfl hlt ?_); (try simp only [Act.put, setIfInBounds_toArray, set_cons_zero, set_cons_succ]); have tk1 := hidp trivial) | (clear tk1; (refine Rw.wpL_atR tyG rfl (.tmp 29) rfl BK (off + 36 * i) x.row rfl (Gr.len hxok.out) HRI.out ?_); (try simp only [Act.put, setIfInBounds_toArray, set_cons_zero, set_cons_succ]); have tk2 := hidp trivial) | (clear tk2; (refine Mm.new rtG H (some 8) rfl rfl rfl ?_; clear H; intro b8 _ H nw; have hb := nw.below; clear hb nw); (try simp only [Act.put, setIfInBounds_toArray, set_cons_zero, set_cons_succ]); have tk3 := hidp trivial) | (clear tk3; (refine Mm.put0 rtG H rfl (.tmp 8) (.tmp 30) x.row rfl rfl rfl (Gr.len hxok.out) (Gr.one x) rfl ?_; intro _ H2 st; clear st H; have H := H2; clear H2); (try simp only [Act.put, setIfInBounds_toArray, set_cons_zero, set_cons_succ]); have tk4 := hidp trivial) | (clear tk4; (refine Mm.ld0 naI H rfl (.tmp 31) 0 (.int .i64 x.s) rfl rfl rfl ?_); (try simp only [Act.put, setIfInBounds_toArray, set_cons_zero, set_cons_succ]); have tk5 := hidp trivial) | (clear tk5; (refine Mm.ld1 naI H rfl (.tmp 33) 0 (.int .i64 g.s) rfl rfl rfl ?_); (try simp only [Act.put, setIfInBounds_toArray, set_cons_zero, set_cons_succ]); have tk6 := hidp trivial) | (clear tk6; (refine Mm.ld0 naL H rfl (.tmp 37) 1 (.int .i64 x.f) rfl rfl rfl ?_); (try simp only [Act.put, setIfInBounds_toArray, set_cons_zero, set_cons_succ]); have tk7 := hidp trivial) | (clear tk7; (refine Mm.ld1 naL H rfl (.tmp 39) 2 (.int .i64 g.t) rfl rfl rfl ?_); (try simp only [Act.put, setIfInBounds_toArray, set_cons_zero, set_cons_succ]); have tk8 := hidp trivial))
                try clear tk8
                have tk0 := hidp trivial
                go_wp2_with (first | (clear tk0; (refine Mm.ld0 naI H rfl (.tmp 53) 0 (.int .i64 x.s) rfl rfl rfl ?_); (try simp only [Act.put, setIfInBounds_toArray, set_cons_zero, set_cons_succ]); have tk1 := hidp trivial) | (clear tk1; (refine Mm.ld1 naI H rfl (.tmp 55) 0 (.int .i64 g.s) rfl rfl rfl ?_); (try simp only [Act.put, setIfInBounds_toArray, set_cons_zero, set_cons_succ]); have tk2 := hidp trivial) | (clear tk2; (refine Mm.ld0 naI H rfl (.tmp 59) 0 (.int .i64 x.s) rfl rfl rfl ?_); (try simp only [Act.put, setIfInBounds_toArray, set_cons_zero, set_cons_succ]); have tk3 := hidp trivial) | (clear tk3; (refine Mm.ld1 naI H rfl (.tmp 61) 0 (.int .i64 g.s) rfl rfl rfl ?_); (try simp only [Act.put, setIfInBounds_toArray, set_cons_zero, set_cons_succ]); have tk4 := hidp trivial) | (clear tk4; (refine Mm.ld0 naL H rfl (.tmp 65) 1 (.int .i64 x.f) rfl rfl rfl ?_); (try simp only [Act.put, setIfInBounds_toArray, set_cons_zero, set_cons_succ]); have tk5 := hidp trivial) | (clear tk5; (refine Mm.ld1 naL H rfl (.tmp 67) 1 (.int .i64 g.f) rfl rfl rfl ?_); (try simp only [Act.put, setIfInBounds_toArray, set_cons_zero, set_cons_succ]); have tk6 := hidp trivial))
                try clear tk6
                exact ⟨⟨i + 1, m, by go_num, rfl, by omega, by omega, HMM, HOK2, H.out.tail⟩, by simp [intOf]; omega⟩
            · have d0 : (x.s == g.s) = false := by simpa using c0
              have hmf : mt x g = false := by unfold mt; simp [c0]
              have HOK2 := hmiss.out hmf
              by_cases c3 : x.s < g.s
              · have e3 : decide (x.s < g.s) = true := decide_eq_true c3
                have HMM := hidp (hps.out true hmf (by unfold tst; rw [e3]; rfl))
                clear hmiss hps hmf HFm HFo c0 c3
                have tk0 := hidp trivial
                go_upto_region 13 with (first | (clear tk0; (refine Rw.wpL_idxR tyG rfl (.tmp 25) (.tmp 27) rfl BK off n _ i rfl rfl hlt ?_); (try simp only [Act.put, setIfInBounds_toArray, set_cons_zero, set_cons_succ]); have tk1 := hidp trivial) | (clear tk1; (refine Rw.wpL_atR tyG rfl (.tmp 29) rfl BK (off + 36 * i) x.row rfl (Gr.len hxok.out) HRI.out ?_); (try simp only [Act.put, setIfInBounds_toArray, set_cons_zero, set_cons_succ]); have tk2 := hidp trivial) | (clear tk2; (refine Mm.new rtG H (some 8) rfl rfl rfl ?_; clear H; intro b8 _ H nw; have hb := nw.below; clear hb nw); (try simp only [Act.put, setIfInBounds_toArray, set_cons_zero, set_cons_succ]); have tk3 := hidp trivial) | (clear tk3; (refine Mm.put0 rtG H rfl (.tmp 8) (.tmp 30) x.row rfl rfl rfl (Gr.len hxok.out) (Gr.one x) rfl ?_; intro _ H2 st; clear st H; have H := H2; clear H2); (try simp only [Act.put, setIfInBounds_toArray, set_cons_zero, set_cons_succ]); have tk4 := hidp trivial) | (clear tk4; (refine Mm.ld0 naI H rfl (.tmp 31) 0 (.int .i64 x.s) rfl rfl rfl ?_); (try simp only [Act.put, setIfInBounds_toArray, set_cons_zero, set_cons_succ]); have tk5 := hidp trivial) | (clear tk5; (refine Mm.ld1 naI H rfl (.tmp 33) 0 (.int .i64 g.s) rfl rfl rfl ?_); (try simp only [Act.put, setIfInBounds_toArray, set_cons_zero, set_cons_succ]); have tk6 := hidp trivial))
                try clear tk6
                have tk0 := hidp trivial
                go_wp2_with (first | (clear tk0; (refine Mm.ld0 naI H rfl (.tmp 53) 0 (.int .i64 x.s) rfl rfl rfl ?_); (try simp only [Act.put, setIfInBounds_toArray, set_cons_zero, set_cons_succ]); have tk1 := hidp trivial) | (clear tk1; (refine Mm.ld1 naI H rfl (.tmp 55) 0 (.int .i64 g.s) rfl rfl rfl ?_); (try simp only [Act.put, setIfInBounds_toArray, set_cons_zero, set_cons_succ]); have tk2 := hidp trivial))
                try clear tk2
                exact ⟨⟨i + 1, m + 1, by go_num, by go_num, by omega, by omega, HMM, HOK2, H.out.tail⟩, by simp [intOf]; omega⟩
              · have e3 : decide (x.s < g.s) = false := decide_eq_false c3
                have HMM := hidp (hps.out false hmf (by unfold tst; rw [e3, decide_eq_false c0]; rfl))
                clear hmiss hps hmf HFm HFo c0 c3
                have tk0 := hidp trivial
                go_upto_region 13 with (first | (clear tk0; (refine Rw.wpL_idxR tyG rfl (.tmp 25) (.tmp 27) rfl BK off n _ i rfl rfl hlt ?_); (try simp only [Act.put, setIfInBounds_toArray, set_cons_zero, set_cons_succ]); have tk1 := hidp trivial) | (clear tk1; (refine Rw.wpL_atR tyG rfl (.tmp 29) rfl BK (off + 36 * i) x.row rfl (Gr.len hxok.out) HRI.out ?_); (try simp only [Act.put, setIfInBounds_toArray, set_cons_zero, set_cons_succ]); have tk2 := hidp trivial) | (clear tk2; (refine Mm.new rtG H (some 8) rfl rfl rfl ?_; clear H; intro b8 _ H nw; have hb := nw.below; clear hb nw); (try simp only [Act.put, setIfInBounds_toArray, set_cons_zero, set_cons_succ]); have tk3 := hidp trivial) | (clear tk3; (refine Mm.put0 rtG H rfl (.tmp 8) (.tmp 30) x.row rfl rfl rfl (Gr.len hxok.out) (Gr.one x) rfl ?_; intro _ H2 st; clear st H; have H := H2; clear H2); (try simp only [Act.put, setIfInBounds_toArray, set_cons_zero, set_cons_succ]); have tk4 := hidp trivial) | (clear tk4; (refine Mm.ld0 naI H rfl (.tmp 31) 0 (.int .i64 x.s) rfl rfl rfl ?_); (try simp only [Act.put, setIfInBounds_toArray, set_cons_zero, set_cons_succ]); have tk5 := hidp trivial) | (clear tk5; (refine Mm.ld1 naI H rfl (.tmp 33) 0 (.int .i64 g.s) rfl rfl rfl ?_); (try simp only [Act.put, setIfInBounds_toArray, set_cons_zero, set_cons_succ]); have tk6 := hidp trivial))
                try clear tk6
                have tk0 := hidp trivial
                go_wp2_with (first | (clear tk0; (refine Mm.ld0 naI H rfl (.tmp 53) 0 (.int .i64 x.s) rfl rfl rfl ?_); (try simp only [Act.put, setIfInBounds_toArray, set_cons_zero, set_cons_succ]); have tk1 := hidp trivial) | (clear tk1; (refine Mm.ld1 naI H rfl (.tmp 55) 0 (.int .i64 g.s) rfl rfl rfl ?_); (try simp only [Act.put, setIfInBounds_toArray, set_cons_zero, set_cons_succ]); have tk2 := hidp trivial) | (clear tk2; (refine Mm.ld0 naI H rfl (.tmp 59) 0 (.int .i64 x.s) rfl rfl rfl ?_); (try simp only [Act.put, setIfInBounds_toArray, set_cons_zero, set_cons_succ]); have tk3 := hidp trivial) | (clear tk3; (refine Mm.ld1 naI H rfl (.tmp 61) 0 (.int .i64 g.s) rfl rfl rfl ?_); (try simp only [Act.put, setIfInBounds_toArray, set_cons_zero, set_cons_succ]); have tk4 := hidp trivial))
                try clear tk4
                exact ⟨⟨i + 1, m, by go_num, rfl, by omega, by omega, HMM, HOK2, H.out.tail⟩, by simp [intOf]; omega⟩
          · have e1 : decide ((i : Int) < (n : Int)) = false := by simp; omega
            have hin : i = n := by omega
            have hp : ¬ 0 ≤ posP (fun x => mt x g) gs := by
              rw [pos_miss (p := fun x => mt x g) (fun j hj => HOK.out j (by rw [HN.out] at hj; omega) hj)]; omega
            have hmf : m = fi := by have := HM.out; have := hfl.out; omega
            have HF := hidp (show rows (adL gs g) = (rows gs).take m ++ [g.row] ++ (rows gs).drop m from by rw [hmf]; exact (HFo.out (by omega)).1)
            have hE := (HFo.out (by omega)).2
            have hml := hidp (show m ≤ n from by omega)
            subst hE
            clear hp hin hmf HFm HFo HM
            have HZ := hidp H.out.at0; have HB := hidp H.out.below; have hge : w.heap.size ≤ b3 := H.out.ge _ (List.mem_singleton_self _); clear H
            go_wp2_with (first
              | (refine wpL_toRs tyG rfl (.tmp 76) (.tmp 77) rfl _ (rows gs) m rfl rfl (HV.out.to HBx.out).1 (by rw [hrl.out]; exact hml.out) ?_; intro ux hux; have HUX := hidp hux; clear hux)
              | (refine wpL_bs0R tyG rfl rfl ?_; intro bx wx nx; have HEx := hidp (OwnR.empty (k := 36) (B := b3 + 1) nx.arr (Nat.le_trans HZ.out.lt nx.le)); have HBx := hidp (HB.out.trans (nx.below.mono HB.out.size)); have HZx := hidp (nx.old HZ.out); clear nx)
              | (refine wpL_appRs tyG rfl (.tmp 75) (.tmp 78) rfl (b3 + 1) _ _ [] ((rows gs).take m) rfl rfl HEx.out HUX.out (HO1.out.take m) HZx.out.lt (by simp only [List.length_nil, List.length_take]; rw [hrl.out]; omega) ?_; intro vy wy hoy hby; have HOy := hidp hoy; have HBy := hidp (HBx.out.trans (hby.mono (by omega))); have HZy := hidp (HZx.out.below hby (Nat.lt_succ_self b3)); clear hoy hby)
              | (refine wpL_getR tyG rfl (.tmp 3) rfl b3 g.row rfl (Gr.len hgok) HZy.out ?_)
              | (refine wpL_bs1R tyG rfl (.tmp 81) rfl g.row rfl (Gr.len hgok) ?_; intro b9 w9 n9; have HX9 := hidp (RsAt.one n9.arr (Gr.len hgok)); have HO9 := hidp (HOy.out.to n9.below (Nat.le_refl _)); have HB9 := hidp (HBy.out.trans (n9.below.mono HBy.out.size)); have hs9 := hidp (show b3 + 1 ≤ w9.heap.size from Nat.le_trans HZy.out.lt n9.below.size); clear n9)
              | (refine wpL_appRs tyG rfl (.tmp 80) (.tmp 82) rfl (b3 + 1) _ _ ([] ++ (rows gs).take m) [g.row] rfl rfl HO9.out HX9.out (fun e he => by rw [List.mem_singleton.1 he]; exact Gr.one g) hs9.out (by simp only [List.nil_append, List.length_take, List.length_cons, List.length_nil]; rw [hrl.out]; omega) ?_; intro vz wz hoz hbz; have HOz := hidp hoz; have HBz := hidp (HB9.out.trans (hbz.mono (by omega))); have hsz := hidp (Nat.le_trans hs9.out hbz.size); clear hoz hbz)
              | (refine wpL_fromRs tyG rfl (.tmp 85) (.tmp 86) rfl _ (rows gs) m rfl rfl (HV.out.to HBz.out).1 (by rw [hrl.out]; exact hml.out) ?_; intro uz huz; have HUZ := hidp huz; clear huz)
              | (refine wpL_appRs tyG rfl (.tmp 84) (.tmp 87) rfl (b3 + 1) _ _ ([] ++ (rows gs).take m ++ [g.row]) ((rows gs).drop m) rfl rfl HOz.out HUZ.out (HO1.out.drop m) hsz.out (by simp only [List.nil_append, List.length_append, List.length_take, List.length_drop, List.length_cons, List.length_nil]; rw [hrl.out]; omega) ?_; intro vq wq hoq hbq; have HOq := hidp (hoq.base (C := w.heap.size) (by omega)); have HBq := hidp (HBz.out.trans (hbq.mono (by omega))); clear hoq hbq))
            go_ret2
            have hz := HOq.out
            simp only [List.nil_append] at hz
            exact ⟨_, rfl, by rw [HF.out]; exact hz, HBq.out⟩
end Go.Proofs.YtfenjincbhkodaaDoor.Bk
