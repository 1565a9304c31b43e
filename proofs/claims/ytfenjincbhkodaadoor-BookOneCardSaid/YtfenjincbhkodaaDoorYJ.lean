/-
  Joined: OnA.
-/
import Derived.Test.YtfenjincbhkodaaDoorYI
import Derived.Test.YtfenjincbhkodaaDoorYG
import Derived.Deep.Cut
namespace Go.Proofs.YtfenjincbhkodaaDoor.Bk
set_option maxRecDepth 100000
set_option linter.unusedVariables false
set_option linter.unusedSimpArgs false
open Go.RowKit
open List (getElem_toArray getElem_cons_zero getElem_cons_succ setIfInBounds_toArray set_cons_zero set_cons_succ)
open Rw

theorem ad_not (gs : List Gr) (g : Gr) (h : ¬ adE gs g = 0) : (ckB gs = 2 ∧ adL gs g = [] ∧ adE gs g = 2) ∨ (ckB gs = 0 ∧ adL gs g = gs ∧ (adE gs g = 2 ∨ adE gs g = 8 ∨ adE gs g = 4)) := by
  unfold adE at h ⊢
  unfold adL ckB
  by_cases h1 : okB gs = true
  · simp only [if_pos h1] at h ⊢
    right
    by_cases h2 : vG g = true
    · simp only [if_pos h2] at h ⊢
      by_cases h3 : gs.length = 256
      · simp only [if_pos h3]; simp
      · simp only [if_neg h3] at h ⊢
        by_cases h4 : 0 ≤ posP (fun x => mt x g) gs
        · simp only [if_pos h4]; simp
        · simp only [if_neg h4] at h; first | exact (h rfl).elim | exact (h trivial).elim | simp at h
    · simp only [if_neg h2]; simp
  · simp only [if_neg h1]; simp
set_option maxHeartbeats 16000000 in
theorem walk_bookOne (w : World) (v : Value) (gs : List Gr) (hv : GsAt w v gs) (hn : gs.length ≤ 2199023255552) (g : Gr) (hgok : g.ok) (s : Int) (ws : (Lit.int .i64 s).wf) (t : Int) (wt : (Lit.int .i64 t).wf) :
    Calls Tryd.prog 4 #[v, .agg g.row.toArray, .int .i64 s, .int .i64 t] w fun e w' => e = .returned (.bool true) ∧ Below w.heap.size w w' := by
  clear ws wt
  have HLN := hidp (show gs.length ≤ 4611686018427387904 from by omega)
  have HGK := hidp hv.2
  have HV := hidp hv; clear hv
  have c1 := hidp (fun W v (h : GsAt W v gs) => badd_any W v gs h g hgok)
  obtain ⟨av, cv0, rfl⟩ := HV.out.form
  by_cases hz : adE gs g = 0
  · obtain ⟨h1, h2, h3, h4, hvg, hgm, hsub⟩ := ad_ok hz
    have HKL := hidp (show ∀ x ∈ adL gs g, x.ok from by
      rcases adL_ways gs g with (e | e) | ⟨i, e⟩
      · rw [e]; exact HGK.out
      · rw [e]; intro x hx; cases hx
      · rw [e]; intro x hx
        simp only [List.mem_append, List.mem_singleton] at hx
        rcases hx with (hx | hx) | hx
        · exact HGK.out x (List.mem_of_mem_take hx)
        · rw [hx]; exact hgok
        · exact HGK.out x (List.mem_of_mem_drop hx))
    rw [hz] at c1
    obtain ⟨C, hC⟩ : ∃ C, adL gs g = C := ⟨_, rfl⟩
    rw [hC] at c1 HKL h2 h3 hgm hsub
    obtain ⟨n, hnn⟩ : ∃ n, gs.length = n := ⟨_, rfl⟩
    obtain ⟨N1, hN1⟩ : ∃ N1, n + 1 = N1 := ⟨_, rfl⟩
    have HCL := hidp (show C.length = N1 from by omega)
    have f1 := hidp (fun W v (h : GsAt W v gs) => bfind_any W v gs h s t)
    have f2 := hidp (fun W v (h : GsAt W v C) => bfind_any W v C h s t)
    have f3 := hidp (fun W v (h : GsAt W v C) => bfind_any W v C h g.s g.f)
    have f4 := hidp (fun W v (h : GsAt W v C) => bfind_any W v C h g.s g.t)
    have ch := hidp (fun W v (h : GsAt W v C) => bcheck_any W v C h)
    rw [(fi_hit h2 hgm g.s g.f (vG_bounds hvg).1).1, (fi_hit h2 hgm g.s g.f (vG_bounds hvg).1).2] at f3
    rw [(fi_hit h2 hgm g.s g.t (vG_bounds hvg).2).1, (fi_hit h2 hgm g.s g.t (vG_bounds hvg).2).2] at f4
    rw [show ckB C = 0 from if_pos h2] at ch
    have hXK := fiV_ok HGK.out s t
    have hYK := fiV_ok HKL.out s t
    have ge := guard_gr
    have qg := fun W => eqin_gr W g hgok
    have h256 : N1 ≤ 256 := by omega
    rw [hnn] at HV ⊢
    have HH := hidp (show ∀ x, fiE gs s t = 0 → fiV gs s t = x → fiE C s t = 0 ∧ fiV C s t = x from fun x e ex => by
      obtain ⟨_, a, b⟩ := fi_at e
      rw [ex] at a b
      exact fi_hit h2 (hsub x a) s t b)
    have eW : IntKind.i64.wrap ((n : Int) + 1) = ((N1 : Nat) : Int) := by rw [← hN1]; exact (ins_ints n 0 (by omega) (by omega)).1
    have H := hidp (Mm.M.nil w)
    rcases one_end h1 s t with ⟨e2, -⟩ | ⟨e2, -⟩ <;> rcases one_end h2 s t with ⟨e3, m3⟩ | ⟨e3, m3⟩
    · obtain ⟨X, hX⟩ : ∃ X, fiV gs s t = X := ⟨_, rfl⟩
      rw [(HH.out X e2 hX).2, e3] at f2
      rw [hX, e2] at f1
      rw [hX] at hXK
      have HXK := hidp hXK
      have qx := fun W => eqin_gr W X hXK
      have HEND := hidp (show cnG C s t N1 = 1 from by rw [← HCL.out]; exact m3)
      clear HH hXK hYK hX e2 e3 m3 h1 h2 h3 h4 hvg hgm hsub hz hC hnn hN1 hn
      go_enter Tryd.func4, Tryd.ntmps4
      have tk0 := hidp trivial
      go_wp2_with (first | (clear tk0; (refine Mm.box 26 H rfl (.tmp 1) rfl g.row rfl ?_; clear H; intro b5 _ H nw; have hb := nw.below; clear hb nw); (try simp only [Act.put, setIfInBounds_toArray, set_cons_zero, set_cons_succ]); have tk1 := hidp trivial) | (clear tk1; (go_at_call 9; refine (lives6_any _).mono ?_; rintro e _ ⟨rfl, hb⟩; replace H := hidp (H.out.call hb); clear hb); (try simp only [Act.put, setIfInBounds_toArray, set_cons_zero, set_cons_succ]); have tk2 := hidp trivial) | (clear tk2; (refine Mm.get0 rtG H rfl (.tmp 5) rfl rfl (Gr.len hgok) ?_); (try simp only [Act.put, setIfInBounds_toArray, set_cons_zero, set_cons_succ]); have tk3 := hidp trivial) | (clear tk3; (go_at_call 7; refine (c1.out _ _ (HV.out.to H.out.below)).mono ?_; rintro e _ ⟨v1, rfl, ho, hb⟩; replace H := hidp (H.out.call hb); have HC := hidp (own_gs ho HKL.out); obtain ⟨a1, cc1, q1⟩ := HC.out.form; rw [HCL.out] at q1; subst q1; clear ho hb c1); (try simp only [Act.put, setIfInBounds_toArray, set_cons_zero, set_cons_succ]); have tk4 := hidp trivial) | (clear tk4; (go_at_call 16; refine (f1.out _ _ (HV.out.to H.out.below)).mono ?_; rintro e _ ⟨rfl, hb⟩; replace H := hidp (H.out.call hb); clear f1; replace HC := hidp (GsAt.to HC.out hb); clear hb); (try simp only [Act.put, setIfInBounds_toArray, set_cons_zero, set_cons_succ]); have tk5 := hidp trivial) | (clear tk5; (refine Mm.new rtG H (some 11) rfl rfl rfl ?_; clear H; intro b11 _ H nw); (try simp only [Act.put, setIfInBounds_toArray, set_cons_zero, set_cons_succ]); have tk6 := hidp trivial) | (clear tk6; (refine Mm.put0 rtG H rfl (.tmp 11) (.tmp 50) X.row rfl rfl rfl (Gr.len HXK.out) (Gr.one _) rfl ?_; intro _ H2 st; have hb := newput nw st; replace HC := hidp (GsAt.to HC.out hb); clear st H nw hb; have H := H2; clear H2); (try simp only [Act.put, setIfInBounds_toArray, set_cons_zero, set_cons_succ]); have tk7 := hidp trivial) | (clear tk7; (go_at_call 16; refine (f2.out _ _ HC.out).mono ?_; rintro e _ ⟨rfl, hb⟩; replace H := hidp (H.out.call hb); clear f2; replace HC := hidp (GsAt.to HC.out hb); clear hb); (try simp only [Act.put, setIfInBounds_toArray, set_cons_zero, set_cons_succ]); have tk8 := hidp trivial) | (clear tk8; (refine Mm.new rtG H (some 13) rfl rfl rfl ?_; clear H; intro b13 _ H nw); (try simp only [Act.put, setIfInBounds_toArray, set_cons_zero, set_cons_succ]); have tk9 := hidp trivial) | (clear tk9; (refine Mm.put0 rtG H rfl (.tmp 13) (.tmp 57) X.row rfl rfl rfl (Gr.len HXK.out) (Gr.one _) rfl ?_; intro _ H2 st; have hb := newput nw st; replace HC := hidp (GsAt.to HC.out hb); clear st H nw hb; have H := H2; clear H2); (try simp only [Act.put, setIfInBounds_toArray, set_cons_zero, set_cons_succ]); have tk10 := hidp trivial) | (clear tk10; (refine Mm.ld2 naI H rfl (.tmp 61) 0 (.int .i64 g.s) rfl rfl rfl ?_); (try simp only [Act.put, setIfInBounds_toArray, set_cons_zero, set_cons_succ]); have tk11 := hidp trivial) | (clear tk11; (refine Mm.ld2 naL H rfl (.tmp 63) 1 (.int .i64 g.f) rfl rfl rfl ?_); (try simp only [Act.put, setIfInBounds_toArray, set_cons_zero, set_cons_succ]); have tk12 := hidp trivial) | (clear tk12; (go_at_call 16; refine (f3.out _ _ HC.out).mono ?_; rintro e _ ⟨rfl, hb⟩; replace H := hidp (H.out.call hb); clear f3; replace HC := hidp (GsAt.to HC.out hb); clear hb); (try simp only [Act.put, setIfInBounds_toArray, set_cons_zero, set_cons_succ]); have tk13 := hidp trivial) | (clear tk13; (refine Mm.new rtG H (some 15) rfl rfl rfl ?_; clear H; intro b15 _ H nw); (try simp only [Act.put, setIfInBounds_toArray, set_cons_zero, set_cons_succ]); have tk14 := hidp trivial) | (clear tk14; (refine Mm.put0 rtG H rfl (.tmp 15) (.tmp 66) g.row rfl rfl rfl (Gr.len hgok) (Gr.one _) rfl ?_; intro _ H2 st; have hb := newput nw st; replace HC := hidp (GsAt.to HC.out hb); clear st H nw hb; have H := H2; clear H2); (try simp only [Act.put, setIfInBounds_toArray, set_cons_zero, set_cons_succ]); have tk15 := hidp trivial) | (clear tk15; (refine Mm.ld3 naI H rfl (.tmp 70) 0 (.int .i64 g.s) rfl rfl rfl ?_); (try simp only [Act.put, setIfInBounds_toArray, set_cons_zero, set_cons_succ]); have tk16 := hidp trivial) | (clear tk16; (refine Mm.ld3 naL H rfl (.tmp 72) 2 (.int .i64 g.t) rfl rfl rfl ?_); (try simp only [Act.put, setIfInBounds_toArray, set_cons_zero, set_cons_succ]); have tk17 := hidp trivial) | (clear tk17; (go_at_call 16; refine (f4.out _ _ HC.out).mono ?_; rintro e _ ⟨rfl, hb⟩; replace H := hidp (H.out.call hb); clear f4; replace HC := hidp (GsAt.to HC.out hb); clear hb); (try simp only [Act.put, setIfInBounds_toArray, set_cons_zero, set_cons_succ]); have tk18 := hidp trivial) | (clear tk18; (refine Mm.new rtG H (some 17) rfl rfl rfl ?_; clear H; intro b17 _ H nw); (try simp only [Act.put, setIfInBounds_toArray, set_cons_zero, set_cons_succ]); have tk19 := hidp trivial) | (clear tk19; (refine Mm.put0 rtG H rfl (.tmp 17) (.tmp 75) g.row rfl rfl rfl (Gr.len hgok) (Gr.one _) rfl ?_; intro _ H2 st; have hb := newput nw st; replace HC := hidp (GsAt.to HC.out hb); clear st H nw hb; have H := H2; clear H2); (try simp only [Act.put, setIfInBounds_toArray, set_cons_zero, set_cons_succ]); have tk20 := hidp trivial) | (clear tk20; (refine Mm.get3 rtG H rfl (.tmp 11) rfl rfl (Gr.len HXK.out) ?_); (try simp only [Act.put, setIfInBounds_toArray, set_cons_zero, set_cons_succ]); have tk21 := hidp trivial) | (clear tk21; (refine Mm.get2 rtG H rfl (.tmp 13) rfl rfl (Gr.len HXK.out) ?_); (try simp only [Act.put, setIfInBounds_toArray, set_cons_zero, set_cons_succ]); have tk22 := hidp trivial) | (clear tk22; (refine Mm.get1 rtG H rfl (.tmp 15) rfl rfl (Gr.len hgok) ?_); (try simp only [Act.put, setIfInBounds_toArray, set_cons_zero, set_cons_succ]); have tk23 := hidp trivial) | (clear tk23; (refine Mm.get4 rtG H rfl (.tmp 5) rfl rfl (Gr.len hgok) ?_); (try simp only [Act.put, setIfInBounds_toArray, set_cons_zero, set_cons_succ]); have tk24 := hidp trivial) | (clear tk24; (refine Mm.get0 rtG H rfl (.tmp 17) rfl rfl (Gr.len hgok) ?_); (try simp only [Act.put, setIfInBounds_toArray, set_cons_zero, set_cons_succ]); have tk25 := hidp trivial) | (clear tk25; (refine Mm.get4 rtG H rfl (.tmp 5) rfl rfl (Gr.len hgok) ?_); (try simp only [Act.put, setIfInBounds_toArray, set_cons_zero, set_cons_succ]); have tk26 := hidp trivial))
      try clear tk26
      have HC0 := HC
      have HB0 := hidp H.out
      go_loopw [19, 116] (fun t19 t116 wr => ∃ i m : Nat, t116 = .int .i64 (i : Int) ∧ t19 = .int .i64 (m : Int) ∧ i ≤ N1 ∧ m ≤ i ∧ Hid (m = cnG C s t i) ∧ Hid (GsAt wr (.slice a1 N1 cc1) C) ∧ Mm.M w.heap.size w wr [⟨b17, 26, g.row⟩, ⟨b15, 26, g.row⟩, ⟨b13, 26, X.row⟩, ⟨b11, 26, X.row⟩, ⟨b5, 26, g.row⟩]) (fun _ t116 _ => N1 - (intOf t116).toNat)
      case atStart => exact ⟨0, 0, rfl, rfl, by omega, by omega, hidp rfl, HC0, HB0.out⟩
      case round =>
        obtain ⟨i, m, rfl, rfl, hi, hmi, HM, HC1, hM⟩ := hrel
        clear H HB0 HC HC0
        have HC := HC1
        have H := hidp hM
        clear hM HC1
        by_cases hlt : i < N1
        · have e1 : decide ((i : Int) < (N1 : Int)) = true := by simp; omega
          have hgl : i < C.length := by rw [HCL.out]; exact hlt
          obtain ⟨BK, off, c, e2, hc, hBK0, hR0⟩ := HC.out.get (by rw [HCL.out]; omega)
          rw [HCL.out] at e2
          simp only [Value.slice.injEq] at e2
          obtain ⟨rfl, -, rfl⟩ := e2
          obtain ⟨x, hxe⟩ : ∃ x, C[i] = x := ⟨_, rfl⟩
          have HRI := hidp (show wr.rangeAt BK (off + 36 * i) x.row from by rw [← hxe]; exact hR0 i hgl)
          have hxok := hidp (show x.ok from by rw [← hxe]; exact HC.out.2 _ (List.getElem_mem hgl))
          have hst := hidp (show cnG C s t (i + 1) = cnG C s t i + (if fdG s t x = true then 1 else 0) from by rw [← hxe, ← getD_at hgl]; rfl)
          clear hR0 hc hxe hgl hBK0
          by_cases c0 : x.s = s
          · have d0 : (x.s == s) = true := by simp [c0]
            by_cases c1 : x.f ≤ t
            · have d1 : decide (x.f ≤ t) = true := decide_eq_true c1
              by_cases c2 : t ≤ x.t
              · have d2 : decide (t ≤ x.t) = true := decide_eq_true c2
                have HM2 := hidp (show m + 1 = cnG C s t (i + 1) from by rw [hst.out, ← HM.out, show fdG s t x = true from by unfold fdG; rw [decide_eq_true c0, d1, d2]; simp]; simp)
                clear hst
                clear c0 c1 c2
                have tk0 := hidp trivial
                go_wp2_with (first | (clear tk0; (refine Rw.wpL_idxR tyG rfl (.tmp 114) (.tmp 116) rfl BK off N1 _ i rfl rfl hlt ?_); (try simp only [Act.put, setIfInBounds_toArray, set_cons_zero, set_cons_succ]); have tk1 := hidp trivial) | (clear tk1; (refine Rw.wpL_atR tyG rfl (.tmp 118) rfl BK (off + 36 * i) x.row rfl (Gr.len hxok.out) HRI.out ?_); (try simp only [Act.put, setIfInBounds_toArray, set_cons_zero, set_cons_succ]); have tk2 := hidp trivial) | (clear tk2; (refine Mm.new rtG H (some 21) rfl rfl rfl ?_; clear H; intro b21 _ H nw); (try simp only [Act.put, setIfInBounds_toArray, set_cons_zero, set_cons_succ]); have tk3 := hidp trivial) | (clear tk3; (refine Mm.put0 rtG H rfl (.tmp 21) (.tmp 119) x.row rfl rfl rfl (Gr.len hxok.out) (Gr.one _) rfl ?_; intro _ H2 st; have hb := newput nw st; replace HC := hidp (GsAt.to HC.out hb); clear st H nw hb; have H := H2; clear H2); (try simp only [Act.put, setIfInBounds_toArray, set_cons_zero, set_cons_succ]); have tk4 := hidp trivial) | (clear tk4; (refine Mm.ld0 naI H rfl (.tmp 120) 0 (.int .i64 x.s) rfl rfl rfl ?_); (try simp only [Act.put, setIfInBounds_toArray, set_cons_zero, set_cons_succ]); have tk5 := hidp trivial) | (clear tk5; (refine Mm.ld0 naL H rfl (.tmp 125) 1 (.int .i64 x.f) rfl rfl rfl ?_); (try simp only [Act.put, setIfInBounds_toArray, set_cons_zero, set_cons_succ]); have tk6 := hidp trivial) | (clear tk6; (refine Mm.ld0 naL H rfl (.tmp 132) 2 (.int .i64 x.t) rfl rfl rfl ?_); (try simp only [Act.put, setIfInBounds_toArray, set_cons_zero, set_cons_succ]); have tk7 := hidp trivial))
                try clear tk7
                exact ⟨⟨i + 1, m + 1, by go_num, by go_num, by omega, by omega, HM2, HC, H.out.tail⟩, by simp [intOf]; omega⟩
              · have d2 : decide (t ≤ x.t) = false := decide_eq_false c2
                have HM2 := hidp (show m = cnG C s t (i + 1) from by rw [hst.out, ← HM.out, show fdG s t x = false from by unfold fdG; rw [d2]; simp]; simp)
                clear hst
                clear c0 c1 c2
                have tk0 := hidp trivial
                go_wp2_with (first | (clear tk0; (refine Rw.wpL_idxR tyG rfl (.tmp 114) (.tmp 116) rfl BK off N1 _ i rfl rfl hlt ?_); (try simp only [Act.put, setIfInBounds_toArray, set_cons_zero, set_cons_succ]); have tk1 := hidp trivial) | (clear tk1; (refine Rw.wpL_atR tyG rfl (.tmp 118) rfl BK (off + 36 * i) x.row rfl (Gr.len hxok.out) HRI.out ?_); (try simp only [Act.put, setIfInBounds_toArray, set_cons_zero, set_cons_succ]); have tk2 := hidp trivial) | (clear tk2; (refine Mm.new rtG H (some 21) rfl rfl rfl ?_; clear H; intro b21 _ H nw); (try simp only [Act.put, setIfInBounds_toArray, set_cons_zero, set_cons_succ]); have tk3 := hidp trivial) | (clear tk3; (refine Mm.put0 rtG H rfl (.tmp 21) (.tmp 119) x.row rfl rfl rfl (Gr.len hxok.out) (Gr.one _) rfl ?_; intro _ H2 st; have hb := newput nw st; replace HC := hidp (GsAt.to HC.out hb); clear st H nw hb; have H := H2; clear H2); (try simp only [Act.put, setIfInBounds_toArray, set_cons_zero, set_cons_succ]); have tk4 := hidp trivial) | (clear tk4; (refine Mm.ld0 naI H rfl (.tmp 120) 0 (.int .i64 x.s) rfl rfl rfl ?_); (try simp only [Act.put, setIfInBounds_toArray, set_cons_zero, set_cons_succ]); have tk5 := hidp trivial) | (clear tk5; (refine Mm.ld0 naL H rfl (.tmp 125) 1 (.int .i64 x.f) rfl rfl rfl ?_); (try simp only [Act.put, setIfInBounds_toArray, set_cons_zero, set_cons_succ]); have tk6 := hidp trivial) | (clear tk6; (refine Mm.ld0 naL H rfl (.tmp 132) 2 (.int .i64 x.t) rfl rfl rfl ?_); (try simp only [Act.put, setIfInBounds_toArray, set_cons_zero, set_cons_succ]); have tk7 := hidp trivial))
                try clear tk7
                exact ⟨⟨i + 1, m, by go_num, rfl, by omega, by omega, HM2, HC, H.out.tail⟩, by simp [intOf]; omega⟩
            · have d1 : decide (x.f ≤ t) = false := decide_eq_false c1
              have HM2 := hidp (show m = cnG C s t (i + 1) from by rw [hst.out, ← HM.out, show fdG s t x = false from by unfold fdG; rw [d1]; simp]; simp)
              clear hst
              clear c0 c1
              have tk0 := hidp trivial
              go_wp2_with (first | (clear tk0; (refine Rw.wpL_idxR tyG rfl (.tmp 114) (.tmp 116) rfl BK off N1 _ i rfl rfl hlt ?_); (try simp only [Act.put, setIfInBounds_toArray, set_cons_zero, set_cons_succ]); have tk1 := hidp trivial) | (clear tk1; (refine Rw.wpL_atR tyG rfl (.tmp 118) rfl BK (off + 36 * i) x.row rfl (Gr.len hxok.out) HRI.out ?_); (try simp only [Act.put, setIfInBounds_toArray, set_cons_zero, set_cons_succ]); have tk2 := hidp trivial) | (clear tk2; (refine Mm.new rtG H (some 21) rfl rfl rfl ?_; clear H; intro b21 _ H nw); (try simp only [Act.put, setIfInBounds_toArray, set_cons_zero, set_cons_succ]); have tk3 := hidp trivial) | (clear tk3; (refine Mm.put0 rtG H rfl (.tmp 21) (.tmp 119) x.row rfl rfl rfl (Gr.len hxok.out) (Gr.one _) rfl ?_; intro _ H2 st; have hb := newput nw st; replace HC := hidp (GsAt.to HC.out hb); clear st H nw hb; have H := H2; clear H2); (try simp only [Act.put, setIfInBounds_toArray, set_cons_zero, set_cons_succ]); have tk4 := hidp trivial) | (clear tk4; (refine Mm.ld0 naI H rfl (.tmp 120) 0 (.int .i64 x.s) rfl rfl rfl ?_); (try simp only [Act.put, setIfInBounds_toArray, set_cons_zero, set_cons_succ]); have tk5 := hidp trivial) | (clear tk5; (refine Mm.ld0 naL H rfl (.tmp 125) 1 (.int .i64 x.f) rfl rfl rfl ?_); (try simp only [Act.put, setIfInBounds_toArray, set_cons_zero, set_cons_succ]); have tk6 := hidp trivial))
              try clear tk6
              exact ⟨⟨i + 1, m, by go_num, rfl, by omega, by omega, HM2, HC, H.out.tail⟩, by simp [intOf]; omega⟩
          · have d0 : (x.s == s) = false := by simp [c0]
            have HM2 := hidp (show m = cnG C s t (i + 1) from by rw [hst.out, ← HM.out, show fdG s t x = false from by unfold fdG; rw [decide_eq_false c0]; simp]; simp)
            clear hst
            clear c0
            have tk0 := hidp trivial
            go_wp2_with (first | (clear tk0; (refine Rw.wpL_idxR tyG rfl (.tmp 114) (.tmp 116) rfl BK off N1 _ i rfl rfl hlt ?_); (try simp only [Act.put, setIfInBounds_toArray, set_cons_zero, set_cons_succ]); have tk1 := hidp trivial) | (clear tk1; (refine Rw.wpL_atR tyG rfl (.tmp 118) rfl BK (off + 36 * i) x.row rfl (Gr.len hxok.out) HRI.out ?_); (try simp only [Act.put, setIfInBounds_toArray, set_cons_zero, set_cons_succ]); have tk2 := hidp trivial) | (clear tk2; (refine Mm.new rtG H (some 21) rfl rfl rfl ?_; clear H; intro b21 _ H nw); (try simp only [Act.put, setIfInBounds_toArray, set_cons_zero, set_cons_succ]); have tk3 := hidp trivial) | (clear tk3; (refine Mm.put0 rtG H rfl (.tmp 21) (.tmp 119) x.row rfl rfl rfl (Gr.len hxok.out) (Gr.one _) rfl ?_; intro _ H2 st; have hb := newput nw st; replace HC := hidp (GsAt.to HC.out hb); clear st H nw hb; have H := H2; clear H2); (try simp only [Act.put, setIfInBounds_toArray, set_cons_zero, set_cons_succ]); have tk4 := hidp trivial) | (clear tk4; (refine Mm.ld0 naI H rfl (.tmp 120) 0 (.int .i64 x.s) rfl rfl rfl ?_); (try simp only [Act.put, setIfInBounds_toArray, set_cons_zero, set_cons_succ]); have tk5 := hidp trivial))
            try clear tk5
            exact ⟨⟨i + 1, m, by go_num, rfl, by omega, by omega, HM2, HC, H.out.tail⟩, by simp [intOf]; omega⟩
        · have e1 : decide ((i : Int) < (N1 : Int)) = false := by simp; omega
          obtain rfl : i = N1 := by omega
          have hm : m = 1 := by rw [HM.out]; exact HEND.out
          subst hm
          clear hlt HM hmi hi
          have tk0 := hidp trivial
          go_wp2_with (first | (clear tk0; (go_at_call 10; refine (ch.out _ _ HC.out).mono ?_; rintro e _ ⟨rfl, hb⟩; replace H := hidp (H.out.call hb); clear hb); (try simp only [Act.put, setIfInBounds_toArray, set_cons_zero, set_cons_succ]); have tk1 := hidp trivial))
          try clear tk1
          go_ret
          exact ⟨rfl, H.out.below⟩
    · rw [(HH.out _ e2 rfl).1] at e3; cases e3
    · obtain ⟨X, hX⟩ : ∃ X, fiV gs s t = X := ⟨_, rfl⟩
      obtain ⟨Y, hY⟩ : ∃ Y, fiV C s t = Y := ⟨_, rfl⟩
      rw [hY, e3] at f2
      rw [hX, e2] at f1
      rw [hX] at hXK
      rw [hY] at hYK
      have HXK := hidp hXK
      have HYK := hidp hYK
      have HEND := hidp (show cnG C s t N1 = 1 from by rw [← HCL.out]; exact m3)
      clear HH hXK hYK hX hY e2 e3 m3 h1 h2 h3 h4 hvg hgm hsub hz hC hnn hN1 hn
      go_enter Tryd.func4, Tryd.ntmps4
      have tk0 := hidp trivial
      go_wp2_with (first | (clear tk0; (refine Mm.box 26 H rfl (.tmp 1) rfl g.row rfl ?_; clear H; intro b5 _ H nw; have hb := nw.below; clear hb nw); (try simp only [Act.put, setIfInBounds_toArray, set_cons_zero, set_cons_succ]); have tk1 := hidp trivial) | (clear tk1; (go_at_call 9; refine (lives6_any _).mono ?_; rintro e _ ⟨rfl, hb⟩; replace H := hidp (H.out.call hb); clear hb); (try simp only [Act.put, setIfInBounds_toArray, set_cons_zero, set_cons_succ]); have tk2 := hidp trivial) | (clear tk2; (refine Mm.get0 rtG H rfl (.tmp 5) rfl rfl (Gr.len hgok) ?_); (try simp only [Act.put, setIfInBounds_toArray, set_cons_zero, set_cons_succ]); have tk3 := hidp trivial) | (clear tk3; (go_at_call 7; refine (c1.out _ _ (HV.out.to H.out.below)).mono ?_; rintro e _ ⟨v1, rfl, ho, hb⟩; replace H := hidp (H.out.call hb); have HC := hidp (own_gs ho HKL.out); obtain ⟨a1, cc1, q1⟩ := HC.out.form; rw [HCL.out] at q1; subst q1; clear ho hb c1); (try simp only [Act.put, setIfInBounds_toArray, set_cons_zero, set_cons_succ]); have tk4 := hidp trivial) | (clear tk4; (go_at_call 16; refine (f1.out _ _ (HV.out.to H.out.below)).mono ?_; rintro e _ ⟨rfl, hb⟩; replace H := hidp (H.out.call hb); clear f1; replace HC := hidp (GsAt.to HC.out hb); clear hb); (try simp only [Act.put, setIfInBounds_toArray, set_cons_zero, set_cons_succ]); have tk5 := hidp trivial) | (clear tk5; (refine Mm.new rtG H (some 11) rfl rfl rfl ?_; clear H; intro b11 _ H nw); (try simp only [Act.put, setIfInBounds_toArray, set_cons_zero, set_cons_succ]); have tk6 := hidp trivial) | (clear tk6; (refine Mm.put0 rtG H rfl (.tmp 11) (.tmp 50) X.row rfl rfl rfl (Gr.len HXK.out) (Gr.one _) rfl ?_; intro _ H2 st; have hb := newput nw st; replace HC := hidp (GsAt.to HC.out hb); clear st H nw hb; have H := H2; clear H2); (try simp only [Act.put, setIfInBounds_toArray, set_cons_zero, set_cons_succ]); have tk7 := hidp trivial) | (clear tk7; (go_at_call 16; refine (f2.out _ _ HC.out).mono ?_; rintro e _ ⟨rfl, hb⟩; replace H := hidp (H.out.call hb); clear f2; replace HC := hidp (GsAt.to HC.out hb); clear hb); (try simp only [Act.put, setIfInBounds_toArray, set_cons_zero, set_cons_succ]); have tk8 := hidp trivial) | (clear tk8; (refine Mm.new rtG H (some 13) rfl rfl rfl ?_; clear H; intro b13 _ H nw); (try simp only [Act.put, setIfInBounds_toArray, set_cons_zero, set_cons_succ]); have tk9 := hidp trivial) | (clear tk9; (refine Mm.put0 rtG H rfl (.tmp 13) (.tmp 57) Y.row rfl rfl rfl (Gr.len HYK.out) (Gr.one _) rfl ?_; intro _ H2 st; have hb := newput nw st; replace HC := hidp (GsAt.to HC.out hb); clear st H nw hb; have H := H2; clear H2); (try simp only [Act.put, setIfInBounds_toArray, set_cons_zero, set_cons_succ]); have tk10 := hidp trivial) | (clear tk10; (refine Mm.ld2 naI H rfl (.tmp 61) 0 (.int .i64 g.s) rfl rfl rfl ?_); (try simp only [Act.put, setIfInBounds_toArray, set_cons_zero, set_cons_succ]); have tk11 := hidp trivial) | (clear tk11; (refine Mm.ld2 naL H rfl (.tmp 63) 1 (.int .i64 g.f) rfl rfl rfl ?_); (try simp only [Act.put, setIfInBounds_toArray, set_cons_zero, set_cons_succ]); have tk12 := hidp trivial) | (clear tk12; (go_at_call 16; refine (f3.out _ _ HC.out).mono ?_; rintro e _ ⟨rfl, hb⟩; replace H := hidp (H.out.call hb); clear f3; replace HC := hidp (GsAt.to HC.out hb); clear hb); (try simp only [Act.put, setIfInBounds_toArray, set_cons_zero, set_cons_succ]); have tk13 := hidp trivial) | (clear tk13; (refine Mm.new rtG H (some 15) rfl rfl rfl ?_; clear H; intro b15 _ H nw); (try simp only [Act.put, setIfInBounds_toArray, set_cons_zero, set_cons_succ]); have tk14 := hidp trivial) | (clear tk14; (refine Mm.put0 rtG H rfl (.tmp 15) (.tmp 66) g.row rfl rfl rfl (Gr.len hgok) (Gr.one _) rfl ?_; intro _ H2 st; have hb := newput nw st; replace HC := hidp (GsAt.to HC.out hb); clear st H nw hb; have H := H2; clear H2); (try simp only [Act.put, setIfInBounds_toArray, set_cons_zero, set_cons_succ]); have tk15 := hidp trivial) | (clear tk15; (refine Mm.ld3 naI H rfl (.tmp 70) 0 (.int .i64 g.s) rfl rfl rfl ?_); (try simp only [Act.put, setIfInBounds_toArray, set_cons_zero, set_cons_succ]); have tk16 := hidp trivial) | (clear tk16; (refine Mm.ld3 naL H rfl (.tmp 72) 2 (.int .i64 g.t) rfl rfl rfl ?_); (try simp only [Act.put, setIfInBounds_toArray, set_cons_zero, set_cons_succ]); have tk17 := hidp trivial) | (clear tk17; (go_at_call 16; refine (f4.out _ _ HC.out).mono ?_; rintro e _ ⟨rfl, hb⟩; replace H := hidp (H.out.call hb); clear f4; replace HC := hidp (GsAt.to HC.out hb); clear hb); (try simp only [Act.put, setIfInBounds_toArray, set_cons_zero, set_cons_succ]); have tk18 := hidp trivial) | (clear tk18; (refine Mm.new rtG H (some 17) rfl rfl rfl ?_; clear H; intro b17 _ H nw); (try simp only [Act.put, setIfInBounds_toArray, set_cons_zero, set_cons_succ]); have tk19 := hidp trivial) | (clear tk19; (refine Mm.put0 rtG H rfl (.tmp 17) (.tmp 75) g.row rfl rfl rfl (Gr.len hgok) (Gr.one _) rfl ?_; intro _ H2 st; have hb := newput nw st; replace HC := hidp (GsAt.to HC.out hb); clear st H nw hb; have H := H2; clear H2); (try simp only [Act.put, setIfInBounds_toArray, set_cons_zero, set_cons_succ]); have tk20 := hidp trivial) | (clear tk20; (refine Mm.get1 rtG H rfl (.tmp 15) rfl rfl (Gr.len hgok) ?_); (try simp only [Act.put, setIfInBounds_toArray, set_cons_zero, set_cons_succ]); have tk21 := hidp trivial) | (clear tk21; (refine Mm.get4 rtG H rfl (.tmp 5) rfl rfl (Gr.len hgok) ?_); (try simp only [Act.put, setIfInBounds_toArray, set_cons_zero, set_cons_succ]); have tk22 := hidp trivial) | (clear tk22; (refine Mm.get0 rtG H rfl (.tmp 17) rfl rfl (Gr.len hgok) ?_); (try simp only [Act.put, setIfInBounds_toArray, set_cons_zero, set_cons_succ]); have tk23 := hidp trivial) | (clear tk23; (refine Mm.get4 rtG H rfl (.tmp 5) rfl rfl (Gr.len hgok) ?_); (try simp only [Act.put, setIfInBounds_toArray, set_cons_zero, set_cons_succ]); have tk24 := hidp trivial))
      try clear tk24
      have HC0 := HC
      have HB0 := hidp H.out
      go_loopw [19, 116] (fun t19 t116 wr => ∃ i m : Nat, t116 = .int .i64 (i : Int) ∧ t19 = .int .i64 (m : Int) ∧ i ≤ N1 ∧ m ≤ i ∧ Hid (m = cnG C s t i) ∧ Hid (GsAt wr (.slice a1 N1 cc1) C) ∧ Mm.M w.heap.size w wr [⟨b17, 26, g.row⟩, ⟨b15, 26, g.row⟩, ⟨b13, 26, Y.row⟩, ⟨b11, 26, X.row⟩, ⟨b5, 26, g.row⟩]) (fun _ t116 _ => N1 - (intOf t116).toNat)
      case atStart => exact ⟨0, 0, rfl, rfl, by omega, by omega, hidp rfl, HC0, HB0.out⟩
      case round =>
        obtain ⟨i, m, rfl, rfl, hi, hmi, HM, HC1, hM⟩ := hrel
        clear H HB0 HC HC0
        have HC := HC1
        have H := hidp hM
        clear hM HC1
        by_cases hlt : i < N1
        · have e1 : decide ((i : Int) < (N1 : Int)) = true := by simp; omega
          have hgl : i < C.length := by rw [HCL.out]; exact hlt
          obtain ⟨BK, off, c, e2, hc, hBK0, hR0⟩ := HC.out.get (by rw [HCL.out]; omega)
          rw [HCL.out] at e2
          simp only [Value.slice.injEq] at e2
          obtain ⟨rfl, -, rfl⟩ := e2
          obtain ⟨x, hxe⟩ : ∃ x, C[i] = x := ⟨_, rfl⟩
          have HRI := hidp (show wr.rangeAt BK (off + 36 * i) x.row from by rw [← hxe]; exact hR0 i hgl)
          have hxok := hidp (show x.ok from by rw [← hxe]; exact HC.out.2 _ (List.getElem_mem hgl))
          have hst := hidp (show cnG C s t (i + 1) = cnG C s t i + (if fdG s t x = true then 1 else 0) from by rw [← hxe, ← getD_at hgl]; rfl)
          clear hR0 hc hxe hgl hBK0
          by_cases c0 : x.s = s
          · have d0 : (x.s == s) = true := by simp [c0]
            by_cases c1 : x.f ≤ t
            · have d1 : decide (x.f ≤ t) = true := decide_eq_true c1
              by_cases c2 : t ≤ x.t
              · have d2 : decide (t ≤ x.t) = true := decide_eq_true c2
                have HM2 := hidp (show m + 1 = cnG C s t (i + 1) from by rw [hst.out, ← HM.out, show fdG s t x = true from by unfold fdG; rw [decide_eq_true c0, d1, d2]; simp]; simp)
                clear hst
                clear c0 c1 c2
                have tk0 := hidp trivial
                go_wp2_with (first | (clear tk0; (refine Rw.wpL_idxR tyG rfl (.tmp 114) (.tmp 116) rfl BK off N1 _ i rfl rfl hlt ?_); (try simp only [Act.put, setIfInBounds_toArray, set_cons_zero, set_cons_succ]); have tk1 := hidp trivial) | (clear tk1; (refine Rw.wpL_atR tyG rfl (.tmp 118) rfl BK (off + 36 * i) x.row rfl (Gr.len hxok.out) HRI.out ?_); (try simp only [Act.put, setIfInBounds_toArray, set_cons_zero, set_cons_succ]); have tk2 := hidp trivial) | (clear tk2; (refine Mm.new rtG H (some 21) rfl rfl rfl ?_; clear H; intro b21 _ H nw); (try simp only [Act.put, setIfInBounds_toArray, set_cons_zero, set_cons_succ]); have tk3 := hidp trivial) | (clear tk3; (refine Mm.put0 rtG H rfl (.tmp 21) (.tmp 119) x.row rfl rfl rfl (Gr.len hxok.out) (Gr.one _) rfl ?_; intro _ H2 st; have hb := newput nw st; replace HC := hidp (GsAt.to HC.out hb); clear st H nw hb; have H := H2; clear H2); (try simp only [Act.put, setIfInBounds_toArray, set_cons_zero, set_cons_succ]); have tk4 := hidp trivial) | (clear tk4; (refine Mm.ld0 naI H rfl (.tmp 120) 0 (.int .i64 x.s) rfl rfl rfl ?_); (try simp only [Act.put, setIfInBounds_toArray, set_cons_zero, set_cons_succ]); have tk5 := hidp trivial) | (clear tk5; (refine Mm.ld0 naL H rfl (.tmp 125) 1 (.int .i64 x.f) rfl rfl rfl ?_); (try simp only [Act.put, setIfInBounds_toArray, set_cons_zero, set_cons_succ]); have tk6 := hidp trivial) | (clear tk6; (refine Mm.ld0 naL H rfl (.tmp 132) 2 (.int .i64 x.t) rfl rfl rfl ?_); (try simp only [Act.put, setIfInBounds_toArray, set_cons_zero, set_cons_succ]); have tk7 := hidp trivial))
                try clear tk7
                exact ⟨⟨i + 1, m + 1, by go_num, by go_num, by omega, by omega, HM2, HC, H.out.tail⟩, by simp [intOf]; omega⟩
              · have d2 : decide (t ≤ x.t) = false := decide_eq_false c2
                have HM2 := hidp (show m = cnG C s t (i + 1) from by rw [hst.out, ← HM.out, show fdG s t x = false from by unfold fdG; rw [d2]; simp]; simp)
                clear hst
                clear c0 c1 c2
                have tk0 := hidp trivial
                go_wp2_with (first | (clear tk0; (refine Rw.wpL_idxR tyG rfl (.tmp 114) (.tmp 116) rfl BK off N1 _ i rfl rfl hlt ?_); (try simp only [Act.put, setIfInBounds_toArray, set_cons_zero, set_cons_succ]); have tk1 := hidp trivial) | (clear tk1; (refine Rw.wpL_atR tyG rfl (.tmp 118) rfl BK (off + 36 * i) x.row rfl (Gr.len hxok.out) HRI.out ?_); (try simp only [Act.put, setIfInBounds_toArray, set_cons_zero, set_cons_succ]); have tk2 := hidp trivial) | (clear tk2; (refine Mm.new rtG H (some 21) rfl rfl rfl ?_; clear H; intro b21 _ H nw); (try simp only [Act.put, setIfInBounds_toArray, set_cons_zero, set_cons_succ]); have tk3 := hidp trivial) | (clear tk3; (refine Mm.put0 rtG H rfl (.tmp 21) (.tmp 119) x.row rfl rfl rfl (Gr.len hxok.out) (Gr.one _) rfl ?_; intro _ H2 st; have hb := newput nw st; replace HC := hidp (GsAt.to HC.out hb); clear st H nw hb; have H := H2; clear H2); (try simp only [Act.put, setIfInBounds_toArray, set_cons_zero, set_cons_succ]); have tk4 := hidp trivial) | (clear tk4; (refine Mm.ld0 naI H rfl (.tmp 120) 0 (.int .i64 x.s) rfl rfl rfl ?_); (try simp only [Act.put, setIfInBounds_toArray, set_cons_zero, set_cons_succ]); have tk5 := hidp trivial) | (clear tk5; (refine Mm.ld0 naL H rfl (.tmp 125) 1 (.int .i64 x.f) rfl rfl rfl ?_); (try simp only [Act.put, setIfInBounds_toArray, set_cons_zero, set_cons_succ]); have tk6 := hidp trivial) | (clear tk6; (refine Mm.ld0 naL H rfl (.tmp 132) 2 (.int .i64 x.t) rfl rfl rfl ?_); (try simp only [Act.put, setIfInBounds_toArray, set_cons_zero, set_cons_succ]); have tk7 := hidp trivial))
                try clear tk7
                exact ⟨⟨i + 1, m, by go_num, rfl, by omega, by omega, HM2, HC, H.out.tail⟩, by simp [intOf]; omega⟩
            · have d1 : decide (x.f ≤ t) = false := decide_eq_false c1
              have HM2 := hidp (show m = cnG C s t (i + 1) from by rw [hst.out, ← HM.out, show fdG s t x = false from by unfold fdG; rw [d1]; simp]; simp)
              clear hst
              clear c0 c1
              have tk0 := hidp trivial
              go_wp2_with (first | (clear tk0; (refine Rw.wpL_idxR tyG rfl (.tmp 114) (.tmp 116) rfl BK off N1 _ i rfl rfl hlt ?_); (try simp only [Act.put, setIfInBounds_toArray, set_cons_zero, set_cons_succ]); have tk1 := hidp trivial) | (clear tk1; (refine Rw.wpL_atR tyG rfl (.tmp 118) rfl BK (off + 36 * i) x.row rfl (Gr.len hxok.out) HRI.out ?_); (try simp only [Act.put, setIfInBounds_toArray, set_cons_zero, set_cons_succ]); have tk2 := hidp trivial) | (clear tk2; (refine Mm.new rtG H (some 21) rfl rfl rfl ?_; clear H; intro b21 _ H nw); (try simp only [Act.put, setIfInBounds_toArray, set_cons_zero, set_cons_succ]); have tk3 := hidp trivial) | (clear tk3; (refine Mm.put0 rtG H rfl (.tmp 21) (.tmp 119) x.row rfl rfl rfl (Gr.len hxok.out) (Gr.one _) rfl ?_; intro _ H2 st; have hb := newput nw st; replace HC := hidp (GsAt.to HC.out hb); clear st H nw hb; have H := H2; clear H2); (try simp only [Act.put, setIfInBounds_toArray, set_cons_zero, set_cons_succ]); have tk4 := hidp trivial) | (clear tk4; (refine Mm.ld0 naI H rfl (.tmp 120) 0 (.int .i64 x.s) rfl rfl rfl ?_); (try simp only [Act.put, setIfInBounds_toArray, set_cons_zero, set_cons_succ]); have tk5 := hidp trivial) | (clear tk5; (refine Mm.ld0 naL H rfl (.tmp 125) 1 (.int .i64 x.f) rfl rfl rfl ?_); (try simp only [Act.put, setIfInBounds_toArray, set_cons_zero, set_cons_succ]); have tk6 := hidp trivial))
              try clear tk6
              exact ⟨⟨i + 1, m, by go_num, rfl, by omega, by omega, HM2, HC, H.out.tail⟩, by simp [intOf]; omega⟩
          · have d0 : (x.s == s) = false := by simp [c0]
            have HM2 := hidp (show m = cnG C s t (i + 1) from by rw [hst.out, ← HM.out, show fdG s t x = false from by unfold fdG; rw [decide_eq_false c0]; simp]; simp)
            clear hst
            clear c0
            have tk0 := hidp trivial
            go_wp2_with (first | (clear tk0; (refine Rw.wpL_idxR tyG rfl (.tmp 114) (.tmp 116) rfl BK off N1 _ i rfl rfl hlt ?_); (try simp only [Act.put, setIfInBounds_toArray, set_cons_zero, set_cons_succ]); have tk1 := hidp trivial) | (clear tk1; (refine Rw.wpL_atR tyG rfl (.tmp 118) rfl BK (off + 36 * i) x.row rfl (Gr.len hxok.out) HRI.out ?_); (try simp only [Act.put, setIfInBounds_toArray, set_cons_zero, set_cons_succ]); have tk2 := hidp trivial) | (clear tk2; (refine Mm.new rtG H (some 21) rfl rfl rfl ?_; clear H; intro b21 _ H nw); (try simp only [Act.put, setIfInBounds_toArray, set_cons_zero, set_cons_succ]); have tk3 := hidp trivial) | (clear tk3; (refine Mm.put0 rtG H rfl (.tmp 21) (.tmp 119) x.row rfl rfl rfl (Gr.len hxok.out) (Gr.one _) rfl ?_; intro _ H2 st; have hb := newput nw st; replace HC := hidp (GsAt.to HC.out hb); clear st H nw hb; have H := H2; clear H2); (try simp only [Act.put, setIfInBounds_toArray, set_cons_zero, set_cons_succ]); have tk4 := hidp trivial) | (clear tk4; (refine Mm.ld0 naI H rfl (.tmp 120) 0 (.int .i64 x.s) rfl rfl rfl ?_); (try simp only [Act.put, setIfInBounds_toArray, set_cons_zero, set_cons_succ]); have tk5 := hidp trivial))
            try clear tk5
            exact ⟨⟨i + 1, m, by go_num, rfl, by omega, by omega, HM2, HC, H.out.tail⟩, by simp [intOf]; omega⟩
        · have e1 : decide ((i : Int) < (N1 : Int)) = false := by simp; omega
          obtain rfl : i = N1 := by omega
          have hm : m = 1 := by rw [HM.out]; exact HEND.out
          subst hm
          clear hlt HM hmi hi
          have tk0 := hidp trivial
          go_wp2_with (first | (clear tk0; (go_at_call 10; refine (ch.out _ _ HC.out).mono ?_; rintro e _ ⟨rfl, hb⟩; replace H := hidp (H.out.call hb); clear hb); (try simp only [Act.put, setIfInBounds_toArray, set_cons_zero, set_cons_succ]); have tk1 := hidp trivial))
          try clear tk1
          go_ret
          exact ⟨rfl, H.out.below⟩
    · obtain ⟨X, hX⟩ : ∃ X, fiV gs s t = X := ⟨_, rfl⟩
      obtain ⟨Y, hY⟩ : ∃ Y, fiV C s t = Y := ⟨_, rfl⟩
      rw [hY, e3] at f2
      rw [hX, e2] at f1
      rw [hX] at hXK
      rw [hY] at hYK
      have HXK := hidp hXK
      have HYK := hidp hYK
      have HEND := hidp (show cnG C s t N1 = 0 from by rw [← HCL.out]; exact m3)
      clear HH hXK hYK hX hY e2 e3 m3 h1 h2 h3 h4 hvg hgm hsub hz hC hnn hN1 hn
      go_enter Tryd.func4, Tryd.ntmps4
      have tk0 := hidp trivial
      go_wp2_with (first | (clear tk0; (refine Mm.box 26 H rfl (.tmp 1) rfl g.row rfl ?_; clear H; intro b5 _ H nw; have hb := nw.below; clear hb nw); (try simp only [Act.put, setIfInBounds_toArray, set_cons_zero, set_cons_succ]); have tk1 := hidp trivial) | (clear tk1; (go_at_call 9; refine (lives6_any _).mono ?_; rintro e _ ⟨rfl, hb⟩; replace H := hidp (H.out.call hb); clear hb); (try simp only [Act.put, setIfInBounds_toArray, set_cons_zero, set_cons_succ]); have tk2 := hidp trivial) | (clear tk2; (refine Mm.get0 rtG H rfl (.tmp 5) rfl rfl (Gr.len hgok) ?_); (try simp only [Act.put, setIfInBounds_toArray, set_cons_zero, set_cons_succ]); have tk3 := hidp trivial) | (clear tk3; (go_at_call 7; refine (c1.out _ _ (HV.out.to H.out.below)).mono ?_; rintro e _ ⟨v1, rfl, ho, hb⟩; replace H := hidp (H.out.call hb); have HC := hidp (own_gs ho HKL.out); obtain ⟨a1, cc1, q1⟩ := HC.out.form; rw [HCL.out] at q1; subst q1; clear ho hb c1); (try simp only [Act.put, setIfInBounds_toArray, set_cons_zero, set_cons_succ]); have tk4 := hidp trivial) | (clear tk4; (go_at_call 16; refine (f1.out _ _ (HV.out.to H.out.below)).mono ?_; rintro e _ ⟨rfl, hb⟩; replace H := hidp (H.out.call hb); clear f1; replace HC := hidp (GsAt.to HC.out hb); clear hb); (try simp only [Act.put, setIfInBounds_toArray, set_cons_zero, set_cons_succ]); have tk5 := hidp trivial) | (clear tk5; (refine Mm.new rtG H (some 11) rfl rfl rfl ?_; clear H; intro b11 _ H nw); (try simp only [Act.put, setIfInBounds_toArray, set_cons_zero, set_cons_succ]); have tk6 := hidp trivial) | (clear tk6; (refine Mm.put0 rtG H rfl (.tmp 11) (.tmp 50) X.row rfl rfl rfl (Gr.len HXK.out) (Gr.one _) rfl ?_; intro _ H2 st; have hb := newput nw st; replace HC := hidp (GsAt.to HC.out hb); clear st H nw hb; have H := H2; clear H2); (try simp only [Act.put, setIfInBounds_toArray, set_cons_zero, set_cons_succ]); have tk7 := hidp trivial) | (clear tk7; (go_at_call 16; refine (f2.out _ _ HC.out).mono ?_; rintro e _ ⟨rfl, hb⟩; replace H := hidp (H.out.call hb); clear f2; replace HC := hidp (GsAt.to HC.out hb); clear hb); (try simp only [Act.put, setIfInBounds_toArray, set_cons_zero, set_cons_succ]); have tk8 := hidp trivial) | (clear tk8; (refine Mm.new rtG H (some 13) rfl rfl rfl ?_; clear H; intro b13 _ H nw); (try simp only [Act.put, setIfInBounds_toArray, set_cons_zero, set_cons_succ]); have tk9 := hidp trivial) | (clear tk9; (refine Mm.put0 rtG H rfl (.tmp 13) (.tmp 57) Y.row rfl rfl rfl (Gr.len HYK.out) (Gr.one _) rfl ?_; intro _ H2 st; have hb := newput nw st; replace HC := hidp (GsAt.to HC.out hb); clear st H nw hb; have H := H2; clear H2); (try simp only [Act.put, setIfInBounds_toArray, set_cons_zero, set_cons_succ]); have tk10 := hidp trivial) | (clear tk10; (refine Mm.ld2 naI H rfl (.tmp 61) 0 (.int .i64 g.s) rfl rfl rfl ?_); (try simp only [Act.put, setIfInBounds_toArray, set_cons_zero, set_cons_succ]); have tk11 := hidp trivial) | (clear tk11; (refine Mm.ld2 naL H rfl (.tmp 63) 1 (.int .i64 g.f) rfl rfl rfl ?_); (try simp only [Act.put, setIfInBounds_toArray, set_cons_zero, set_cons_succ]); have tk12 := hidp trivial) | (clear tk12; (go_at_call 16; refine (f3.out _ _ HC.out).mono ?_; rintro e _ ⟨rfl, hb⟩; replace H := hidp (H.out.call hb); clear f3; replace HC := hidp (GsAt.to HC.out hb); clear hb); (try simp only [Act.put, setIfInBounds_toArray, set_cons_zero, set_cons_succ]); have tk13 := hidp trivial) | (clear tk13; (refine Mm.new rtG H (some 15) rfl rfl rfl ?_; clear H; intro b15 _ H nw); (try simp only [Act.put, setIfInBounds_toArray, set_cons_zero, set_cons_succ]); have tk14 := hidp trivial) | (clear tk14; (refine Mm.put0 rtG H rfl (.tmp 15) (.tmp 66) g.row rfl rfl rfl (Gr.len hgok) (Gr.one _) rfl ?_; intro _ H2 st; have hb := newput nw st; replace HC := hidp (GsAt.to HC.out hb); clear st H nw hb; have H := H2; clear H2); (try simp only [Act.put, setIfInBounds_toArray, set_cons_zero, set_cons_succ]); have tk15 := hidp trivial) | (clear tk15; (refine Mm.ld3 naI H rfl (.tmp 70) 0 (.int .i64 g.s) rfl rfl rfl ?_); (try simp only [Act.put, setIfInBounds_toArray, set_cons_zero, set_cons_succ]); have tk16 := hidp trivial) | (clear tk16; (refine Mm.ld3 naL H rfl (.tmp 72) 2 (.int .i64 g.t) rfl rfl rfl ?_); (try simp only [Act.put, setIfInBounds_toArray, set_cons_zero, set_cons_succ]); have tk17 := hidp trivial) | (clear tk17; (go_at_call 16; refine (f4.out _ _ HC.out).mono ?_; rintro e _ ⟨rfl, hb⟩; replace H := hidp (H.out.call hb); clear f4; replace HC := hidp (GsAt.to HC.out hb); clear hb); (try simp only [Act.put, setIfInBounds_toArray, set_cons_zero, set_cons_succ]); have tk18 := hidp trivial) | (clear tk18; (refine Mm.new rtG H (some 17) rfl rfl rfl ?_; clear H; intro b17 _ H nw); (try simp only [Act.put, setIfInBounds_toArray, set_cons_zero, set_cons_succ]); have tk19 := hidp trivial) | (clear tk19; (refine Mm.put0 rtG H rfl (.tmp 17) (.tmp 75) g.row rfl rfl rfl (Gr.len hgok) (Gr.one _) rfl ?_; intro _ H2 st; have hb := newput nw st; replace HC := hidp (GsAt.to HC.out hb); clear st H nw hb; have H := H2; clear H2); (try simp only [Act.put, setIfInBounds_toArray, set_cons_zero, set_cons_succ]); have tk20 := hidp trivial) | (clear tk20; (refine Mm.get1 rtG H rfl (.tmp 15) rfl rfl (Gr.len hgok) ?_); (try simp only [Act.put, setIfInBounds_toArray, set_cons_zero, set_cons_succ]); have tk21 := hidp trivial) | (clear tk21; (refine Mm.get4 rtG H rfl (.tmp 5) rfl rfl (Gr.len hgok) ?_); (try simp only [Act.put, setIfInBounds_toArray, set_cons_zero, set_cons_succ]); have tk22 := hidp trivial) | (clear tk22; (refine Mm.get0 rtG H rfl (.tmp 17) rfl rfl (Gr.len hgok) ?_); (try simp only [Act.put, setIfInBounds_toArray, set_cons_zero, set_cons_succ]); have tk23 := hidp trivial) | (clear tk23; (refine Mm.get4 rtG H rfl (.tmp 5) rfl rfl (Gr.len hgok) ?_); (try simp only [Act.put, setIfInBounds_toArray, set_cons_zero, set_cons_succ]); have tk24 := hidp trivial))
      try clear tk24
      have HC0 := HC
      have HB0 := hidp H.out
      go_loopw [19, 116] (fun t19 t116 wr => ∃ i m : Nat, t116 = .int .i64 (i : Int) ∧ t19 = .int .i64 (m : Int) ∧ i ≤ N1 ∧ m ≤ i ∧ Hid (m = cnG C s t i) ∧ Hid (GsAt wr (.slice a1 N1 cc1) C) ∧ Mm.M w.heap.size w wr [⟨b17, 26, g.row⟩, ⟨b15, 26, g.row⟩, ⟨b13, 26, Y.row⟩, ⟨b11, 26, X.row⟩, ⟨b5, 26, g.row⟩]) (fun _ t116 _ => N1 - (intOf t116).toNat)
      case atStart => exact ⟨0, 0, rfl, rfl, by omega, by omega, hidp rfl, HC0, HB0.out⟩
      case round =>
        obtain ⟨i, m, rfl, rfl, hi, hmi, HM, HC1, hM⟩ := hrel
        clear H HB0 HC HC0
        have HC := HC1
        have H := hidp hM
        clear hM HC1
        by_cases hlt : i < N1
        · have e1 : decide ((i : Int) < (N1 : Int)) = true := by simp; omega
          have hgl : i < C.length := by rw [HCL.out]; exact hlt
          obtain ⟨BK, off, c, e2, hc, hBK0, hR0⟩ := HC.out.get (by rw [HCL.out]; omega)
          rw [HCL.out] at e2
          simp only [Value.slice.injEq] at e2
          obtain ⟨rfl, -, rfl⟩ := e2
          obtain ⟨x, hxe⟩ : ∃ x, C[i] = x := ⟨_, rfl⟩
          have HRI := hidp (show wr.rangeAt BK (off + 36 * i) x.row from by rw [← hxe]; exact hR0 i hgl)
          have hxok := hidp (show x.ok from by rw [← hxe]; exact HC.out.2 _ (List.getElem_mem hgl))
          have hst := hidp (show cnG C s t (i + 1) = cnG C s t i + (if fdG s t x = true then 1 else 0) from by rw [← hxe, ← getD_at hgl]; rfl)
          clear hR0 hc hxe hgl hBK0
          by_cases c0 : x.s = s
          · have d0 : (x.s == s) = true := by simp [c0]
            by_cases c1 : x.f ≤ t
            · have d1 : decide (x.f ≤ t) = true := decide_eq_true c1
              by_cases c2 : t ≤ x.t
              · have d2 : decide (t ≤ x.t) = true := decide_eq_true c2
                have HM2 := hidp (show m + 1 = cnG C s t (i + 1) from by rw [hst.out, ← HM.out, show fdG s t x = true from by unfold fdG; rw [decide_eq_true c0, d1, d2]; simp]; simp)
                clear hst
                clear c0 c1 c2
                have tk0 := hidp trivial
                go_wp2_with (first | (clear tk0; (refine Rw.wpL_idxR tyG rfl (.tmp 114) (.tmp 116) rfl BK off N1 _ i rfl rfl hlt ?_); (try simp only [Act.put, setIfInBounds_toArray, set_cons_zero, set_cons_succ]); have tk1 := hidp trivial) | (clear tk1; (refine Rw.wpL_atR tyG rfl (.tmp 118) rfl BK (off + 36 * i) x.row rfl (Gr.len hxok.out) HRI.out ?_); (try simp only [Act.put, setIfInBounds_toArray, set_cons_zero, set_cons_succ]); have tk2 := hidp trivial) | (clear tk2; (refine Mm.new rtG H (some 21) rfl rfl rfl ?_; clear H; intro b21 _ H nw); (try simp only [Act.put, setIfInBounds_toArray, set_cons_zero, set_cons_succ]); have tk3 := hidp trivial) | (clear tk3; (refine Mm.put0 rtG H rfl (.tmp 21) (.tmp 119) x.row rfl rfl rfl (Gr.len hxok.out) (Gr.one _) rfl ?_; intro _ H2 st; have hb := newput nw st; replace HC := hidp (GsAt.to HC.out hb); clear st H nw hb; have H := H2; clear H2); (try simp only [Act.put, setIfInBounds_toArray, set_cons_zero, set_cons_succ]); have tk4 := hidp trivial) | (clear tk4; (refine Mm.ld0 naI H rfl (.tmp 120) 0 (.int .i64 x.s) rfl rfl rfl ?_); (try simp only [Act.put, setIfInBounds_toArray, set_cons_zero, set_cons_succ]); have tk5 := hidp trivial) | (clear tk5; (refine Mm.ld0 naL H rfl (.tmp 125) 1 (.int .i64 x.f) rfl rfl rfl ?_); (try simp only [Act.put, setIfInBounds_toArray, set_cons_zero, set_cons_succ]); have tk6 := hidp trivial) | (clear tk6; (refine Mm.ld0 naL H rfl (.tmp 132) 2 (.int .i64 x.t) rfl rfl rfl ?_); (try simp only [Act.put, setIfInBounds_toArray, set_cons_zero, set_cons_succ]); have tk7 := hidp trivial))
                try clear tk7
                exact ⟨⟨i + 1, m + 1, by go_num, by go_num, by omega, by omega, HM2, HC, H.out.tail⟩, by simp [intOf]; omega⟩
              · have d2 : decide (t ≤ x.t) = false := decide_eq_false c2
                have HM2 := hidp (show m = cnG C s t (i + 1) from by rw [hst.out, ← HM.out, show fdG s t x = false from by unfold fdG; rw [d2]; simp]; simp)
                clear hst
                clear c0 c1 c2
                have tk0 := hidp trivial
                go_wp2_with (first | (clear tk0; (refine Rw.wpL_idxR tyG rfl (.tmp 114) (.tmp 116) rfl BK off N1 _ i rfl rfl hlt ?_); (try simp only [Act.put, setIfInBounds_toArray, set_cons_zero, set_cons_succ]); have tk1 := hidp trivial) | (clear tk1; (refine Rw.wpL_atR tyG rfl (.tmp 118) rfl BK (off + 36 * i) x.row rfl (Gr.len hxok.out) HRI.out ?_); (try simp only [Act.put, setIfInBounds_toArray, set_cons_zero, set_cons_succ]); have tk2 := hidp trivial) | (clear tk2; (refine Mm.new rtG H (some 21) rfl rfl rfl ?_; clear H; intro b21 _ H nw); (try simp only [Act.put, setIfInBounds_toArray, set_cons_zero, set_cons_succ]); have tk3 := hidp trivial) | (clear tk3; (refine Mm.put0 rtG H rfl (.tmp 21) (.tmp 119) x.row rfl rfl rfl (Gr.len hxok.out) (Gr.one _) rfl ?_; intro _ H2 st; have hb := newput nw st; replace HC := hidp (GsAt.to HC.out hb); clear st H nw hb; have H := H2; clear H2); (try simp only [Act.put, setIfInBounds_toArray, set_cons_zero, set_cons_succ]); have tk4 := hidp trivial) | (clear tk4; (refine Mm.ld0 naI H rfl (.tmp 120) 0 (.int .i64 x.s) rfl rfl rfl ?_); (try simp only [Act.put, setIfInBounds_toArray, set_cons_zero, set_cons_succ]); have tk5 := hidp trivial) | (clear tk5; (refine Mm.ld0 naL H rfl (.tmp 125) 1 (.int .i64 x.f) rfl rfl rfl ?_); (try simp only [Act.put, setIfInBounds_toArray, set_cons_zero, set_cons_succ]); have tk6 := hidp trivial) | (clear tk6; (refine Mm.ld0 naL H rfl (.tmp 132) 2 (.int .i64 x.t) rfl rfl rfl ?_); (try simp only [Act.put, setIfInBounds_toArray, set_cons_zero, set_cons_succ]); have tk7 := hidp trivial))
                try clear tk7
                exact ⟨⟨i + 1, m, by go_num, rfl, by omega, by omega, HM2, HC, H.out.tail⟩, by simp [intOf]; omega⟩
            · have d1 : decide (x.f ≤ t) = false := decide_eq_false c1
              have HM2 := hidp (show m = cnG C s t (i + 1) from by rw [hst.out, ← HM.out, show fdG s t x = false from by unfold fdG; rw [d1]; simp]; simp)
              clear hst
              clear c0 c1
              have tk0 := hidp trivial
              go_wp2_with (first | (clear tk0; (refine Rw.wpL_idxR tyG rfl (.tmp 114) (.tmp 116) rfl BK off N1 _ i rfl rfl hlt ?_); (try simp only [Act.put, setIfInBounds_toArray, set_cons_zero, set_cons_succ]); have tk1 := hidp trivial) | (clear tk1; (refine Rw.wpL_atR tyG rfl (.tmp 118) rfl BK (off + 36 * i) x.row rfl (Gr.len hxok.out) HRI.out ?_); (try simp only [Act.put, setIfInBounds_toArray, set_cons_zero, set_cons_succ]); have tk2 := hidp trivial) | (clear tk2; (refine Mm.new rtG H (some 21) rfl rfl rfl ?_; clear H; intro b21 _ H nw); (try simp only [Act.put, setIfInBounds_toArray, set_cons_zero, set_cons_succ]); have tk3 := hidp trivial) | (clear tk3; (refine Mm.put0 rtG H rfl (.tmp 21) (.tmp 119) x.row rfl rfl rfl (Gr.len hxok.out) (Gr.one _) rfl ?_; intro _ H2 st; have hb := newput nw st; replace HC := hidp (GsAt.to HC.out hb); clear st H nw hb; have H := H2; clear H2); (try simp only [Act.put, setIfInBounds_toArray, set_cons_zero, set_cons_succ]); have tk4 := hidp trivial) | (clear tk4; (refine Mm.ld0 naI H rfl (.tmp 120) 0 (.int .i64 x.s) rfl rfl rfl ?_); (try simp only [Act.put, setIfInBounds_toArray, set_cons_zero, set_cons_succ]); have tk5 := hidp trivial) | (clear tk5; (refine Mm.ld0 naL H rfl (.tmp 125) 1 (.int .i64 x.f) rfl rfl rfl ?_); (try simp only [Act.put, setIfInBounds_toArray, set_cons_zero, set_cons_succ]); have tk6 := hidp trivial))
              try clear tk6
              exact ⟨⟨i + 1, m, by go_num, rfl, by omega, by omega, HM2, HC, H.out.tail⟩, by simp [intOf]; omega⟩
          · have d0 : (x.s == s) = false := by simp [c0]
            have HM2 := hidp (show m = cnG C s t (i + 1) from by rw [hst.out, ← HM.out, show fdG s t x = false from by unfold fdG; rw [decide_eq_false c0]; simp]; simp)
            clear hst
            clear c0
            have tk0 := hidp trivial
            go_wp2_with (first | (clear tk0; (refine Rw.wpL_idxR tyG rfl (.tmp 114) (.tmp 116) rfl BK off N1 _ i rfl rfl hlt ?_); (try simp only [Act.put, setIfInBounds_toArray, set_cons_zero, set_cons_succ]); have tk1 := hidp trivial) | (clear tk1; (refine Rw.wpL_atR tyG rfl (.tmp 118) rfl BK (off + 36 * i) x.row rfl (Gr.len hxok.out) HRI.out ?_); (try simp only [Act.put, setIfInBounds_toArray, set_cons_zero, set_cons_succ]); have tk2 := hidp trivial) | (clear tk2; (refine Mm.new rtG H (some 21) rfl rfl rfl ?_; clear H; intro b21 _ H nw); (try simp only [Act.put, setIfInBounds_toArray, set_cons_zero, set_cons_succ]); have tk3 := hidp trivial) | (clear tk3; (refine Mm.put0 rtG H rfl (.tmp 21) (.tmp 119) x.row rfl rfl rfl (Gr.len hxok.out) (Gr.one _) rfl ?_; intro _ H2 st; have hb := newput nw st; replace HC := hidp (GsAt.to HC.out hb); clear st H nw hb; have H := H2; clear H2); (try simp only [Act.put, setIfInBounds_toArray, set_cons_zero, set_cons_succ]); have tk4 := hidp trivial) | (clear tk4; (refine Mm.ld0 naI H rfl (.tmp 120) 0 (.int .i64 x.s) rfl rfl rfl ?_); (try simp only [Act.put, setIfInBounds_toArray, set_cons_zero, set_cons_succ]); have tk5 := hidp trivial))
            try clear tk5
            exact ⟨⟨i + 1, m, by go_num, rfl, by omega, by omega, HM2, HC, H.out.tail⟩, by simp [intOf]; omega⟩
        · have e1 : decide ((i : Int) < (N1 : Int)) = false := by simp; omega
          obtain rfl : i = N1 := by omega
          have hm : m = 0 := by rw [HM.out]; exact HEND.out
          subst hm
          clear hlt HM hmi hi
          have tk0 := hidp trivial
          go_wp2_with (first | (clear tk0; (go_at_call 10; refine (ch.out _ _ HC.out).mono ?_; rintro e _ ⟨rfl, hb⟩; replace H := hidp (H.out.call hb); clear hb); (try simp only [Act.put, setIfInBounds_toArray, set_cons_zero, set_cons_succ]); have tk1 := hidp trivial))
          try clear tk1
          go_ret
          exact ⟨rfl, H.out.below⟩
  · have ch := hidp (fun W v (h : GsAt W v gs) => bcheck_any W v gs h)
    have H := hidp (Mm.M.nil w)
    rcases ad_not gs g hz with ⟨hc, hl, he⟩ | ⟨hc, hl, he⟩
    · rw [he, hl] at c1
      rw [hc] at ch
      have HKL := hidp (show ∀ x ∈ ([] : List Gr), x.ok from fun x hx => by cases hx)
      have HCL := hidp (show ([] : List Gr).length = 0 from rfl)
      clear hz hc hl he
      obtain ⟨n, hnn⟩ : ∃ n, gs.length = n := ⟨_, rfl⟩
      rw [hnn] at HV ⊢
      clear hnn hn HLN
      go_enter Tryd.func4, Tryd.ntmps4
      have tk0 := hidp trivial
      go_wp2_with (first | (clear tk0; (refine Mm.box 26 H rfl (.tmp 1) rfl g.row rfl ?_; clear H; intro b5 _ H nw; have hb := nw.below; clear hb nw); (try simp only [Act.put, setIfInBounds_toArray, set_cons_zero, set_cons_succ]); have tk1 := hidp trivial) | (clear tk1; (go_at_call 9; refine (lives6_any _).mono ?_; rintro e _ ⟨rfl, hb⟩; replace H := hidp (H.out.call hb); clear hb); (try simp only [Act.put, setIfInBounds_toArray, set_cons_zero, set_cons_succ]); have tk2 := hidp trivial) | (clear tk2; (refine Mm.get0 rtG H rfl (.tmp 5) rfl rfl (Gr.len hgok) ?_); (try simp only [Act.put, setIfInBounds_toArray, set_cons_zero, set_cons_succ]); have tk3 := hidp trivial) | (clear tk3; (go_at_call 7; refine (c1.out _ _ (HV.out.to H.out.below)).mono ?_; rintro e _ ⟨v1, rfl, ho, hb⟩; replace H := hidp (H.out.call hb); have HC := hidp (own_gs ho HKL.out); obtain ⟨a1, cc1, q1⟩ := HC.out.form; rw [HCL.out] at q1; subst q1; clear ho hb c1); (try simp only [Act.put, setIfInBounds_toArray, set_cons_zero, set_cons_succ]); have tk4 := hidp trivial) | (clear tk4; (go_at_call 10; refine (ch.out _ _ (HV.out.to H.out.below)).mono ?_; rintro e _ ⟨rfl, hb⟩; replace H := hidp (H.out.call hb); replace HC := hidp (GsAt.to HC.out hb); clear hb); (try simp only [Act.put, setIfInBounds_toArray, set_cons_zero, set_cons_succ]); have tk5 := hidp trivial))
      try clear tk5
      go_ret
      exact ⟨rfl, H.out.below⟩
    · rw [hl] at c1
      rw [hc] at ch
      have HKL := HGK
      obtain ⟨n, hnn⟩ : ∃ n, gs.length = n := ⟨_, rfl⟩
      rw [hnn] at HV ⊢
      clear hnn hn hc hl
      rcases he with he | he | he
      · rw [he] at c1
        clear hz he
        go_enter Tryd.func4, Tryd.ntmps4
        have tk0 := hidp trivial
        go_wp2_with (first | (clear tk0; (refine Mm.box 26 H rfl (.tmp 1) rfl g.row rfl ?_; clear H; intro b5 _ H nw; have hb := nw.below; clear hb nw); (try simp only [Act.put, setIfInBounds_toArray, set_cons_zero, set_cons_succ]); have tk1 := hidp trivial) | (clear tk1; (go_at_call 9; refine (lives6_any _).mono ?_; rintro e _ ⟨rfl, hb⟩; replace H := hidp (H.out.call hb); clear hb); (try simp only [Act.put, setIfInBounds_toArray, set_cons_zero, set_cons_succ]); have tk2 := hidp trivial) | (clear tk2; (refine Mm.get0 rtG H rfl (.tmp 5) rfl rfl (Gr.len hgok) ?_); (try simp only [Act.put, setIfInBounds_toArray, set_cons_zero, set_cons_succ]); have tk3 := hidp trivial) | (clear tk3; (go_at_call 7; refine (c1.out _ _ (HV.out.to H.out.below)).mono ?_; rintro e _ ⟨v1, rfl, ho, hb⟩; replace H := hidp (H.out.call hb); have HC := hidp (own_gs ho HKL.out); clear ho hb c1); (try simp only [Act.put, setIfInBounds_toArray, set_cons_zero, set_cons_succ]); have tk4 := hidp trivial) | (clear tk4; (go_at_call 10; refine (ch.out _ _ (HV.out.to H.out.below)).mono ?_; rintro e _ ⟨rfl, hb⟩; replace H := hidp (H.out.call hb); replace HC := hidp (GsAt.to HC.out hb); clear hb); (try simp only [Act.put, setIfInBounds_toArray, set_cons_zero, set_cons_succ]); have tk5 := hidp trivial) | (clear tk5; (go_at_call 12; refine (same_any _ _ _ _ HC.out (HV.out.to H.out.below) HLN.out).mono ?_; rintro e _ ⟨rfl, hb⟩; replace H := hidp (H.out.call hb); replace HC := hidp (GsAt.to HC.out hb); clear hb); (try simp only [Act.put, setIfInBounds_toArray, set_cons_zero, set_cons_succ]); have tk6 := hidp trivial))
        try clear tk6
        go_ret
        exact ⟨rfl, H.out.below⟩
      · rw [he] at c1
        clear hz he
        go_enter Tryd.func4, Tryd.ntmps4
        have tk0 := hidp trivial
        go_wp2_with (first | (clear tk0; (refine Mm.box 26 H rfl (.tmp 1) rfl g.row rfl ?_; clear H; intro b5 _ H nw; have hb := nw.below; clear hb nw); (try simp only [Act.put, setIfInBounds_toArray, set_cons_zero, set_cons_succ]); have tk1 := hidp trivial) | (clear tk1; (go_at_call 9; refine (lives6_any _).mono ?_; rintro e _ ⟨rfl, hb⟩; replace H := hidp (H.out.call hb); clear hb); (try simp only [Act.put, setIfInBounds_toArray, set_cons_zero, set_cons_succ]); have tk2 := hidp trivial) | (clear tk2; (refine Mm.get0 rtG H rfl (.tmp 5) rfl rfl (Gr.len hgok) ?_); (try simp only [Act.put, setIfInBounds_toArray, set_cons_zero, set_cons_succ]); have tk3 := hidp trivial) | (clear tk3; (go_at_call 7; refine (c1.out _ _ (HV.out.to H.out.below)).mono ?_; rintro e _ ⟨v1, rfl, ho, hb⟩; replace H := hidp (H.out.call hb); have HC := hidp (own_gs ho HKL.out); clear ho hb c1); (try simp only [Act.put, setIfInBounds_toArray, set_cons_zero, set_cons_succ]); have tk4 := hidp trivial) | (clear tk4; (go_at_call 10; refine (ch.out _ _ (HV.out.to H.out.below)).mono ?_; rintro e _ ⟨rfl, hb⟩; replace H := hidp (H.out.call hb); replace HC := hidp (GsAt.to HC.out hb); clear hb); (try simp only [Act.put, setIfInBounds_toArray, set_cons_zero, set_cons_succ]); have tk5 := hidp trivial) | (clear tk5; (go_at_call 12; refine (same_any _ _ _ _ HC.out (HV.out.to H.out.below) HLN.out).mono ?_; rintro e _ ⟨rfl, hb⟩; replace H := hidp (H.out.call hb); replace HC := hidp (GsAt.to HC.out hb); clear hb); (try simp only [Act.put, setIfInBounds_toArray, set_cons_zero, set_cons_succ]); have tk6 := hidp trivial))
        try clear tk6
        go_ret
        exact ⟨rfl, H.out.below⟩
      · rw [he] at c1
        clear hz he
        go_enter Tryd.func4, Tryd.ntmps4
        have tk0 := hidp trivial
        go_wp2_with (first | (clear tk0; (refine Mm.box 26 H rfl (.tmp 1) rfl g.row rfl ?_; clear H; intro b5 _ H nw; have hb := nw.below; clear hb nw); (try simp only [Act.put, setIfInBounds_toArray, set_cons_zero, set_cons_succ]); have tk1 := hidp trivial) | (clear tk1; (go_at_call 9; refine (lives6_any _).mono ?_; rintro e _ ⟨rfl, hb⟩; replace H := hidp (H.out.call hb); clear hb); (try simp only [Act.put, setIfInBounds_toArray, set_cons_zero, set_cons_succ]); have tk2 := hidp trivial) | (clear tk2; (refine Mm.get0 rtG H rfl (.tmp 5) rfl rfl (Gr.len hgok) ?_); (try simp only [Act.put, setIfInBounds_toArray, set_cons_zero, set_cons_succ]); have tk3 := hidp trivial) | (clear tk3; (go_at_call 7; refine (c1.out _ _ (HV.out.to H.out.below)).mono ?_; rintro e _ ⟨v1, rfl, ho, hb⟩; replace H := hidp (H.out.call hb); have HC := hidp (own_gs ho HKL.out); clear ho hb c1); (try simp only [Act.put, setIfInBounds_toArray, set_cons_zero, set_cons_succ]); have tk4 := hidp trivial) | (clear tk4; (go_at_call 10; refine (ch.out _ _ (HV.out.to H.out.below)).mono ?_; rintro e _ ⟨rfl, hb⟩; replace H := hidp (H.out.call hb); replace HC := hidp (GsAt.to HC.out hb); clear hb); (try simp only [Act.put, setIfInBounds_toArray, set_cons_zero, set_cons_succ]); have tk5 := hidp trivial) | (clear tk5; (go_at_call 12; refine (same_any _ _ _ _ HC.out (HV.out.to H.out.below) HLN.out).mono ?_; rintro e _ ⟨rfl, hb⟩; replace H := hidp (H.out.call hb); replace HC := hidp (GsAt.to HC.out hb); clear hb); (try simp only [Act.put, setIfInBounds_toArray, set_cons_zero, set_cons_succ]); have tk6 := hidp trivial))
        try clear tk6
        go_ret
        exact ⟨rfl, H.out.below⟩
end Go.Proofs.YtfenjincbhkodaaDoor.Bk
