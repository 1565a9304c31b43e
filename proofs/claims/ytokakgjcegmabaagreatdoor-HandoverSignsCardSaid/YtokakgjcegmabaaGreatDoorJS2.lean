import Derived.Test.YtokakgjcegmabaaGreatDoorJR
import Derived.Test.YtokakgjcegmabaaGreatDoorJS1
import Derived.Test.YtokakgjcegmabaaGreatDoorJX2
set_option linter.unusedVariables false
set_option linter.unusedSimpArgs false
set_option maxHeartbeats 64000000
set_option maxRecDepth 100000
namespace Go.Proofs.YtokakgjcegmabaaGreatDoor.Ho
open Go.RowKit
open List (getElem_toArray getElem_cons_zero getElem_cons_succ setIfInBounds_toArray set_cons_zero set_cons_succ)
open En (rtDR run_ldRow ret_rrv hat_below)
theorem De.one (x : De) : ∀ u ∈ x.row, u.oneCell' = true := by
 intro u hu
 simp only [De.row, List.mem_cons, List.not_mem_nil, or_false] at hu
 rcases hu with rfl | rfl | rfl | rfl | rfl | rfl | rfl <;> rfl
theorem rsign24_any (w : World) (S : ByteArray) (h m : Nat) (hok : kyOk S h m = true) (v : Value) (hv : HsAt w v (leafL S.data.toList h)) (x : De) (hx : x.ok) :
 Calls Tryz.prog 17 #[.agg #[.string S, .int .i64 (h : Int), .int .i64 (m : Int), v], .agg x.row.toArray] w fun e w' => e = .returned (.tuple #[.agg (hsR S h m x ++ [v]).toArray, .agg (hsV S h m x).row.toArray, .int .i64 (hsE S h m x)]) ∧ Below w.heap.size w w' := by
 have HV := hidp hv
 clear hv
 have hts := dT_size x
 have cs := hidp (fun W (hh : HsAt W v (leafL S.data.toList h)) => rrsign_any W S h m hok (dT x) (by omega) v hh)
 have ct := hidp (fun W => rtext_any W x hx)
 have H := hidp (Mm.M.nil w)
 obtain ⟨av, cv, hvf⟩ := HV.out.form
 have hone : v.oneCell' = true := by rw [hvf]; rfl
 clear hvf
 have hm0 : m ≤ 2 ^ h := by
  obtain ⟨-, -, -, q4⟩ := kyOk_parts hok
  rw [Int.toNat_natCast] at q4; exact_mod_cast q4
 clear hx
 obtain ⟨T, hT⟩ : ∃ T, dT x = T := ⟨_, rfl⟩
 cases hk : dOk x with
 | false =>
   have HVV := hidp (show hsV S h m x = x from by unfold hsV; rw [hk]; rfl)
   have HE := hidp (show hsE S h m x = 2 from by unfold hsE; rw [hk]; rfl)
   have HRR := hidp (show hsR S h m x ++ [v] = [.string S, .int .i64 (h : Int), .int .i64 (m : Int), v] from by unfold hsR; rw [hk]; rfl)
   rw [dE_no hk, hT] at ct
   clear hk hT cs hts hok hm0
   go_enter Tryz.func17, Tryz.ntmps17
   have tk0 := hT
   go_wp2_with (first | (clear tk0; (refine Mm.box 39 H rfl (.tmp 0) rfl [.string S, .int .i64 (h : Int), .int .i64 (m : Int), v] rfl ?_; clear H; intro b2 _ H nw; clear nw); (try simp only [Act.put, aQ]); have tk1 := hT) | (clear tk1; (refine Mm.box 26 H rfl (.tmp 1) rfl x.row rfl ?_; clear H; intro b3 _ H nw; clear nw); (try simp only [Act.put, aQ]); have tk2 := hT) | (clear tk2; (refine Mm.new rtDR H (some 4) rfl rfl rfl ?_; clear H; intro b4 _ H nw; clear nw); (try simp only [Act.put, aQ]); have tk3 := hT) | (clear tk3; (refine Mm.new rtD H (some 5) rfl rfl rfl ?_; clear H; intro b5 _ H nw; clear nw); (try simp only [Act.put, aQ]); have tk4 := hT) | (clear tk4; (refine Mm.get2 rtD H rfl (.tmp 3) rfl rfl rfl ?_); (try simp only [Act.put, aQ]); have tk5 := hT) | (clear tk5; (go_at_call 59; refine (ct.out _).mono ?_; rintro e _ ⟨rfl, hb⟩; replace H := hidp (H.out.call hb); clear ct; clear hb); (try simp only [Act.put, aQ]); have tk6 := hT))
   try clear tk6
   refine Sl.regionS [⟨b3, 26, x.row⟩, ⟨b2, 39, [.string S, .int .i64 (h : Int), .int .i64 (m : Int), v]⟩] (fun W h => h.sub (by simp)) H (.take 0 (.take 1 (.take 2 (.one 3 (.one 4 (.take 5 .done)))))) (by kernel_rfl) (by kernel_rfl) (by simp [Scr.depth]) (by kernel_rfl) ?_
   clear H
   intro _ H hb
   clear hb
   refine Mm.sget1 rtDR (fun w h => h) rfl rfl (.tmp 2) rfl rfl rfl ?_
   simp only [Act.put, aP]
   refine Mm.sget0 rtD (fun w h => h) rfl rfl (.tmp 3) rfl rfl rfl ?_
   simp only [Act.put, aP]
   apply s_val
   case ho | hw => rfl
   case hv => intro w hw; go_simp; first | done | rfl
   simp only [Act.put, aP]
   refine Mm.oput1 rtDR H [.string S, .int .i64 (h : Int), .int .i64 (m : Int), v] (fun W h => h.sub (by simp)) rfl rfl (.tmp 4) (.tmp 19) rfl rfl rfl rfl (by intro u hu; simp only [List.mem_cons, List.not_mem_nil, or_false] at hu; rcases hu with rfl | rfl | rfl | rfl <;> first | rfl | exact hone) rfl ?_
   intro _ H2 st
   clear st H
   have H := H2
   clear H2
   simp only [Act.put, aP]
   refine Mm.oput0 rtD H x.row (fun W h => h.sub (by simp)) rfl rfl (.tmp 5) (.tmp 20) rfl rfl rfl rfl (De.one x) rfl ?_
   intro _ H2 st
   clear st H
   have H := H2
   clear H2
   simp only [Act.put, aP]
   apply s_val
   case ho | hw => rfl
   case hv => intro w hw; go_simp; first | done | rfl
   simp only [Act.put, aP]
   refine NoPanic.normal ?_
   go_wp2
   refine bodyPost_ret (ret_rrv rtDR rtD Tryz.results17 _ b4 b5 _ _ _ rfl rfl rfl H.out.at1 rfl H.out.at0 rfl) rfl ⟨by rw [HVV.out, HE.out, HRR.out]; first | done | rfl, H.out.below⟩
 | true =>
   rw [dE_yes hk, hT] at ct
   rw [hT] at cs
   by_cases hu : m = 2 ^ h
   · have hN : ((m : Nat) : Int) = ((2 ^ ((h : Nat) : Int).toNat : Nat) : Int) := by rw [Int.toNat_natCast, hu]
     obtain ⟨g1, g2⟩ := sg_over (S := S) (H := h) (N := m) T.data.toList hok hN
     have g3 : sgE S h m = 10 := by unfold sgE; rw [if_pos hok, if_pos hN]
     have HVV := hidp (show hsV S h m x = x from by unfold hsV; rw [if_neg (fun g => by rw [g3] at g; cases g.2)])
     have HE := hidp (show hsE S h m x = 10 from by unfold hsE; rw [hk, if_pos rfl, g3])
     have HRR := hidp (show hsR S h m x ++ [v] = [.string S, .int .i64 (h : Int), .int .i64 (m : Int), v] from by unfold hsR; rw [hk, if_pos rfl]; show rgA S h m ++ [v] = _; rw [show rgA S h m = [.string S, .int .i64 (h : Int), .int .i64 (m : Int)] from by unfold rgA; rw [g3]; rfl]; rfl)
     rw [show rgA S h m ++ [v] = [.string S, .int .i64 (h : Int), .int .i64 (m : Int), v] from by rw [show rgA S h m = [.string S, .int .i64 (h : Int), .int .i64 (m : Int)] from by unfold rgA; rw [g3]; rfl]; rfl, g3] at cs
     obtain ⟨G, hG⟩ : ∃ G, sgS S h m T.data.toList = G := ⟨_, rfl⟩
     rw [hG] at cs
     clear hk hT hts hok hm0 hN g1 g2 g3 hG hu
     go_enter Tryz.func17, Tryz.ntmps17
     have tk0 := hT
     go_wp2_with (first | (clear tk0; (refine Mm.box 39 H rfl (.tmp 0) rfl [.string S, .int .i64 (h : Int), .int .i64 (m : Int), v] rfl ?_; clear H; intro b2 _ H nw; clear nw); (try simp only [Act.put, aQ]); have tk1 := hT) | (clear tk1; (refine Mm.box 26 H rfl (.tmp 1) rfl x.row rfl ?_; clear H; intro b3 _ H nw; clear nw); (try simp only [Act.put, aQ]); have tk2 := hT) | (clear tk2; (refine Mm.new rtDR H (some 4) rfl rfl rfl ?_; clear H; intro b4 _ H nw; clear nw); (try simp only [Act.put, aQ]); have tk3 := hT) | (clear tk3; (refine Mm.new rtD H (some 5) rfl rfl rfl ?_; clear H; intro b5 _ H nw; clear nw); (try simp only [Act.put, aQ]); have tk4 := hT) | (clear tk4; (refine Mm.get2 rtD H rfl (.tmp 3) rfl rfl rfl ?_); (try simp only [Act.put, aQ]); have tk5 := hT) | (clear tk5; (go_at_call 59; refine (ct.out _).mono ?_; rintro e _ ⟨rfl, hb⟩; replace H := hidp (H.out.call hb); clear ct; clear hb); (try simp only [Act.put, aQ]); have tk6 := hT) | (clear tk6; (refine Mm.get3 rtDR H rfl (.tmp 2) rfl rfl rfl ?_); (try simp only [Act.put, aQ]); have tk7 := hT) | (clear tk7; (go_at_call 64; refine (cs.out _ (hat_below HV.out H.out.below)).mono ?_; rintro e _ ⟨rfl, hb⟩; replace H := hidp (H.out.call hb); clear cs; clear hb); (try simp only [Act.put, aQ]); have tk8 := hT) | (clear tk8; (refine Mm.new rtDR H (some 9) rfl rfl rfl ?_; clear H; intro b9 _ H nw; clear nw); (try simp only [Act.put, aQ]); have tk9 := hT) | (clear tk9; (refine Mm.put0 rtDR H rfl (.tmp 9) (.tmp 26) [.string S, .int .i64 (h : Int), .int .i64 (m : Int), v] rfl rfl rfl rfl (by intro u hu; simp only [List.mem_cons, List.not_mem_nil, or_false] at hu; rcases hu with rfl | rfl | rfl | rfl <;> first | rfl | exact hone) rfl ?_; intro _ H2 st; clear st H; have H := H2; clear H2); (try simp only [Act.put, aQ]); have tk10 := hT))
     try clear tk10
     refine Sl.regionS [⟨b9, 39, [.string S, .int .i64 (h : Int), .int .i64 (m : Int), v]⟩, ⟨b3, 26, x.row⟩, ⟨b2, 39, [.string S, .int .i64 (h : Int), .int .i64 (m : Int), v]⟩] (fun W h => h.sub (by simp)) H (.take 0 (.take 1 (.take 2 (.one 3 (.one 4 (.take 5 .done)))))) (by kernel_rfl) (by kernel_rfl) (by simp [Scr.depth]) (by kernel_rfl) ?_
     clear H
     intro _ H hb
     clear hb
     refine Mm.sget2 rtDR (fun w h => h) rfl rfl (.tmp 2) rfl rfl rfl ?_
     simp only [Act.put, aP]
     refine Mm.sget1 rtD (fun w h => h) rfl rfl (.tmp 3) rfl rfl rfl ?_
     simp only [Act.put, aP]
     apply s_val
     case ho | hw => rfl
     case hv => intro w hw; go_simp; first | done | rfl
     simp only [Act.put, aP]
     refine Mm.oput2 rtDR H [.string S, .int .i64 (h : Int), .int .i64 (m : Int), v] (fun W h => h.sub (by simp)) rfl rfl (.tmp 4) (.tmp 31) rfl rfl rfl rfl (by intro u hu; simp only [List.mem_cons, List.not_mem_nil, or_false] at hu; rcases hu with rfl | rfl | rfl | rfl <;> first | rfl | exact hone) rfl ?_
     intro _ H2 st
     clear st H
     have H := H2
     clear H2
     simp only [Act.put, aP]
     refine Mm.oput1 rtD H x.row (fun W h => h.sub (by simp)) rfl rfl (.tmp 5) (.tmp 32) rfl rfl rfl rfl (De.one x) rfl ?_
     intro _ H2 st
     clear st H
     have H := H2
     clear H2
     simp only [Act.put, aP]
     apply s_val
     case ho | hw => rfl
     case hv => intro w hw; go_simp; first | done | rfl
     simp only [Act.put, aP]
     refine NoPanic.normal ?_
     go_wp2
     refine bodyPost_ret (ret_rrv rtDR rtD Tryz.results17 _ b4 b5 _ _ _ rfl rfl rfl H.out.at2 rfl H.out.at1 rfl) rfl ⟨by rw [HVV.out, HE.out, HRR.out]; first | done | rfl, H.out.below⟩
   · have hN : ((m : Nat) : Int) ≠ ((2 ^ ((h : Nat) : Int).toNat : Nat) : Int) := by rw [Int.toNat_natCast]; omega
     obtain ⟨g1, g2, g3⟩ := sg_yes (S := S) (H := h) (N := m) T.data.toList hok hN
     obtain ⟨G, hG⟩ : ∃ G, sgS S h m T.data.toList = G := ⟨_, rfl⟩
     have hR : rgA S h m = [.string S, .int .i64 (h : Int), .int .i64 ((m : Int) + 1)] := by unfold rgA; rw [if_pos g3]; exact g1
     have HVV := hidp (show hsV S h m x = wSig x G from by unfold hsV; rw [if_pos ⟨hk, g3⟩, hT, hG])
     have HE := hidp (show hsE S h m x = 0 from by unfold hsE; rw [hk, if_pos rfl, g3])
     have HRR := hidp (show hsR S h m x ++ [v] = [.string S, .int .i64 (h : Int), .int .i64 ((m : Int) + 1), v] from by unfold hsR; rw [hk, if_pos rfl]; show rgA S h m ++ [v] = _; rw [hR]; rfl)
     rw [show rgA S h m ++ [v] = [.string S, .int .i64 (h : Int), .int .i64 ((m : Int) + 1), v] from by rw [hR]; rfl, g3, hG] at cs
     clear hk hT hts hok hm0 hN g1 g2 g3 hG hu hR
     go_enter Tryz.func17, Tryz.ntmps17
     have tk0 := hT
     go_wp2_with (first | (clear tk0; (refine Mm.box 39 H rfl (.tmp 0) rfl [.string S, .int .i64 (h : Int), .int .i64 (m : Int), v] rfl ?_; clear H; intro b2 _ H nw; clear nw); (try simp only [Act.put, aQ]); have tk1 := hT) | (clear tk1; (refine Mm.box 26 H rfl (.tmp 1) rfl x.row rfl ?_; clear H; intro b3 _ H nw; clear nw); (try simp only [Act.put, aQ]); have tk2 := hT) | (clear tk2; (refine Mm.new rtDR H (some 4) rfl rfl rfl ?_; clear H; intro b4 _ H nw; clear nw); (try simp only [Act.put, aQ]); have tk3 := hT) | (clear tk3; (refine Mm.new rtD H (some 5) rfl rfl rfl ?_; clear H; intro b5 _ H nw; clear nw); (try simp only [Act.put, aQ]); have tk4 := hT) | (clear tk4; (refine Mm.get2 rtD H rfl (.tmp 3) rfl rfl rfl ?_); (try simp only [Act.put, aQ]); have tk5 := hT) | (clear tk5; (go_at_call 59; refine (ct.out _).mono ?_; rintro e _ ⟨rfl, hb⟩; replace H := hidp (H.out.call hb); clear ct; clear hb); (try simp only [Act.put, aQ]); have tk6 := hT) | (clear tk6; (refine Mm.get3 rtDR H rfl (.tmp 2) rfl rfl rfl ?_); (try simp only [Act.put, aQ]); have tk7 := hT) | (clear tk7; (go_at_call 64; refine (cs.out _ (hat_below HV.out H.out.below)).mono ?_; rintro e _ ⟨rfl, hb⟩; replace H := hidp (H.out.call hb); clear cs; clear hb); (try simp only [Act.put, aQ]); have tk8 := hT) | (clear tk8; (refine Mm.new rtDR H (some 9) rfl rfl rfl ?_; clear H; intro b9 _ H nw; clear nw); (try simp only [Act.put, aQ]); have tk9 := hT) | (clear tk9; (refine Mm.put0 rtDR H rfl (.tmp 9) (.tmp 26) [.string S, .int .i64 (h : Int), .int .i64 ((m : Int) + 1), v] rfl rfl rfl rfl (by intro u hu; simp only [List.mem_cons, List.not_mem_nil, or_false] at hu; rcases hu with rfl | rfl | rfl | rfl <;> first | rfl | exact hone) rfl ?_; intro _ H2 st; clear st H; have H := H2; clear H2); (try simp only [Act.put, aQ]); have tk10 := hT) | (clear tk10; (refine Mm.putF3 H rfl 9 (.tmp 35) (.tmp 34) 6 (.string G) rfl rfl rfl (by kernel_rfl) rfl (of_decide_eq_true rfl) ?_; intro _ H2 st; clear st H; have H : Hid (Mm.M w.heap.size w _ ([⟨b9, 39, [.string S, .int .i64 (h : Int), .int .i64 ((m : Int) + 1), v]⟩, ⟨b5, 26, zDr⟩, ⟨b4, 39, [.string ⟨#[]⟩, .int .i64 0, .int .i64 0, .slice none 0 0]⟩, ⟨b3, 26, (wSig x G).row⟩, ⟨b2, 39, [.string S, .int .i64 (h : Int), .int .i64 (m : Int), v]⟩])) := H2; clear H2); (try simp only [Act.put, aQ]); have tk11 := hT))
     try clear tk11
     refine Sl.regionS [⟨b9, 39, [.string S, .int .i64 (h : Int), .int .i64 ((m : Int) + 1), v]⟩, ⟨b3, 26, (wSig x G).row⟩, ⟨b2, 39, [.string S, .int .i64 (h : Int), .int .i64 (m : Int), v]⟩] (fun W h => h.sub (by simp)) H (.take 0 (.take 1 (.one 2 (.one 3 (.take 4 .done))))) (by kernel_rfl) (by kernel_rfl) (by simp [Scr.depth]) (by kernel_rfl) ?_
     clear H
     intro _ H hb
     clear hb
     refine Mm.sget0 rtDR (fun w h => h) rfl rfl (.tmp 9) rfl rfl rfl ?_
     simp only [Act.put, aP]
     refine Mm.sget1 rtD (fun w h => h) rfl rfl (.tmp 3) rfl rfl rfl ?_
     simp only [Act.put, aP]
     refine Mm.oput2 rtDR H [.string S, .int .i64 (h : Int), .int .i64 ((m : Int) + 1), v] (fun W h => h.sub (by simp)) rfl rfl (.tmp 4) (.tmp 36) rfl rfl rfl rfl (by intro u hu; simp only [List.mem_cons, List.not_mem_nil, or_false] at hu; rcases hu with rfl | rfl | rfl | rfl <;> first | rfl | exact hone) rfl ?_
     intro _ H2 st
     clear st H
     have H := H2
     clear H2
     simp only [Act.put, aP]
     refine Mm.oput1 rtD H (wSig x G).row (fun W h => h.sub (by simp)) rfl rfl (.tmp 5) (.tmp 37) rfl rfl rfl rfl (De.one (wSig x G)) rfl ?_
     intro _ H2 st
     clear st H
     have H := H2
     clear H2
     simp only [Act.put, aP]
     apply s_val
     case ho | hw => rfl
     case hv => intro w hw; go_simp; first | done | rfl
     simp only [Act.put, aP]
     refine NoPanic.normal ?_
     go_wp2
     refine bodyPost_ret (ret_rrv rtDR rtD Tryz.results17 _ b4 b5 _ _ _ rfl rfl rfl H.out.at2 rfl H.out.at1 rfl) rfl ⟨by rw [HVV.out, HE.out, HRR.out]; first | done | rfl, H.out.below⟩
theorem rverify24_any (w : World) (v : Value) (gs : List Gr) (hv : GsAt w v gs) (x : De) (hx : x.ok) :
 Calls Tryz.prog 14 #[v, .agg x.row.toArray] w fun e w' => e = .returned (.int .i64 (hvE gs x)) ∧ Below w.heap.size w w' := by
 have HVV := hidp hv
 clear hv
 have hts := dT_size x
 have cv := hidp (fun W (hg : GsAt W v gs) => rbverify_any W v gs hg (sgn x) x.i (dT x) x.g (by omega) (by have := hx.2.2; omega) (by omega))
 have ct := hidp (fun W => rtext_any W x hx)
 have H := hidp (Mm.M.nil w)
 clear hx
 have hVE : hvE gs x = if dOk x = true then bvE gs (sgn x) x.i (dT x) x.g else 2 := rfl
 obtain ⟨T, hT⟩ : ∃ T, dT x = T := ⟨_, rfl⟩
 rw [hT] at ct cv hVE
 cases hok : dOk x with
 | false =>
   rw [hVE, hok]
   rw [dE_no hok] at ct
   show Calls _ _ _ _ fun e w' => e = .returned (.int .i64 2) ∧ _
   clear hok hT hVE hts cv
   go_enter Tryz.func14, Tryz.ntmps14
   have tk0 := hT
   go_wp2_with (first | (clear tk0; (refine Mm.box 26 H rfl (.tmp 1) rfl x.row rfl ?_; clear H; intro b3 _ H nw; clear nw); (try simp only [Act.put, aQ]); have tk1 := hT) | (clear tk1; (refine Mm.get0 rtD H rfl (.tmp 3) rfl rfl rfl ?_); (try simp only [Act.put, aQ]); have tk2 := hT) | (clear tk2; (go_at_call 59; refine (ct.out _).mono ?_; rintro e _ ⟨rfl, hb⟩; replace H := hidp (H.out.call hb); clear ct; clear hb); (try simp only [Act.put, aQ]); have tk3 := hT))
   try clear tk3
   go_ret
   exact ⟨rfl, H.out.below⟩
 | true =>
   have hkd := (dOk_parts hok).1
   rw [hVE, hok, if_pos rfl]
   rw [dE_yes hok] at ct
   obtain ⟨VE, hVE2⟩ : ∃ VE, bvE gs (sgn x) x.i T x.g = VE := ⟨_, rfl⟩
   rw [hVE2] at cv ⊢
   rcases hkd with hkd | hkd
   · rw [show sgn x = x.h from if_pos hkd] at cv
     have q1 : ((x.k : Int) == 2) = false := by rw [hkd]; rfl
     clear hok hT hVE hVE2 hts hkd
     go_enter Tryz.func14, Tryz.ntmps14
     have tk0 := hT
     go_wp2_with (first | (clear tk0; (refine Mm.box 26 H rfl (.tmp 1) rfl x.row rfl ?_; clear H; intro b3 _ H nw; clear nw); (try simp only [Act.put, aQ]); have tk1 := hT) | (clear tk1; (refine Mm.get0 rtD H rfl (.tmp 3) rfl rfl rfl ?_); (try simp only [Act.put, aQ]); have tk2 := hT) | (clear tk2; (go_at_call 59; refine (ct.out _).mono ?_; rintro e _ ⟨rfl, hb⟩; replace H := hidp (H.out.call hb); clear ct; clear hb); (try simp only [Act.put, aQ]); have tk3 := hT) | (clear tk3; (refine Mm.ld0 naI H rfl (.tmp 16) 4 (.int .i64 x.h) rfl rfl rfl ?_); (try simp only [Act.put, aQ]); have tk4 := hT) | (clear tk4; (refine Mm.ld0 naDK H rfl (.tmp 18) 0 (.int .u8 (x.k : Int)) rfl rfl rfl ?_); (try simp only [Act.put, aQ]); have tk5 := hT) | (clear tk5; (refine Mm.ld0 naI H rfl (.tmp 25) 3 (.int .i64 x.i) rfl rfl rfl ?_); (try simp only [Act.put, aQ]); have tk6 := hT) | (clear tk6; (refine Mm.ld0 naS H rfl (.tmp 28) 6 (.string x.g) rfl rfl rfl ?_); (try simp only [Act.put, aQ]); have tk7 := hT) | (clear tk7; (go_at_call 60; refine (cv.out _ (HVV.out.to H.out.below)).mono ?_; rintro e _ ⟨rfl, hb⟩; replace H := hidp (H.out.call hb); clear cv; clear hb); (try simp only [Act.put, aQ]); have tk8 := hT))
     try clear tk8
     go_ret
     exact ⟨rfl, H.out.below⟩
   · rw [show sgn x = x.n from if_neg (by omega)] at cv
     have q1 : ((x.k : Int) == 2) = true := by rw [hkd]; rfl
     clear hok hT hVE hVE2 hts hkd
     go_enter Tryz.func14, Tryz.ntmps14
     have tk0 := hT
     go_wp2_with (first | (clear tk0; (refine Mm.box 26 H rfl (.tmp 1) rfl x.row rfl ?_; clear H; intro b3 _ H nw; clear nw); (try simp only [Act.put, aQ]); have tk1 := hT) | (clear tk1; (refine Mm.get0 rtD H rfl (.tmp 3) rfl rfl rfl ?_); (try simp only [Act.put, aQ]); have tk2 := hT) | (clear tk2; (go_at_call 59; refine (ct.out _).mono ?_; rintro e _ ⟨rfl, hb⟩; replace H := hidp (H.out.call hb); clear ct; clear hb); (try simp only [Act.put, aQ]); have tk3 := hT) | (clear tk3; (refine Mm.ld0 naI H rfl (.tmp 16) 4 (.int .i64 x.h) rfl rfl rfl ?_); (try simp only [Act.put, aQ]); have tk4 := hT) | (clear tk4; (refine Mm.ld0 naDK H rfl (.tmp 18) 0 (.int .u8 (x.k : Int)) rfl rfl rfl ?_); (try simp only [Act.put, aQ]); have tk5 := hT) | (clear tk5; (refine Mm.ld0 naI H rfl (.tmp 21) 5 (.int .i64 x.n) rfl rfl rfl ?_); (try simp only [Act.put, aQ]); have tk6 := hT) | (clear tk6; (refine Mm.ld0 naI H rfl (.tmp 25) 3 (.int .i64 x.i) rfl rfl rfl ?_); (try simp only [Act.put, aQ]); have tk7 := hT) | (clear tk7; (refine Mm.ld0 naS H rfl (.tmp 28) 6 (.string x.g) rfl rfl rfl ?_); (try simp only [Act.put, aQ]); have tk8 := hT) | (clear tk8; (go_at_call 60; refine (cv.out _ (HVV.out.to H.out.below)).mono ?_; rintro e _ ⟨rfl, hb⟩; replace H := hidp (H.out.call hb); clear cv; clear hb); (try simp only [Act.put, aQ]); have tk9 := hT))
     try clear tk9
     go_ret
     exact ⟨rfl, H.out.below⟩
end Go.Proofs.YtokakgjcegmabaaGreatDoor.Ho
