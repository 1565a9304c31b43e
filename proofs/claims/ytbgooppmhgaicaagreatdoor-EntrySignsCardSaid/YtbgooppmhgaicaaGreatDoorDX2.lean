import Derived.Test.YtbgooppmhgaicaaGreatDoorDX
import Derived.Test.YtbgooppmhgaicaaGreatDoorDR2
import Derived.Test.YtbgooppmhgaicaaGreatDoorDM
import Derived.Test.YtbgooppmhgaicaaGreatDoorDN
set_option linter.unusedVariables false
set_option linter.unusedSimpArgs false
set_option maxHeartbeats 64000000
namespace Go.Proofs.YtbgooppmhgaicaaGreatDoor.En
set_option maxRecDepth 100000
open Go.RowKit
open List (getElem_toArray getElem_cons_zero getElem_cons_succ setIfInBounds_toArray set_cons_zero set_cons_succ)
open Ho (ringR)
theorem rtDR : Rt.RT Tryz.prog 40 4 [.string ⟨#[]⟩, .int .i64 0, .int .i64 0, .slice none 0 0] := ⟨rfl, .inl ⟨_, Tryz.underlying40⟩, by kernel_rfl⟩
theorem run_ldRow {P : Program} {T k : Nat} {z : List Value} (R : Rt.RT P T k z) (w : World) (b : Nat) (xs : List Value) (ha : Arr w b T xs) (hl : xs.length = k) : (loadVar T ⟨b, 0, none⟩).run P w = .ok (.agg xs.toArray) w := by
 rcases R.ut with ⟨fs, hu⟩ | ⟨n, e, hu⟩
 · exact run_loadVar_row (P := P) w b T T xs.toArray (0, 0) _ ha hu rfl (R.size hl)
 · exact run_loadVar_row (P := P) w b T T xs.toArray (0, 0) _ ha hu rfl (R.size hl)
theorem ret_rrv {P : Program} {w : World} {T k U l : Nat} {z y : List Value} (R : Rt.RT P T k z) (R' : Rt.RT P U l y) {fn : Func} {p q u : Tmp} (hr : fn.results = #[.cell p T, .cell q U, .tmp u]) (tmps : Array Value) (b c : Nat) (xs ys : List Value) (v : Value) (hp : tmps.getD p undef = .pointer (some ⟨b, 0, none⟩)) (hq : tmps.getD q undef = .pointer (some ⟨c, 0, none⟩)) (hv : tmps.getD u undef = v)
 (ha : Arr w b T xs) (hl : xs.length = k) (hc : Arr w c U ys) (hm : ys.length = l) : (results fn tmps).run P w = .ok (.tuple #[.agg xs.toArray, .agg ys.toArray, v]) w := by
 have hp' : tmps[p]?.getD undef = .pointer (some ⟨b, 0, none⟩) := by simpa using hp
 have hq' : tmps[q]?.getD undef = .pointer (some ⟨c, 0, none⟩) := by simpa using hq
 have hv' : tmps[u]?.getD undef = v := by simpa using hv
 simp [results, hr, hp', hq', hv', asAddr, run_ldRow R w b xs ha hl, run_ldRow R' w c ys hc hm]
theorem regionS {P : Program} {ops : Array Oper} {a : Act} {w w0 : World} {N : Nat} {L : List Mm.Bx} {Q : Exit → Act → World → Prop} {id : Nat} (L' : List Mm.Bx) (hsub : ∀ W, Mm.M N w0 W L → Mm.M N w0 W L') (H : Hid (Mm.M N w0 w L)) (s : Scr) (hm : P.follows .mixedOrders = true) (hs : Region.noSelect ops = true) (hd : s.depth ≤ ops.size) (hc : s.chk .any ops (Array.replicate ops.size false) = true)
 (h : ∀ U, Hid (Mm.M N w0 U L) → Below w.heap.size w U → wpScr P ops (NoPanic Q) s (fun W => Mm.M N w0 W L') a U) : (Code.region id ops true).wp P Q a w :=
 wp_region_noPanic (wp_region_scr (S := fun W => Mm.M N w0 W L') s hm hs (fun _ _ _ _ _ h => h) hd hc (hsub _ H.out.drew) (h _ (hidp H.out.drew) (Below.refl _ _).drew))
theorem hat_below {w w' : World} {v : Value} {L : List (List UInt8)} (h : HsAt w v L) (hb : Below w.heap.size w w') : HsAt w' v L := h.below hb (Nat.le_refl _) hb.size
theorem rsign19_any (w : World) (S : ByteArray) (h m : Nat) (hok : kyOk S h m = true) (v : Value) (hv : HsAt w v (leafL S.data.toList h)) (x : En) (hx : x.ok) :
 Calls Tryz.prog 14 #[.agg #[.string S, .int .i64 (h : Int), .int .i64 (m : Int), v], .agg x.row.toArray] w fun e w' => e = .returned (.tuple #[.agg (esR S h m x ++ [v]).toArray, .agg (esV S h m x).row.toArray, .int .i64 (esE S h m x)]) ∧ Below w.heap.size w w' := by
 have HV := hidp hv; have HP := hidp hx.p
 clear hv
 have hts := eT_size x hx.p
 have cs := hidp (fun W (hh : HsAt W v (leafL S.data.toList h)) => rrsign_any W S h m hok (eT x) (by omega) v hh)
 have ct := hidp (fun W => rtext_any W x hx)
 have H := hidp (Mm.M.nil w)
 obtain ⟨av, cv, hvf⟩ := HV.out.form
 have hone : v.oneCell' = true := by rw [hvf]; rfl
 clear hvf
 have hm0 : m ≤ 2 ^ h := by
  obtain ⟨-, -, -, q4⟩ := kyOk_parts hok
  rw [Int.toNat_natCast] at q4; exact_mod_cast q4
 clear hx
 obtain ⟨T, hT⟩ : ∃ T, eT x = T := ⟨_, rfl⟩
 cases hk : eOk x with
 | false =>
   have HVV := hidp (show esV S h m x = x from by unfold esV; rw [hk]; rfl)
   have HE := hidp (show esE S h m x = 2 from by unfold esE; rw [hk]; rfl)
   have HRR := hidp (show esR S h m x ++ [v] = [.string S, .int .i64 (h : Int), .int .i64 (m : Int), v] from by unfold esR; rw [hk]; rfl)
   rw [eE_no hk, hT] at ct
   clear hk hT cs hts hok hm0
   go_enter Tryz.func14, Tryz.ntmps14
   have tk0 := hidp trivial
   go_wp2_with (first | (clear tk0; (refine Mm.box 40 H rfl (.tmp 0) rfl [.string S, .int .i64 (h : Int), .int .i64 (m : Int), v] rfl ?_; clear H; intro b2 _ H nw; have hb := nw.below; clear hb nw); (try simp only [Act.put, aQ]); have tk1 := hidp trivial) | (clear tk1; (refine Mm.box 27 H rfl (.tmp 1) rfl x.row rfl ?_; clear H; intro b3 _ H nw; have hb := nw.below; clear hb nw); (try simp only [Act.put, aQ]); have tk2 := hidp trivial) | (clear tk2; (refine Mm.new rtDR H (some 4) rfl rfl rfl ?_; clear H; intro b4 _ H nw; have hb := nw.below; clear hb nw); (try simp only [Act.put, aQ]); have tk3 := hidp trivial) | (clear tk3; (refine Mm.new rtE H (some 5) rfl rfl rfl ?_; clear H; intro b5 _ H nw; have hb := nw.below; clear hb nw); (try simp only [Act.put, aQ]); have tk4 := hidp trivial) | (clear tk4; (refine Mm.get2 rtE H rfl (.tmp 3) rfl rfl (En.len HP.out) ?_); (try simp only [Act.put, aQ]); have tk5 := hidp trivial) | (clear tk5; (go_at_call 18; refine (ct.out _).mono ?_; rintro e _ ⟨rfl, hb⟩; replace H := hidp (H.out.call hb); clear ct; clear hb); (try simp only [Act.put, aQ]); have tk6 := hidp trivial))
   try clear tk6
   refine regionS [⟨b3, 27, x.row⟩, ⟨b2, 40, [.string S, .int .i64 (h : Int), .int .i64 (m : Int), v]⟩] (fun W h => h.sub (by simp)) H (.take 0 (.take 1 (.take 2 (.one 3 (.one 4 (.take 5 .done)))))) (by kernel_rfl) (by kernel_rfl) (by simp [Scr.depth]) (by kernel_rfl) ?_
   clear H
   intro _ H hb
   clear hb
   refine Mm.sget1 rtDR (fun w h => h) rfl rfl (.tmp 2) rfl rfl rfl ?_
   simp only [Act.put, aP]
   refine Mm.sget0 rtE (fun w h => h) rfl rfl (.tmp 3) rfl rfl (En.len HP.out) ?_
   simp only [Act.put, aP]
   apply s_val
   case ho | hw => rfl
   case hv => intro w hw; go_simp; first | done | rfl
   simp only [Act.put, aP]
   refine Mm.oput1 rtDR H [.string S, .int .i64 (h : Int), .int .i64 (m : Int), v] (fun W h => h.sub (by simp)) rfl rfl (.tmp 4) (.tmp 19) rfl rfl rfl rfl (by intro u hu; simp only [List.mem_cons, List.not_mem_nil, or_false] at hu; rcases hu with rfl | rfl | rfl | rfl <;> first | rfl | exact hone) rfl ?_
   intro _ H2 st
   clear st H
   have H := H2
   clear H2
   simp only [Act.put, aP]
   refine Mm.oput0 rtE H x.row (fun W h => h.sub (by simp)) rfl rfl (.tmp 5) (.tmp 20) rfl rfl rfl (En.len HP.out) (En.one x) (En.len (rfl : zEn.p.length = 32)) ?_
   intro _ H2 st
   clear st H
   have H := H2
   clear H2
   simp only [Act.put, aP]
   apply s_val
   case ho | hw => rfl
   case hv => intro w hw; go_simp; first | done | rfl
   simp only [Act.put, aP]
   refine NoPanic.normal ?_
   go_wp2
   refine bodyPost_ret (ret_rrv rtDR rtE Tryz.results14 _ b4 b5 _ _ _ rfl rfl rfl H.out.at1 rfl H.out.at0 (En.len HP.out)) rfl ⟨by rw [HVV.out, HE.out, HRR.out]; first | done | rfl, H.out.below⟩
 | true =>
   rw [eE_yes hk, hT] at ct
   rw [hT] at cs
   by_cases hu : m = 2 ^ h
   · have hN : ((m : Nat) : Int) = ((2 ^ ((h : Nat) : Int).toNat : Nat) : Int) := by rw [Int.toNat_natCast, hu]
     obtain ⟨g1, g2⟩ := sg_over (S := S) (H := h) (N := m) T.data.toList hok hN
     have g3 : sgE S h m = 10 := by unfold sgE; rw [if_pos hok, if_pos hN]
     have HVV := hidp (show esV S h m x = x from by unfold esV; rw [if_neg (fun g => by rw [g3] at g; cases g.2)])
     have HE := hidp (show esE S h m x = 10 from by unfold esE; rw [hk, if_pos rfl, g3])
     have HRR := hidp (show esR S h m x ++ [v] = [.string S, .int .i64 (h : Int), .int .i64 (m : Int), v] from by unfold esR; rw [hk, if_pos rfl]; show rgA S h m ++ [v] = _; rw [show rgA S h m = [.string S, .int .i64 (h : Int), .int .i64 (m : Int)] from by unfold rgA; rw [g3]; rfl]; rfl)
     rw [show rgA S h m ++ [v] = [.string S, .int .i64 (h : Int), .int .i64 (m : Int), v] from by rw [show rgA S h m = [.string S, .int .i64 (h : Int), .int .i64 (m : Int)] from by unfold rgA; rw [g3]; rfl]; rfl, g3] at cs
     obtain ⟨G, hG⟩ : ∃ G, sgS S h m T.data.toList = G := ⟨_, rfl⟩
     rw [hG] at cs
     clear hk hT hts hok hm0 hN g1 g2 g3 hG hu
     go_enter Tryz.func14, Tryz.ntmps14
     have tk0 := hidp trivial
     go_wp2_with (first | (clear tk0; (refine Mm.box 40 H rfl (.tmp 0) rfl [.string S, .int .i64 (h : Int), .int .i64 (m : Int), v] rfl ?_; clear H; intro b2 _ H nw; have hb := nw.below; clear hb nw); (try simp only [Act.put, aQ]); have tk1 := hidp trivial) | (clear tk1; (refine Mm.box 27 H rfl (.tmp 1) rfl x.row rfl ?_; clear H; intro b3 _ H nw; have hb := nw.below; clear hb nw); (try simp only [Act.put, aQ]); have tk2 := hidp trivial) | (clear tk2; (refine Mm.new rtDR H (some 4) rfl rfl rfl ?_; clear H; intro b4 _ H nw; have hb := nw.below; clear hb nw); (try simp only [Act.put, aQ]); have tk3 := hidp trivial) | (clear tk3; (refine Mm.new rtE H (some 5) rfl rfl rfl ?_; clear H; intro b5 _ H nw; have hb := nw.below; clear hb nw); (try simp only [Act.put, aQ]); have tk4 := hidp trivial) | (clear tk4; (refine Mm.get2 rtE H rfl (.tmp 3) rfl rfl (En.len HP.out) ?_); (try simp only [Act.put, aQ]); have tk5 := hidp trivial) | (clear tk5; (go_at_call 18; refine (ct.out _).mono ?_; rintro e _ ⟨rfl, hb⟩; replace H := hidp (H.out.call hb); clear ct; clear hb); (try simp only [Act.put, aQ]); have tk6 := hidp trivial) | (clear tk6; (refine Mm.get3 rtDR H rfl (.tmp 2) rfl rfl rfl ?_); (try simp only [Act.put, aQ]); have tk7 := hidp trivial) | (clear tk7; (go_at_call 51; refine (cs.out _ (hat_below HV.out H.out.below)).mono ?_; rintro e _ ⟨rfl, hb⟩; replace H := hidp (H.out.call hb); clear cs; clear hb); (try simp only [Act.put, aQ]); have tk8 := hidp trivial) | (clear tk8; (refine Mm.new rtDR H (some 9) rfl rfl rfl ?_; clear H; intro b9 _ H nw; have hb := nw.below; clear hb nw); (try simp only [Act.put, aQ]); have tk9 := hidp trivial) | (clear tk9; (refine Mm.put0 rtDR H rfl (.tmp 9) (.tmp 26) [.string S, .int .i64 (h : Int), .int .i64 (m : Int), v] rfl rfl rfl rfl (by intro u hu; simp only [List.mem_cons, List.not_mem_nil, or_false] at hu; rcases hu with rfl | rfl | rfl | rfl <;> first | rfl | exact hone) rfl ?_; intro _ H2 st; clear st H; have H := H2; clear H2); (try simp only [Act.put, aQ]); have tk10 := hidp trivial))
     try clear tk10
     refine regionS [⟨b9, 40, [.string S, .int .i64 (h : Int), .int .i64 (m : Int), v]⟩, ⟨b3, 27, x.row⟩, ⟨b2, 40, [.string S, .int .i64 (h : Int), .int .i64 (m : Int), v]⟩] (fun W h => h.sub (by simp)) H (.take 0 (.take 1 (.take 2 (.one 3 (.one 4 (.take 5 .done)))))) (by kernel_rfl) (by kernel_rfl) (by simp [Scr.depth]) (by kernel_rfl) ?_
     clear H
     intro _ H hb
     clear hb
     refine Mm.sget2 rtDR (fun w h => h) rfl rfl (.tmp 2) rfl rfl rfl ?_
     simp only [Act.put, aP]
     refine Mm.sget1 rtE (fun w h => h) rfl rfl (.tmp 3) rfl rfl (En.len HP.out) ?_
     simp only [Act.put, aP]
     apply s_val
     case ho | hw => rfl
     case hv => intro w hw; go_simp; first | done | rfl
     simp only [Act.put, aP]
     refine Mm.oput2 rtDR H [.string S, .int .i64 (h : Int), .int .i64 (m : Int), v] (fun W h => h.sub (by simp)) rfl rfl (.tmp 4) (.tmp 31) rfl rfl rfl rfl (by intro u hu; simp only [List.mem_cons, List.not_mem_nil, or_false] at hu; rcases hu with rfl | rfl | rfl | rfl <;> first | rfl | exact hone) rfl ?_
     intro _ H2 st
     clear st H
     have H := H2
     clear H2
     simp only [Act.put, aP]
     refine Mm.oput1 rtE H x.row (fun W h => h.sub (by simp)) rfl rfl (.tmp 5) (.tmp 32) rfl rfl rfl (En.len HP.out) (En.one x) (En.len (rfl : zEn.p.length = 32)) ?_
     intro _ H2 st
     clear st H
     have H := H2
     clear H2
     simp only [Act.put, aP]
     apply s_val
     case ho | hw => rfl
     case hv => intro w hw; go_simp; first | done | rfl
     simp only [Act.put, aP]
     refine NoPanic.normal ?_
     go_wp2
     refine bodyPost_ret (ret_rrv rtDR rtE Tryz.results14 _ b4 b5 _ _ _ rfl rfl rfl H.out.at2 rfl H.out.at1 (En.len HP.out)) rfl ⟨by rw [HVV.out, HE.out, HRR.out]; first | done | rfl, H.out.below⟩
   · have hN : ((m : Nat) : Int) ≠ ((2 ^ ((h : Nat) : Int).toNat : Nat) : Int) := by rw [Int.toNat_natCast]; omega
     obtain ⟨g1, g2, g3⟩ := sg_yes (S := S) (H := h) (N := m) T.data.toList hok hN
     obtain ⟨G, hG⟩ : ∃ G, sgS S h m T.data.toList = G := ⟨_, rfl⟩
     have hR : rgA S h m = [.string S, .int .i64 (h : Int), .int .i64 ((m : Int) + 1)] := by unfold rgA; rw [if_pos g3]; exact g1
     have HVV := hidp (show esV S h m x = wSigE x G from by unfold esV; rw [if_pos ⟨hk, g3⟩, hT, hG])
     have HE := hidp (show esE S h m x = 0 from by unfold esE; rw [hk, if_pos rfl, g3])
     have HRR := hidp (show esR S h m x ++ [v] = [.string S, .int .i64 (h : Int), .int .i64 ((m : Int) + 1), v] from by unfold esR; rw [hk, if_pos rfl]; show rgA S h m ++ [v] = _; rw [hR]; rfl)
     rw [show rgA S h m ++ [v] = [.string S, .int .i64 (h : Int), .int .i64 ((m : Int) + 1), v] from by rw [hR]; rfl, g3, hG] at cs
     clear hk hT hts hok hm0 hN g1 g2 g3 hG hu hR
     go_enter Tryz.func14, Tryz.ntmps14
     have tk0 := hidp trivial
     go_wp2_with (first | (clear tk0; (refine Mm.box 40 H rfl (.tmp 0) rfl [.string S, .int .i64 (h : Int), .int .i64 (m : Int), v] rfl ?_; clear H; intro b2 _ H nw; have hb := nw.below; clear hb nw); (try simp only [Act.put, aQ]); have tk1 := hidp trivial) | (clear tk1; (refine Mm.box 27 H rfl (.tmp 1) rfl x.row rfl ?_; clear H; intro b3 _ H nw; have hb := nw.below; clear hb nw); (try simp only [Act.put, aQ]); have tk2 := hidp trivial) | (clear tk2; (refine Mm.new rtDR H (some 4) rfl rfl rfl ?_; clear H; intro b4 _ H nw; have hb := nw.below; clear hb nw); (try simp only [Act.put, aQ]); have tk3 := hidp trivial) | (clear tk3; (refine Mm.new rtE H (some 5) rfl rfl rfl ?_; clear H; intro b5 _ H nw; have hb := nw.below; clear hb nw); (try simp only [Act.put, aQ]); have tk4 := hidp trivial) | (clear tk4; (refine Mm.get2 rtE H rfl (.tmp 3) rfl rfl (En.len HP.out) ?_); (try simp only [Act.put, aQ]); have tk5 := hidp trivial) | (clear tk5; (go_at_call 18; refine (ct.out _).mono ?_; rintro e _ ⟨rfl, hb⟩; replace H := hidp (H.out.call hb); clear ct; clear hb); (try simp only [Act.put, aQ]); have tk6 := hidp trivial) | (clear tk6; (refine Mm.get3 rtDR H rfl (.tmp 2) rfl rfl rfl ?_); (try simp only [Act.put, aQ]); have tk7 := hidp trivial) | (clear tk7; (go_at_call 51; refine (cs.out _ (hat_below HV.out H.out.below)).mono ?_; rintro e _ ⟨rfl, hb⟩; replace H := hidp (H.out.call hb); clear cs; clear hb); (try simp only [Act.put, aQ]); have tk8 := hidp trivial) | (clear tk8; (refine Mm.new rtDR H (some 9) rfl rfl rfl ?_; clear H; intro b9 _ H nw; have hb := nw.below; clear hb nw); (try simp only [Act.put, aQ]); have tk9 := hidp trivial) | (clear tk9; (refine Mm.put0 rtDR H rfl (.tmp 9) (.tmp 26) [.string S, .int .i64 (h : Int), .int .i64 ((m : Int) + 1), v] rfl rfl rfl rfl (by intro u hu; simp only [List.mem_cons, List.not_mem_nil, or_false] at hu; rcases hu with rfl | rfl | rfl | rfl <;> first | rfl | exact hone) rfl ?_; intro _ H2 st; clear st H; have H := H2; clear H2); (try simp only [Act.put, aQ]); have tk10 := hidp trivial) | (clear tk10; (refine Mm.putF3 H rfl 9 (.tmp 35) (.tmp 34) 36 (.string G) rfl rfl rfl (by kernel_rfl) rfl (by rw [En.len HP.out]; decide) ?_; intro _ H2 st; clear st H; rw [En.sig36' HP.out] at H2; have H := H2; clear H2); (try simp only [Act.put, aQ]); have tk11 := hidp trivial))
     try clear tk11
     refine regionS [⟨b9, 40, [.string S, .int .i64 (h : Int), .int .i64 ((m : Int) + 1), v]⟩, ⟨b3, 27, (wSigE x G).row⟩, ⟨b2, 40, [.string S, .int .i64 (h : Int), .int .i64 (m : Int), v]⟩] (fun W h => h.sub (by simp)) H (.take 0 (.take 1 (.one 2 (.one 3 (.take 4 .done))))) (by kernel_rfl) (by kernel_rfl) (by simp [Scr.depth]) (by kernel_rfl) ?_
     clear H
     intro _ H hb
     clear hb
     refine Mm.sget0 rtDR (fun w h => h) rfl rfl (.tmp 9) rfl rfl rfl ?_
     simp only [Act.put, aP]
     refine Mm.sget1 rtE (fun w h => h) rfl rfl (.tmp 3) rfl rfl (En.len HP.out) ?_
     simp only [Act.put, aP]
     refine Mm.oput2 rtDR H [.string S, .int .i64 (h : Int), .int .i64 ((m : Int) + 1), v] (fun W h => h.sub (by simp)) rfl rfl (.tmp 4) (.tmp 36) rfl rfl rfl rfl (by intro u hu; simp only [List.mem_cons, List.not_mem_nil, or_false] at hu; rcases hu with rfl | rfl | rfl | rfl <;> first | rfl | exact hone) rfl ?_
     intro _ H2 st
     clear st H
     have H := H2
     clear H2
     simp only [Act.put, aP]
     refine Mm.oput1 rtE H (wSigE x G).row (fun W h => h.sub (by simp)) rfl rfl (.tmp 5) (.tmp 37) rfl rfl rfl (En.len HP.out) (En.one (wSigE x G)) (En.len (rfl : zEn.p.length = 32)) ?_
     intro _ H2 st
     clear st H
     have H := H2
     clear H2
     simp only [Act.put, aP]
     apply s_val
     case ho | hw => rfl
     case hv => intro w hw; go_simp; first | done | rfl
     simp only [Act.put, aP]
     refine NoPanic.normal ?_
     go_wp2
     refine bodyPost_ret (ret_rrv rtDR rtE Tryz.results14 _ b4 b5 _ _ _ rfl rfl rfl H.out.at2 rfl H.out.at1 (En.len HP.out)) rfl ⟨by rw [HVV.out, HE.out, HRR.out]; first | done | rfl, H.out.below⟩
theorem rverify19_any (w : World) (v : Value) (gs : List Gr) (hv : GsAt w v gs) (n : Int) (x : En) (hx : x.ok) :
 Calls Tryz.prog 11 #[v, .int .i64 n, .agg x.row.toArray] w fun e w' => e = .returned (.int .i64 (evfE gs n x)) ∧ Below w.heap.size w w' := by
 have HVV := hidp hv; have HP := hidp hx.p
 clear hv
 have hts := eT_size x hx.p
 have cv := hidp (fun W (hg : GsAt W v gs) => rbverify_any W v gs hg n x.i (eT x) x.g (by omega) (by have := hx.g; omega) (by omega))
 have ct := hidp (fun W => rtext_any W x hx)
 have H := hidp (Mm.M.nil w)
 clear hx
 have hVE : evfE gs n x = if eOk x = true then bvE gs n x.i (eT x) x.g else 2 := rfl
 obtain ⟨T, hT⟩ : ∃ T, eT x = T := ⟨_, rfl⟩
 rw [hT] at ct cv hVE
 cases hok : eOk x with
 | false =>
   rw [hVE, hok]
   rw [eE_no hok] at ct
   show Calls _ _ _ _ fun e w' => e = .returned (.int .i64 2) ∧ _
   clear hok hT hVE hts cv
   go_enter Tryz.func11, Tryz.ntmps11
   have tk0 := hidp trivial
   go_wp2_with (first | (clear tk0; (refine Mm.box 27 H rfl (.tmp 2) rfl x.row rfl ?_; clear H; intro b5 _ H nw; have hb := nw.below; clear hb nw); (try simp only [Act.put, aQ]); have tk1 := hidp trivial) | (clear tk1; (refine Mm.get0 rtE H rfl (.tmp 5) rfl rfl (En.len HP.out) ?_); (try simp only [Act.put, aQ]); have tk2 := hidp trivial) | (clear tk2; (go_at_call 18; refine (ct.out _).mono ?_; rintro e _ ⟨rfl, hb⟩; replace H := hidp (H.out.call hb); clear ct; clear hb); (try simp only [Act.put, aQ]); have tk3 := hidp trivial))
   try clear tk3
   go_ret
   exact ⟨rfl, H.out.below⟩
 | true =>
   rw [hVE, hok, if_pos rfl]
   rw [eE_yes hok] at ct
   obtain ⟨VE, hVE2⟩ : ∃ VE, bvE gs n x.i T x.g = VE := ⟨_, rfl⟩
   rw [hVE2] at cv ⊢
   clear hok hT hVE hVE2 hts
   go_enter Tryz.func11, Tryz.ntmps11
   have tk0 := hidp trivial
   go_wp2_with (first | (clear tk0; (refine Mm.box 27 H rfl (.tmp 2) rfl x.row rfl ?_; clear H; intro b5 _ H nw; have hb := nw.below; clear hb nw); (try simp only [Act.put, aQ]); have tk1 := hidp trivial) | (clear tk1; (refine Mm.get0 rtE H rfl (.tmp 5) rfl rfl (En.len HP.out) ?_); (try simp only [Act.put, aQ]); have tk2 := hidp trivial) | (clear tk2; (go_at_call 18; refine (ct.out _).mono ?_; rintro e _ ⟨rfl, hb⟩; replace H := hidp (H.out.call hb); clear ct; clear hb); (try simp only [Act.put, aQ]); have tk3 := hidp trivial) | (clear tk3; (refine Mm.ld0 naI H rfl (.tmp 19) 2 (.int .i64 x.i) rfl rfl (En.get2 _) ?_); (try simp only [Act.put, aQ]); have tk4 := hidp trivial) | (clear tk4; (refine Mm.ld0 naS H rfl (.tmp 22) 36 (.string x.g) rfl rfl (En.get36 HP.out) ?_); (try simp only [Act.put, aQ]); have tk5 := hidp trivial) | (clear tk5; (go_at_call 46; refine (cv.out _ (HVV.out.to H.out.below)).mono ?_; rintro e _ ⟨rfl, hb⟩; replace H := hidp (H.out.call hb); clear cv; clear hb); (try simp only [Act.put, aQ]); have tk6 := hidp trivial))
   try clear tk6
   go_ret
   exact ⟨rfl, H.out.below⟩
end Go.Proofs.YtbgooppmhgaicaaGreatDoor.En
