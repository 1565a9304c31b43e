import Derived.Test.YtokakgjcegmabaaGreatDoorLU1
import Derived.Test.YtokakgjcegmabaaGreatDoorLR2
set_option linter.unusedVariables false
set_option linter.unusedSimpArgs false
set_option maxHeartbeats 64000000
set_option maxRecDepth 100000
namespace Go.Proofs.YtokakgjcegmabaaGreatDoor.Hd
open Go.RowKit
open List (getElem_toArray getElem_cons_zero getElem_cons_succ setIfInBounds_toArray set_cons_zero set_cons_succ)
open En (cnt num4 num4_in z32e naS naI rtH u8_one hsV hsE hsV_len ohash_any s_cnv wpL_slc or4 or4_zero or4_any four s_bld wpL_bsE4)
open En (eOk eE eE_yes eE_no esmV esum_any s_bld)
def jOf (x:En.En):Hd:=if eOk x=true then ⟨x.r,x.e,x.i,esmV x,⟨#[]⟩⟩ else zHd
theorem esm_len (x:En.En):(esmV x).length=32:=by unfold esmV;split;exact shaL_len _;rfl
section
variable {ops:Array Oper} {rest:List Oper} {o:Oper} {a:Act} {w w0:World} {N:Nat} {L:List Mm.Bx} {Q:Exit→Act→World→Prop} {S:World→Prop} {j:Nat} {s:Scr} {K:Act→World→Prop}
theorem run_bsS5 (z0 z1 z2 z3 z4:ByteArray) (w:World):(Instr.buildSlice 75 5 #[(0,.string z0),(1,.string z1),(2,.string z2),(3,.string z3),(4,.string z4)]).run Tryz.prog w=.ok (.slice (some ⟨w.heap.size,0,none⟩) 5 5) (w.alloc (.cells #[.string z0,.string z1,.string z2,.string z3,.string z4] 9)):=by
 obtain ⟨i0,hi,hz0,hz1,hz2⟩:=info_parts Sl.infoS
 refine run_buildSlice w 75 9 5 _ _ i0 _ Sl.tyS hi hz0 (by rw [hz1];omega) (by rw [hz1];omega) ?_
 have hr:Array.range 5=#[0,1,2,3,4]:=by decide
 rw [hz1];simp [Instr.fill,Value.cells,hr]
theorem o_bsS5 (H:Hid (Mm.M N w0 w L)) (hT:∀ W,Mm.M N w0 W L→S W) (ho:ops[j]?=some o) (hw:Region.wanted o (yielded ops a.tmps)=true) (x0 x1 x2 x3 x4:Operand) (z0 z1 z2 z3 z4:ByteArray) (hop:o.op=.buildSlice 75 5 #[(0,x0),(1,x1),(2,x2),(3,x3),(4,x4)]) (hx0:a.eval x0=.string z0) (hx1:a.eval x1=.string z1) (hx2:a.eval x2=.string z2) (hx3:a.eval x3=.string z3) (hx4:a.eval x4=.string z4)
 (h:∀ b W,Hid (Mm.M N w0 W (⟨b,9,[.string z0,.string z1,.string z2,.string z3,.string z4]⟩ :: L))→Rt.NewAt w W b 9 [.string z0,.string z1,.string z2,.string z3,.string z4]→K (a.put o.dst (.slice (some ⟨b,0,none⟩) 5 5)) W):opW Tryz.prog ops Q S j K a w:=by
 have n:=Rt.NewAt.mk' w 9 [.string z0,.string z1,.string z2,.string z3,.string z4]
 have hM:=H.out.new n
 refine o_make ho hw ?_ (hT _ hM.tail) (h _ _ (hidp hM) n)
 unfold execOp
 simp only [hop,List.map_toArray,List.map_cons,List.map_nil,hx0,hx1,hx2,hx3,hx4,Sem.run_bind,run_bsS5 z0 z1 z2 z3 z4 w,Result.andThen_ok]
 rfl
end
theorem jtext_any (w:World) (x:Hd) (hx:x.ok) (hI:IT w):Calls Tryz.prog 52 #[.agg x.row.toArray] w fun e w'=>e=.returned (.tuple #[.string (jT x),.int .i64 (jE x)])∧Below w.heap.size w w':=by
 have H:=hidp (Mm.M.nil w)
 have HP:=hidp hx.p
 have cc:=hidp (fun W (h:IT W)=>jcheck_any W x hx h)
 have HI:=hidp hI;clear hI hx
 cases hok:jOk x with
 | false =>
   rw [jE_no hok] at cc ⊢
   rw [jT_no hok]
   clear hok
   go_enter Tryz.func52,Tryz.ntmps52
   have tk0:=hT
   go_wp2_with (first|(clear tk0;(refine Mm.box 67 H rfl (.tmp 0) rfl x.row rfl ?_;clear H;intro b1 _ H nw;clear nw);(try simp only [aR]);have tk1:=hT)|(clear tk1;(refine Mm.get0 rtHd H rfl (.tmp 1) rfl rfl (Hd.len HP.out) ?_);(try simp only [aR]);have tk2:=hT)|(clear tk2;(go_at_call 104;refine (cc.out _ (HI.out.below H.out.below (Nat.le_refl _))).mono ?_;rintro e _ ⟨rfl,hb⟩;replace H:=hidp (H.out.call hb);clear cc;clear hb);(try simp only [aR]);have tk3:=hT))
   try clear tk3
   go_ret2
   exact ⟨rfl,H.out.below⟩
 | true =>
   rw [jE_yes hok] at cc ⊢
   obtain ⟨-,h2,h3,-⟩:=jOk_parts hok
   obtain ⟨ne,hne⟩:=Int.eq_ofNat_of_zero_le h2.1
   obtain ⟨ni,hni⟩:=Int.eq_ofNat_of_zero_le h3.1
   have hlok:=jL_ok hok HP.out
   have hT:jT x=listS (jL x)∧(0:Int)=listE (jL x):=by rw [jT_yes hok,listS_yes hlok,listE_yes hlok];exact ⟨rfl,rfl⟩
   have hL:jL x=[wHead,x.r,mkS (encN ne),mkS (encN ni),mkS x.p]:=by unfold jL;rw [hne,hni];rfl
   have HE1:=hidp (show x.row[1]?=some (.int .i64 (ne:Int)) from by rw [Hd.get1,hne])
   have HI1:=hidp (show x.row[2]?=some (.int .i64 (ni:Int)) from by rw [Hd.get2,hni])
   have ce:=hidp (fun W=>num_any W ne (by omega))
   rw [numS_yes (by omega),numE_yes (by omega)] at ce
   have ci:=hidp (fun W=>num_any W ni (by omega))
   rw [numS_yes (by omega),numE_yes (by omega)] at ci
   have w1:IntKind.u64.wrap (ne:Int)=(ne:Int):=by unfold IntKind.wrap;simp [IntKind.bits,IntKind.signed];omega
   have w2:IntKind.u64.wrap (ni:Int)=(ni:Int):=by unfold IntKind.wrap;simp [IntKind.bits,IntKind.signed];omega
   rw [hL] at hlok hT
   have cl:=hidp (fun W v (hat:StrsAt W v [wHead,x.r,mkS (encN ne),mkS (encN ni),mkS x.p])=>list_any W v _ hat (by simp) (fun s hs=>by have:=hlok.2 s hs;omega))
   rw [← hT.1,← hT.2] at cl
   obtain ⟨T,hTT⟩:∃ T,jT x=T:=⟨_,rfl⟩
   rw [hTT] at cl ⊢
   clear hok h2 h3 hne hni hlok hT hL hTT
   go_enter Tryz.func52,Tryz.ntmps52
   have tk0:=hT
   go_wp2_with (first|(clear tk0;(refine Mm.box 67 H rfl (.tmp 0) rfl x.row rfl ?_;clear H;intro b1 _ H nw;clear nw);(try simp only [aR]);have tk1:=hT)|(clear tk1;(refine Mm.get0 rtHd H rfl (.tmp 1) rfl rfl (Hd.len HP.out) ?_);(try simp only [aR]);have tk2:=hT)|(clear tk2;(go_at_call 104;refine (cc.out _ (HI.out.below H.out.below (Nat.le_refl _))).mono ?_;rintro e _ ⟨rfl,hb⟩;replace H:=hidp (H.out.call hb);clear cc;clear hb);(try simp only [aR]);have tk3:=hT)|(clear tk3;(refine Mm.ld0 naI H rfl (.tmp 15) 1 (.int .i64 (ne:Int)) rfl rfl HE1.out ?_);(try simp only [aR]);have tk4:=hT)|(clear tk4;(go_at_call 66;refine (ce.out _).mono ?_;rintro e _ ⟨rfl,hb⟩;replace H:=hidp (H.out.call hb);clear hb);(try simp only [aR]);have tk5:=hT)|(clear tk5;(refine Mm.ld0 naI H rfl (.tmp 22) 2 (.int .i64 (ni:Int)) rfl rfl HI1.out ?_);(try simp only [aR]);have tk6:=hT)|(clear tk6;(go_at_call 66;refine (ci.out _).mono ?_;rintro e _ ⟨rfl,hb⟩;replace H:=hidp (H.out.call hb);clear hb);(try simp only [aR]);have tk7:=hT))
   try clear tk7
   refine Mm.region H (.take 0 (.take 1 (.take 2 (.take 3 (.take 4 (.take 5 (.take 6 (.one 7 (.one 8 (.take 9 (.take 10 (.take 11 (.take 12 .done))))))))))))) (by kernel_rfl) (by kernel_rfl) (by simp [Scr.depth]) (by kernel_rfl) ?_
   clear H
   intro _ H hb
   clear hb
   apply s_val
   case ho | hw=>rfl
   case hv=>intro w hw;go_simp;first | done | rfl
   simp only [aS]
   refine Mm.sld0 naS (fun w h=>h) rfl rfl (.tmp 28) 0 (.string x.r) rfl rfl (Hd.get0 _) ?_
   iterate 3
    simp only [aS]
    apply s_val
    case ho | hw=>rfl
    case hv=>intro w hw;go_simp;first | done | rfl
   simp only [aS]
   refine s_slc rfl rfl (.tmp 32) rfl b1 3 rfl ?_
   simp only [aS]
   refine s_cnv rfl rfl (.tmp 33) rfl _ (mkS x.p) rfl (fun W hW=>conv32 W b1 x HP.out hW.at0) ?_
   simp only [aS]
   refine o_bsS5 H (fun W h=>h) rfl rfl _ _ _ _ _ wHead x.r (mkS (encN ne)) (mkS (encN ni)) (mkS x.p) rfl rfl rfl rfl rfl rfl ?_
   clear H
   intro b9 _ H nw
   have hb:=nw.below
   clear hb nw
   simp only [aS]
   have hsl:=(Sl.own_arr (B:=0) (row:=strV [wHead,x.r,mkS (encN ne),mkS (encN ni),mkS x.p]) H.out.at0 (Nat.zero_le _) (by simp [strV])).strs
   refine Mm.o_callH (v:=.tuple #[.string T,.int .i64 0]) H (fun W h=>h.tail) rfl rfl 67 (#[.slice (some ⟨b9,0,none⟩) 5 5]) (by go_simp;first | done | rfl) (cl.out _ _ hsl) ?_
   clear H
   intro _ H hb
   clear hsl cl
   clear hb
   iterate 4
    simp only [aS]
    apply s_val
    case ho | hw=>rfl
    case hv=>intro w hw;go_simp;first | done | rfl
   simp only [aS]
   refine NoPanic.normal ?_
   go_wp2
   go_ret2
   exact ⟨rfl,H.out.below⟩
theorem jowned_any (w:World) (x:Hd) (hx:x.ok):Calls Tryz.prog 102 #[.agg x.row.toArray] w fun e w'=>e=.returned (.agg x.row.toArray)∧Below w.heap.size w w':=by
 have H:=hidp (Mm.M.nil w)
 have HP:=hidp hx.p
 have HZ:=hidp (show x.r.size≤281474976710656∧x.g.size≤281474976710656 from ⟨by have:=hx.r;omega,by have:=hx.g;omega⟩)
 clear hx
 go_enter Tryz.func102,Tryz.ntmps102
 have tk0:=hT
 go_wp2_with (first|(clear tk0;(refine Mm.box 67 H rfl (.tmp 0) rfl x.row rfl ?_;clear H;intro b1 _ H nw;clear nw);(try simp only [aR]);have tk1:=hT)|(clear tk1;(refine Mm.new rtHd H (some 2) rfl rfl rfl ?_;clear H;intro b2 _ H nw;clear nw);(try simp only [aR]);have tk2:=hT)|(clear tk2;(refine Mm.ld1 naS H rfl (.tmp 3) 0 (.string x.r) rfl rfl (Hd.get0 _) ?_);(try simp only [aR]);have tk3:=hT)|(clear tk3;(go_at_call 69;refine (strClone_any x.r _ HZ.out.1).mono ?_;rintro e _ ⟨rfl,hb⟩;replace H:=hidp (H.out.call hb);clear hb);(try simp only [aR]);have tk4:=hT)|(clear tk4;(refine Mm.putF1 H rfl 9 (.tmp 6) (.tmp 5) 0 (.string x.r) rfl rfl rfl (by kernel_rfl) rfl (by rw [Hd.len HP.out];decide) ?_;intro _ H2 st;clear st H;rw [Hd.same0] at H2;have H:=H2;clear H2);(try simp only [aR]);have tk5:=hT)|(clear tk5;(refine Mm.ld1 naS H rfl (.tmp 7) 35 (.string x.g) rfl rfl (Hd.get35 HP.out) ?_);(try simp only [aR]);have tk6:=hT)|(clear tk6;(go_at_call 69;refine (strClone_any x.g _ HZ.out.2).mono ?_;rintro e _ ⟨rfl,hb⟩;replace H:=hidp (H.out.call hb);clear hb);(try simp only [aR]);have tk7:=hT)|(clear tk7;(refine Mm.putF1 H rfl 9 (.tmp 10) (.tmp 9) 35 (.string x.g) rfl rfl rfl (by kernel_rfl) rfl (by rw [Hd.len HP.out];decide) ?_;intro _ H2 st;clear st H;rw [Hd.same35 HP.out] at H2;have H:=H2;clear H2);(try simp only [aR]);have tk8:=hT)|(clear tk8;(refine Mm.get1 rtHd H rfl (.tmp 1) rfl rfl (Hd.len HP.out) ?_);(try simp only [aR]);have tk9:=hT)|(clear tk9;(refine Mm.put0 rtHd H rfl (.tmp 2) (.tmp 11) x.row rfl rfl rfl (Hd.len HP.out) (Hd.one x) (Hd.len (rfl:zHd.p.length=32)) ?_;clear H;intro _ H st;clear st);(try simp only [aR]);have tk10:=hT))
 try clear tk10
 refine bodyPost_ret (Mm.ret_row rtHd Tryz.results102 _ b2 _ rfl H.out.at0 (Hd.len HP.out)) rfl ⟨rfl,H.out.below⟩
theorem jof_any (w:World) (x:En.En) (hx:x.ok) (hI:IT w) (hK:KT w):Calls Tryz.prog 49 #[.agg x.row.toArray] w fun e w'=>e=.returned (.tuple #[.agg (jOf x).row.toArray,.int .i64 (eE x)])∧Below w.heap.size w w':=by
 have H:=hidp (Mm.M.nil w)
 have HP:=hidp hx.p
 have HZ:=hidp (show x.r.size≤281474976710656 from by have:=hx.r;omega)
 have cs:=hidp (fun W (h:IT W) (k:KT W)=>esum_any W x hx h k)
 have hkp:=hK.pos;have HI:=hidp hI;have HK:=hidp hK;clear hI hK
 obtain ⟨U,hU⟩:∃ U,esmV x=U:=⟨_,rfl⟩
 have HUU:=hidp (show U.length=32 from by rw [← hU];exact esm_len x)
 have HU:=hidp (show (u8s U).length=32 from by rw [u8s_length];exact HUU.out)
 rw [hU] at cs
 clear hx
 cases hok:eOk x with
 | false =>
   have HV:=hidp (show jOf x=zHd from by unfold jOf;rw [hok];rfl)
   rw [eE_no hok] at cs ⊢
   clear hok hU
   go_enter Tryz.func49,Tryz.ntmps49
   have tk0:=hT
   go_wp2_with (first|(clear tk0;(refine Mm.box 103 H rfl (.tmp 0) rfl x.row rfl ?_;clear H;intro b1 _ H nw;clear nw);(try simp only [aR]);have tk1:=hT)|(clear tk1;(refine Mm.new rtHd H (some 2) rfl rfl rfl ?_;clear H;intro b2 _ H nw;clear nw);(try simp only [aR]);have tk2:=hT)|(clear tk2;(refine Mm.get1 En.rtE H rfl (.tmp 1) rfl rfl (En.En.len HP.out) ?_);(try simp only [aR]);have tk3:=hT)|(clear tk3;(go_at_call 101;refine (cs.out _ (HI.out.below H.out.below (Nat.le_refl _)) (HK.out.below H.out.below hkp)).mono ?_;rintro e _ ⟨rfl,hb⟩;replace H:=hidp (H.out.call hb);clear cs;clear hb);(try simp only [aR]);have tk4:=hT)|(clear tk4;(refine Mm.new rtH H (some 4) rfl rfl rfl ?_;clear H;intro b4 _ H nw;clear nw);(try simp only [aR]);have tk5:=hT)|(clear tk5;(refine Mm.put0 rtH H rfl (.tmp 4) (.tmp 9) (u8s U) rfl rfl rfl HU.out (u8_one _) rfl ?_;clear H;intro _ H st;clear st);(try simp only [aR]);have tk6:=hT)|(clear tk6;(refine Rt.wpL_build rfl 67 _ rfl zHd.row (by kernel_rfl) ?_);(try simp only [aR]);have tk7:=hT)|(clear tk7;(refine Mm.put1 rtHd H rfl (.tmp 2) (.tmp 13) zHd.row rfl rfl rfl (Hd.len (rfl:zHd.p.length=32)) (Hd.one zHd) (Hd.len (rfl:zHd.p.length=32)) ?_;clear H;intro _ H st;clear st);(try simp only [aR]);have tk8:=hT))
   try clear tk8
   refine bodyPost_ret (Mm.ret_rowv rtHd Tryz.results49 _ b2 _ _ rfl rfl H.out.at1 (Hd.len (rfl:zHd.p.length=32))) rfl ⟨by rw [HV.out];first | done | rfl,H.out.below⟩
 | true =>
   obtain ⟨Y,hY⟩:∃ Y,jOf x=Y:=⟨_,rfl⟩
   have HV:=hidp hY
   have HYE:=hidp (show (⟨x.r,x.e,x.i,U,⟨#[]⟩⟩:Hd)=Y from by rw [← hY,← hU];unfold jOf;rw [if_pos hok])
   have HY:=hidp (show Y.p.length=32 from by rw [← HYE.out];exact HUU.out)
   rw [eE_yes hok] at cs ⊢
   clear hok hU hY
   go_enter Tryz.func49,Tryz.ntmps49
   have tk0:=hT
   go_wp2_with (first|(clear tk0;(refine Mm.box 103 H rfl (.tmp 0) rfl x.row rfl ?_;clear H;intro b1 _ H nw;clear nw);(try simp only [aR]);have tk1:=hT)|(clear tk1;(refine Mm.new rtHd H (some 2) rfl rfl rfl ?_;clear H;intro b2 _ H nw;clear nw);(try simp only [aR]);have tk2:=hT)|(clear tk2;(refine Mm.get1 En.rtE H rfl (.tmp 1) rfl rfl (En.En.len HP.out) ?_);(try simp only [aR]);have tk3:=hT)|(clear tk3;(go_at_call 101;refine (cs.out _ (HI.out.below H.out.below (Nat.le_refl _)) (HK.out.below H.out.below hkp)).mono ?_;rintro e _ ⟨rfl,hb⟩;replace H:=hidp (H.out.call hb);clear cs;clear hb);(try simp only [aR]);have tk4:=hT)|(clear tk4;(refine Mm.new rtH H (some 4) rfl rfl rfl ?_;clear H;intro b4 _ H nw;clear nw);(try simp only [aR]);have tk5:=hT)|(clear tk5;(refine Mm.put0 rtH H rfl (.tmp 4) (.tmp 9) (u8s U) rfl rfl rfl HU.out (u8_one _) rfl ?_;clear H;intro _ H st;clear st);(try simp only [aR]);have tk6:=hT))
   try clear tk6
   refine Sl.regionS [⟨b4,58,(u8s U)⟩,⟨b1,103,x.row⟩] (fun W h=>h.sub (by simp)) H (.take 0 (.take 1 (.take 3 (.take 4 (.take 5 (.take 6 (.take 7 (.one 2 (.take 8 (.one 9 (.take 10 .done))))))))))) (by kernel_rfl) (by kernel_rfl) (by simp [Scr.depth]) (by kernel_rfl) ?_
   clear H
   intro _ H hb
   clear hb
   apply s_val
   case ho | hw=>rfl
   case hv=>intro w hw;go_simp;first | done | rfl
   simp only [aS]
   refine Mm.sld1 naS (fun w h=>h) rfl rfl (.tmp 15) 0 (.string x.r) rfl rfl (En.En.get0 _) ?_
   simp only [aS]
   apply s_val
   case ho | hw=>rfl
   case hv=>intro w hw;go_simp;first | done | rfl
   simp only [aS]
   refine Mm.sld1 naI (fun w h=>h) rfl rfl (.tmp 18) 1 (.int .i64 x.e) rfl rfl (En.En.get1 _) ?_
   simp only [aS]
   apply s_val
   case ho | hw=>rfl
   case hv=>intro w hw;go_simp;first | done | rfl
   simp only [aS]
   refine Mm.sld1 naI (fun w h=>h) rfl rfl (.tmp 20) 2 (.int .i64 x.i) rfl rfl (En.En.get2 _) ?_
   simp only [aS]
   refine Mm.sget0 rtH (fun w h=>h) rfl rfl (.tmp 4) rfl rfl HU.out ?_
   simp only [aS]
   refine Mm.o_callH (v:=.string x.r) H (fun W h=>h.sub (by simp)) rfl rfl 69 (#[.string x.r]) (by go_simp;first | done | rfl) (strClone_any x.r _ HZ.out) ?_
   clear H
   intro _ H hb
   clear hb
   simp only [aS]
   refine s_bld rfl rfl 67 _ rfl Y.row (by rw [← HYE.out];exact Eq.trans (by kernel_rfl) (built_hd x.r x.e x.i U HUU.out)) ?_
   simp only [aS]
   refine Mm.oput1 rtHd H Y.row (fun W h=>h.sub (by simp)) rfl rfl (.tmp 2) (.tmp 23) rfl rfl rfl (Hd.len HY.out) (Hd.one Y) (Hd.len (rfl:zHd.p.length=32)) ?_
   clear H
   intro _ H st
   clear st
   simp only [aS]
   apply s_val
   case ho | hw=>rfl
   case hv=>intro w hw;go_simp;first | done | rfl
   simp only [aS]
   refine NoPanic.normal ?_
   go_wp2
   refine bodyPost_ret (Mm.ret_rowv rtHd Tryz.results49 _ b2 _ _ rfl rfl H.out.at1 (Hd.len HY.out)) rfl ⟨by rw [HV.out];first | done | rfl,H.out.below⟩
end Go.Proofs.YtokakgjcegmabaaGreatDoor.Hd
