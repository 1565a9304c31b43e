import Derived.Test.YtokakgjcegmabaaGreatDoorLW
import Derived.Test.YtokakgjcegmabaaGreatDoorLR
set_option linter.unusedVariables false
set_option linter.unusedSimpArgs false
set_option maxHeartbeats 64000000
set_option maxRecDepth 100000
namespace Go.Proofs.YtokakgjcegmabaaGreatDoor.En
open Go.RowKit
open List (getElem_toArray getElem_cons_zero getElem_cons_succ setIfInBounds_toArray set_cons_zero set_cons_succ)
open Ho (Rg reb rgAt ringR)
theorem En.sig36' {x:En} (h:x.p.length=32) {s:ByteArray}:x.row.set 36 (.string s)=(wSigE x s).row:=En.set36 h s
def esE (S:ByteArray) (h m:Nat) (x:En):Int:=if eOk x=true then sgE S h m else 2
def esV (S:ByteArray) (h m:Nat) (x:En):En:=if eOk x=true∧sgE S h m=0 then wSigE x (sgS S h m (eT x).data.toList) else x
def esR (S:ByteArray) (h m:Nat) (x:En):List Value:=if eOk x=true then rgA S h m else ringR S h m
theorem esign_any (w:World) (b:Nat) (S:ByteArray) (h m:Nat) (hok:kyOk S h m=true) (hA:Arr w b 118 (ringR S h m)) (x:En) (hx:x.ok) (hI:IT w) (hK:KT w) :
 Calls Tryz.prog 48 #[.pointer (some ⟨b,0,none⟩),.agg x.row.toArray] w fun e w'=>e=.returned (.tuple #[.agg (esV S h m x).row.toArray,.int .i64 (esE S h m x)])∧Rg b w w'∧Arr w' b 118 (esR S h m x):=by
 have hbN:=hA.lt;have hkp:=hK.pos
 have HA:=hidp hA;have HP:=hidp hx.p
 have HI:=hidp hI;have HK:=hidp hK;clear hI hK hA
 have hts:=eT_size x hx.p
 have cs:=hidp (fun W (ha:Arr W b 118 (ringR S h m)) (hk:KT W)=>krSign_any W b S h m hok (eT x) (by omega) ha hk)
 have ct:=hidp (fun W (h:IT W)=>etext_any W x hx h)
 have co:=hidp (fun W=>eclone_any W x hx)
 have H:=hidp (Mm.M.nil w)
 clear hx hok
 obtain ⟨T,hT⟩:∃ T,eT x=T:=⟨_,rfl⟩
 cases hok:eOk x with
 | false =>
   have HV:=hidp (show esV S h m x=x from by unfold esV;rw [hok];rfl)
   have HE:=hidp (show esE S h m x=2 from by unfold esE;rw [hok];rfl)
   have HRR:=hidp (show esR S h m x=ringR S h m from by unfold esR;rw [hok];rfl)
   rw [eE_no hok,hT] at ct
   clear hok hT cs hts
   go_enter Tryz.func48,Tryz.ntmps48
   have tk0:=hT
   go_wp2_with (first|(clear tk0;(refine Mm.box 103 H rfl (.tmp 1) rfl x.row rfl ?_;clear H;intro b3 _ H nw;clear nw);(try simp only [aR]);have tk1:=hT)|(clear tk1;(refine Mm.new rtE H (some 4) rfl rfl rfl ?_;clear H;intro b4 _ H nw;clear nw);(try simp only [aR]);have tk2:=hT)|(clear tk2;(refine Mm.get1 rtE H rfl (.tmp 3) rfl rfl (En.len HP.out) ?_);(try simp only [aR]);have tk3:=hT)|(clear tk3;(go_at_call 100;refine (co.out _).mono ?_;rintro e _ ⟨rfl,hb⟩;replace H:=hidp (H.out.call hb);clear co;clear hb);(try simp only [aR]);have tk4:=hT)|(clear tk4;(refine Mm.put1 rtE H rfl (.tmp 3) (.tmp 10) x.row rfl rfl rfl (En.len HP.out) (En.one x) (En.len HP.out) ?_;clear H;intro _ H st;clear st);(try simp only [aR]);have tk5:=hT)|(clear tk5;(refine Mm.get1 rtE H rfl (.tmp 3) rfl rfl (En.len HP.out) ?_);(try simp only [aR]);have tk6:=hT)|(clear tk6;(go_at_call 51;refine (ct.out _ (HI.out.below H.out.below (Nat.le_refl _))).mono ?_;rintro e _ ⟨rfl,hb⟩;replace H:=hidp (H.out.call hb);clear ct;clear hb);(try simp only [aR]);have tk7:=hT)|(clear tk7;(refine Mm.get1 rtE H rfl (.tmp 3) rfl rfl (En.len HP.out) ?_);(try simp only [aR]);have tk8:=hT)|(clear tk8;(refine Mm.put0 rtE H rfl (.tmp 4) (.tmp 18) x.row rfl rfl rfl (En.len HP.out) (En.one x) (En.len (rfl:zEn.p.length=32)) ?_;clear H;intro _ H st;clear st);(try simp only [aR]);have tk9:=hT))
   try clear tk9
   refine bodyPost_ret (Mm.ret_rowv rtE Tryz.results48 _ b4 _ _ rfl rfl H.out.at0 (En.len (x:=x) HP.out)) rfl ⟨by rw [HV.out,HE.out];first | done | rfl,Rg.of_below H.out.below hbN,by rw [HRR.out];exact HA.out.below H.out.below hbN⟩
 | true =>
   have HRR:=hidp (show esR S h m x=rgA S h m from by unfold esR;rw [hok];rfl)
   rw [eE_yes hok,hT] at ct
   rw [hT] at cs
   by_cases h0:sgE S h m=0
   · obtain ⟨G,hG⟩:∃ G,sgS S h m T.data.toList=G:=⟨_,rfl⟩
     rw [h0,hG] at cs
     have HV:=hidp (show esV S h m x=wSigE x G from by unfold esV;rw [if_pos ⟨hok,h0⟩,hT,hG])
     have HE:=hidp (show esE S h m x=0 from by unfold esE;rw [hok,if_pos rfl,h0])
     clear hok hT h0 hG hts
     go_enter Tryz.func48,Tryz.ntmps48
     have tk0:=hT
     go_wp2_with (first|(clear tk0;(refine Mm.box 103 H rfl (.tmp 1) rfl x.row rfl ?_;clear H;intro b3 _ H nw;clear nw);(try simp only [aR]);have tk1:=hT)|(clear tk1;(refine Mm.new rtE H (some 4) rfl rfl rfl ?_;clear H;intro b4 _ H nw;clear nw);(try simp only [aR]);have tk2:=hT)|(clear tk2;(refine Mm.get1 rtE H rfl (.tmp 3) rfl rfl (En.len HP.out) ?_);(try simp only [aR]);have tk3:=hT)|(clear tk3;(go_at_call 100;refine (co.out _).mono ?_;rintro e _ ⟨rfl,hb⟩;replace H:=hidp (H.out.call hb);clear co;clear hb);(try simp only [aR]);have tk4:=hT)|(clear tk4;(refine Mm.put1 rtE H rfl (.tmp 3) (.tmp 10) x.row rfl rfl rfl (En.len HP.out) (En.one x) (En.len HP.out) ?_;clear H;intro _ H st;clear st);(try simp only [aR]);have tk5:=hT)|(clear tk5;(refine Mm.get1 rtE H rfl (.tmp 3) rfl rfl (En.len HP.out) ?_);(try simp only [aR]);have tk6:=hT)|(clear tk6;(go_at_call 51;refine (ct.out _ (HI.out.below H.out.below (Nat.le_refl _))).mono ?_;rintro e _ ⟨rfl,hb⟩;replace H:=hidp (H.out.call hb);clear ct;clear hb);(try simp only [aR]);have tk7:=hT)|(clear tk7;(go_at_call 39;refine (cs.out _ (HA.out.below H.out.below hbN) (HK.out.below H.out.below hkp)).mono ?_;rintro e w2 ⟨rfl,W2,hb2,st2,ha2⟩;have HR:=hidp ((Rg.of_below H.out.below hbN).trans (Rg.of_stp hb2 st2 (Nat.lt_of_lt_of_le hbN H.out.le)));replace H:=hidp (reb H.out (Rg.of_stp hb2 st2 (Nat.lt_of_lt_of_le hbN H.out.le)) hbN);have HAR:=hidp ha2;clear hb2 st2 ha2 cs);(try simp only [aR]);have tk8:=hT)|(clear tk8;(refine Mm.putF1 H rfl 9 (.tmp 31) (.tmp 30) 36 (.string G) rfl rfl rfl (by kernel_rfl) rfl (by rw [En.len HP.out];decide) ?_;intro _ H2 st;clear st H;rw [En.sig36' HP.out] at H2;have H:=H2;clear H2);(try simp only [aR]);have tk9:=hT)|(clear tk9;(refine Mm.get1 rtE H rfl (.tmp 3) rfl rfl (En.len HP.out) ?_);(try simp only [aR]);have tk10:=hT)|(clear tk10;(refine Mm.put0 rtE H rfl (.tmp 4) (.tmp 32) (wSigE x G).row rfl rfl rfl (En.len HP.out) (En.one (wSigE x G)) (En.len (rfl:zEn.p.length=32)) ?_;clear H;intro _ H st;clear st);(try simp only [aR]);have tk11:=hT))
     try clear tk11
     refine bodyPost_ret (Mm.ret_rowv rtE Tryz.results48 _ b4 _ _ rfl rfl H.out.at0 (En.len (x:=wSigE x G) HP.out)) rfl ⟨by rw [HV.out,HE.out];first | done | rfl,HR.out.fin H.out.below hbN,by rw [HRR.out];exact HAR.out.below H.out.below hbN⟩
   · obtain ⟨G,hG⟩:∃ G,sgS S h m T.data.toList=G:=⟨_,rfl⟩
     rw [hG] at cs
     have HV:=hidp (show esV S h m x=x from by unfold esV;rw [if_neg (fun g=>h0 g.2)])
     have HE:=hidp (show esE S h m x=sgE S h m from by unfold esE;rw [hok,if_pos rfl])
     obtain ⟨E,hE⟩:∃ E,sgE S h m=E:=⟨_,rfl⟩
     rw [hE] at cs HE h0
     have e1:(E != 0)=true:=by simpa using h0
     clear hok hT h0 hG hts hE
     go_enter Tryz.func48,Tryz.ntmps48
     have tk0:=hT
     go_wp2_with (first|(clear tk0;(refine Mm.box 103 H rfl (.tmp 1) rfl x.row rfl ?_;clear H;intro b3 _ H nw;clear nw);(try simp only [aR]);have tk1:=hT)|(clear tk1;(refine Mm.new rtE H (some 4) rfl rfl rfl ?_;clear H;intro b4 _ H nw;clear nw);(try simp only [aR]);have tk2:=hT)|(clear tk2;(refine Mm.get1 rtE H rfl (.tmp 3) rfl rfl (En.len HP.out) ?_);(try simp only [aR]);have tk3:=hT)|(clear tk3;(go_at_call 100;refine (co.out _).mono ?_;rintro e _ ⟨rfl,hb⟩;replace H:=hidp (H.out.call hb);clear co;clear hb);(try simp only [aR]);have tk4:=hT)|(clear tk4;(refine Mm.put1 rtE H rfl (.tmp 3) (.tmp 10) x.row rfl rfl rfl (En.len HP.out) (En.one x) (En.len HP.out) ?_;clear H;intro _ H st;clear st);(try simp only [aR]);have tk5:=hT)|(clear tk5;(refine Mm.get1 rtE H rfl (.tmp 3) rfl rfl (En.len HP.out) ?_);(try simp only [aR]);have tk6:=hT)|(clear tk6;(go_at_call 51;refine (ct.out _ (HI.out.below H.out.below (Nat.le_refl _))).mono ?_;rintro e _ ⟨rfl,hb⟩;replace H:=hidp (H.out.call hb);clear ct;clear hb);(try simp only [aR]);have tk7:=hT)|(clear tk7;(go_at_call 39;refine (cs.out _ (HA.out.below H.out.below hbN) (HK.out.below H.out.below hkp)).mono ?_;rintro e w2 ⟨rfl,W2,hb2,st2,ha2⟩;have HR:=hidp ((Rg.of_below H.out.below hbN).trans (Rg.of_stp hb2 st2 (Nat.lt_of_lt_of_le hbN H.out.le)));replace H:=hidp (reb H.out (Rg.of_stp hb2 st2 (Nat.lt_of_lt_of_le hbN H.out.le)) hbN);have HAR:=hidp ha2;clear hb2 st2 ha2 cs);(try simp only [aR]);have tk8:=hT)|(clear tk8;(refine Mm.get1 rtE H rfl (.tmp 3) rfl rfl (En.len HP.out) ?_);(try simp only [aR]);have tk9:=hT)|(clear tk9;(refine Mm.put0 rtE H rfl (.tmp 4) (.tmp 28) x.row rfl rfl rfl (En.len HP.out) (En.one x) (En.len (rfl:zEn.p.length=32)) ?_;clear H;intro _ H st;clear st);(try simp only [aR]);have tk10:=hT))
     try clear tk10
     refine bodyPost_ret (Mm.ret_rowv rtE Tryz.results48 _ b4 _ _ rfl rfl H.out.at0 (En.len (x:=x) HP.out)) rfl ⟨by rw [HV.out,HE.out];first | done | rfl,HR.out.fin H.out.below hbN,by rw [HRR.out];exact HAR.out.below H.out.below hbN⟩
end Go.Proofs.YtokakgjcegmabaaGreatDoor.En
