import Derived.Test.YtokakgjcegmabaaGreatDoorLW
import Derived.Test.YtokakgjcegmabaaGreatDoorLC2
set_option linter.unusedVariables false
set_option linter.unusedSimpArgs false
set_option maxHeartbeats 64000000
set_option maxRecDepth 100000
namespace Go.Proofs.YtokakgjcegmabaaGreatDoor.En
open Go.RowKit
open List (getElem_toArray getElem_cons_zero getElem_cons_succ setIfInBounds_toArray set_cons_zero set_cons_succ)
open Ho (inE inV in_zero in_not al_sz)
def esmV (x:En):List UInt8:=if eOk x=true then shaL (eT x).data.toList else z32
theorem esum_any (w:World) (x:En) (hx:x.ok) (hI:IT w) (hK:KT w):Calls Tryz.prog 101 #[.agg x.row.toArray] w fun e w'=>e=.returned (.tuple #[.agg (u8s (esmV x)).toArray,.int .i64 (eE x)])∧Below w.heap.size w w':=by
 have H:=hidp (Mm.M.nil w)
 have HP:=hidp hx.p
 have hts:=eT_size x hx.p
 have hkp:=hK.pos
 have ct:=hidp (fun W (h:IT W)=>etext_any W x hx h)
 have cs:=hidp (fun W (h:KT W)=>sum_any W (eT x) (by omega) h)
 have HI:=hidp hI;have HK:=hidp hK;clear hI hK hx
 cases hok:eOk x with
 | false =>
   have HV:=hidp (show esmV x=z32 from by unfold esmV;rw [hok];rfl)
   rw [eE_no hok] at ct ⊢
   obtain ⟨T,hT⟩:∃ T,eT x=T:=⟨_,rfl⟩
   rw [hT] at ct
   clear hok hT hts cs
   go_enter Tryz.func101,Tryz.ntmps101
   have tk0:=hT
   go_wp2_with (first|(clear tk0;(refine Mm.box 103 H rfl (.tmp 0) rfl x.row rfl ?_;clear H;intro b1 _ H nw;clear nw);(try simp only [aR]);have tk1:=hT)|(clear tk1;(refine Mm.new rtH H (some 2) rfl rfl rfl ?_;clear H;intro b2 _ H nw;clear nw);(try simp only [aR]);have tk2:=hT)|(clear tk2;(refine Mm.get1 rtE H rfl (.tmp 1) rfl rfl (En.len HP.out) ?_);(try simp only [aR]);have tk3:=hT)|(clear tk3;(go_at_call 51;refine (ct.out _ (HI.out.below H.out.below (Nat.le_refl _))).mono ?_;rintro e _ ⟨rfl,hb⟩;replace H:=hidp (H.out.call hb);clear ct;clear hb);(try simp only [aR]);have tk4:=hT)|(clear tk4;(refine Rt.wpL_build rfl 58 _ rfl (u8s z32) (by kernel_rfl) ?_);(try simp only [aR]);have tk5:=hT)|(clear tk5;(refine Mm.put0 rtH H rfl (.tmp 2) (.tmp 13) (u8s z32) rfl rfl rfl rfl (u8_one z32) rfl ?_;clear H;intro _ H st;clear st);(try simp only [aR]);have tk6:=hT))
   try clear tk6
   refine bodyPost_ret (Mm.ret_rowv rtH Tryz.results101 _ b2 _ _ rfl rfl H.out.at0 rfl) rfl ⟨by rw [HV.out];first | done | rfl,H.out.below⟩
 | true =>
   have hv:esmV x=shaL (eT x).data.toList:=by unfold esmV;rw [hok];rfl
   rw [eE_yes hok] at ct ⊢
   obtain ⟨T,hT⟩:∃ T,eT x=T:=⟨_,rfl⟩
   rw [hT] at ct cs hv
   have HV:=hidp hv
   have HL:=hidp (show (u8s (shaL T.data.toList)).length=32 from by rw [u8s_length];exact shaL_len _)
   clear hok hT hts hv
   go_enter Tryz.func101,Tryz.ntmps101
   have tk0:=hT
   go_wp2_with (first|(clear tk0;(refine Mm.box 103 H rfl (.tmp 0) rfl x.row rfl ?_;clear H;intro b1 _ H nw;clear nw);(try simp only [aR]);have tk1:=hT)|(clear tk1;(refine Mm.new rtH H (some 2) rfl rfl rfl ?_;clear H;intro b2 _ H nw;clear nw);(try simp only [aR]);have tk2:=hT)|(clear tk2;(refine Mm.get1 rtE H rfl (.tmp 1) rfl rfl (En.len HP.out) ?_);(try simp only [aR]);have tk3:=hT)|(clear tk3;(go_at_call 51;refine (ct.out _ (HI.out.below H.out.below (Nat.le_refl _))).mono ?_;rintro e _ ⟨rfl,hb⟩;replace H:=hidp (H.out.call hb);clear ct;clear hb);(try simp only [aR]);have tk4:=hT)|(clear tk4;(go_at_call 146;refine (cs.out _ (HK.out.below H.out.below hkp)).mono ?_;rintro e _ ⟨rfl,hb⟩;replace H:=hidp (H.out.call hb);clear cs;clear hb);(try simp only [aR]);have tk5:=hT)|(clear tk5;(refine Mm.put0 rtH H rfl (.tmp 2) (.tmp 16) (u8s (shaL T.data.toList)) rfl rfl rfl HL.out (u8_one _) rfl ?_;clear H;intro _ H st;clear st);(try simp only [aR]);have tk6:=hT))
   try clear tk6
   refine bodyPost_ret (Mm.ret_rowv rtH Tryz.results101 _ b2 _ _ rfl rfl H.out.at0 HL.out) rfl ⟨by rw [HV.out];first | done | rfl,H.out.below⟩
def smN (s:ByteArray):Nat:=(gn s.data.toList).1
def x1 (b c d e f:ByteArray):En:=⟨b,smN c,smN d,e.data.toList,f,⟨#[]⟩⟩
end Go.Proofs.YtokakgjcegmabaaGreatDoor.En
