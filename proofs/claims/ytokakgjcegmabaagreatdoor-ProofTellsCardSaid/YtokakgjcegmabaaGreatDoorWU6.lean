import Derived.Test.YtokakgjcegmabaaGreatDoorWU2
import Derived.Test.YtokakgjcegmabaaGreatDoorWU5
set_option linter.unusedVariables false
set_option linter.unusedSimpArgs false
set_option maxHeartbeats 64000000
set_option maxRecDepth 100000
namespace Go.Proofs.YtokakgjcegmabaaGreatDoor.Hd
open Go.RowKit
open List (getElem_toArray getElem_cons_zero getElem_cons_succ setIfInBounds_toArray set_cons_zero set_cons_succ)
open En (cnt num4 num4_in z32e naS naI rtH u8_one hsV hsE hsV_len ohash_any s_cnv wpL_slc or4 or4_zero or4_any four s_bld wpL_bsE4)
open En (eOk eE eE_yes eE_no esmV esum_any rsum19_any s_bld)
theorem rjof_any (w:World) (x:En.En) (hx:x.ok):Calls Tryz.prog 82 #[.agg x.row.toArray] w fun e w'=>e=.returned (.tuple #[.agg (jOf x).row.toArray,.int .i64 (eE x)])∧Below w.heap.size w w':=by
 have H:=hidp (Mm.M.nil w)
 have HP:=hidp hx.p
 have HZ:=hidp (show x.r.size≤281474976710656 from by have:=hx.r;omega)
 have cs:=hidp (fun W =>rsum19_any W x hx)
 skip
 obtain ⟨U,hU⟩:∃ U,esmV x=U:=⟨_,rfl⟩
 have HUU:=hidp (show U.length=32 from by rw [← hU];exact esm_len x)
 have HU:=hidp (show (u8s U).length=32 from by rw [u8s_length];exact HUU.out)
 rw [hU] at cs
 clear hx
 cases hok:eOk x with
 | false =>
   have HV:=hidp (show jOf x=zHd from by unfold jOf;rw [hok];rfl)
   rw [eE_no hok] at cs ⊢
   clear hok hU
   go_enter Tryz.func82,Tryz.ntmps82
   have tk0:=hT
   go_wp2_with (first|(clear tk0;(refine Mm.box 103 H rfl (.tmp 0) rfl x.row rfl ?_;clear H;intro b1 _ H nw;clear nw);(try simp only [aR]);have tk1:=hT)|(clear tk1;(refine Mm.new rtHd H (some 2) rfl rfl rfl ?_;clear H;intro b2 _ H nw;clear nw);(try simp only [aR]);have tk2:=hT)|(clear tk2;(refine Mm.get1 En.rtE H rfl (.tmp 1) rfl rfl (En.En.len HP.out) ?_);(try simp only [aR]);have tk3:=hT)|(clear tk3;(go_at_call 134;refine (cs.out _).mono ?_;rintro e _ ⟨rfl,hb⟩;replace H:=hidp (H.out.call hb);clear cs;clear hb);(try simp only [aR]);have tk4:=hT)|(clear tk4;(refine Mm.new rtH H (some 4) rfl rfl rfl ?_;clear H;intro b4 _ H nw;clear nw);(try simp only [aR]);have tk5:=hT)|(clear tk5;(refine Mm.put0 rtH H rfl (.tmp 4) (.tmp 9) (u8s U) rfl rfl rfl HU.out (u8_one _) rfl ?_;clear H;intro _ H st;clear st);(try simp only [aR]);have tk6:=hT)|(clear tk6;(refine Rt.wpL_build rfl 67 _ rfl zHd.row (by kernel_rfl) ?_);(try simp only [aR]);have tk7:=hT)|(clear tk7;(refine Mm.put1 rtHd H rfl (.tmp 2) (.tmp 13) zHd.row rfl rfl rfl (Hd.len (rfl:zHd.p.length=32)) (Hd.one zHd) (Hd.len (rfl:zHd.p.length=32)) ?_;clear H;intro _ H st;clear st);(try simp only [aR]);have tk8:=hT))
   try clear tk8
   refine bodyPost_ret (Mm.ret_rowv rtHd Tryz.results82 _ b2 _ _ rfl rfl H.out.at1 (Hd.len (rfl:zHd.p.length=32))) rfl ⟨by rw [HV.out];first | done | rfl,H.out.below⟩
 | true =>
   obtain ⟨Y,hY⟩:∃ Y,jOf x=Y:=⟨_,rfl⟩
   have HV:=hidp hY
   have HYE:=hidp (show (⟨x.r,x.e,x.i,U,⟨#[]⟩⟩:Hd)=Y from by rw [← hY,← hU];unfold jOf;rw [if_pos hok])
   have HY:=hidp (show Y.p.length=32 from by rw [← HYE.out];exact HUU.out)
   rw [eE_yes hok] at cs ⊢
   clear hok hU hY
   go_enter Tryz.func82,Tryz.ntmps82
   have tk0:=hT
   go_wp2_with (first|(clear tk0;(refine Mm.box 103 H rfl (.tmp 0) rfl x.row rfl ?_;clear H;intro b1 _ H nw;clear nw);(try simp only [aR]);have tk1:=hT)|(clear tk1;(refine Mm.new rtHd H (some 2) rfl rfl rfl ?_;clear H;intro b2 _ H nw;clear nw);(try simp only [aR]);have tk2:=hT)|(clear tk2;(refine Mm.get1 En.rtE H rfl (.tmp 1) rfl rfl (En.En.len HP.out) ?_);(try simp only [aR]);have tk3:=hT)|(clear tk3;(go_at_call 134;refine (cs.out _).mono ?_;rintro e _ ⟨rfl,hb⟩;replace H:=hidp (H.out.call hb);clear cs;clear hb);(try simp only [aR]);have tk4:=hT)|(clear tk4;(refine Mm.new rtH H (some 4) rfl rfl rfl ?_;clear H;intro b4 _ H nw;clear nw);(try simp only [aR]);have tk5:=hT)|(clear tk5;(refine Mm.put0 rtH H rfl (.tmp 4) (.tmp 9) (u8s U) rfl rfl rfl HU.out (u8_one _) rfl ?_;clear H;intro _ H st;clear st);(try simp only [aR]);have tk6:=hT)|(clear tk6;(refine Mm.ld2 naS H rfl (.tmp 15) 0 (.string x.r) rfl rfl (En.En.get0 _) ?_);(try simp only [aR]);have tk7:=hT)|(clear tk7;(refine Mm.ld2 naI H rfl (.tmp 17) 1 (.int .i64 x.e) rfl rfl (En.En.get1 _) ?_);(try simp only [aR]);have tk8:=hT)|(clear tk8;(refine Mm.ld2 naI H rfl (.tmp 19) 2 (.int .i64 x.i) rfl rfl (En.En.get2 _) ?_);(try simp only [aR]);have tk9:=hT)|(clear tk9;(refine Mm.get0 rtH H rfl (.tmp 4) rfl rfl HU.out ?_);(try simp only [aR]);have tk10:=hT)|(clear tk10;(refine Rt.wpL_build rfl 67 _ rfl Y.row (by rw [← HYE.out];exact Eq.trans (by kernel_rfl) (built_hd x.r x.e x.i U HUU.out)) ?_);(try simp only [aR]);have tk11:=hT)|(clear tk11;(refine Mm.put1 rtHd H rfl (.tmp 2) (.tmp 22) Y.row rfl rfl rfl (Hd.len HY.out) (Hd.one Y) (Hd.len (rfl:zHd.p.length=32)) ?_;clear H;intro _ H st;clear st);(try simp only [aR]);have tk12:=hT))
   try clear tk12
   refine bodyPost_ret (Mm.ret_rowv rtHd Tryz.results82 _ b2 _ _ rfl rfl H.out.at1 (Hd.len HY.out)) rfl ⟨by rw [HV.out];first | done | rfl,H.out.below⟩
end Go.Proofs.YtokakgjcegmabaaGreatDoor.Hd
