import Derived.Test.YtokakgjcegmabaaGreatDoorLU0
set_option linter.unusedVariables false
set_option linter.unusedSimpArgs false
set_option maxHeartbeats 64000000
set_option maxRecDepth 100000
namespace Go.Proofs.YtokakgjcegmabaaGreatDoor.Hd
open Go.RowKit
open List (getElem_toArray getElem_cons_zero getElem_cons_succ setIfInBounds_toArray set_cons_zero set_cons_succ)
open En (cnt num4 num4_in z32e naS naI rtH u8_one hsV hsE hsV_len ohash_any s_cnv wpL_slc or4 or4_zero or4_any four s_bld wpL_bsE4)
open Ho (inE inV in_zero in_not al_sz allInt_any)
def jrV (t:ByteArray):Hd:=(jr t).getD zHd
def jrE (t:ByteArray):Int:=if (jr t).isSome=true then 0 else 6
theorem built_hd (b:ByteArray) (e i:Int) (p:List UInt8) (hp:p.length=32):Tryz.prog.built 67 [(0,.string b),(1,.int .i64 e),(2,.int .i64 i),(3,.agg (u8s p).toArray)]=some (Hd.row ⟨b,e,i,p,⟨#[]⟩⟩).toArray:=by
 match p,hp with
 | [a0, a1, a2, a3, a4, a5, a6, a7, a8, a9, a10, a11, a12, a13, a14, a15, a16, a17, a18, a19, a20, a21, a22, a23, a24, a25, a26, a27, a28, a29, a30, a31], _ =>
   show _=_
   kernel_rfl
theorem jr_bad {t:ByteArray} (h:(al t).2≠0):jr t=none:=by unfold jr;rw [if_neg h]
theorem jr_len {t:ByteArray} (h:(al t).1.length≠5):jr t=none:=by
 unfold jr
 split
 · unfold jrL
   split
   · rename_i hl;rw [hl] at h;simp at h
   · rfl
 · rfl
theorem jr_word {t a b c d e:ByteArray} (hL:(al t).1=[a,b,c,d,e]) (h:a≠wHead):jr t=none:=by
 unfold jr
 split
 · rw [hL];unfold jrL;simp only;rw [if_neg (fun g=>h g.1)]
 · rfl
def x0 (b c d e:ByteArray):Hd:=⟨b,inV c 4096,inV d 4096,hsV e,⟨#[]⟩⟩
theorem jr_six {t b c d e:ByteArray} (h0:(al t).2=0) (hL:(al t).1=[wHead,b,c,d,e]):jr t=if or4 (inE c 4096) (inE d 4096) (hsE e) (jE (x0 b c d e))=0 then some (x0 b c d e) else none:=by
 unfold jr
 rw [if_pos h0,hL]
 unfold jrL
 simp only [num4_in]
 by_cases he:e.size=32
 · rw [if_pos ⟨by trivial,he⟩]
   have h1:hsE e=0:=if_pos he
   have h2:hsV e=e.data.toList:=if_pos he
   by_cases hc:inE c 4096=0
   · by_cases hd:inE d 4096=0
     · simp only [if_pos hc,if_pos hd]
       have hx:(⟨b,(inV c 4096:Nat),(inV d 4096:Nat),e.data.toList,⟨#[]⟩⟩:Hd)=x0 b c d e:=by unfold x0;rw [h2]
       rw [hx]
       cases hok:jOk (x0 b c d e) with
       | true=>rw [if_pos (or4_zero.2 ⟨hc,hd,h1,jE_yes hok⟩)];rfl
       | false=>rw [if_neg Bool.false_ne_true,if_neg (fun g=>by have:=(or4_zero.1 g).2.2.2;rw [jE_no hok] at this;cases this)]
     · rw [if_neg (fun g=>hd (or4_zero.1 g).2.1)];simp only [if_pos hc,if_neg hd]
   · rw [if_neg (fun g=>hc (or4_zero.1 g).1)];simp only [if_neg hc]
 · rw [if_neg (fun g=>he g.2),if_neg]
   intro g
   have:=(or4_zero.1 g).2.2.1
   unfold hsE at this;rw [if_neg he] at this;cases this
theorem toList_word {a:ByteArray} (h:a≠wHead):(a.toList == [104,101,97,100])=false:=by
 have:=toList_no (b:=wHead) h
 rw [ByteArray.toList_eq wHead] at this
 exact this
theorem jread_any (w:World) (t:ByteArray) (ht:t.size≤281474976710656) (hI:IT w) :
 Calls Tryz.prog 80 #[.string t] w fun e w'=>e=.returned (.tuple #[.agg (jrV t).row.toArray,.int .i64 (jrE t)])∧Below w.heap.size w w':=by
 have HI:=hidp hI;clear hI
 have ca:=hidp (fun W=>all_any W t ht)
 have H:=hidp (Mm.M.nil w)
 by_cases h0:(al t).2=0
 · by_cases h6:(al t).1.length=5
   · obtain ⟨a,b,c,d,e5,hL⟩:∃ a b c d e,(al t).1=[a,b,c,d,e]:=by
      match hL:(al t).1,h6 with
      | [a,b,c,d,e],_=>exact ⟨a,b,c,d,e,rfl⟩
     have hss:=al_sz t ht
     rw [hL] at hss
     rw [h0,hL] at ca
     by_cases hw:a=wHead
     · subst hw
       have hsx:=jr_six h0 hL
       have hQ:=hsV_len e5
       have hxok:(x0 b c d e5).ok:=⟨by have:=hss b (by simp);show b.size≤_;omega,hQ,by show (⟨#[]⟩:ByteArray).size≤_;decide⟩
       have c1:=hidp (show ∀ W,Calls Tryz.prog 88 #[.string c,.int .i64 4096] W (fun e w'=>e=.returned (.tuple #[.int .i64 (inV c 4096:Nat),.int .i64 (inE c 4096)])∧Below W.heap.size W w') from fun W=>allInt_any W c 4096 (by omega) (by have:=hss c (by simp);omega))
       have c2:=hidp (show ∀ W,Calls Tryz.prog 88 #[.string d,.int .i64 4096] W (fun e w'=>e=.returned (.tuple #[.int .i64 (inV d 4096:Nat),.int .i64 (inE d 4096)])∧Below W.heap.size W w') from fun W=>allInt_any W d 4096 (by omega) (by have:=hss d (by simp);omega))
       have c3:=hidp (fun W=>ohash_any W e5)
       have cc:=hidp (fun W (h:IT W)=>jcheck_any W (x0 b c d e5) hxok h)
       obtain ⟨X,hX⟩:∃ X,x0 b c d e5=X:=⟨_,rfl⟩
       have HX0:=hidp (show X.p.length=32 from hX ▸ hQ)
       obtain ⟨Q,hQe⟩:∃ Q,hsV e5=Q:=⟨_,rfl⟩
       have HQL:=hidp (hQe ▸ hQ)
       have HQ:=hidp (show (u8s Q).length=32 from by rw [u8s_length];exact HQL.out)
       have hX2:X=⟨b,(inV c 4096:Nat),(inV d 4096:Nat),Q,⟨#[]⟩⟩:=by rw [← hX,← hQe];rfl
       rw [hX] at hsx cc
       rw [hQe] at c3
       obtain ⟨V1,hV1⟩:∃ V:Int,((inV c 4096:Nat):Int)=V:=⟨_,rfl⟩
       obtain ⟨V2,hV2⟩:∃ V:Int,((inV d 4096:Nat):Int)=V:=⟨_,rfl⟩
       obtain ⟨E1,hE1⟩:∃ V,inE c 4096=V:=⟨_,rfl⟩
       obtain ⟨E2,hE2⟩:∃ V,inE d 4096=V:=⟨_,rfl⟩
       obtain ⟨E3,hE3⟩:∃ V,hsE e5=V:=⟨_,rfl⟩
       obtain ⟨E4,hE4⟩:∃ V,jE X=V:=⟨_,rfl⟩
       rw [hV1,hE1] at c1
       rw [hV2,hE2] at c2
       rw [hE3] at c3
       rw [hE4] at cc
       rw [hE1,hE2,hE3,hE4] at hsx
       rw [hV1,hV2] at hX2
       have HX:=hidp hX2
       clear hss h0 h6 hL hQ hxok hX hX2 hQe hV1 hV2 hE1 hE2 hE3 hE4
       by_cases hz:or4 E1 E2 E3 E4=0
       case' pos =>
        rw [if_pos hz] at hsx
        have HV:=hidp (show jrV t=X from by unfold jrV;rw [hsx];rfl)
        have HE:=hidp (show jrE t=0 from by unfold jrE;rw [hsx];rfl)
        clear hsx
       case' neg =>
        rw [if_neg hz] at hsx
        have HV:=hidp (show jrV t=zHd from by unfold jrV;rw [hsx];rfl)
        have HE:=hidp (show jrE t=6 from by unfold jrE;rw [hsx];rfl)
        obtain ⟨O,hO⟩:∃ O,or4 E1 E2 E3 E4=O:=⟨_,rfl⟩
        have e9:(or4 E1 E2 E3 E4 != 0)=true:=by simpa using hz
        clear hsx hO
       all_goals
        go_enter Tryz.func80,Tryz.ntmps80
        have tk0:=hT
        go_wp2_with (first|(clear tk0;(refine Mm.new rtHd H (some 2) rfl rfl rfl ?_;clear H;intro b2 _ H nw;clear nw);(try simp only [aR]);have tk1:=hT)|(clear tk1;(go_at_call 74;refine (ca.out _).mono ?_;rintro e w1 ⟨v,rfl,hst,hb⟩;have H0:=hidp (H.out.call hb);obtain ⟨g,off,cv,rfl,hg,hcs⟩:=Sl.strs_pos hst (by simp);have HIB:=hidp (HI.out.below H0.out.below (Nat.le_refl _));clear H hst hb ca;have HC:=hidp (show ∀ W,Below w1.heap.size w1 W→W.cell? ⟨g,off,none⟩=some (.string wHead)∧W.cell? ⟨g,off + 1,none⟩=some (.string b)∧W.cell? ⟨g,off + 2,none⟩=some (.string c)∧W.cell? ⟨g,off + 3,none⟩=some (.string d)∧W.cell? ⟨g,off + 4,none⟩=some (.string e5) from fun W hW=>⟨(hW.cell (p:=⟨g,off,none⟩) hg).trans (hcs 0 (by simp)),(hW.cell (p:=⟨g,off + 1,none⟩) hg).trans (hcs 1 (by simp)),(hW.cell (p:=⟨g,off + 2,none⟩) hg).trans (hcs 2 (by simp)),(hW.cell (p:=⟨g,off + 3,none⟩) hg).trans (hcs 3 (by simp)),(hW.cell (p:=⟨g,off + 4,none⟩) hg).trans (hcs 4 (by simp))⟩);clear hcs;have H:=hidp (Mm.M.nil w1);obtain ⟨m0,m1,m2,m3,m4⟩:=HC.out _ H.out.below;unfold wHead at m0);(try simp only [aR]);have tk2:=hT)|(clear tk2;(go_at_call 88;refine (c1.out _).mono ?_;rintro e _ ⟨rfl,hb⟩;clear m0 m1 m2 m3 m4;replace H:=hidp (H.out.call hb);obtain ⟨m0,m1,m2,m3,m4⟩:=HC.out _ H.out.below;clear hb);(try simp only [aR]);have tk3:=hT)|(clear tk3;(go_at_call 88;refine (c2.out _).mono ?_;rintro e _ ⟨rfl,hb⟩;clear m0 m1 m2 m3 m4;replace H:=hidp (H.out.call hb);obtain ⟨m0,m1,m2,m3,m4⟩:=HC.out _ H.out.below;clear hb);(try simp only [aR]);have tk4:=hT)|(clear tk4;(go_at_call 131;refine (c3.out _).mono ?_;rintro e _ ⟨rfl,hb⟩;clear m0 m1 m2 m3 m4;replace H:=hidp (H.out.call hb);obtain ⟨m0,m1,m2,m3,m4⟩:=HC.out _ H.out.below;clear hb);(try simp only [aR]);have tk5:=hT)|(clear tk5;(refine Mm.new rtH H (some 10) rfl rfl rfl ?_;clear H;intro b10 _ H nw;clear nw m0 m1 m2 m3 m4);(try simp only [aR]);have tk6:=hT)|(clear tk6;(refine Mm.put0 rtH H rfl (.tmp 10) (.tmp 51) (u8s Q) rfl rfl rfl HQ.out (u8_one _) rfl ?_;clear H;intro _ H st;clear st);(try simp only [aR]);have tk7:=hT))
        try clear tk7
        refine Mm.region H (.take 0 (.take 1 (.take 2 (.take 3 (.take 4 (.take 5 (.take 6 (.one 7 (.one 8 .done))))))))) (by kernel_rfl) (by kernel_rfl) (by simp [Scr.depth]) (by kernel_rfl) ?_
        clear H
        intro _ H hb
        clear hb
        iterate 2
         apply s_val
         case ho | hw=>rfl
         case hv=>intro w hw;go_simp;first | done | rfl
         simp only [aS]
        apply s_val
        case ho | hw=>rfl
        case hv=>intro w hw;obtain ⟨m0,m1,m2,m3,m4⟩:=HC.out w hw.below;clear m0 m2 m3 m4;go_simp;first | done | rfl
        iterate 2
         simp only [aS]
         apply s_val
         case ho | hw=>rfl
         case hv=>intro w hw;go_simp;first | done | rfl
        simp only [aS]
        refine Mm.sget0 rtH (fun w h=>h) rfl rfl (.tmp 10) rfl rfl HQ.out ?_
        simp only [aS]
        refine En.s_bld rfl rfl 67 _ rfl X.row (by rw [HX.out];exact Eq.trans (by kernel_rfl) (built_hd b V1 V2 Q HQL.out)) ?_
        simp only [aS]
        refine Mm.o_newH rtHd H (fun W h=>h) rfl rfl rfl ?_
        clear H
        intro b12 _ H nw
        have hb:=nw.below
        clear hb nw
        simp only [aS]
        refine Mm.oput0 rtHd H X.row (fun W h=>h.tail) rfl rfl (.tmp 12) (.tmp 59) rfl rfl rfl (Hd.len HX0.out) (Hd.one X) (Hd.len (rfl:zHd.p.length=32)) ?_
        clear H
        intro _ H st
        clear st
        simp only [aS]
        refine NoPanic.normal ?_
        first
         | have tk0:=hT
           go_wp2_with (first|(clear tk0;(refine Mm.get0 rtHd H rfl (.tmp 12) rfl rfl (Hd.len HX0.out) ?_);(try simp only [aR]);have tk1:=hT)|(clear tk1;(go_at_call 104;refine (cc.out _ (HIB.out.below H.out.below (Nat.le_refl _))).mono ?_;rintro e _ ⟨rfl,hb⟩;replace H:=hidp (H.out.call hb);clear hb);(try simp only [aR]);have tk2:=hT)|(clear tk2;(refine wpL_bsE4 H rfl (.tmp 60) (.tmp 61) (.tmp 62) (.tmp 64) E1 E2 E3 E4 rfl rfl rfl rfl rfl ?_;clear H;intro b9 _ H nw;clear nw);(try simp only [aR]);have tk3:=hT)|(clear tk3;(go_at_call 91;refine (or4_any _ b9 E1 E2 E3 E4 (four H.out.at0)).mono ?_;rintro e _ ⟨rfl,rfl⟩;replace H:=hidp (Sl.join H0.out H.out));(try simp only [aR]);have tk4:=hT)|(clear tk4;(refine Mm.get1 rtHd H rfl (.tmp 12) rfl rfl (Hd.len HX0.out) ?_);(try simp only [aR]);have tk5:=hT)|(clear tk5;(refine Mm.put3 rtHd H rfl (.tmp 2) (.tmp 69) X.row rfl rfl rfl (Hd.len HX0.out) (Hd.one X) (Hd.len (rfl:zHd.p.length=32)) ?_;clear H;intro _ H st;clear st);(try simp only [aR]);have tk6:=hT))
           try clear tk6
           refine bodyPost_ret (Mm.ret_rowv rtHd Tryz.results80 _ b2 _ _ rfl rfl H.out.at3 (Hd.len HX0.out)) rfl ⟨by rw [HV.out,HE.out];first | done | rfl,H.out.below⟩
         | have tk0:=hT
           go_wp2_with (first|(clear tk0;(refine Mm.get0 rtHd H rfl (.tmp 12) rfl rfl (Hd.len HX0.out) ?_);(try simp only [aR]);have tk1:=hT)|(clear tk1;(go_at_call 104;refine (cc.out _ (HIB.out.below H.out.below (Nat.le_refl _))).mono ?_;rintro e _ ⟨rfl,hb⟩;replace H:=hidp (H.out.call hb);clear hb);(try simp only [aR]);have tk2:=hT)|(clear tk2;(refine wpL_bsE4 H rfl (.tmp 60) (.tmp 61) (.tmp 62) (.tmp 64) E1 E2 E3 E4 rfl rfl rfl rfl rfl ?_;clear H;intro b9 _ H nw;clear nw);(try simp only [aR]);have tk3:=hT)|(clear tk3;(go_at_call 91;refine (or4_any _ b9 E1 E2 E3 E4 (four H.out.at0)).mono ?_;rintro e _ ⟨rfl,rfl⟩;replace H:=hidp (Sl.join H0.out H.out));(try simp only [aR]);have tk4:=hT)|(clear tk4;(refine Rt.wpL_build rfl 67 _ rfl zHd.row (by kernel_rfl) ?_);(try simp only [aR]);have tk5:=hT)|(clear tk5;(refine Mm.put3 rtHd H rfl (.tmp 2) (.tmp 68) zHd.row rfl rfl rfl (Hd.len (rfl:zHd.p.length=32)) (Hd.one zHd) (Hd.len (rfl:zHd.p.length=32)) ?_;clear H;intro _ H st;clear st);(try simp only [aR]);have tk6:=hT))
           try clear tk6
           refine bodyPost_ret (Mm.ret_rowv rtHd Tryz.results80 _ b2 _ _ rfl rfl H.out.at3 (Hd.len (rfl:zHd.p.length=32))) rfl ⟨by rw [HV.out,HE.out];first | done | rfl,H.out.below⟩
     · have HV:=hidp (show jrV t=zHd from by unfold jrV;rw [jr_word hL hw];rfl)
       have HE:=hidp (show jrE t=6 from by unfold jrE;rw [jr_word hL hw];rfl)
       have hq:=toList_word hw
       clear hss h0 h6 hL hw
       go_enter Tryz.func80,Tryz.ntmps80
       have tk0:=hT
       go_wp2_with (first|(clear tk0;(refine Mm.new rtHd H (some 2) rfl rfl rfl ?_;clear H;intro b2 _ H nw;clear nw);(try simp only [aR]);have tk1:=hT)|(clear tk1;(go_at_call 74;refine (ca.out _).mono ?_;rintro e w1 ⟨v,rfl,hst,hb⟩;have H0:=hidp (H.out.call hb);obtain ⟨g,off,cv,rfl,hg,hcs⟩:=Sl.strs_pos hst (by simp);have HIB:=hidp (HI.out.below H0.out.below (Nat.le_refl _));clear H hst hb ca;have HC:=hidp (show ∀ W,Below w1.heap.size w1 W→W.cell? ⟨g,off,none⟩=some (.string a)∧W.cell? ⟨g,off + 1,none⟩=some (.string b)∧W.cell? ⟨g,off + 2,none⟩=some (.string c)∧W.cell? ⟨g,off + 3,none⟩=some (.string d)∧W.cell? ⟨g,off + 4,none⟩=some (.string e5) from fun W hW=>⟨(hW.cell (p:=⟨g,off,none⟩) hg).trans (hcs 0 (by simp)),(hW.cell (p:=⟨g,off + 1,none⟩) hg).trans (hcs 1 (by simp)),(hW.cell (p:=⟨g,off + 2,none⟩) hg).trans (hcs 2 (by simp)),(hW.cell (p:=⟨g,off + 3,none⟩) hg).trans (hcs 3 (by simp)),(hW.cell (p:=⟨g,off + 4,none⟩) hg).trans (hcs 4 (by simp))⟩);clear hcs;have H:=hidp (Mm.M.nil w1);obtain ⟨m0,m1,m2,m3,m4⟩:=HC.out _ H.out.below;replace H:=hidp (Sl.join H0.out H.out));(try simp only [aR]);have tk2:=hT)|(clear tk2;(refine Rt.wpL_build rfl 67 _ rfl zHd.row (by kernel_rfl) ?_);(try simp only [aR]);have tk3:=hT)|(clear tk3;(refine Mm.put0 rtHd H rfl (.tmp 2) (.tmp 31) zHd.row rfl rfl rfl (Hd.len (rfl:zHd.p.length=32)) (Hd.one zHd) (Hd.len (rfl:zHd.p.length=32)) ?_;clear H;intro _ H st;clear st);(try simp only [aR]);have tk4:=hT))
       try clear tk4
       refine bodyPost_ret (Mm.ret_rowv rtHd Tryz.results80 _ b2 _ _ rfl rfl H.out.at0 (Hd.len (rfl:zHd.p.length=32))) rfl ⟨by rw [HV.out,HE.out];first | done | rfl,H.out.below⟩
   · have HV:=hidp (show jrV t=zHd from by unfold jrV;rw [jr_len h6];rfl)
     have HE:=hidp (show jrE t=6 from by unfold jrE;rw [jr_len h6];rfl)
     rw [h0] at ca
     obtain ⟨ss,hss⟩:∃ ss,(al t).1=ss:=⟨_,rfl⟩
     rw [hss] at ca h6
     obtain ⟨n,hn⟩:∃ n,ss.length=n:=⟨_,rfl⟩
     have e1:((n:Int) != 5)=true:=by simp;omega
     have g1:¬ n=5:=by omega
     have g2:(n != 5)=true:=by simpa using g1
     clear hss h0
     have cb:=hidp (fun W=>(ca.out W).mono fun e w' ⟨v,h1,h2,h3⟩=>(⟨v,h1,⟨Sl.strs_form h2,h3⟩⟩:∃ v,e=Ending.returned (.tuple #[v,.int .i64 ((0:Nat):Int)])∧(∃ a c,v=Value.slice a ss.length c)∧Below W.heap.size W w'))
     rw [hn] at cb
     clear ca hn h6
     go_enter Tryz.func80,Tryz.ntmps80
     have tk0:=hT
     go_wp2_with (first|(clear tk0;(refine Mm.new rtHd H (some 2) rfl rfl rfl ?_;clear H;intro b2 _ H nw;clear nw);(try simp only [aR]);have tk1:=hT)|(clear tk1;(go_at_call 74;refine (cb.out _).mono ?_;rintro e _ ⟨v,rfl,⟨av,cv,rfl⟩,hb⟩;replace H:=hidp (H.out.call hb);clear hb cb);(try simp only [aR]);have tk2:=hT)|(clear tk2;(refine Rt.wpL_build rfl 67 _ rfl zHd.row (by kernel_rfl) ?_);(try simp only [aR]);have tk3:=hT)|(clear tk3;(refine Mm.put0 rtHd H rfl (.tmp 2) (.tmp 31) zHd.row rfl rfl rfl (Hd.len (rfl:zHd.p.length=32)) (Hd.one zHd) (Hd.len (rfl:zHd.p.length=32)) ?_;clear H;intro _ H st;clear st);(try simp only [aR]);have tk4:=hT))
     try clear tk4
     refine bodyPost_ret (Mm.ret_rowv rtHd Tryz.results80 _ b2 _ _ rfl rfl H.out.at0 (Hd.len (rfl:zHd.p.length=32))) rfl ⟨by rw [HV.out,HE.out];first | done | rfl,H.out.below⟩
 · have HV:=hidp (show jrV t=zHd from by unfold jrV;rw [jr_bad h0];rfl)
   have HE:=hidp (show jrE t=6 from by unfold jrE;rw [jr_bad h0];rfl)
   obtain ⟨E,hE⟩:∃ E,(al t).2=E:=⟨_,rfl⟩
   rw [hE] at ca h0
   have e1:((E:Int) != 0)=true:=by simp;omega
   have g1:¬ (E:Int)=0:=by omega
   have g2:¬ E=0:=h0
   clear hE h0
   go_enter Tryz.func80,Tryz.ntmps80
   have tk0:=hT
   go_wp2_with (first|(clear tk0;(refine Mm.new rtHd H (some 2) rfl rfl rfl ?_;clear H;intro b2 _ H nw;clear nw);(try simp only [aR]);have tk1:=hT)|(clear tk1;(go_at_call 74;refine (ca.out _).mono ?_;rintro e _ ⟨v,rfl,hst,hb⟩;replace H:=hidp (H.out.call hb);obtain ⟨av,cv,rfl⟩:=Sl.strs_form hst;clear hst hb ca);(try simp only [aR]);have tk2:=hT)|(clear tk2;(refine Rt.wpL_build rfl 67 _ rfl zHd.row (by kernel_rfl) ?_);(try simp only [aR]);have tk3:=hT)|(clear tk3;(refine Mm.put0 rtHd H rfl (.tmp 2) (.tmp 31) zHd.row rfl rfl rfl (Hd.len (rfl:zHd.p.length=32)) (Hd.one zHd) (Hd.len (rfl:zHd.p.length=32)) ?_;clear H;intro _ H st;clear st);(try simp only [aR]);have tk4:=hT))
   try clear tk4
   refine bodyPost_ret (Mm.ret_rowv rtHd Tryz.results80 _ b2 _ _ rfl rfl H.out.at0 (Hd.len (rfl:zHd.p.length=32))) rfl ⟨by rw [HV.out,HE.out];first | done | rfl,H.out.below⟩
end Go.Proofs.YtokakgjcegmabaaGreatDoor.Hd
