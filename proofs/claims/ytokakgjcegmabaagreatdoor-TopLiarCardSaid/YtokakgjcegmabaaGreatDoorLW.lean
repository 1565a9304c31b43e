import Derived.Test.YtokakgjcegmabaaGreatDoorLV
import Derived.Test.YtokakgjcegmabaaGreatDoorLP
set_option linter.unusedVariables false
set_option linter.unusedSimpArgs false
set_option maxHeartbeats 64000000
set_option maxRecDepth 100000
namespace Go.Proofs.YtokakgjcegmabaaGreatDoor.En
open Go.RowKit
open List (getElem_toArray getElem_cons_zero getElem_cons_succ setIfInBounds_toArray set_cons_zero set_cons_succ)
open Ho (inE inV in_zero in_not al_sz allInt_any)
theorem infoE:(Tryz.prog.info? 29).map (fun i=>(i.zero,i.size,i.bytes))=some (some (.int .i64 0),1,8):=by kernel_rfl
theorem tyE:Tryz.prog.underlying 204=some (.slice 29):=Tryz.underlying204
section
variable {ops:Array Oper} {rest:List Oper} {o:Oper} {a:Act} {w w0:World} {N:Nat} {L:List Mm.Bx} {Q:Exit→Act→World→Prop} {S:World→Prop} {j:Nat} {s:Scr} {K:Act→World→Prop}
theorem run_bsE4 (z0 z1 z2 z3:Int) (w:World):(Instr.buildSlice 204 4 #[(0,.int .i64 z0),(1,.int .i64 z1),(2,.int .i64 z2),(3,.int .i64 z3)]).run Tryz.prog w=.ok (.slice (some ⟨w.heap.size,0,none⟩) 4 4) (w.alloc (.cells #[.int .i64 z0,.int .i64 z1,.int .i64 z2,.int .i64 z3] 29)):=by
 obtain ⟨i0,hi,hz0,hz1,hz2⟩:=info_parts infoE
 refine run_buildSlice w 204 29 4 _ _ i0 _ tyE hi hz0 (by rw [hz1];omega) (by rw [hz1];omega) ?_
 have hr:Array.range 4=#[0,1,2,3]:=by decide
 rw [hz1];simp [Instr.fill,Value.cells,hr]
theorem wpL_bsE4 (H:Hid (Mm.M N w0 w L)) (hw:Region.wanted o (yielded ops a.tmps)=true) (x0 x1 x2 x3:Operand) (z0 z1 z2 z3:Int) (ho:o.op=.buildSlice 204 4 #[(0,x0),(1,x1),(2,x2),(3,x3)]) (hx0:a.eval x0=.int .i64 z0) (hx1:a.eval x1=.int .i64 z1) (hx2:a.eval x2=.int .i64 z2) (hx3:a.eval x3=.int .i64 z3)
 (h:∀ b W,Hid (Mm.M N w0 W (⟨b,29,[.int .i64 z0,.int .i64 z1,.int .i64 z2,.int .i64 z3]⟩ :: L))→Rt.NewAt w W b 29 [.int .i64 z0,.int .i64 z1,.int .i64 z2,.int .i64 z3]→wpList Tryz.prog ops Q rest (a.put o.dst (.slice (some ⟨b,0,none⟩) 4 4)) W):wpList Tryz.prog ops Q (o :: rest) a w:=by
 refine wpList_step fun K hK=>?_
 rw [if_pos hw]
 have n:=Rt.NewAt.mk' w 29 [.int .i64 z0,.int .i64 z1,.int .i64 z2,.int .i64 z3]
 have:=hK _ _ (h _ _ (hidp (H.out.new n)) n)
 unfold Oper.wp execOp
 simp only [ho,List.map_toArray,List.map_cons,List.map_nil,hx0,hx1,hx2,hx3,Sem.run_bind,run_bsE4 z0 z1 z2 z3 w,Result.andThen_ok]
 exact this
end
theorem s_bld {P:Program} {ops:Array Oper} {Q:Exit→Act→World→Prop} {S:World→Prop} {k:Nat} {o:Oper} {s:Scr} {a:Act} {w:World} (ho:ops[k]?=some o) (hw:Region.wanted o (yielded ops a.tmps)=true) (T:TypeId) (parts:Array (Nat × Operand)) (hop:o.op=.build T parts) (xs:List Value)
 (hb:P.built T (parts.map fun (i,x)=>(i,a.eval x)).toList=some xs.toArray) (h:wpScr P ops Q s S (a.put o.dst (.agg xs.toArray)) w):wpScr P ops Q (.take k s) S a w :=
 s_val ho hw (fun w _=>by
  unfold execOp
  simp only [hop,Sem.run_bind,run_build w T _ _ hb,Result.andThen_ok]
  rfl) h
theorem built_en (b:ByteArray) (e i:Int) (p:List UInt8) (f:ByteArray) (hp:p.length=32):Tryz.prog.built 103 [(0,.string b),(1,.int .i64 e),(2,.int .i64 i),(3,.agg (u8s p).toArray),(4,.string f)]=some (En.row ⟨b,e,i,p,f,⟨#[]⟩⟩).toArray:=by
 match p,hp with
 | [a0, a1, a2, a3, a4, a5, a6, a7, a8, a9, a10, a11, a12, a13, a14, a15, a16, a17, a18, a19, a20, a21, a22, a23, a24, a25, a26, a27, a28, a29, a30, a31], _ =>
   show _=_
   kernel_rfl
def or4 (a b c d:Int):Int:=if a≠0 then a else if b≠0 then b else if c≠0 then c else d
theorem or4_zero {a b c d:Int}:or4 a b c d=0↔a=0∧b=0∧c=0∧d=0:=by
 unfold or4
 constructor
 · intro h
   split at h
   · contradiction
   · split at h
     · contradiction
     · split at h
       · contradiction
       · rename_i h1 h2 h3
         exact ⟨Decidable.not_not.1 h1,Decidable.not_not.1 h2,Decidable.not_not.1 h3,h⟩
 · rintro ⟨rfl,rfl,rfl,rfl⟩;rfl
def at4 (a b c d:Int):Nat→Int:=fun i=>if i=0 then a else if i=1 then b else if i=2 then c else d
theorem or4_at {a b c d:Int} (i:Nat) (hi:i<4) (h:∀ j,j<i→at4 a b c d j=0) (hn:at4 a b c d i≠0):or4 a b c d=at4 a b c d i:=by
 unfold or4
 have h0:=fun g=>h 0 g;have h1:=fun g=>h 1 g;have h2:=fun g=>h 2 g
 simp only [at4] at h0 h1 h2 hn ⊢
 rcases (by omega:i=0∨i=1∨i=2∨i=3) with rfl | rfl | rfl | rfl
 · simp at hn ⊢;simp [hn]
 · simp at h0 hn ⊢;simp [h0,hn]
 · simp at h0 h1 hn ⊢;simp [h0,h1,hn]
 · simp at h0 h1 h2 hn ⊢;simp [h0,h1,h2]
theorem or4_all {a b c d:Int} (h:∀ j,j<4→at4 a b c d j=0):or4 a b c d=0 :=
 or4_zero.2 ⟨h 0 (by omega),h 1 (by omega),h 2 (by omega),h 3 (by omega)⟩
theorem or4_any (w:World) (g:Nat) (a b c d:Int) (hc:∀ i,i<4→w.cell? ⟨g,i,none⟩=some (.int .i64 (at4 a b c d i))) :
 Calls Tryz.prog 91 #[.slice (some ⟨g,0,none⟩) 4 4] w fun e w'=>e=.returned (.int .i64 (or4 a b c d))∧w'=w:=by
 have HC:=hidp hc;clear hc
 obtain ⟨K,hK⟩:∃ K,or4 a b c d=K:=⟨_,rfl⟩
 have HAT:=hidp (fun i hi h hn=>(or4_at (a:=a) (b:=b) (c:=c) (d:=d) i hi h hn).symm.trans hK)
 have HALL:=hidp (fun h=>(or4_all (a:=a) (b:=b) (c:=c) (d:=d) h).symm.trans hK)
 rw [hK]
 clear hK
 obtain ⟨F,hF⟩:∃ F,at4 a b c d=F:=⟨_,rfl⟩
 rw [hF] at HC HAT HALL
 clear hF
 go_enter Tryz.func91,Tryz.ntmps91
 go_wp2
 go_loop [5,8] (fun t5 t8=>∃ i:Nat,t8=.int .i64 (i:Int)∧i≤4∧∀ j,j<i→F j=0) (fun t5 t8=>4 - (intOf t8).toNat)
 case atStart=>exact ⟨0,rfl,by omega,fun j h=>by omega⟩
 case round =>
  obtain ⟨i,rfl,hi,hall⟩:=hrel
  have HP:=hidp hall;clear hall
  by_cases hl:i<4
  · have e0:decide ((i:Int)<4)=true:=by simp;omega
    have c0:(0:Int)≤(i:Int):=by omega
    have c1:(i:Int)<4:=by omega
    have m1:=HC.out i hl
    obtain ⟨X,hX⟩:∃ X,F i=X:=⟨_,rfl⟩
    rw [hX] at m1
    by_cases hx:X=0
    · subst hx
      have HX:=hidp hX;clear hX
      go_wp2
      refine ⟨⟨i + 1,by go_num,by omega,fun j g=>?_⟩,by simp [intOf];omega⟩
      by_cases hj:j=i
      · subst hj;exact HX.out
      · exact HP.out j (by omega)
    · have e1:(X != 0)=true:=by simpa using hx
      have HF:=hidp (show X=K from hX ▸ HAT.out i hl HP.out (by rw [hX];exact hx))
      clear hX
      go_wp2
      go_ret
      exact ⟨by first | rfl|(rw [HF.out];first | done | rfl),rfl⟩
  · have e0:decide ((i:Int)<4)=false:=by simp;omega
    have c1:¬ (i:Int)<4:=by omega
    have HF:=hidp (HALL.out fun j g=>HP.out j (by omega))
    go_wp2
    go_ret
    exact ⟨by rw [← HF.out];first | done | rfl,rfl⟩
def erV (t:ByteArray):En:=(er t).getD zEn
def erE (t:ByteArray):Int:=if (er t).isSome=true then 0 else 6
theorem num4_in (s:ByteArray):num4 s=if inE s 4096=0 then some (inV s 4096) else none:=by
 unfold num4
 by_cases h:inE s 4096=0
 · rw [if_pos h,(in_zero h).1];exact if_pos (in_zero h).2
 · rw [if_neg h]
   cases hn:numOf s with
   | none=>rfl
   | some n=>exact if_neg (by have:=in_not h n hn;omega)
theorem er_bad {t:ByteArray} (h:(al t).2≠0):er t=none:=by unfold er;rw [if_neg h]
theorem er_len {t:ByteArray} (h:(al t).1.length≠6):er t=none:=by
 unfold er
 split
 · unfold erL
   split
   · rename_i hl;rw [hl] at h;simp at h
   · rfl
 · rfl
theorem er_word {t a b c d e f:ByteArray} (hL:(al t).1=[a,b,c,d,e,f]) (h:a≠wEntry):er t=none:=by
 unfold er
 split
 · rw [hL];unfold erL;simp only;rw [if_neg (fun g=>h g.1)]
 · rfl
def x0 (b c d e f:ByteArray):En:=⟨b,inV c 4096,inV d 4096,hsV e,f,⟨#[]⟩⟩
theorem hsV_len (e:ByteArray):(hsV e).length=32:=by
 unfold hsV;split
 · rw [size_toList];assumption
 · rfl
theorem er_six {t b c d e f:ByteArray} (h0:(al t).2=0) (hL:(al t).1=[wEntry,b,c,d,e,f]):er t=if or4 (inE c 4096) (inE d 4096) (hsE e) (eE (x0 b c d e f))=0 then some (x0 b c d e f) else none:=by
 unfold er
 rw [if_pos h0,hL]
 unfold erL
 simp only [num4_in]
 by_cases he:e.size=32
 · rw [if_pos ⟨by trivial,he⟩]
   have h1:hsE e=0:=if_pos he
   have h2:hsV e=e.data.toList:=if_pos he
   by_cases hc:inE c 4096=0
   · by_cases hd:inE d 4096=0
     · simp only [if_pos hc,if_pos hd]
       have hx:(⟨b,(inV c 4096:Nat),(inV d 4096:Nat),e.data.toList,f,⟨#[]⟩⟩:En)=x0 b c d e f:=by unfold x0;rw [h2]
       rw [hx]
       cases hok:eOk (x0 b c d e f) with
       | true=>rw [if_pos (or4_zero.2 ⟨hc,hd,h1,eE_yes hok⟩)];rfl
       | false=>rw [if_neg Bool.false_ne_true,if_neg (fun g=>by have:=(or4_zero.1 g).2.2.2;rw [eE_no hok] at this;cases this)]
     · rw [if_neg (fun g=>hd (or4_zero.1 g).2.1)];simp only [if_pos hc,if_neg hd]
   · rw [if_neg (fun g=>hc (or4_zero.1 g).1)];simp only [if_neg hc]
 · rw [if_neg (fun g=>he g.2),if_neg]
   intro g
   have:=(or4_zero.1 g).2.2.1
   unfold hsE at this;rw [if_neg he] at this;cases this
theorem toList_word {a:ByteArray} (h:a≠wEntry):(a.toList == [101,110,116,114,121])=false:=by
 have:=toList_no (b:=wEntry) h
 rw [ByteArray.toList_eq wEntry] at this
 exact this
theorem four {W:World} {g T:Nat} {a b c d:Int} (h:Arr W g T [.int .i64 a,.int .i64 b,.int .i64 c,.int .i64 d]):∀ i,i<4→W.cell? ⟨g,i,none⟩=some (.int .i64 (at4 a b c d i)):=by
 intro i hi
 rcases (by omega:i=0∨i=1∨i=2∨i=3) with rfl | rfl | rfl | rfl
 · exact h.cell 0 (by simp)
 · exact h.cell 1 (by simp)
 · exact h.cell 2 (by simp)
 · exact h.cell 3 (by simp)
theorem eread_any (w:World) (t:ByteArray) (ht:t.size≤281474976710656) (hI:IT w) :
 Calls Tryz.prog 79 #[.string t] w fun e w'=>e=.returned (.tuple #[.agg (erV t).row.toArray,.int .i64 (erE t)])∧Below w.heap.size w w':=by
 have HI:=hidp hI;clear hI
 have ca:=hidp (fun W=>all_any W t ht)
 have H:=hidp (Mm.M.nil w)
 by_cases h0:(al t).2=0
 · by_cases h6:(al t).1.length=6
   · obtain ⟨a,b,c,d,e5,f,hL⟩:∃ a b c d e f,(al t).1=[a,b,c,d,e,f]:=by
      match hL:(al t).1,h6 with
      | [a,b,c,d,e,f],_=>exact ⟨a,b,c,d,e,f,rfl⟩
     have hss:=al_sz t ht
     rw [hL] at hss
     rw [h0,hL] at ca
     by_cases hw:a=wEntry
     · subst hw
       have hsx:=er_six h0 hL
       have hQ:=hsV_len e5
       have hxok:(x0 b c d e5 f).ok:=⟨by have:=hss b (by simp);show b.size≤_;omega,hQ,by have:=hss f (by simp);show f.size≤_;omega,by show (⟨#[]⟩:ByteArray).size≤_;decide⟩
       have c1:=hidp (show ∀ W,Calls Tryz.prog 88 #[.string c,.int .i64 4096] W (fun e w'=>e=.returned (.tuple #[.int .i64 (inV c 4096:Nat),.int .i64 (inE c 4096)])∧Below W.heap.size W w') from fun W=>allInt_any W c 4096 (by omega) (by have:=hss c (by simp);omega))
       have c2:=hidp (show ∀ W,Calls Tryz.prog 88 #[.string d,.int .i64 4096] W (fun e w'=>e=.returned (.tuple #[.int .i64 (inV d 4096:Nat),.int .i64 (inE d 4096)])∧Below W.heap.size W w') from fun W=>allInt_any W d 4096 (by omega) (by have:=hss d (by simp);omega))
       have c3:=hidp (fun W=>ohash_any W e5)
       have cc:=hidp (fun W (h:IT W)=>echeck_any W (x0 b c d e5 f) hxok h)
       obtain ⟨X,hX⟩:∃ X,x0 b c d e5 f=X:=⟨_,rfl⟩
       have HX0:=hidp (show X.p.length=32 from hX ▸ hQ)
       obtain ⟨Q,hQe⟩:∃ Q,hsV e5=Q:=⟨_,rfl⟩
       have HQL:=hidp (hQe ▸ hQ)
       have HQ:=hidp (show (u8s Q).length=32 from by rw [u8s_length];exact HQL.out)
       have hX2:X=⟨b,(inV c 4096:Nat),(inV d 4096:Nat),Q,f,⟨#[]⟩⟩:=by rw [← hX,← hQe];rfl
       rw [hX] at hsx cc
       rw [hQe] at c3
       obtain ⟨V1,hV1⟩:∃ V:Int,((inV c 4096:Nat):Int)=V:=⟨_,rfl⟩
       obtain ⟨V2,hV2⟩:∃ V:Int,((inV d 4096:Nat):Int)=V:=⟨_,rfl⟩
       obtain ⟨E1,hE1⟩:∃ V,inE c 4096=V:=⟨_,rfl⟩
       obtain ⟨E2,hE2⟩:∃ V,inE d 4096=V:=⟨_,rfl⟩
       obtain ⟨E3,hE3⟩:∃ V,hsE e5=V:=⟨_,rfl⟩
       obtain ⟨E4,hE4⟩:∃ V,eE X=V:=⟨_,rfl⟩
       rw [hV1,hE1] at c1
       rw [hV2,hE2] at c2
       rw [hE3] at c3
       rw [hE4] at cc
       rw [hE1,hE2,hE3,hE4] at hsx
       rw [hV1,hV2] at hX2
       have HX:=hidp hX2
       clear hss h0 h6 hL hQ hxok hX hX2 hQe hV1 hV2 hE1 hE2 hE3 hE4
       by_cases hz:or4 E1 E2 E3 E4=0
       case' pos =>
        rw [if_pos hz] at hsx
        have HV:=hidp (show erV t=X from by unfold erV;rw [hsx];rfl)
        have HE:=hidp (show erE t=0 from by unfold erE;rw [hsx];rfl)
        clear hsx
       case' neg =>
        rw [if_neg hz] at hsx
        have HV:=hidp (show erV t=zEn from by unfold erV;rw [hsx];rfl)
        have HE:=hidp (show erE t=6 from by unfold erE;rw [hsx];rfl)
        obtain ⟨O,hO⟩:∃ O,or4 E1 E2 E3 E4=O:=⟨_,rfl⟩
        have e9:(or4 E1 E2 E3 E4 != 0)=true:=by simpa using hz
        clear hsx hO
       all_goals
        go_enter Tryz.func79,Tryz.ntmps79
        have tk0:=hT
        go_wp2_with (first|(clear tk0;(refine Mm.new rtE H (some 2) rfl rfl rfl ?_;clear H;intro b2 _ H nw;clear nw);(try simp only [aR]);have tk1:=hT)|(clear tk1;(go_at_call 74;refine (ca.out _).mono ?_;rintro e w1 ⟨v,rfl,hst,hb⟩;have H0:=hidp (H.out.call hb);obtain ⟨g,off,cv,rfl,hg,hcs⟩:=Sl.strs_pos hst (by simp);have HIB:=hidp (HI.out.below H0.out.below (Nat.le_refl _));clear H hst hb ca;have HC:=hidp (show ∀ W,Below w1.heap.size w1 W→W.cell? ⟨g,off,none⟩=some (.string wEntry)∧W.cell? ⟨g,off + 1,none⟩=some (.string b)∧W.cell? ⟨g,off + 2,none⟩=some (.string c)∧W.cell? ⟨g,off + 3,none⟩=some (.string d)∧W.cell? ⟨g,off + 4,none⟩=some (.string e5)∧W.cell? ⟨g,off + 5,none⟩=some (.string f) from fun W hW=>⟨(hW.cell (p:=⟨g,off,none⟩) hg).trans (hcs 0 (by simp)),(hW.cell (p:=⟨g,off + 1,none⟩) hg).trans (hcs 1 (by simp)),(hW.cell (p:=⟨g,off + 2,none⟩) hg).trans (hcs 2 (by simp)),(hW.cell (p:=⟨g,off + 3,none⟩) hg).trans (hcs 3 (by simp)),(hW.cell (p:=⟨g,off + 4,none⟩) hg).trans (hcs 4 (by simp)),(hW.cell (p:=⟨g,off + 5,none⟩) hg).trans (hcs 5 (by simp))⟩);clear hcs;have H:=hidp (Mm.M.nil w1);obtain ⟨m0,m1,m2,m3,m4,m5⟩:=HC.out _ H.out.below;unfold wEntry at m0);(try simp only [aR]);have tk2:=hT)|(clear tk2;(go_at_call 88;refine (c1.out _).mono ?_;rintro e _ ⟨rfl,hb⟩;clear m0 m1 m2 m3 m4 m5;replace H:=hidp (H.out.call hb);obtain ⟨m0,m1,m2,m3,m4,m5⟩:=HC.out _ H.out.below;clear hb);(try simp only [aR]);have tk3:=hT)|(clear tk3;(go_at_call 88;refine (c2.out _).mono ?_;rintro e _ ⟨rfl,hb⟩;clear m0 m1 m2 m3 m4 m5;replace H:=hidp (H.out.call hb);obtain ⟨m0,m1,m2,m3,m4,m5⟩:=HC.out _ H.out.below;clear hb);(try simp only [aR]);have tk4:=hT)|(clear tk4;(go_at_call 131;refine (c3.out _).mono ?_;rintro e _ ⟨rfl,hb⟩;clear m0 m1 m2 m3 m4 m5;replace H:=hidp (H.out.call hb);obtain ⟨m0,m1,m2,m3,m4,m5⟩:=HC.out _ H.out.below;clear hb);(try simp only [aR]);have tk5:=hT)|(clear tk5;(refine Mm.new rtH H (some 10) rfl rfl rfl ?_;clear H;intro b10 _ H nw;clear nw m0 m1 m2 m3 m4 m5);(try simp only [aR]);have tk6:=hT)|(clear tk6;(refine Mm.put0 rtH H rfl (.tmp 10) (.tmp 51) (u8s Q) rfl rfl rfl HQ.out (u8_one _) rfl ?_;clear H;intro _ H st;clear st);(try simp only [aR]);have tk7:=hT))
        try clear tk7
        refine Mm.region H (.take 0 (.take 1 (.take 2 (.take 3 (.take 4 (.take 5 (.take 6 (.take 7 (.take 8 (.take 9 (.one 10 (.one 11 .done)))))))))))) (by kernel_rfl) (by kernel_rfl) (by simp [Scr.depth]) (by kernel_rfl) ?_
        clear H
        intro _ H hb
        clear hb
        iterate 2
         apply s_val
         case ho | hw=>rfl
         case hv=>intro w hw;go_simp;first | done | rfl
         simp only [aS]
        apply s_val
        case ho | hw=>rfl
        case hv=>intro w hw;obtain ⟨m0,m1,m2,m3,m4,m5⟩:=HC.out w hw.below;clear m0 m2 m3 m4 m5;go_simp;first | done | rfl
        iterate 2
         simp only [aS]
         apply s_val
         case ho | hw=>rfl
         case hv=>intro w hw;go_simp;first | done | rfl
        simp only [aS]
        refine Mm.sget0 rtH (fun w h=>h) rfl rfl (.tmp 10) rfl rfl HQ.out ?_
        iterate 2
         simp only [aS]
         apply s_val
         case ho | hw=>rfl
         case hv=>intro w hw;go_simp;first | done | rfl
        simp only [aS]
        apply s_val
        case ho | hw=>rfl
        case hv=>intro w hw;obtain ⟨m0,m1,m2,m3,m4,m5⟩:=HC.out w hw.below;clear m0 m1 m2 m3 m4;go_simp;first | done | rfl
        simp only [aS]
        refine s_bld rfl rfl 103 _ rfl X.row (by rw [HX.out];exact Eq.trans (by kernel_rfl) (built_en b V1 V2 Q f HQL.out)) ?_
        simp only [aS]
        refine Mm.o_newH rtE H (fun W h=>h) rfl rfl rfl ?_
        clear H
        intro b12 _ H nw
        have hb:=nw.below
        clear hb nw
        simp only [aS]
        refine Mm.oput0 rtE H X.row (fun W h=>h.tail) rfl rfl (.tmp 12) (.tmp 62) rfl rfl rfl (En.len HX0.out) (En.one X) (En.len (rfl:zEn.p.length=32)) ?_
        clear H
        intro _ H st
        clear st
        simp only [aS]
        refine NoPanic.normal ?_
        first
         | have tk0:=hT
           go_wp2_with (first|(clear tk0;(refine Mm.get0 rtE H rfl (.tmp 12) rfl rfl (En.len HX0.out) ?_);(try simp only [aR]);have tk1:=hT)|(clear tk1;(go_at_call 103;refine (cc.out _ (HIB.out.below H.out.below (Nat.le_refl _))).mono ?_;rintro e _ ⟨rfl,hb⟩;replace H:=hidp (H.out.call hb);clear hb);(try simp only [aR]);have tk2:=hT)|(clear tk2;(refine wpL_bsE4 H rfl (.tmp 63) (.tmp 64) (.tmp 65) (.tmp 67) E1 E2 E3 E4 rfl rfl rfl rfl rfl ?_;clear H;intro b9 _ H nw;clear nw);(try simp only [aR]);have tk3:=hT)|(clear tk3;(go_at_call 91;refine (or4_any _ b9 E1 E2 E3 E4 (four H.out.at0)).mono ?_;rintro e _ ⟨rfl,rfl⟩;replace H:=hidp (Sl.join H0.out H.out));(try simp only [aR]);have tk4:=hT)|(clear tk4;(refine Mm.get1 rtE H rfl (.tmp 12) rfl rfl (En.len HX0.out) ?_);(try simp only [aR]);have tk5:=hT)|(clear tk5;(refine Mm.put3 rtE H rfl (.tmp 2) (.tmp 72) X.row rfl rfl rfl (En.len HX0.out) (En.one X) (En.len (rfl:zEn.p.length=32)) ?_;clear H;intro _ H st;clear st);(try simp only [aR]);have tk6:=hT))
           try clear tk6
           refine bodyPost_ret (Mm.ret_rowv rtE Tryz.results79 _ b2 _ _ rfl rfl H.out.at3 (En.len HX0.out)) rfl ⟨by rw [HV.out,HE.out];first | done | rfl,H.out.below⟩
         | have tk0:=hT
           go_wp2_with (first|(clear tk0;(refine Mm.get0 rtE H rfl (.tmp 12) rfl rfl (En.len HX0.out) ?_);(try simp only [aR]);have tk1:=hT)|(clear tk1;(go_at_call 103;refine (cc.out _ (HIB.out.below H.out.below (Nat.le_refl _))).mono ?_;rintro e _ ⟨rfl,hb⟩;replace H:=hidp (H.out.call hb);clear hb);(try simp only [aR]);have tk2:=hT)|(clear tk2;(refine wpL_bsE4 H rfl (.tmp 63) (.tmp 64) (.tmp 65) (.tmp 67) E1 E2 E3 E4 rfl rfl rfl rfl rfl ?_;clear H;intro b9 _ H nw;clear nw);(try simp only [aR]);have tk3:=hT)|(clear tk3;(go_at_call 91;refine (or4_any _ b9 E1 E2 E3 E4 (four H.out.at0)).mono ?_;rintro e _ ⟨rfl,rfl⟩;replace H:=hidp (Sl.join H0.out H.out));(try simp only [aR]);have tk4:=hT)|(clear tk4;(refine Rt.wpL_build rfl 103 _ rfl zEn.row (by kernel_rfl) ?_);(try simp only [aR]);have tk5:=hT)|(clear tk5;(refine Mm.put3 rtE H rfl (.tmp 2) (.tmp 71) zEn.row rfl rfl rfl (En.len (rfl:zEn.p.length=32)) (En.one zEn) (En.len (rfl:zEn.p.length=32)) ?_;clear H;intro _ H st;clear st);(try simp only [aR]);have tk6:=hT))
           try clear tk6
           refine bodyPost_ret (Mm.ret_rowv rtE Tryz.results79 _ b2 _ _ rfl rfl H.out.at3 (En.len (rfl:zEn.p.length=32))) rfl ⟨by rw [HV.out,HE.out];first | done | rfl,H.out.below⟩
     · have HV:=hidp (show erV t=zEn from by unfold erV;rw [er_word hL hw];rfl)
       have HE:=hidp (show erE t=6 from by unfold erE;rw [er_word hL hw];rfl)
       have hq:=toList_word hw
       clear hss h0 h6 hL hw
       go_enter Tryz.func79,Tryz.ntmps79
       have tk0:=hT
       go_wp2_with (first|(clear tk0;(refine Mm.new rtE H (some 2) rfl rfl rfl ?_;clear H;intro b2 _ H nw;clear nw);(try simp only [aR]);have tk1:=hT)|(clear tk1;(go_at_call 74;refine (ca.out _).mono ?_;rintro e w1 ⟨v,rfl,hst,hb⟩;have H0:=hidp (H.out.call hb);obtain ⟨g,off,cv,rfl,hg,hcs⟩:=Sl.strs_pos hst (by simp);have HIB:=hidp (HI.out.below H0.out.below (Nat.le_refl _));clear H hst hb ca;have HC:=hidp (show ∀ W,Below w1.heap.size w1 W→W.cell? ⟨g,off,none⟩=some (.string a)∧W.cell? ⟨g,off + 1,none⟩=some (.string b)∧W.cell? ⟨g,off + 2,none⟩=some (.string c)∧W.cell? ⟨g,off + 3,none⟩=some (.string d)∧W.cell? ⟨g,off + 4,none⟩=some (.string e5)∧W.cell? ⟨g,off + 5,none⟩=some (.string f) from fun W hW=>⟨(hW.cell (p:=⟨g,off,none⟩) hg).trans (hcs 0 (by simp)),(hW.cell (p:=⟨g,off + 1,none⟩) hg).trans (hcs 1 (by simp)),(hW.cell (p:=⟨g,off + 2,none⟩) hg).trans (hcs 2 (by simp)),(hW.cell (p:=⟨g,off + 3,none⟩) hg).trans (hcs 3 (by simp)),(hW.cell (p:=⟨g,off + 4,none⟩) hg).trans (hcs 4 (by simp)),(hW.cell (p:=⟨g,off + 5,none⟩) hg).trans (hcs 5 (by simp))⟩);clear hcs;have H:=hidp (Mm.M.nil w1);obtain ⟨m0,m1,m2,m3,m4,m5⟩:=HC.out _ H.out.below;replace H:=hidp (Sl.join H0.out H.out));(try simp only [aR]);have tk2:=hT)|(clear tk2;(refine Rt.wpL_build rfl 103 _ rfl zEn.row (by kernel_rfl) ?_);(try simp only [aR]);have tk3:=hT)|(clear tk3;(refine Mm.put0 rtE H rfl (.tmp 2) (.tmp 31) zEn.row rfl rfl rfl (En.len (rfl:zEn.p.length=32)) (En.one zEn) (En.len (rfl:zEn.p.length=32)) ?_;clear H;intro _ H st;clear st);(try simp only [aR]);have tk4:=hT))
       try clear tk4
       refine bodyPost_ret (Mm.ret_rowv rtE Tryz.results79 _ b2 _ _ rfl rfl H.out.at0 (En.len (rfl:zEn.p.length=32))) rfl ⟨by rw [HV.out,HE.out];first | done | rfl,H.out.below⟩
   · have HV:=hidp (show erV t=zEn from by unfold erV;rw [er_len h6];rfl)
     have HE:=hidp (show erE t=6 from by unfold erE;rw [er_len h6];rfl)
     rw [h0] at ca
     obtain ⟨ss,hss⟩:∃ ss,(al t).1=ss:=⟨_,rfl⟩
     rw [hss] at ca h6
     obtain ⟨n,hn⟩:∃ n,ss.length=n:=⟨_,rfl⟩
     have e1:((n:Int) != 6)=true:=by simp;omega
     have g1:¬ n=6:=by omega
     have g2:(n != 6)=true:=by simpa using g1
     clear hss h0
     have cb:=hidp (fun W=>(ca.out W).mono fun e w' ⟨v,h1,h2,h3⟩=>(⟨v,h1,⟨Sl.strs_form h2,h3⟩⟩:∃ v,e=Ending.returned (.tuple #[v,.int .i64 ((0:Nat):Int)])∧(∃ a c,v=Value.slice a ss.length c)∧Below W.heap.size W w'))
     rw [hn] at cb
     clear ca hn h6
     go_enter Tryz.func79,Tryz.ntmps79
     have tk0:=hT
     go_wp2_with (first|(clear tk0;(refine Mm.new rtE H (some 2) rfl rfl rfl ?_;clear H;intro b2 _ H nw;clear nw);(try simp only [aR]);have tk1:=hT)|(clear tk1;(go_at_call 74;refine (cb.out _).mono ?_;rintro e _ ⟨v,rfl,⟨av,cv,rfl⟩,hb⟩;replace H:=hidp (H.out.call hb);clear hb cb);(try simp only [aR]);have tk2:=hT)|(clear tk2;(refine Rt.wpL_build rfl 103 _ rfl zEn.row (by kernel_rfl) ?_);(try simp only [aR]);have tk3:=hT)|(clear tk3;(refine Mm.put0 rtE H rfl (.tmp 2) (.tmp 31) zEn.row rfl rfl rfl (En.len (rfl:zEn.p.length=32)) (En.one zEn) (En.len (rfl:zEn.p.length=32)) ?_;clear H;intro _ H st;clear st);(try simp only [aR]);have tk4:=hT))
     try clear tk4
     refine bodyPost_ret (Mm.ret_rowv rtE Tryz.results79 _ b2 _ _ rfl rfl H.out.at0 (En.len (rfl:zEn.p.length=32))) rfl ⟨by rw [HV.out,HE.out];first | done | rfl,H.out.below⟩
 · have HV:=hidp (show erV t=zEn from by unfold erV;rw [er_bad h0];rfl)
   have HE:=hidp (show erE t=6 from by unfold erE;rw [er_bad h0];rfl)
   obtain ⟨E,hE⟩:∃ E,(al t).2=E:=⟨_,rfl⟩
   rw [hE] at ca h0
   have e1:((E:Int) != 0)=true:=by simp;omega
   have g1:¬ (E:Int)=0:=by omega
   have g2:¬ E=0:=h0
   clear hE h0
   go_enter Tryz.func79,Tryz.ntmps79
   have tk0:=hT
   go_wp2_with (first|(clear tk0;(refine Mm.new rtE H (some 2) rfl rfl rfl ?_;clear H;intro b2 _ H nw;clear nw);(try simp only [aR]);have tk1:=hT)|(clear tk1;(go_at_call 74;refine (ca.out _).mono ?_;rintro e _ ⟨v,rfl,hst,hb⟩;replace H:=hidp (H.out.call hb);obtain ⟨av,cv,rfl⟩:=Sl.strs_form hst;clear hst hb ca);(try simp only [aR]);have tk2:=hT)|(clear tk2;(refine Rt.wpL_build rfl 103 _ rfl zEn.row (by kernel_rfl) ?_);(try simp only [aR]);have tk3:=hT)|(clear tk3;(refine Mm.put0 rtE H rfl (.tmp 2) (.tmp 31) zEn.row rfl rfl rfl (En.len (rfl:zEn.p.length=32)) (En.one zEn) (En.len (rfl:zEn.p.length=32)) ?_;clear H;intro _ H st;clear st);(try simp only [aR]);have tk4:=hT))
   try clear tk4
   refine bodyPost_ret (Mm.ret_rowv rtE Tryz.results79 _ b2 _ _ rfl rfl H.out.at0 (En.len (rfl:zEn.p.length=32))) rfl ⟨by rw [HV.out,HE.out];first | done | rfl,H.out.below⟩
end Go.Proofs.YtokakgjcegmabaaGreatDoor.En
