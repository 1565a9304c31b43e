import Derived.Test.YtokakgjcegmabaaGreatDoorWPA
import Derived.Test.YtokakgjcegmabaaGreatDoorWU5
import Derived.Test.YtokakgjcegmabaaGreatDoorWU6
set_option linter.unusedVariables false
set_option linter.unusedSimpArgs false
set_option maxHeartbeats 64000000
set_option maxRecDepth 100000
namespace Go.Proofs.YtokakgjcegmabaaGreatDoor.Pf
open Go.RowKit
open List (getElem_toArray getElem_cons_zero getElem_cons_succ setIfInBounds_toArray set_cons_zero set_cons_succ)
open Hd
open Ho (inE inV in_zero in_not al_sz allInt_any)
open En (eOk eE eT eE_yes eE_no esmV er er_some erV erE eread_any rread_any En naI naS)
theorem ba_of_toList {x y:ByteArray} (h:x.toList=y.toList):x=y:=by
 have h2:x.data.toList=y.data.toList:=by simpa [ByteArray.toList_eq] using h
 cases x;cases y;simpa using h2
theorem s4c {W:World} {g:Nat} {a b c d:ByteArray} (h:Arr W g 9 [.string a,.string b,.string c,.string d]):∀ i,i<4→W.cell? ⟨g,i,none⟩=some (.string (Sl.sAt [a,b,c,d] i)):=by
 intro i hi
 rcases (by omega:i=0∨i=1∨i=2∨i=3) with rfl | rfl | rfl | rfl
 · exact h.cell 0 (by simp)
 · exact h.cell 1 (by simp)
 · exact h.cell 2 (by simp)
 · exact h.cell 3 (by simp)
theorem y63 {s:ByteArray} {n j c:Nat} (h:gn s.data.toList=(n,j,c)):(inE s 63=0↔c=0∧j=s.size∧n≤63)∧(inE s 63=0→inV s 63=n):=by
 have hb:=gn_bd s.data.toList
 have hz:=size_toList s
 rw [h] at hb
 simp only at hb
 have hn:numOf s=if c=0∧j=s.size then some n else none:=by unfold numOf;rw [h]
 have key:inE s 63=0→c=0∧j=s.size∧n≤63∧inV s 63=n:=by
  intro h0
  obtain ⟨h1,h2⟩:=in_zero h0
  rw [hn] at h1
  split at h1
  · rename_i hh
    simp only [Option.some.injEq] at h1
    exact ⟨hh.1,hh.2,by omega,h1.symm⟩
  · cases h1
 refine ⟨⟨fun h0=>⟨(key h0).1,(key h0).2.1,(key h0).2.2.1⟩,fun ⟨h1,h2,h3⟩=>?_⟩,fun h0=>(key h0).2.2.2⟩
 cases hq:decide (inE s 63=0) with
 | true=>exact of_decide_eq_true hq
 | false =>
   have:=in_not (of_decide_eq_false hq) n (by rw [hn,if_pos ⟨h1,h2⟩])
   omega
section
variable {ops:Array Oper} {rest:List Oper} {o:Oper} {a:Act} {w w0:World} {N:Nat} {L:List Mm.Bx} {Q:Exit→Act→World→Prop} {S:World→Prop} {j:Nat} {s:Scr} {K:Act→World→Prop}
theorem run_bsS4 (z0 z1 z2 z3:ByteArray) (w:World):(Instr.buildSlice 75 4 #[(0,.string z0),(1,.string z1),(2,.string z2),(3,.string z3)]).run Tryz.prog w=.ok (.slice (some ⟨w.heap.size,0,none⟩) 4 4) (w.alloc (.cells #[.string z0,.string z1,.string z2,.string z3] 9)):=by
 obtain ⟨i0,hi,hz0,hz1,hz2⟩:=info_parts Sl.infoS
 refine run_buildSlice w 75 9 4 _ _ i0 _ Sl.tyS hi hz0 (by rw [hz1];omega) (by rw [hz1];omega) ?_
 have hr:Array.range 4=#[0,1,2,3]:=by decide
 rw [hz1];simp [Instr.fill,Value.cells,hr]
theorem wpL_bsS4 (H:Hid (Mm.M N w0 w L)) (hw:Region.wanted o (yielded ops a.tmps)=true) (x0 x1 x2 x3:Operand) (z0 z1 z2 z3:ByteArray) (ho:o.op=.buildSlice 75 4 #[(0,x0),(1,x1),(2,x2),(3,x3)]) (hx0:a.eval x0=.string z0) (hx1:a.eval x1=.string z1) (hx2:a.eval x2=.string z2) (hx3:a.eval x3=.string z3)
 (h:∀ b W,Hid (Mm.M N w0 W (⟨b,9,[.string z0,.string z1,.string z2,.string z3]⟩ :: L))→Rt.NewAt w W b 9 [.string z0,.string z1,.string z2,.string z3]→wpList Tryz.prog ops Q rest (a.put o.dst (.slice (some ⟨b,0,none⟩) 4 4)) W):wpList Tryz.prog ops Q (o :: rest) a w:=by
 refine wpList_step fun K hK=>?_
 rw [if_pos hw]
 have n:=Rt.NewAt.mk' w 9 [.string z0,.string z1,.string z2,.string z3]
 have:=hK _ _ (h _ _ (hidp (H.out.new n)) n)
 unfold Oper.wp execOp
 simp only [ho,List.map_toArray,List.map_cons,List.map_nil,hx0,hx1,hx2,hx3,Sem.run_bind,run_bsS4 z0 z1 z2 z3 w,Result.andThen_ok]
 exact this
theorem wpL_mid (hw:Region.wanted o (yielded ops a.tmps)=true) (x:Operand) (ho:o.op=.load 58 x) (b off:Nat) (l:List UInt8) (hx:a.eval x=.pointer (some ⟨b,off,none⟩)) (hl:l.length=32) (hg:w.rangeAt b off (u8s l))
 (h:wpList Tryz.prog ops Q rest (a.put o.dst (.agg (u8s l).toArray)) w):wpList Tryz.prog ops Q (o :: rest) a w :=
 wpList_step fun K hK=>by
  rw [if_pos hw]
  exact wp_load_mid 58 x ho b off hx (u8s l) _ hg hash_row rfl (by have:=hash_size hl;simpa using this) (hK _ _ h)
theorem wpL_eqHs (hw:Region.wanted o (yielded ops a.tmps)=true) (x y:Operand) (u:TypeId) (hop:o.op=.binOp .eql 58 x y u)
 (e f:List UInt8) (he:e.length=32) (hf:f.length=32) (hx:a.eval x=.agg (u8s e).toArray) (hy:a.eval y=.agg (u8s f).toArray) (h:wpList Tryz.prog ops Q rest (a.put o.dst (.bool (decide (e=f)))) w):wpList Tryz.prog ops Q (o :: rest) a w:=by
 refine wpList_step fun K hK=>?_
 rw [if_pos hw]
 have:=hK _ _ h
 unfold Oper.wp execOp
 simp only [hop,hx,hy,Sem.run_bind,run_eqGuard_agg (P:=Tryz.prog) _ _ _ _ _ _ _ guard_hash,eql_hash w e f he hf,Result.andThen_ok,Sem.run_pure]
 exact this
end
theorem hd_mid {w:World} {b:Nat} {x:Hd} (ha:Arr w b 67 x.row):w.rangeAt b 3 (u8s x.p):=by
 have h:=ha.range
 unfold Hd.row at h
 rw [List.append_assoc,rangeAt_app] at h
 have:=(rangeAt_app.1 h.2).1
 simpa using this
theorem right_any (w:World) (x:Pr):Calls Tryz.prog 85 #[.agg x.row.toArray] w fun e w'=>e=.returned (.bool (pOk x))∧Below w.heap.size w w':=by
 obtain ⟨s,a,sa,b,sb⟩:=x
 have H:=hidp (Mm.M.nil w)
 show Calls Tryz.prog 85 #[.agg #[.int .i64 s,.string a,.string sa,.string b,.string sb]] w _
 go_enter Tryz.func85,Tryz.ntmps85
 have tk0:=hT
 go_wp2_with (first|(clear tk0;(refine Mm.box 65 H rfl (.tmp 0) rfl [.int .i64 s,.string a,.string sa,.string b,.string sb] rfl ?_;clear H;intro b1 _ H nw;clear nw);(try simp only [aR]);have tk1:=hT)|(clear tk1;(refine Mm.ld0 En.naS H rfl (.tmp 5) 1 (.string a) rfl rfl rfl ?_);(try simp only [aR]);have tk2:=hT)|(clear tk2;(refine Mm.ld0 En.naS H rfl (.tmp 7) 2 (.string sa) rfl rfl rfl ?_);(try simp only [aR]);have tk3:=hT)|(clear tk3;(refine Mm.ld0 En.naS H rfl (.tmp 9) 3 (.string b) rfl rfl rfl ?_);(try simp only [aR]);have tk4:=hT)|(clear tk4;(refine Mm.ld0 En.naS H rfl (.tmp 11) 4 (.string sb) rfl rfl rfl ?_);(try simp only [aR]);have tk5:=hT)|(clear tk5;(refine wpL_bsS4 H rfl _ _ _ _ a sa b sb rfl rfl rfl rfl rfl ?_;clear H;intro b9 _ H nw;clear nw);(try simp only [aR]);have tk6:=hT))
 try clear tk6
 have HC:=hidp (fun i (h:i<4)=>s4c H.out.at0 i h)
 obtain ⟨G,hG⟩:∃ G:Nat→ByteArray,(fun i=>Sl.sAt [a,sa,b,sb] i)=G:=⟨_,rfl⟩
 have hG2:∀ i,Sl.sAt [a,sa,b,sb] i=G i:=fun i=>congrFun hG i
 simp only [hG2] at HC
 have g0:a=G 0:=hG2 0
 have g1:sa=G 1:=hG2 1
 have g2:b=G 2:=hG2 2
 have g3:sb=G 3:=hG2 3
 have HG0:=hidp (And.intro g0 (And.intro g1 (And.intro g2 g3)))
 clear hG hG2 g0 g1 g2 g3
 have HM:=hidp (H.out.tail.at0)
 go_loop [4,15] (fun t4 t15=>∃ i:Nat,t15=.int .i64 (i:Int)∧i≤4∧∀ j,j<i→(G j).size≤8192) (fun t4 t15=>4 - (intOf t15).toNat)
 case atStart=>exact ⟨0,rfl,by omega,fun j h=>by omega⟩
 case round =>
  obtain ⟨i,rfl,hi,hall⟩:=hrel
  have HP:=hidp hall;clear hall
  by_cases hl:i<4
  · have e0:decide ((i:Int)<4)=true:=by simp;omega
    have c0:(0:Int)≤(i:Int):=by omega
    have c1:(i:Int)<4:=by omega
    have m1:=HC.out i hl
    obtain ⟨X,hX⟩:∃ X,G i=X:=⟨_,rfl⟩
    rw [hX] at m1
    have HX:=hidp hX;clear hX
    by_cases hx:(X.size:Int) > 8192
    · have e1:decide ((X.size:Int) > 8192)=true:=by simpa using hx
      have n1:(8192:Int)<(X.size:Int):=hx
      have HF:=hidp (show pOk ⟨s,a,sa,b,sb⟩=false from by
       rw [Bool.eq_false_iff];intro g;have g2:=pOk_iff.1 g;simp only at g2
       obtain ⟨q0,q1,q2,q3⟩:=HG0.out
       rw [q0,q1,q2,q3] at g2
       have hq:=HX.out
       rcases (by omega:i=0∨i=1∨i=2∨i=3) with rfl | rfl | rfl | rfl <;> rw [← hq] at hx <;> omega)
      go_wp2
      go_ret
      exact ⟨by rw [HF.out];first | done | rfl,H.out.below⟩
    · have e1:decide ((X.size:Int) > 8192)=false:=by simpa using hx
      have n1:¬ (8192:Int)<(X.size:Int):=hx
      go_wp2
      refine ⟨⟨i + 1,by go_num,by omega,fun j g=>?_⟩,by simp [intOf];omega⟩
      by_cases hj:j=i
      · subst hj;rw [HX.out];omega
      · exact HP.out j (by omega)
  · have e0:decide ((i:Int)<4)=false:=by simp;omega
    have c1:¬ (i:Int)<4:=by omega
    obtain rfl:i=4:=by omega
    obtain ⟨x0,x1,x2,x3,x4⟩:=pr_cells HM.out
    have HS:=hidp (show a.size≤8192∧sa.size≤8192∧b.size≤8192∧sb.size≤8192 from by
     obtain ⟨q0,q1,q2,q3⟩:=HG0.out
     rw [q0,q1,q2,q3]
     exact ⟨HP.out 0 (by omega),HP.out 1 (by omega),HP.out 2 (by omega),HP.out 3 (by omega)⟩)
    clear HP HC HG0
    by_cases c2:(s:Int) ≥ 0
    · have d2:decide ((s:Int) ≥ 0)=true:=decide_eq_true c2
      by_cases c3:s≤63
      · have d3:decide (s≤63)=true:=decide_eq_true c3
        have HF:=hidp (show pOk ⟨s,a,sa,b,sb⟩=true from pOk_iff.2 ⟨⟨c2,c3⟩,HS.out.1,HS.out.2.1,HS.out.2.2.1,HS.out.2.2.2⟩)
        go_wp2
        go_ret
        exact ⟨by rw [HF.out];first | done | rfl,H.out.below⟩
      · have d3:decide (s≤63)=false:=decide_eq_false c3
        have HF:=hidp (show pOk ⟨s,a,sa,b,sb⟩=false from by rw [Bool.eq_false_iff];intro g;exact c3 (pOk_iff.1 g).1.2)
        go_wp2
        go_ret
        exact ⟨by rw [HF.out];first | done | rfl,H.out.below⟩
    · have d2:decide ((s:Int) ≥ 0)=false:=decide_eq_false c2
      have HF:=hidp (show pOk ⟨s,a,sa,b,sb⟩=false from by rw [Bool.eq_false_iff];intro g;exact c2 (pOk_iff.1 g).1.1)
      go_wp2
      go_ret
      exact ⟨by rw [HF.out];first | done | rfl,H.out.below⟩
theorem rsays_any (w:World) (t:ByteArray) (ht:t.size≤281474976710656):Calls Tryz.prog 32 #[.string t] w fun e w'=>e=.returned (.tuple #[.agg (syV t).row.toArray,.int .i64 (syE t)])∧Below w.heap.size w w':=by
 skip
 have H:=hidp (Mm.M.nil w)
 have c1:=hidp (fun W=>rread_any W t ht)
 have hql:(erV t).p.length=32:=by
  unfold erV
  cases h:er t with
  | some x=>exact (er_some h).2.2.2
  | none=>rfl
 obtain ⟨y,hy0⟩:∃ y,erV t=y:=⟨_,rfl⟩
 rw [hy0] at c1 hql
 have HQ:=hidp hql;clear hql
 obtain ⟨Y,hY0⟩:∃ Y,syV t=Y:=⟨_,rfl⟩
 have HY:=hidp (show Y.p.length=32 from by rw [← hY0];exact syV_len t)
 cases he:er t with
 | some e =>
   have hye:y=e:=by rw [← hy0];unfold erV;rw [he];rfl
   have hee:erE t=0:=by unfold erE;rw [he];rfl
   have hk:=er_some he
   have hy:y.ok:=by rw [hye];exact en_ok hk.1 hk.2.2.2
   have c2:=hidp (fun W=>rjof_any W y hy)
   have e1:jOf y=Y:=by rw [← hY0,hye];unfold syV;rw [says_en he];rfl
   have HV:=hidp hY0
   have HE:=hidp (show syE t=0 from by unfold syE;rw [says_en he];rfl)
   rw [hee] at c1
   rw [eE_yes (by rw [hye];exact hk.1),e1] at c2
   clear he hye hee hk hy e1 hy0 ht hY0
   go_enter Tryz.func32,Tryz.ntmps32
   have tk0:=hT
   go_wp2_with (first|(clear tk0;(refine Mm.new rtHd H (some 2) rfl rfl rfl ?_;clear H;intro b2 _ H nw;clear nw);(try simp only [aR]);have tk1:=hT)|(clear tk1;(go_at_call 81;refine (c1.out _).mono ?_;rintro e _ ⟨rfl,hb⟩;replace H:=hidp (H.out.call hb);clear c1;clear hb);(try simp only [aR]);have tk2:=hT)|(clear tk2;(refine Mm.new En.rtE H (some 4) rfl rfl rfl ?_;clear H;intro b4 _ H nw;clear nw);(try simp only [aR]);have tk3:=hT)|(clear tk3;(refine Mm.put0 En.rtE H rfl (.tmp 4) (.tmp 9) y.row rfl rfl rfl (En.En.len HQ.out) (En.En.one y) (En.En.len (rfl:En.zEn.p.length=32)) ?_;clear H;intro _ H st;clear st);(try simp only [aR]);have tk4:=hT)|(clear tk4;(refine Mm.get0 En.rtE H rfl (.tmp 4) rfl rfl (En.En.len HQ.out) ?_);(try simp only [aR]);have tk5:=hT)|(clear tk5;(go_at_call 82;refine (c2.out _).mono ?_;rintro e _ ⟨rfl,hb⟩;replace H:=hidp (H.out.call hb);clear c2;clear hb);(try simp only [aR]);have tk6:=hT)|(clear tk6;(refine Mm.put1 rtHd H rfl (.tmp 2) (.tmp 15) Y.row rfl rfl rfl (Hd.len HY.out) (Hd.one Y) (Hd.len (rfl:zHd.p.length=32)) ?_;clear H;intro _ H st;clear st);(try simp only [aR]);have tk7:=hT))
   try clear tk7
   refine bodyPost_ret (Mm.ret_rowv rtHd Tryz.results32 _ b2 _ _ rfl rfl H.out.at1 (Hd.len HY.out)) rfl ⟨by rw [HV.out,HE.out];first | done | rfl,H.out.below⟩
 | none =>
   have hee:erE t=6:=by unfold erE;rw [he];rfl
   have c2:=hidp (fun W=>rjread_any W t ht)
   have e1:jrV t=Y:=by rw [← hY0];unfold syV jrV;rw [says_jr he]
   have e2:jrE t=syE t:=by unfold syE jrE;rw [says_jr he]
   have HV:=hidp hY0
   obtain ⟨E2,hE2⟩:∃ E,syE t=E:=⟨_,rfl⟩
   have HE:=hidp hE2
   rw [hee] at c1
   rw [e1,e2,hE2] at c2
   clear he hee e1 e2 hy0 ht hE2 hY0
   go_enter Tryz.func32,Tryz.ntmps32
   have tk0:=hT
   go_wp2_with (first|(clear tk0;(refine Mm.new rtHd H (some 2) rfl rfl rfl ?_;clear H;intro b2 _ H nw;clear nw);(try simp only [aR]);have tk1:=hT)|(clear tk1;(go_at_call 81;refine (c1.out _).mono ?_;rintro e _ ⟨rfl,hb⟩;replace H:=hidp (H.out.call hb);clear c1;clear hb);(try simp only [aR]);have tk2:=hT)|(clear tk2;(refine Mm.new En.rtE H (some 4) rfl rfl rfl ?_;clear H;intro b4 _ H nw;clear nw);(try simp only [aR]);have tk3:=hT)|(clear tk3;(refine Mm.put0 En.rtE H rfl (.tmp 4) (.tmp 9) y.row rfl rfl rfl (En.En.len HQ.out) (En.En.one y) (En.En.len (rfl:En.zEn.p.length=32)) ?_;clear H;intro _ H st;clear st);(try simp only [aR]);have tk4:=hT)|(clear tk4;(go_at_call 83;refine (c2.out _).mono ?_;rintro e _ ⟨rfl,hb⟩;replace H:=hidp (H.out.call hb);clear c2;clear hb);(try simp only [aR]);have tk5:=hT)|(clear tk5;(refine Mm.put1 rtHd H rfl (.tmp 2) (.tmp 19) Y.row rfl rfl rfl (Hd.len HY.out) (Hd.one Y) (Hd.len (rfl:zHd.p.length=32)) ?_;clear H;intro _ H st;clear st);(try simp only [aR]);have tk6:=hT))
   try clear tk6
   refine bodyPost_ret (Mm.ret_rowv rtHd Tryz.results32 _ b2 _ _ rfl rfl H.out.at1 (Hd.len HY.out)) rfl ⟨by rw [HV.out,HE.out];first | done | rfl,H.out.below⟩
theorem rcheck_any (w:World) (v:Value) (gs:List Gr) (hg:GsAt w v gs) (x:Pr) (hx:x.ok):Calls Tryz.prog 38 #[v,.agg x.row.toArray] w fun e w'=>e=.returned (.int .i64 (ckE gs x))∧Below w.heap.size w w':=by
 obtain ⟨s,a,sa,b,sb⟩:=x
 skip
 have HG:=hidp hg;clear hg
 have H:=hidp (Mm.M.nil w)
 obtain ⟨z0,z1,z2,z3⟩:=hx
 simp only at z0 z1 z2 z3
 show Calls Tryz.prog 38 #[v,.agg #[.int .i64 s,.string a,.string sa,.string b,.string sb]] w _
 have cv:=hidp (show ∀ W,Calls Tryz.prog 85 #[.agg #[.int .i64 s,.string a,.string sa,.string b,.string sb]] W (fun e w'=>e=.returned (.bool (pOk ⟨s,a,sa,b,sb⟩))∧Below W.heap.size W w') from fun W=>right_any W ⟨s,a,sa,b,sb⟩)
 obtain ⟨R,hR⟩:∃ R,ckE gs ⟨s,a,sa,b,sb⟩=R:=⟨_,rfl⟩
 rw [hR]
 unfold ckE at hR
 cases hok:pOk ⟨s,a,sa,b,sb⟩
 case' false =>
  rw [hok] at cv
  rw [if_neg (by rw [hok];decide)] at hR
  have HF:=hidp hR.symm
  clear hR hok z0 z1 z2 z3
 case' true =>
  obtain ⟨-,y1,y2,y3,y4⟩:=pOk_iff.1 hok
  simp only at y1 y2 y3 y4
  rw [hok] at cv
  rw [if_pos hok] at hR
  simp only at hR
  have ca:=hidp (fun W=>rsays_any W a (by omega))
  have cb:=hidp (fun W=>rsays_any W b (by omega))
  obtain ⟨A,hA⟩:∃ A,syV a=A:=⟨_,rfl⟩
  obtain ⟨B,hB⟩:∃ B,syV b=B:=⟨_,rfl⟩
  have HA:=hidp (show A.p.length=32 from by rw [← hA];exact syV_len a)
  have HB:=hidp (show B.p.length=32 from by rw [← hB];exact syV_len b)
  have hga:=syV_g a;have hgb:=syV_g b
  have zA:=syE_or a;have zB:=syE_or b
  rw [hA] at ca hR hga;rw [hB] at cb hR hgb
  obtain ⟨EA,hEA⟩:∃ E,syE a=E:=⟨_,rfl⟩
  obtain ⟨EB,hEB⟩:∃ E,syE b=E:=⟨_,rfl⟩
  rw [hEA] at ca hR zA;rw [hEB] at cb hR zB
  clear hA hB hEA hEB hok
  by_cases hs:EA=0∧EB=0
  case' neg =>
   rw [if_neg hs] at hR
   have HF:=hidp hR.symm
   clear hR z0 z1 z2 z3 y1 y2 y3 y4 hga hgb
   rcases zA with rfl | rfl
   case' inl =>
    rcases zB with rfl | rfl
    · exact absurd ⟨rfl,rfl⟩ hs
  case' pos =>
   rw [if_pos hs] at hR
   obtain ⟨rfl,rfl⟩:=hs
   clear zA zB
   cases hpl:plc A B
   case' false =>
    rw [if_neg (by rw [hpl];decide)] at hR
    have HF:=hidp hR.symm
    have HPLC:=hidp hpl
    by_cases r1:A.r=B.r
    case' neg =>
     have q1:(A.r.toList == B.r.toList)=false:=by
      have:A.r.toList≠B.r.toList:=fun g=>r1 (ba_of_toList g)
      simpa using this
    case' pos =>
     have q1:(A.r.toList == B.r.toList)=true:=by rw [r1];simp
     by_cases r2:A.e=B.e
     case' neg =>
      have q2:(A.e != B.e)=true:=by simpa using r2
      clear r2
     case' pos =>
      have q2:(A.e != B.e)=false:=by rw [r2];simp
      have q3:(A.i != B.i)=true:=by
       have r3:A.i≠B.i:=by
        intro g;have h:=HPLC.out;unfold plc at h;rw [r1,r2,g] at h;simp at h
       simpa using r3
      clear r2
    all_goals clear r1 HPLC
    all_goals clear hR z0 z1 z2 z3 y1 y2 y3 y4 hga hgb hpl
   case' true =>
    rw [if_pos hpl] at hR
    have hpl':=hpl
    unfold plc at hpl'
    simp only [Bool.and_eq_true,beq_iff_eq,decide_eq_true_eq] at hpl'
    have q1:(A.r.toList == B.r.toList)=true:=by rw [hpl'.1.1];simp
    have q2:(A.e != B.e)=false:=by rw [hpl'.1.2];simp
    have q3:(A.i != B.i)=false:=by rw [hpl'.2];simp
    clear hpl'
    by_cases hp:A.p=B.p
    case' pos =>
     rw [if_pos hp] at hR
     have HF:=hidp hR.symm
     have HEQ:=hidp (show decide (A.p=B.p)=true from decide_eq_true hp)
     clear hR z0 z1 z2 z3 y1 y2 y3 y4 hga hgb hpl hp
    case' neg =>
     rw [if_neg hp] at hR
     have HEQ:=hidp (show decide (A.p=B.p)=false from decide_eq_false hp)
     unfold vfy at hR
     simp only at hR
     have cw:=hidp (fun W (hg:GsAt W v gs)=>rbverify_any W v gs hg s A.i a sa (by omega) (by omega) (by omega))
     have cx:=hidp (fun W (hg:GsAt W v gs)=>rbverify_any W v gs hg s A.i b sb (by omega) (by omega) (by omega))
     obtain ⟨E1,hE1⟩:∃ E,bvE gs s A.i a sa=E:=⟨_,rfl⟩
     obtain ⟨E2,hE2⟩:∃ E,bvE gs s A.i b sb=E:=⟨_,rfl⟩
     rw [hE1] at cw hR;rw [hE2] at cx hR
     clear hE1 hE2 hga hgb hpl hp z0 z1 z2 z3 y1 y2 y3 y4
     by_cases h1:E1=0
     case' pos =>
      subst h1
      rw [if_pos rfl] at hR
      have HF:=hidp hR.symm
      clear hR
     case' neg =>
      rw [if_neg h1] at hR
      have HF:=hidp hR.symm
      have e1:(E1 != 0)=true:=by simpa using h1
      clear hR
 all_goals
  go_enter Tryz.func38,Tryz.ntmps38
  have tk0:=hT
  go_wp2_with (first|(clear tk0;(refine Mm.box 65 H rfl (.tmp 1) rfl [.int .i64 s,.string a,.string sa,.string b,.string sb] rfl ?_;clear H;intro b3 _ H nw;clear nw);(try simp only [aR]);have tk1:=hT)|(clear tk1;(refine Mm.get0 rtP H rfl (.tmp 3) rfl rfl rfl ?_);(try simp only [aR]);have tk2:=hT)|(clear tk2;(go_at_call 85;refine (cv.out _).mono ?_;rintro e _ ⟨rfl,hb⟩;replace H:=hidp (H.out.call hb);clear cv;clear hb);(try simp only [aR]);have tk3:=hT)|(clear tk3;(refine Mm.ld0 En.naS H rfl (.tmp 14) 1 (.string a) rfl rfl rfl ?_);(try simp only [aR]);have tk4:=hT)|(clear tk4;(go_at_call 32;refine (ca.out _).mono ?_;rintro e _ ⟨rfl,hb⟩;replace H:=hidp (H.out.call hb);clear ca;clear hb);(try simp only [aR]);have tk5:=hT)|(clear tk5;(refine Mm.new rtHd H (some 5) rfl rfl rfl ?_;clear H;intro b5 _ H nw;clear nw);(try simp only [aR]);have tk6:=hT)|(clear tk6;(refine Mm.put0 rtHd H rfl (.tmp 5) (.tmp 17) A.row rfl rfl rfl (Hd.len HA.out) (Hd.one A) (Hd.len (rfl:zHd.p.length=32)) ?_;clear H;intro _ H st;clear st);(try simp only [aR]);have tk7:=hT)|(clear tk7;(refine Mm.ld1 En.naS H rfl (.tmp 20) 3 (.string b) rfl rfl rfl ?_);(try simp only [aR]);have tk8:=hT)|(clear tk8;(go_at_call 32;refine (cb.out _).mono ?_;rintro e _ ⟨rfl,hb⟩;replace H:=hidp (H.out.call hb);clear cb;clear hb);(try simp only [aR]);have tk9:=hT)|(clear tk9;(refine Mm.new rtHd H (some 7) rfl rfl rfl ?_;clear H;intro b7 _ H nw;clear nw);(try simp only [aR]);have tk10:=hT)|(clear tk10;(refine Mm.put0 rtHd H rfl (.tmp 7) (.tmp 23) B.row rfl rfl rfl (Hd.len HB.out) (Hd.one B) (Hd.len (rfl:zHd.p.length=32)) ?_;clear H;intro _ H st;clear st);(try simp only [aR]);have tk11:=hT)|(clear tk11;(refine Mm.ld1 naS H rfl (.tmp 31) 0 (.string A.r) rfl rfl (Hd.get0 _) ?_);(try simp only [aR]);have tk12:=hT)|(clear tk12;(refine Mm.ld0 naS H rfl (.tmp 33) 0 (.string B.r) rfl rfl (Hd.get0 _) ?_);(try simp only [aR]);have tk13:=hT)|(clear tk13;(refine Mm.ld1 naI H rfl (.tmp 37) 1 (.int .i64 A.e) rfl rfl (Hd.get1 _) ?_);(try simp only [aR]);have tk14:=hT)|(clear tk14;(refine Mm.ld0 naI H rfl (.tmp 39) 1 (.int .i64 B.e) rfl rfl (Hd.get1 _) ?_);(try simp only [aR]);have tk15:=hT)|(clear tk15;(refine Mm.ld1 naI H rfl (.tmp 44) 2 (.int .i64 A.i) rfl rfl (Hd.get2 _) ?_);(try simp only [aR]);have tk16:=hT)|(clear tk16;(refine Mm.ld0 naI H rfl (.tmp 46) 2 (.int .i64 B.i) rfl rfl (Hd.get2 _) ?_);(try simp only [aR]);have tk17:=hT)|(clear tk17;(refine wpL_mid rfl (.tmp 50) rfl b5 3 A.p rfl HA.out (hd_mid H.out.at1) ?_);(try simp only [aR]);have tk18:=hT)|(clear tk18;(refine wpL_mid rfl (.tmp 52) rfl b7 3 B.p rfl HB.out (hd_mid H.out.at0) ?_);(try simp only [aR]);have tk19:=hT)|(clear tk19;(refine wpL_eqHs rfl _ _ _ rfl A.p B.p HA.out HB.out rfl rfl ?_;rw [HEQ.out]);(try simp only [aR]);have tk20:=hT)|(clear tk20;(refine Mm.ld2 En.naI H rfl (.tmp 56) 0 (.int .i64 s) rfl rfl rfl ?_);(try simp only [aR]);have tk21:=hT)|(clear tk21;(refine Mm.ld1 naI H rfl (.tmp 58) 2 (.int .i64 A.i) rfl rfl (Hd.get2 _) ?_);(try simp only [aR]);have tk22:=hT)|(clear tk22;(refine Mm.ld2 En.naS H rfl (.tmp 60) 1 (.string a) rfl rfl rfl ?_);(try simp only [aR]);have tk23:=hT)|(clear tk23;(refine Mm.ld2 En.naS H rfl (.tmp 62) 2 (.string sa) rfl rfl rfl ?_);(try simp only [aR]);have tk24:=hT)|(clear tk24;(go_at_call 60;refine (cw.out _ (HG.out.to H.out.below)).mono ?_;rintro e _ ⟨rfl,hb⟩;replace H:=hidp (H.out.call hb);clear cw;clear hb);(try simp only [aR]);have tk25:=hT)|(clear tk25;(refine Mm.ld2 En.naI H rfl (.tmp 69) 0 (.int .i64 s) rfl rfl rfl ?_);(try simp only [aR]);have tk26:=hT)|(clear tk26;(refine Mm.ld1 naI H rfl (.tmp 71) 2 (.int .i64 A.i) rfl rfl (Hd.get2 _) ?_);(try simp only [aR]);have tk27:=hT)|(clear tk27;(refine Mm.ld2 En.naS H rfl (.tmp 73) 3 (.string b) rfl rfl rfl ?_);(try simp only [aR]);have tk28:=hT)|(clear tk28;(refine Mm.ld2 En.naS H rfl (.tmp 75) 4 (.string sb) rfl rfl rfl ?_);(try simp only [aR]);have tk29:=hT)|(clear tk29;(go_at_call 60;refine (cx.out _ (HG.out.to H.out.below)).mono ?_;rintro e _ ⟨rfl,hb⟩;replace H:=hidp (H.out.call hb);clear cx;clear hb);(try simp only [aR]);have tk30:=hT))
  try clear tk30
  go_ret
  exact ⟨by rw [HF.out];first | done | rfl,H.out.below⟩
theorem rbytes_any (w:World) (x:Pr):Calls Tryz.prog 34 #[.agg x.row.toArray] w fun e w'=>e=.returned (.tuple #[.string (pB x),.int .i64 (pE x)])∧Below w.heap.size w w':=by
 obtain ⟨s,a,sa,b,sb⟩:=x
 have H:=hidp (Mm.M.nil w)
 show Calls Tryz.prog 34 #[.agg #[.int .i64 s,.string a,.string sa,.string b,.string sb]] w _
 have cv:=hidp (show ∀ W,Calls Tryz.prog 85 #[.agg #[.int .i64 s,.string a,.string sa,.string b,.string sb]] W (fun e w'=>e=.returned (.bool (pOk ⟨s,a,sa,b,sb⟩))∧Below W.heap.size W w') from fun W=>right_any W ⟨s,a,sa,b,sb⟩)
 cases hok:pOk ⟨s,a,sa,b,sb⟩ with
 | false =>
   rw [hok] at cv
   have HF:=hidp (pB_no hok)
   have HE:=hidp (pE_no hok)
   clear hok
   go_enter Tryz.func34,Tryz.ntmps34
   have tk0:=hT
   go_wp2_with (first|(clear tk0;(refine Mm.box 65 H rfl (.tmp 0) rfl [.int .i64 s,.string a,.string sa,.string b,.string sb] rfl ?_;clear H;intro b1 _ H nw;clear nw);(try simp only [aR]);have tk1:=hT)|(clear tk1;(refine Mm.get0 rtP H rfl (.tmp 1) rfl rfl rfl ?_);(try simp only [aR]);have tk2:=hT)|(clear tk2;(go_at_call 85;refine (cv.out _).mono ?_;rintro e _ ⟨rfl,hb⟩;replace H:=hidp (H.out.call hb);clear cv;clear hb);(try simp only [aR]);have tk3:=hT))
   try clear tk3
   go_ret2
   exact ⟨by rw [HF.out,HE.out];first | done | rfl,H.out.below⟩
 | true =>
   obtain ⟨⟨y0,y0'⟩,y1,y2,y3,y4⟩:=pOk_iff.1 hok
   simp only at y0 y0' y1 y2 y3 y4
   obtain ⟨n,rfl⟩:=Int.eq_ofNat_of_zero_le y0
   have hlok:=pL_ok hok
   have HF:=hidp (show pB ⟨(n:Int),a,sa,b,sb⟩=mkS (encL [mkS (encN n),a,sa,b,sb]) from by rw [pB_yes hok];rfl)
   have HE:=hidp (pE_yes hok)
   have cn:=hidp (fun W=>refNum_any W n (by omega))
   rw [numS_yes (by omega),numE_yes (by omega)] at cn
   have w1:IntKind.u64.wrap (n:Int)=(n:Int):=by unfold IntKind.wrap;simp [IntKind.bits,IntKind.signed];omega
   have hlok':okL [mkS (encN n),a,sa,b,sb]:=hlok
   have cl:=hidp (fun W v (hat:StrsAt W v [mkS (encN n),a,sa,b,sb])=>refList_any W v [mkS (encN n),a,sa,b,sb] hat (by simp) (fun s hs=>by have:=hlok'.2 s hs;omega))
   rw [listS_yes hlok',listE_yes hlok'] at cl
   rw [hok] at cv
   clear hok y0 y0' y1 y2 y3 y4 hlok hlok'
   go_enter Tryz.func34,Tryz.ntmps34
   have tk0:=hT
   go_wp2_with (first|(clear tk0;(refine Mm.box 65 H rfl (.tmp 0) rfl [.int .i64 (n:Int),.string a,.string sa,.string b,.string sb] rfl ?_;clear H;intro b1 _ H nw;clear nw);(try simp only [aR]);have tk1:=hT)|(clear tk1;(refine Mm.get0 rtP H rfl (.tmp 1) rfl rfl rfl ?_);(try simp only [aR]);have tk2:=hT)|(clear tk2;(go_at_call 85;refine (cv.out _).mono ?_;rintro e _ ⟨rfl,hb⟩;replace H:=hidp (H.out.call hb);clear cv;clear hb);(try simp only [aR]);have tk3:=hT)|(clear tk3;(refine Mm.ld0 En.naI H rfl (.tmp 10) 0 (.int .i64 (n:Int)) rfl rfl rfl ?_);(try simp only [aR]);have tk4:=hT)|(clear tk4;(go_at_call 86;refine (cn.out _).mono ?_;rintro e _ ⟨rfl,hb⟩;replace H:=hidp (H.out.call hb);clear cn;clear hb);(try simp only [aR]);have tk5:=hT)|(clear tk5;(refine Mm.ld0 En.naS H rfl (.tmp 17) 1 (.string a) rfl rfl rfl ?_);(try simp only [aR]);have tk6:=hT)|(clear tk6;(refine Mm.ld0 En.naS H rfl (.tmp 19) 2 (.string sa) rfl rfl rfl ?_);(try simp only [aR]);have tk7:=hT)|(clear tk7;(refine Mm.ld0 En.naS H rfl (.tmp 21) 3 (.string b) rfl rfl rfl ?_);(try simp only [aR]);have tk8:=hT)|(clear tk8;(refine Mm.ld0 En.naS H rfl (.tmp 23) 4 (.string sb) rfl rfl rfl ?_);(try simp only [aR]);have tk9:=hT)|(clear tk9;(refine Hd.wpL_bsS5 H rfl _ _ _ _ _ (mkS (encN n)) a sa b sb rfl rfl rfl rfl rfl rfl ?_;clear H;intro b6 _ H nw;clear nw);(try simp only [aR]);have tk10:=hT)|(clear tk10;(go_at_call 87;refine (cl.out _ _ (Sl.own_arr (B:=0) (row:=strV [mkS (encN n),a,sa,b,sb]) H.out.at0 (Nat.zero_le _) (by simp [strV])).strs).mono ?_;rintro e _ ⟨rfl,hb⟩;replace H:=hidp (H.out.call hb);clear cl;clear hb);(try simp only [aR]);have tk11:=hT))
   try clear tk11
   go_ret2
   exact ⟨by rw [HF.out,HE.out];first | done | rfl,H.out.below⟩
theorem rparse_any (w:World) (t:ByteArray) (ht:t.size≤281474976710656):Calls Tryz.prog 36 #[.string t] w fun e w'=>e=.returned (.tuple #[.agg (ppV t).row.toArray,.int .i64 (ppE t)])∧Below w.heap.size w w':=by
 have ca:=hidp (fun W=>refAll_any W t ht)
 have H:=hidp (Mm.M.nil w)
 by_cases h0:(al t).2=0
 · by_cases h6:(al t).1.length=5
   · obtain ⟨a,b,c,d,e5,hL⟩:∃ a b c d e,(al t).1=[a,b,c,d,e]:=by
      match hL:(al t).1,h6 with
      | [a,b,c,d,e],_=>exact ⟨a,b,c,d,e,rfl⟩
     have hss:=al_sz t ht
     rw [hL] at hss
     have hP:=pP_five h0 hL
     rw [h0,hL] at ca
     clear hL h6 h0
     have en:(((5:Nat):Int) != 5)=false:=rfl
     have c1:=hidp (fun W=>refGetNum_any W a (by have:=hss a (by simp);omega))
     clear hss
     obtain ⟨q,hq⟩:∃ q,gn a.data.toList=q:=⟨_,rfl⟩
     obtain ⟨n,u,er⟩:=q
     have hI:=y63 hq
     rw [hq] at c1
     unfold tup3 at c1
     simp only at c1
     by_cases he:er=0
     case' neg =>
      rw [if_neg (fun g=>he (hI.1.1 g).1)] at hP
      have q1:((er:Int) != 0)=true:=by simp;omega
      have q4:¬ (er:Int)=0:=by omega
      have HV:=hidp (show ppV t=zP from by unfold ppV;rw [hP];rfl)
      have HE:=hidp (show ppE t=6 from by unfold ppE;rw [hP];rfl)
      clear hP hq hI he
     case' pos =>
      subst he
      by_cases hu:u=a.size
      case' neg =>
       rw [if_neg (fun g=>hu (hI.1.1 g).2.1)] at hP
       have q2:((u:Int) != (a.size:Int))=true:=by simp;omega
       have q4:¬ (u:Int)=(a.size:Int):=by omega
       have HV:=hidp (show ppV t=zP from by unfold ppV;rw [hP];rfl)
       have HE:=hidp (show ppE t=6 from by unfold ppE;rw [hP];rfl)
       clear hP hq hI hu
      case' pos =>
       subst hu
       by_cases hn:n≤63
       case' neg =>
        rw [if_neg (fun g=>hn (hI.1.1 g).2.2)] at hP
        have q3:decide ((n:Int) > 63)=true:=by simp;omega
        have q4:(63:Int)<(n:Int):=by omega
        have HV:=hidp (show ppV t=zP from by unfold ppV;rw [hP];rfl)
        have HE:=hidp (show ppE t=6 from by unfold ppE;rw [hP];rfl)
        clear hP hq hI hn
       case pos =>
        have hz:inE a 63=0∧inV a 63=n:=(fun g=>⟨g,hI.2 g⟩) (hI.1.2 ⟨rfl,rfl,hn⟩)
        rw [if_pos hz.1,hz.2] at hP
        have HV:=hidp (show ppV t=⟨(n:Int),b,c,d,e5⟩ from by unfold ppV;rw [hP];rfl)
        have HE:=hidp (show ppE t=0 from by unfold ppE;rw [hP];rfl)
        have HVV:=hidp (show IntKind.i64.wrap (n:Int)=(n:Int) from by unfold IntKind.wrap;simp [IntKind.bits,IntKind.signed];omega)
        have q3:decide ((n:Int) > 63)=false:=by simp;omega
        have q4:¬ (63:Int)<(n:Int):=by omega
        clear hP hq hI hz hn
        go_enter Tryz.func36,Tryz.ntmps36
        have tk0:=hT
        go_wp2_with (first|(clear tk0;(refine Mm.new rtP H (some 2) rfl rfl rfl ?_;clear H;intro b2 _ H nw;clear nw);(try simp only [aR]);have tk1:=hT)|(clear tk1;(go_at_call 89;refine (ca.out _).mono ?_;rintro e w1 ⟨v,rfl,hst,hb⟩;have H0:=hidp (H.out.call hb);obtain ⟨g,off,cv,rfl,hg,hcs⟩:=Sl.strs_pos hst (by simp);have hne:=five_ne H0.out.at0 (fun i hi=>⟨_,hcs i hi⟩);clear H hst hb ca;have HC:=hidp (show ∀ W,Below w1.heap.size w1 W→W.cell? ⟨g,off,none⟩=some (.string a)∧W.cell? ⟨g,off + 1,none⟩=some (.string b)∧W.cell? ⟨g,off + 2,none⟩=some (.string c)∧W.cell? ⟨g,off + 3,none⟩=some (.string d)∧W.cell? ⟨g,off + 4,none⟩=some (.string e5) from fun W hW=>⟨(hW.cell (p:=⟨g,off,none⟩) hg).trans (hcs 0 (by simp)),(hW.cell (p:=⟨g,off + 1,none⟩) hg).trans (hcs 1 (by simp)),(hW.cell (p:=⟨g,off + 2,none⟩) hg).trans (hcs 2 (by simp)),(hW.cell (p:=⟨g,off + 3,none⟩) hg).trans (hcs 3 (by simp)),(hW.cell (p:=⟨g,off + 4,none⟩) hg).trans (hcs 4 (by simp))⟩);clear hcs;have H:=hidp (Mm.M.nil w1);obtain ⟨m0,m1,m2,m3,m4⟩:=HC.out _ H.out.below);(try simp only [aR]);have tk2:=hT)|(clear tk2;(go_at_call 90;refine (c1.out _).mono ?_;rintro e _ ⟨rfl,hb⟩;clear m0 m1 m2 m3 m4;replace H:=hidp (H.out.call hb);obtain ⟨m0,m1,m2,m3,m4⟩:=HC.out _ H.out.below;clear hb);(try simp only [aR]);have tk3:=hT))
        try clear tk3
        replace H:=hidp (Sl.join H0.out H.out)
        have HS:=hidp (Four.mk (g:=g) (off:=off) m1 m2 m3 m4)
        clear m0 m1 m2 m3 m4
        refine regionF H HS (.take 0 (.take 1 (.take 2 (.take 3 (.take 4 (.take 5 (.take 6 (.take 7 (.take 8 (.take 9 (.take 10 (.take 11 (.take 12 (.take 13 (.take 14 (.one 15 (.take 16 .done))))))))))))))))) (by kernel_rfl) (by kernel_rfl) (by simp [Scr.depth]) (by kernel_rfl) ?_
        clear H HS
        intro _ H HS
        apply s_val
        case ho | hw=>rfl
        case hv=>intro w hw;go_simp;first | done | rfl
        simp only [aS]
        apply s_val
        case ho | hw=>rfl
        case hv=>intro w hw;have e0:=HVV.out;go_simp;first | done | rfl
        iterate 2
         simp only [aS]
         apply s_val
         case ho | hw=>rfl
         case hv=>intro w hw;go_simp;first | done | rfl
        simp only [aS]
        refine Mm.s_ldc En.naS rfl rfl _ ⟨g,off + 1,none⟩ (.string b) rfl rfl (fun w h=>h.c1) ?_
        iterate 2
         simp only [aS]
         apply s_val
         case ho | hw=>rfl
         case hv=>intro w hw;go_simp;first | done | rfl
        simp only [aS]
        refine Mm.s_ldc En.naS rfl rfl _ ⟨g,off + 2,none⟩ (.string c) rfl rfl (fun w h=>h.c2) ?_
        iterate 2
         simp only [aS]
         apply s_val
         case ho | hw=>rfl
         case hv=>intro w hw;go_simp;first | done | rfl
        simp only [aS]
        refine Mm.s_ldc En.naS rfl rfl _ ⟨g,off + 3,none⟩ (.string d) rfl rfl (fun w h=>h.c3) ?_
        iterate 2
         simp only [aS]
         apply s_val
         case ho | hw=>rfl
         case hv=>intro w hw;go_simp;first | done | rfl
        simp only [aS]
        refine Mm.s_ldc En.naS rfl rfl _ ⟨g,off + 4,none⟩ (.string e5) rfl rfl (fun w h=>h.c4) ?_
        simp only [aS]
        refine En.s_bld rfl rfl 65 _ rfl [.int .i64 (n:Int),.string b,.string c,.string d,.string e5] (by kernel_rfl) ?_
        simp only [aS]
        refine Rt.o_put rtP rfl rfl (.tmp 2) (.tmp 59) rfl b2 [.int .i64 (n:Int),.string b,.string c,.string d,.string e5] rfl rfl rfl (by simp [Value.oneCell']) [.int .i64 0,.string ⟨#[]⟩,.string ⟨#[]⟩,.string ⟨#[]⟩,.string ⟨#[]⟩] rfl H.out.at0 ?_
        intro W ha st
        refine ⟨HS.out.stp hne st,?_⟩
        replace H:=hidp (H.out.put0 ha st)
        clear ha st
        simp only [aS]
        apply s_val
        case ho | hw=>rfl
        case hv=>intro w hw;go_simp;first | done | rfl
        simp only [aS]
        refine NoPanic.normal ?_
        go_wp2
        refine bodyPost_ret (Mm.ret_rowv rtP Tryz.results36 _ b2 _ _ rfl rfl H.out.at0 rfl) rfl ⟨by rw [HV.out,HE.out];first | done | rfl,H.out.below⟩
     all_goals
      go_enter Tryz.func36,Tryz.ntmps36
      have tk0:=hT
      go_wp2_with (first|(clear tk0;(refine Mm.new rtP H (some 2) rfl rfl rfl ?_;clear H;intro b2 _ H nw;clear nw);(try simp only [aR]);have tk1:=hT)|(clear tk1;(go_at_call 89;refine (ca.out _).mono ?_;rintro e w1 ⟨v,rfl,hst,hb⟩;have H0:=hidp (H.out.call hb);obtain ⟨g,off,cv,rfl,hg,hcs⟩:=Sl.strs_pos hst (by simp);have hne:=five_ne H0.out.at0 (fun i hi=>⟨_,hcs i hi⟩);clear H hst hb ca;have HC:=hidp (show ∀ W,Below w1.heap.size w1 W→W.cell? ⟨g,off,none⟩=some (.string a)∧W.cell? ⟨g,off + 1,none⟩=some (.string b)∧W.cell? ⟨g,off + 2,none⟩=some (.string c)∧W.cell? ⟨g,off + 3,none⟩=some (.string d)∧W.cell? ⟨g,off + 4,none⟩=some (.string e5) from fun W hW=>⟨(hW.cell (p:=⟨g,off,none⟩) hg).trans (hcs 0 (by simp)),(hW.cell (p:=⟨g,off + 1,none⟩) hg).trans (hcs 1 (by simp)),(hW.cell (p:=⟨g,off + 2,none⟩) hg).trans (hcs 2 (by simp)),(hW.cell (p:=⟨g,off + 3,none⟩) hg).trans (hcs 3 (by simp)),(hW.cell (p:=⟨g,off + 4,none⟩) hg).trans (hcs 4 (by simp))⟩);clear hcs;have H:=hidp (Mm.M.nil w1);obtain ⟨m0,m1,m2,m3,m4⟩:=HC.out _ H.out.below);(try simp only [aR]);have tk2:=hT)|(clear tk2;(go_at_call 90;refine (c1.out _).mono ?_;rintro e _ ⟨rfl,hb⟩;clear m0 m1 m2 m3 m4;replace H:=hidp (H.out.call hb);obtain ⟨m0,m1,m2,m3,m4⟩:=HC.out _ H.out.below;clear hb);(try simp only [aR]);have tk3:=hT)|(clear tk3;(refine Rt.wpL_build rfl 65 _ rfl [.int .i64 0,.string ⟨#[]⟩,.string ⟨#[]⟩,.string ⟨#[]⟩,.string ⟨#[]⟩] (by kernel_rfl) ?_;clear m0 m1 m2 m3 m4;replace H:=hidp (Sl.join H0.out H.out));(try simp only [aR]);have tk4:=hT)|(clear tk4;(refine Mm.put0 rtP H rfl (.tmp 2) (.tmp 44) [.int .i64 0,.string ⟨#[]⟩,.string ⟨#[]⟩,.string ⟨#[]⟩,.string ⟨#[]⟩] rfl rfl rfl rfl (by simp [Value.oneCell']) rfl ?_;clear H;intro _ H st;clear st);(try simp only [aR]);have tk5:=hT))
      try clear tk5
      refine bodyPost_ret (Mm.ret_rowv rtP Tryz.results36 _ b2 _ _ rfl rfl H.out.at0 rfl) rfl ⟨by rw [HV.out,HE.out];first | done | rfl,H.out.below⟩
   · rw [h0] at ca
     have HV:=hidp (show ppV t=zP from by unfold ppV;rw [pP_len h6];rfl)
     have HE:=hidp (show ppE t=6 from by unfold ppE;rw [pP_len h6];rfl)
     obtain ⟨ss,hss⟩:∃ ss,(al t).1=ss:=⟨_,rfl⟩
     rw [hss] at ca h6
     obtain ⟨n,hn⟩:∃ n,ss.length=n:=⟨_,rfl⟩
     have e1:((n:Int) != 5)=true:=by simp;omega
     have g1:¬ n=5:=by omega
     have g2:(n != 5)=true:=by simpa using g1
     clear hss h0
     have cb:=hidp (fun W=>(ca.out W).mono fun e w' ⟨v,h1,h2,h3⟩=>(⟨v,h1,⟨Sl.strs_form h2,h3⟩⟩:∃ v,e=Ending.returned (.tuple #[v,.int .i64 ((0:Nat):Int)])∧(∃ a c,v=Value.slice a ss.length c)∧Below W.heap.size W w'))
     rw [hn] at cb
     clear ca hn h6
     go_enter Tryz.func36,Tryz.ntmps36
     have tk0:=hT
     go_wp2_with (first|(clear tk0;(refine Mm.new rtP H (some 2) rfl rfl rfl ?_;clear H;intro b2 _ H nw;clear nw);(try simp only [aR]);have tk1:=hT)|(clear tk1;(go_at_call 89;refine (cb.out _).mono ?_;rintro e _ ⟨v,rfl,⟨av,cv,rfl⟩,hb⟩;replace H:=hidp (H.out.call hb);clear hb cb);(try simp only [aR]);have tk2:=hT)|(clear tk2;(refine Rt.wpL_build rfl 65 _ rfl [.int .i64 0,.string ⟨#[]⟩,.string ⟨#[]⟩,.string ⟨#[]⟩,.string ⟨#[]⟩] (by kernel_rfl) ?_);(try simp only [aR]);have tk3:=hT)|(clear tk3;(refine Mm.put0 rtP H rfl (.tmp 2) (.tmp 21) [.int .i64 0,.string ⟨#[]⟩,.string ⟨#[]⟩,.string ⟨#[]⟩,.string ⟨#[]⟩] rfl rfl rfl rfl (by simp [Value.oneCell']) rfl ?_;clear H;intro _ H st;clear st);(try simp only [aR]);have tk4:=hT))
     try clear tk4
     refine bodyPost_ret (Mm.ret_rowv rtP Tryz.results36 _ b2 _ _ rfl rfl H.out.at0 rfl) rfl ⟨by rw [HV.out,HE.out];first | done | rfl,H.out.below⟩
 ·
  have HV:=hidp (show ppV t=zP from by unfold ppV;rw [pP_bad h0];rfl)
  have HE:=hidp (show ppE t=6 from by unfold ppE;rw [pP_bad h0];rfl)
  obtain ⟨E,hE⟩:∃ E,(al t).2=E:=⟨_,rfl⟩
  rw [hE] at ca h0
  have e1:((E:Int) != 0)=true:=by simp;omega
  have g1:¬ (E:Int)=0:=by omega
  have g2:¬ E=0:=h0
  clear hE h0
  go_enter Tryz.func36,Tryz.ntmps36
  have tk0:=hT
  go_wp2_with (first|(clear tk0;(refine Mm.new rtP H (some 2) rfl rfl rfl ?_;clear H;intro b2 _ H nw;clear nw);(try simp only [aR]);have tk1:=hT)|(clear tk1;(go_at_call 89;refine (ca.out _).mono ?_;rintro e _ ⟨v,rfl,hst,hb⟩;replace H:=hidp (H.out.call hb);obtain ⟨av,cv,rfl⟩:=Sl.strs_form hst;clear hst hb ca);(try simp only [aR]);have tk2:=hT)|(clear tk2;(refine Rt.wpL_build rfl 65 _ rfl [.int .i64 0,.string ⟨#[]⟩,.string ⟨#[]⟩,.string ⟨#[]⟩,.string ⟨#[]⟩] (by kernel_rfl) ?_);(try simp only [aR]);have tk3:=hT)|(clear tk3;(refine Mm.put0 rtP H rfl (.tmp 2) (.tmp 21) [.int .i64 0,.string ⟨#[]⟩,.string ⟨#[]⟩,.string ⟨#[]⟩,.string ⟨#[]⟩] rfl rfl rfl rfl (by simp [Value.oneCell']) rfl ?_;clear H;intro _ H st;clear st);(try simp only [aR]);have tk4:=hT))
  try clear tk4
  refine bodyPost_ret (Mm.ret_rowv rtP Tryz.results36 _ b2 _ _ rfl rfl H.out.at0 rfl) rfl ⟨by rw [HV.out,HE.out];first | done | rfl,H.out.below⟩
end Go.Proofs.YtokakgjcegmabaaGreatDoor.Pf
