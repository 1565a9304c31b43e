import Derived.Test.YtokakgjcegmabaaGreatDoorWPR
import Derived.Test.YtokakgjcegmabaaGreatDoorWPL
set_option linter.unusedVariables false
set_option linter.unusedSimpArgs false
set_option maxHeartbeats 64000000
set_option maxRecDepth 100000
namespace Go.Proofs.YtokakgjcegmabaaGreatDoor.Pf
open Go.RowKit
open List (getElem_toArray getElem_cons_zero getElem_cons_succ setIfInBounds_toArray set_cons_zero set_cons_succ)
open Hd
open Ho (inE inV in_zero in_not al_sz allInt_any)
open En (eOk eE eT eE_yes eE_no esmV er er_some erV erE eread_any rread_any En naI naS)
section
variable {ops:Array Oper} {rest:List Oper} {o:Oper} {a:Act} {w:World} {Q:Exit→Act→World→Prop} {S:World→Prop} {k:Nat} {s:Scr}
theorem s_eqHd (ho:ops[k]?=some o) (hw:Region.wanted o (yielded ops a.tmps)=true) (x y:Operand) (u:TypeId) (hop:o.op=.binOp .eql 67 x y u)
 (e:Hd) (he:e.p.length=32) (hx:a.eval x=.agg e.row.toArray) (hy:a.eval y=.agg e.row.toArray) (h:wpScr Tryz.prog ops Q s S (a.put o.dst (.bool true)) w):wpScr Tryz.prog ops Q (.take k s) S a w :=
 s_val ho hw (fun w _=>by
  have hq:=eqin_two w e e he he
  rw [show eqJ e e=true from by unfold eqJ;simp] at hq
  unfold execOp
  simp only [hop,hx,hy,Sem.run_bind,run_eqGuard_agg (P:=Tryz.prog) _ _ _ _ _ _ _ guard_hd,run_eql_struct,hq,Result.andThen_ok,Sem.run_pure]) h
theorem s_eqPr (ho:ops[k]?=some o) (hw:Region.wanted o (yielded ops a.tmps)=true) (x y:Operand) (u:TypeId) (hop:o.op=.binOp .eql 65 x y u)
 (e:Pr) (hx:a.eval x=.agg e.row.toArray) (hy:a.eval y=.agg e.row.toArray) (h:wpScr Tryz.prog ops Q s S (a.put o.dst (.bool true)) w):wpScr Tryz.prog ops Q (.take k s) S a w :=
 s_val ho hw (fun w _=>by
  have hq:=eqin_pr w e.s e.a e.sa e.b e.sb
  unfold execOp
  simp only [hop,hx,hy,Sem.run_bind,run_eqGuard_agg (P:=Tryz.prog) _ _ _ _ _ _ _ guard_pr,run_eql_struct]
  unfold Pr.row
  simp only [hq,Result.andThen_ok,Sem.run_pure,Sem.run_bind]) h
end
theorem walk_proofTells (w:World) (v:Value) (gs:List Gr) (hg:GsAt w v gs) (hn:gs.length≤4611686018427387904) (x:Pr) (hx:x.ok) (s:ByteArray) (hs:s.size≤140737488351232) (hL:IT w∧KT w) :
 Calls Tryz.prog 5 #[v,.agg x.row.toArray,.string s] w fun e w'=>e=.returned (.bool true)∧Below w.heap.size w w':=by
 obtain ⟨hI,hK⟩:=hL
 have hkp:=hK.pos
 have HI:=hidp hI;have HK:=hidp hK;have HG:=hidp hg;clear hI hK hg hn
 have H:=hidp (Mm.M.nil w)
 have cl:=hidp (fun W h k=>lives22_any W h k)
 by_cases hbig:s.size > 65536
 · have e1:decide ((s.size:Int) > 65536)=true:=by simp;omega
   have n1:(65536:Int)<(s.size:Int):=by omega
   obtain ⟨s0,a,sa,b,sb⟩:=x
   clear hx
   show Calls Tryz.prog 5 #[v,.agg #[.int .i64 s0,.string a,.string sa,.string b,.string sb],.string s] w _
   go_enter Tryz.func5,Tryz.ntmps5
   have tk0:=hT
   go_wp2_with (first|(clear tk0;(refine Mm.box 65 H rfl (.tmp 1) rfl [.int .i64 s0,.string a,.string sa,.string b,.string sb] rfl ?_;clear H;intro b4 _ H nw;clear nw);(try simp only [aR]);have tk1:=hT)|(clear tk1;(go_at_call 30;refine (cl.out _ (HI.out.below H.out.below (Nat.le_refl _)) (HK.out.below H.out.below hkp)).mono ?_;rintro e _ ⟨rfl,hb⟩;replace H:=hidp (H.out.call hb);clear cl;clear hb);(try simp only [aR]);have tk2:=hT))
   try clear tk2
   go_ret
   exact ⟨rfl,H.out.below⟩
 have e1:decide ((s.size:Int) > 65536)=false:=by simp;omega
 have n1:¬ (65536:Int)<(s.size:Int):=by omega
 have c1:=hidp (fun W h k=>says_any W s (by omega) h k)
 have d1:=hidp (fun W=>rsays_any W s (by omega))
 have c2:=hidp (fun W=>bytes_any W x)
 have d2:=hidp (fun W=>rbytes_any W x)
 have c3:=hidp (fun W=>parse_any W s (by omega))
 have d3:=hidp (fun W=>rparse_any W s (by omega))
 have c4:=hidp (fun W (hg:GsAt W v gs) h k=>check_any W v gs hg x hx h k)
 have d4:=hidp (fun W (hg:GsAt W v gs)=>rcheck_any W v gs hg x hx)
 have hyl:=syV_len s
 obtain ⟨Y,hY⟩:∃ Y,syV s=Y:=⟨_,rfl⟩
 obtain ⟨EY,hEY⟩:∃ Y,syE s=Y:=⟨_,rfl⟩
 obtain ⟨q,hq⟩:∃ Y,ppV s=Y:=⟨_,rfl⟩
 obtain ⟨EQ,hEQ⟩:∃ Y,ppE s=Y:=⟨_,rfl⟩
 obtain ⟨X,hX⟩:∃ Y,pB x=Y:=⟨_,rfl⟩
 obtain ⟨EX,hEX⟩:∃ Y,pE x=Y:=⟨_,rfl⟩
 obtain ⟨K,hK⟩:∃ Y,ckE gs x=Y:=⟨_,rfl⟩
 rw [hY] at hyl
 rw [hY,hEY] at c1 d1
 rw [hX,hEX] at c2 d2
 rw [hq,hEQ] at c3 d3
 rw [hK] at c4 d4
 have HY:=hidp hyl
 clear hyl hY hEY hq hEQ hX hEX hK hx hbig hs
 obtain ⟨s0,a,sa,b,sb⟩:=x
 show Calls Tryz.prog 5 #[v,.agg #[.int .i64 s0,.string a,.string sa,.string b,.string sb],.string s] w _
 have c2:=hidp (show ∀ W,Calls Tryz.prog 33 #[.agg #[.int .i64 s0,.string a,.string sa,.string b,.string sb]] W _ from c2.out)
 have d2:=hidp (show ∀ W,Calls Tryz.prog 34 #[.agg #[.int .i64 s0,.string a,.string sa,.string b,.string sb]] W _ from d2.out)
 have c4:=hidp (show ∀ W,GsAt W v gs→IT W→KT W→Calls Tryz.prog 37 #[v,.agg #[.int .i64 s0,.string a,.string sa,.string b,.string sb]] W _ from c4.out)
 have d4:=hidp (show ∀ W,GsAt W v gs→Calls Tryz.prog 38 #[v,.agg #[.int .i64 s0,.string a,.string sa,.string b,.string sb]] W _ from d4.out)
 go_enter Tryz.func5,Tryz.ntmps5
 have tk0:=hT
 go_wp2_with (first|(clear tk0;(refine Mm.box 65 H rfl (.tmp 1) rfl [.int .i64 s0,.string a,.string sa,.string b,.string sb] rfl ?_;clear H;intro b4 _ H nw;clear nw);(try simp only [aR]);have tk1:=hT)|(clear tk1;(go_at_call 31;refine (c1.out _ (HI.out.below H.out.below (Nat.le_refl _)) (HK.out.below H.out.below hkp)).mono ?_;rintro e _ ⟨rfl,hb⟩;replace H:=hidp (H.out.call hb);clear c1;clear hb);(try simp only [aR]);have tk2:=hT)|(clear tk2;(refine Mm.new rtHd H (some 7) rfl rfl rfl ?_;clear H;intro b7 _ H nw;clear nw);(try simp only [aR]);have tk3:=hT)|(clear tk3;(refine Mm.put0 rtHd H rfl (.tmp 7) (.tmp 26) Y.row rfl rfl rfl (Hd.len HY.out) (Hd.one Y) (Hd.len (rfl:zHd.p.length=32)) ?_;clear H;intro _ H st;clear st);(try simp only [aR]);have tk4:=hT)|(clear tk4;(go_at_call 32;refine (d1.out _).mono ?_;rintro e _ ⟨rfl,hb⟩;replace H:=hidp (H.out.call hb);clear d1;clear hb);(try simp only [aR]);have tk5:=hT)|(clear tk5;(refine Mm.new rtHd H (some 9) rfl rfl rfl ?_;clear H;intro b9 _ H nw;clear nw);(try simp only [aR]);have tk6:=hT)|(clear tk6;(refine Mm.put0 rtHd H rfl (.tmp 9) (.tmp 31) Y.row rfl rfl rfl (Hd.len HY.out) (Hd.one Y) (Hd.len (rfl:zHd.p.length=32)) ?_;clear H;intro _ H st;clear st);(try simp only [aR]);have tk7:=hT)|(clear tk7;(refine Mm.get2 rtP H rfl (.tmp 4) rfl rfl rfl ?_);(try simp only [aR]);have tk8:=hT)|(clear tk8;(go_at_call 33;refine (c2.out _).mono ?_;rintro e _ ⟨rfl,hb⟩;replace H:=hidp (H.out.call hb);clear c2;clear hb);(try simp only [aR]);have tk9:=hT)|(clear tk9;(refine Mm.get2 rtP H rfl (.tmp 4) rfl rfl rfl ?_);(try simp only [aR]);have tk10:=hT)|(clear tk10;(go_at_call 34;refine (d2.out _).mono ?_;rintro e _ ⟨rfl,hb⟩;replace H:=hidp (H.out.call hb);clear d2;clear hb);(try simp only [aR]);have tk11:=hT)|(clear tk11;(go_at_call 35;refine (c3.out _).mono ?_;rintro e _ ⟨rfl,hb⟩;replace H:=hidp (H.out.call hb);clear c3;clear hb);(try simp only [aR]);have tk12:=hT)|(clear tk12;(refine Mm.new rtP H (some 15) rfl rfl rfl ?_;clear H;intro b15 _ H nw;clear nw);(try simp only [aR]);have tk13:=hT)|(clear tk13;(refine Mm.put0 rtP H rfl (.tmp 15) (.tmp 46) q.row rfl rfl rfl rfl (Pr.one q) rfl ?_;clear H;intro _ H st;clear st);(try simp only [aR]);have tk14:=hT)|(clear tk14;(go_at_call 36;refine (d3.out _).mono ?_;rintro e _ ⟨rfl,hb⟩;replace H:=hidp (H.out.call hb);clear d3;clear hb);(try simp only [aR]);have tk15:=hT)|(clear tk15;(refine Mm.new rtP H (some 17) rfl rfl rfl ?_;clear H;intro b17 _ H nw;clear nw);(try simp only [aR]);have tk16:=hT)|(clear tk16;(refine Mm.put0 rtP H rfl (.tmp 17) (.tmp 51) q.row rfl rfl rfl rfl (Pr.one q) rfl ?_;clear H;intro _ H st;clear st);(try simp only [aR]);have tk17:=hT))
 try clear tk17
 refine Mm.region H (.one 0 (.take 1 (.take 2 (.take 3 (.take 4 (.take 5 (.take 6 (.take 7 (.take 8 (.take 9 (.take 10 (.take 11 (.take 12 (.take 13 (.take 15 (.take 16 (.one 14 (.one 17 (.take 18 (.take 19 (.take 20 (.take 21 (.take 22 (.take 23 (.take 24 (.take 25 (.take 26 (.take 27 (.take 28 (.take 29 (.take 30 (.take 31 (.take 32 (.take 33 (.take 34 (.take 35 (.take 36 (.take 37 (.take 38 (.take 39 (.take 40 .done))))))))))))))))))))))))))))))))))))))))) (by kernel_rfl) (by kernel_rfl) (by simp [Scr.depth]) (by kernel_rfl) ?_
 clear H
 intro _ H hb
 clear hb
 refine Mm.o_callH (v:=.bool true) H (fun W h=>h) rfl rfl 30 (#[]) (by go_simp;first | done | rfl) (cl.out _ (HI.out.below H.out.below (Nat.le_refl _)) (HK.out.below H.out.below hkp)) ?_
 clear H
 intro _ H hb
 clear hb
 simp only [aS]
 apply s_val
 case ho | hw=>rfl
 case hv=>intro w hw;go_simp;first | done | rfl
 simp only [aS]
 refine Mm.sget3 rtHd (fun w h=>h) rfl rfl (.tmp 7) rfl rfl (Hd.len HY.out) ?_
 simp only [aS]
 refine Mm.sget2 rtHd (fun w h=>h) rfl rfl (.tmp 9) rfl rfl (Hd.len HY.out) ?_
 simp only [aS]
 refine s_eqHd rfl rfl _ _ _ rfl Y HY.out rfl rfl ?_
 iterate 8
  simp only [aS]
  apply s_val
  case ho | hw=>rfl
  case hv=>intro w hw;go_simp;first | done | rfl
 simp only [aS]
 refine Mm.sget4 rtP (fun w h=>h) rfl rfl (.tmp 4) rfl rfl rfl ?_
 simp only [aS]
 apply s_val
 case ho | hw=>rfl
 case hv=>intro w hw;go_simp;first | done | rfl
 simp only [aS]
 refine Mm.sget4 rtP (fun w h=>h) rfl rfl (.tmp 4) rfl rfl rfl ?_
 simp only [aS]
 refine Mm.o_callH (v:=.int .i64 K) H (fun W h=>h) rfl rfl 37 (#[v,.agg #[.int .i64 s0,.string a,.string sa,.string b,.string sb]]) (by go_simp;first | done | rfl) (c4.out _ (HG.out.to H.out.below) (HI.out.below H.out.below (Nat.le_refl _)) (HK.out.below H.out.below hkp)) ?_
 clear H
 intro _ H hb
 clear hb
 simp only [aS]
 refine Mm.o_callH (v:=.int .i64 K) H (fun W h=>h) rfl rfl 38 (#[v,.agg #[.int .i64 s0,.string a,.string sa,.string b,.string sb]]) (by go_simp;first | done | rfl) (d4.out _ (HG.out.to H.out.below)) ?_
 clear H
 intro _ H hb
 clear hb
 iterate 13
  simp only [aS]
  apply s_val
  case ho | hw=>rfl
  case hv=>intro w hw;go_simp;first | done | rfl
 simp only [aS]
 refine Mm.sget1 rtP (fun w h=>h) rfl rfl (.tmp 15) rfl rfl rfl ?_
 simp only [aS]
 refine Mm.sget0 rtP (fun w h=>h) rfl rfl (.tmp 17) rfl rfl rfl ?_
 simp only [aS]
 refine s_eqPr rfl rfl _ _ _ rfl q rfl rfl ?_
 iterate 7
  simp only [aS]
  apply s_val
  case ho | hw=>rfl
  case hv=>intro w hw;go_simp;first | done | rfl
 simp only [aS]
 refine NoPanic.normal ?_
 go_wp2
 go_ret
 exact ⟨rfl,H.out.below⟩
end Go.Proofs.YtokakgjcegmabaaGreatDoor.Pf
