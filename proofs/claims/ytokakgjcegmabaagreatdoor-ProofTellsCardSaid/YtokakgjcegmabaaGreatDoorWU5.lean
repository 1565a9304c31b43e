import Derived.Test.YtokakgjcegmabaaGreatDoorWU1
import Derived.Test.YtokakgjcegmabaaGreatDoorWR2
set_option linter.unusedVariables false
set_option linter.unusedSimpArgs false
set_option maxHeartbeats 64000000
set_option maxRecDepth 100000
namespace Go.Proofs.YtokakgjcegmabaaGreatDoor.Hd
open Go.RowKit
open List (getElem_toArray getElem_cons_zero getElem_cons_succ setIfInBounds_toArray set_cons_zero set_cons_succ)
open En (cnt num4 num4_in z32e naS naI rtH u8_one hsV hsE hsV_len ohash_any s_cnv wpL_slc or4 or4_zero or4_any four s_bld wpL_bsE4)
open En (smN smB smN_in y_gn o_cpE)
open Ho (inE inV in_zero in_not al_sz)
theorem rjcheck_any (w:World) (x:Hd) (hx:x.ok):Calls Tryz.prog 136 #[.agg x.row.toArray] w fun e w'=>e=.returned (.int .i64 (jE x))∧Below w.heap.size w w':=by
 have H:=hidp (Mm.M.nil w)
 have HP:=hidp hx.p
 have cr:=hidp (fun W=>rroom_any W x.r (by have:=hx.r;omega))
 clear hx
 have HOK:=hidp (show jOk x=((who 2 x.r).isSome && cnt x.e && cnt x.i && decide (x.g.size≤8192)) from rfl)
 cases hw:who 2 x.r with
 | none =>
   have HF:=hidp (show jE x=2 from jE_of (by rw [HOK.out,hw];simp))
   rw [hw] at cr;unfold whoV at cr
   clear hw
   go_enter Tryz.func136,Tryz.ntmps136
   have tk0:=hT
   go_wp2_with (first|(clear tk0;(refine Mm.box 67 H rfl (.tmp 0) rfl x.row rfl ?_;clear H;intro b1 _ H nw;clear nw);(try simp only [aR]);have tk1:=hT)|(clear tk1;(refine Mm.ld0 naS H rfl (.tmp 6) 0 (.string x.r) rfl rfl (Hd.get0 _) ?_);(try simp only [aR]);have tk2:=hT)|(clear tk2;(go_at_call 155;refine (cr.out _).mono ?_;rintro e _ ⟨rfl,hb⟩;replace H:=hidp (H.out.call hb);clear hb);(try simp only [aR]);have tk3:=hT))
   try clear tk3
   go_ret
   exact ⟨by rw [HF.out];first | done | rfl,H.out.below⟩
 | some nn =>
   rw [hw] at cr;unfold whoV at cr
   by_cases a1:x.e<0
   · have HF:=hidp (show jE x=2 from jE_of (by rw [HOK.out,show cnt x.e=false from decide_eq_false (by omega)];simp))
     have e1:decide (x.e<0)=true:=by simpa using a1
     clear hw
     go_enter Tryz.func136,Tryz.ntmps136
     have tk0:=hT
     go_wp2_with (first|(clear tk0;(refine Mm.box 67 H rfl (.tmp 0) rfl x.row rfl ?_;clear H;intro b1 _ H nw;clear nw);(try simp only [aR]);have tk1:=hT)|(clear tk1;(refine Mm.ld0 naS H rfl (.tmp 6) 0 (.string x.r) rfl rfl (Hd.get0 _) ?_);(try simp only [aR]);have tk2:=hT)|(clear tk2;(go_at_call 155;refine (cr.out _).mono ?_;rintro e _ ⟨rfl,hb⟩;replace H:=hidp (H.out.call hb);clear hb);(try simp only [aR]);have tk3:=hT)|(clear tk3;(refine Mm.ld0 naI H rfl (.tmp 14) 1 (.int .i64 x.e) rfl rfl (Hd.get1 _) ?_);(try simp only [aR]);have tk4:=hT))
     try clear tk4
     go_ret
     exact ⟨by rw [HF.out];first | done | rfl,H.out.below⟩
   have e1:decide (x.e<0)=false:=by simpa using a1
   by_cases a2:x.e > 4096
   · have HF:=hidp (show jE x=2 from jE_of (by rw [HOK.out,show cnt x.e=false from decide_eq_false (by omega)];simp))
     have e2:decide (x.e > 4096)=true:=by simpa using a2
     have n2:(4096:Int)<x.e:=a2
     clear hw
     go_enter Tryz.func136,Tryz.ntmps136
     have tk0:=hT
     go_wp2_with (first|(clear tk0;(refine Mm.box 67 H rfl (.tmp 0) rfl x.row rfl ?_;clear H;intro b1 _ H nw;clear nw);(try simp only [aR]);have tk1:=hT)|(clear tk1;(refine Mm.ld0 naS H rfl (.tmp 6) 0 (.string x.r) rfl rfl (Hd.get0 _) ?_);(try simp only [aR]);have tk2:=hT)|(clear tk2;(go_at_call 155;refine (cr.out _).mono ?_;rintro e _ ⟨rfl,hb⟩;replace H:=hidp (H.out.call hb);clear hb);(try simp only [aR]);have tk3:=hT)|(clear tk3;(refine Mm.ld0 naI H rfl (.tmp 14) 1 (.int .i64 x.e) rfl rfl (Hd.get1 _) ?_);(try simp only [aR]);have tk4:=hT)|(clear tk4;(refine Mm.ld0 naI H rfl (.tmp 19) 1 (.int .i64 x.e) rfl rfl (Hd.get1 _) ?_);(try simp only [aR]);have tk5:=hT))
     try clear tk5
     go_ret
     exact ⟨by rw [HF.out];first | done | rfl,H.out.below⟩
   have e2:decide (x.e > 4096)=false:=by simpa using a2
   have n2:¬ (4096:Int)<x.e:=a2
   by_cases a3:x.i<0
   · have HF:=hidp (show jE x=2 from jE_of (by rw [HOK.out,show cnt x.i=false from decide_eq_false (by omega)];simp))
     have e3:decide (x.i<0)=true:=by simpa using a3
     clear hw
     go_enter Tryz.func136,Tryz.ntmps136
     have tk0:=hT
     go_wp2_with (first|(clear tk0;(refine Mm.box 67 H rfl (.tmp 0) rfl x.row rfl ?_;clear H;intro b1 _ H nw;clear nw);(try simp only [aR]);have tk1:=hT)|(clear tk1;(refine Mm.ld0 naS H rfl (.tmp 6) 0 (.string x.r) rfl rfl (Hd.get0 _) ?_);(try simp only [aR]);have tk2:=hT)|(clear tk2;(go_at_call 155;refine (cr.out _).mono ?_;rintro e _ ⟨rfl,hb⟩;replace H:=hidp (H.out.call hb);clear hb);(try simp only [aR]);have tk3:=hT)|(clear tk3;(refine Mm.ld0 naI H rfl (.tmp 14) 1 (.int .i64 x.e) rfl rfl (Hd.get1 _) ?_);(try simp only [aR]);have tk4:=hT)|(clear tk4;(refine Mm.ld0 naI H rfl (.tmp 19) 1 (.int .i64 x.e) rfl rfl (Hd.get1 _) ?_);(try simp only [aR]);have tk5:=hT)|(clear tk5;(refine Mm.ld0 naI H rfl (.tmp 24) 2 (.int .i64 x.i) rfl rfl (Hd.get2 _) ?_);(try simp only [aR]);have tk6:=hT))
     try clear tk6
     go_ret
     exact ⟨by rw [HF.out];first | done | rfl,H.out.below⟩
   have e3:decide (x.i<0)=false:=by simpa using a3
   by_cases a4:x.i > 4096
   · have HF:=hidp (show jE x=2 from jE_of (by rw [HOK.out,show cnt x.i=false from decide_eq_false (by omega)];simp))
     have e4:decide (x.i > 4096)=true:=by simpa using a4
     have n4:(4096:Int)<x.i:=a4
     clear hw
     go_enter Tryz.func136,Tryz.ntmps136
     have tk0:=hT
     go_wp2_with (first|(clear tk0;(refine Mm.box 67 H rfl (.tmp 0) rfl x.row rfl ?_;clear H;intro b1 _ H nw;clear nw);(try simp only [aR]);have tk1:=hT)|(clear tk1;(refine Mm.ld0 naS H rfl (.tmp 6) 0 (.string x.r) rfl rfl (Hd.get0 _) ?_);(try simp only [aR]);have tk2:=hT)|(clear tk2;(go_at_call 155;refine (cr.out _).mono ?_;rintro e _ ⟨rfl,hb⟩;replace H:=hidp (H.out.call hb);clear hb);(try simp only [aR]);have tk3:=hT)|(clear tk3;(refine Mm.ld0 naI H rfl (.tmp 14) 1 (.int .i64 x.e) rfl rfl (Hd.get1 _) ?_);(try simp only [aR]);have tk4:=hT)|(clear tk4;(refine Mm.ld0 naI H rfl (.tmp 19) 1 (.int .i64 x.e) rfl rfl (Hd.get1 _) ?_);(try simp only [aR]);have tk5:=hT)|(clear tk5;(refine Mm.ld0 naI H rfl (.tmp 24) 2 (.int .i64 x.i) rfl rfl (Hd.get2 _) ?_);(try simp only [aR]);have tk6:=hT)|(clear tk6;(refine Mm.ld0 naI H rfl (.tmp 29) 2 (.int .i64 x.i) rfl rfl (Hd.get2 _) ?_);(try simp only [aR]);have tk7:=hT))
     try clear tk7
     go_ret
     exact ⟨by rw [HF.out];first | done | rfl,H.out.below⟩
   have e4:decide (x.i > 4096)=false:=by simpa using a4
   have n4:¬ (4096:Int)<x.i:=a4
   by_cases hg:x.g.size≤8192
   · have e6:decide ((x.g.size:Int) > 8192)=false:=by simp;omega
     have n6:¬ (8192:Int)<(x.g.size:Int):=by omega
     have HF:=hidp (show jE x=0 from jE_yes (by rw [HOK.out,hw,show cnt x.e=true from decide_eq_true (by omega),show cnt x.i=true from decide_eq_true (by omega)];simp [hg]))
     clear hw hg
     go_enter Tryz.func136,Tryz.ntmps136
     have tk0:=hT
     go_wp2_with (first|(clear tk0;(refine Mm.box 67 H rfl (.tmp 0) rfl x.row rfl ?_;clear H;intro b1 _ H nw;clear nw);(try simp only [aR]);have tk1:=hT)|(clear tk1;(refine Mm.ld0 naS H rfl (.tmp 6) 0 (.string x.r) rfl rfl (Hd.get0 _) ?_);(try simp only [aR]);have tk2:=hT)|(clear tk2;(go_at_call 155;refine (cr.out _).mono ?_;rintro e _ ⟨rfl,hb⟩;replace H:=hidp (H.out.call hb);clear hb);(try simp only [aR]);have tk3:=hT)|(clear tk3;(refine Mm.ld0 naI H rfl (.tmp 14) 1 (.int .i64 x.e) rfl rfl (Hd.get1 _) ?_);(try simp only [aR]);have tk4:=hT)|(clear tk4;(refine Mm.ld0 naI H rfl (.tmp 19) 1 (.int .i64 x.e) rfl rfl (Hd.get1 _) ?_);(try simp only [aR]);have tk5:=hT)|(clear tk5;(refine Mm.ld0 naI H rfl (.tmp 24) 2 (.int .i64 x.i) rfl rfl (Hd.get2 _) ?_);(try simp only [aR]);have tk6:=hT)|(clear tk6;(refine Mm.ld0 naI H rfl (.tmp 29) 2 (.int .i64 x.i) rfl rfl (Hd.get2 _) ?_);(try simp only [aR]);have tk7:=hT)|(clear tk7;(refine Mm.ld0 naS H rfl (.tmp 34) 35 (.string x.g) rfl rfl (Hd.get35 HP.out) ?_);(try simp only [aR]);have tk8:=hT))
     try clear tk8
     go_ret
     exact ⟨by rw [HF.out];first | done | rfl,H.out.below⟩
   · have e6:decide ((x.g.size:Int) > 8192)=true:=by simp;omega
     have n6:(8192:Int)<(x.g.size:Int):=by omega
     have HF:=hidp (show jE x=2 from jE_of (by rw [HOK.out];simp [hg]))
     clear hw hg
     go_enter Tryz.func136,Tryz.ntmps136
     have tk0:=hT
     go_wp2_with (first|(clear tk0;(refine Mm.box 67 H rfl (.tmp 0) rfl x.row rfl ?_;clear H;intro b1 _ H nw;clear nw);(try simp only [aR]);have tk1:=hT)|(clear tk1;(refine Mm.ld0 naS H rfl (.tmp 6) 0 (.string x.r) rfl rfl (Hd.get0 _) ?_);(try simp only [aR]);have tk2:=hT)|(clear tk2;(go_at_call 155;refine (cr.out _).mono ?_;rintro e _ ⟨rfl,hb⟩;replace H:=hidp (H.out.call hb);clear hb);(try simp only [aR]);have tk3:=hT)|(clear tk3;(refine Mm.ld0 naI H rfl (.tmp 14) 1 (.int .i64 x.e) rfl rfl (Hd.get1 _) ?_);(try simp only [aR]);have tk4:=hT)|(clear tk4;(refine Mm.ld0 naI H rfl (.tmp 19) 1 (.int .i64 x.e) rfl rfl (Hd.get1 _) ?_);(try simp only [aR]);have tk5:=hT)|(clear tk5;(refine Mm.ld0 naI H rfl (.tmp 24) 2 (.int .i64 x.i) rfl rfl (Hd.get2 _) ?_);(try simp only [aR]);have tk6:=hT)|(clear tk6;(refine Mm.ld0 naI H rfl (.tmp 29) 2 (.int .i64 x.i) rfl rfl (Hd.get2 _) ?_);(try simp only [aR]);have tk7:=hT)|(clear tk7;(refine Mm.ld0 naS H rfl (.tmp 34) 35 (.string x.g) rfl rfl (Hd.get35 HP.out) ?_);(try simp only [aR]);have tk8:=hT))
     try clear tk8
     go_ret
     exact ⟨by rw [HF.out];first | done | rfl,H.out.below⟩
theorem jsmall_any (w:World) (s:ByteArray) (hs:s.size≤281474976710656):Calls Tryz.prog 135 #[.string s] w fun e w'=>e=.returned (.tuple #[.int .i64 (smN s:Nat),.bool (smB s)])∧Below w.heap.size w w':=by
 have cg:=hidp (fun W=>refGetNum_any W s hs)
 have hb:=gn_bd s.data.toList
 have hz:=size_toList s
 obtain ⟨⟨n,j,c⟩,hr⟩:∃ r,gn s.data.toList=r:=⟨_,rfl⟩
 have hy:=y_gn hr
 have hN:smN s=n:=by unfold smN;rw [hr]
 rw [hN]
 rw [hr] at cg hb
 unfold tup3 at cg
 simp only at cg hb
 have w1:IntKind.i64.wrap (n:Int)=(n:Int):=by unfold IntKind.wrap;simp [IntKind.bits,IntKind.signed];omega
 clear hr hN
 by_cases h0:c=0
 · subst h0
   by_cases h1:j=s.size
   · have e1:((j:Int) == (s.size:Int))=true:=by simp;omega
     subst h1
     by_cases h2:n≤4096
     · have e2:decide ((n:Int)≤4096)=true:=by simp;omega
       have n2:(n:Int)≤4096:=by omega
       have HF:=hidp (show smB s=true from decide_eq_true (hy.1.2 ⟨rfl,rfl,h2⟩))
       clear hy hb hz
       go_enter Tryz.func135,Tryz.ntmps135
       go_wp2_with (go_at_call 90;refine (cg.out _).mono ?_;rintro e w' ⟨rfl,hb⟩;have HB:=hidp hb;clear hb)
       go_ret2
       exact ⟨by rw [HF.out];first | done | rfl,HB.out⟩
     · have e2:decide ((n:Int)≤4096)=false:=by simp;omega
       have n2:¬ (n:Int)≤4096:=by omega
       have HF:=hidp (show smB s=false from decide_eq_false (fun g=>h2 (hy.1.1 g).2.2))
       clear hy hb hz
       go_enter Tryz.func135,Tryz.ntmps135
       go_wp2_with (go_at_call 90;refine (cg.out _).mono ?_;rintro e w' ⟨rfl,hb⟩;have HB:=hidp hb;clear hb)
       go_ret2
       exact ⟨by rw [HF.out];first | done | rfl,HB.out⟩
   · have e1:((j:Int) == (s.size:Int))=false:=by rw [beq_eq_false_iff_ne];omega
     have n1:¬ (j:Int)=(s.size:Int):=by omega
     have HF:=hidp (show smB s=false from decide_eq_false (fun g=>h1 (hy.1.1 g).2.1))
     clear hy hb hz
     go_enter Tryz.func135,Tryz.ntmps135
     go_wp2_with (go_at_call 90;refine (cg.out _).mono ?_;rintro e w' ⟨rfl,hb⟩;have HB:=hidp hb;clear hb)
     go_ret2
     exact ⟨by rw [HF.out];first | done | rfl,HB.out⟩
 · have e0:((c:Int) == 0)=false:=by rw [beq_eq_false_iff_ne];omega
   have n0:¬ (c:Int)=0:=by omega
   have HF:=hidp (show smB s=false from decide_eq_false (fun g=>h0 (hy.1.1 g).1))
   clear hy hb hz
   go_enter Tryz.func135,Tryz.ntmps135
   go_wp2_with (go_at_call 90;refine (cg.out _).mono ?_;rintro e w' ⟨rfl,hb⟩;have HB:=hidp hb;clear hb)
   go_ret2
   exact ⟨by rw [HF.out];first | done | rfl,HB.out⟩
theorem built_hd2 (b:ByteArray) (e i:Int):Tryz.prog.built 67 [(0,.string b),(1,.int .i64 e),(2,.int .i64 i)]=some (Hd.row ⟨b,e,i,z32e,⟨#[]⟩⟩).toArray:=by kernel_rfl
theorem Hd.cp {x:Hd} (hp:x.p.length=32) (t:ByteArray) (ht:t.size=32):(x.row.take 3++Lib.byteCells (t.data.toList.take 32)++x.row.drop (3 + 32))=(⟨x.r,x.e,x.i,t.data.toList,x.g⟩:Hd).row:=by
 rw [show Lib.byteCells (t.data.toList.take 32)=u8s t.data.toList from by rw [List.take_of_length_le (by rw [size_toList];omega)];rfl]
 have e1:x.row.take 3=[.string x.r,.int .i64 x.e,.int .i64 x.i]:=rfl
 have e2:x.row.drop (3 + 32)=[.string x.g]:=by
  rw [← List.drop_drop,Hd.mid,List.drop_left' (by rw [u8s_length];exact hp)]
 rw [e1,e2];rfl
theorem o_cpHd {ops:Array Oper} {Q:Exit→Act→World→Prop} {S:World→Prop} {k:Nat} {K:Act→World→Prop} {a:Act} {w w0:World} {o:Oper} {N b:Nat} {L:List Mm.Bx} {x:Hd} (H:Hid (Mm.M N w0 w (⟨b,67,x.row⟩ :: L))) (hp:x.p.length=32) (t:ByteArray) (ht:t.size=32)
 (hT:∀ W,Mm.M N w0 W (⟨b,67,(⟨x.r,x.e,x.i,t.data.toList,x.g⟩:Hd).row⟩ :: L)→S W) (ho:ops[k]?=some o) (hw:Region.wanted o (yielded ops a.tmps)=true) (d y:Operand)
 (hop:o.op=.call { callee:=.builtin .copy,args:=#[d,y],argTypes:=#[174,9] }) (hd:a.eval d=.slice (some ⟨b,3,none⟩) 32 32) (hy:a.eval y=.string t)
 (h:∀ W,Hid (Mm.M N w0 W (⟨b,67,(⟨x.r,x.e,x.i,t.data.toList,x.g⟩:Hd).row⟩ :: L))→K (a.put o.dst (goInt 32)) W):opW Tryz.prog ops Q S k K a w:=by
 have hr:=run_copy_mid (P:=Tryz.prog) w 174 9 o.type 5 b 3 32 32 t x.row.toArray 67 Tryz.underlying174 (by kernel_rfl) H.out.at0 (by omega) (by simp [Hd.len hp])
 rw [Hd.cp hp t ht] at hr
 have st:=Rt.Stp.setRow w b (⟨x.r,x.e,x.i,t.data.toList,x.g⟩:Hd).row.toArray
 have hM:=H.out.put0 (Arr.row H.out.at0 (⟨x.r,x.e,x.i,t.data.toList,x.g⟩:Hd).row) st
 exact o_copy ho hw d y 174 9 hop _ _ _ _ hd hy hr (hT _ hM) (h _ (hidp hM))
theorem jr_hash {t a b c d e:ByteArray} (hL:(al t).1=[a,b,c,d,e]) (h:¬ e.size=32):jr t=none:=by
 unfold jr
 split
 · rw [hL];unfold jrL;simp only;rw [if_neg (fun g=>h g.2)]
 · rfl
def x1 (b c d e:ByteArray):Hd:=⟨b,smN c,smN d,e.data.toList,⟨#[]⟩⟩
theorem jr_six' {t b c d e:ByteArray} (h0:(al t).2=0) (hL:(al t).1=[wHead,b,c,d,e]) (he:e.size=32):jr t=if smB c=true∧smB d=true∧jOk (x1 b c d e)=true then some (x1 b c d e) else none:=by
 rw [jr_six h0 hL]
 have h1:hsE e=0:=if_pos he
 have h2:hsV e=e.data.toList:=if_pos he
 by_cases hc:inE c 4096=0
 · by_cases hd:inE d 4096=0
   · have hx:x0 b c d e=x1 b c d e:=by unfold x0 x1;rw [h2,smN_in hc,smN_in hd]
     rw [hx]
     cases hok:jOk (x1 b c d e) with
     | true=>rw [if_pos (or4_zero.2 ⟨hc,hd,h1,jE_yes hok⟩),if_pos ⟨decide_eq_true hc,decide_eq_true hd,rfl⟩]
     | false=>rw [if_neg (fun g=>by have:=(or4_zero.1 g).2.2.2;rw [jE_no hok] at this;cases this),if_neg (fun g=>by cases g.2.2)]
   · rw [if_neg (fun g=>hd (or4_zero.1 g).2.1),if_neg (fun g=>hd (of_decide_eq_true g.2.1))]
 · rw [if_neg (fun g=>hc (or4_zero.1 g).1),if_neg (fun g=>hc (of_decide_eq_true g.1))]
theorem rjread_any (w:World) (t:ByteArray) (ht:t.size≤281474976710656) :
 Calls Tryz.prog 83 #[.string t] w fun e w'=>e=.returned (.tuple #[.agg (jrV t).row.toArray,.int .i64 (jrE t)])∧Below w.heap.size w w':=by
 have ca:=hidp (fun W=>refAll_any W t ht)
 have H:=hidp (Mm.M.nil w)
 by_cases h0:(al t).2=0
 · by_cases h6:(al t).1.length=5
   · obtain ⟨a,b,c,d,e5,hL⟩:∃ a b c d e,(al t).1=[a,b,c,d,e]:=by
      match hL:(al t).1,h6 with
      | [a,b,c,d,e],_=>exact ⟨a,b,c,d,e,rfl⟩
     have hss:=al_sz t ht
     rw [hL] at hss
     rw [h0,hL] at ca
     by_cases hw:a=wHead
     · subst hw
       by_cases h32:e5.size=32
       · have hsx:=jr_six' h0 hL h32
         have hxok:(x1 b c d e5).ok:=⟨by have:=hss b (by simp);show b.size≤_;omega,by show e5.data.toList.length=32;rw [size_toList];exact h32,by show (⟨#[]⟩:ByteArray).size≤_;decide⟩
         have c1:=hidp (fun W=>jsmall_any W c (by have:=hss c (by simp);omega))
         have c2:=hidp (fun W=>jsmall_any W d (by have:=hss d (by simp);omega))
         have cc:=hidp (fun W=>rjcheck_any W (x1 b c d e5) hxok)
         have e32:((e5.size:Int) != 32)=false:=by rw [h32];rfl
         have n32:(e5.size:Int)=32:=by omega
         have HE5:=hidp h32
         obtain ⟨V1,hV1⟩:∃ V:Int,((smN c:Nat):Int)=V:=⟨_,rfl⟩
         obtain ⟨V2,hV2⟩:∃ V:Int,((smN d:Nat):Int)=V:=⟨_,rfl⟩
         obtain ⟨Y,hY⟩:∃ X,x1 b c d e5=X:=⟨_,rfl⟩
         have hY2:Y=⟨b,V1,V2,e5.data.toList,⟨#[]⟩⟩:=by rw [← hY,← hV1,← hV2];rfl
         have HYL:=hidp (show Y.p.length=32 from hY ▸ hxok.p)
         rw [hY] at hsx cc
         obtain ⟨X,hX⟩:∃ X:Hd,X=⟨b,V1,V2,z32e,⟨#[]⟩⟩:=⟨_,rfl⟩
         have HX:=hidp hX
         have HXL:=hidp (show X.p.length=32 from by rw [hX];rfl)
         have HY:=hidp (show Y=⟨X.r,X.e,X.i,e5.data.toList,X.g⟩ from by rw [hY2,hX])
         rw [hV1] at c1
         rw [hV2] at c2
         clear hss h0 h6 hL hxok hY hY2 hX hV1 hV2 h32
         cases h1:smB c
         case' false =>
          have hn:jr t=none:=by rw [hsx];exact if_neg (fun g=>by have g:=g.1;rw [h1] at g;cases g)
          have HV:=hidp (show jrV t=zHd from by unfold jrV;rw [hn];rfl)
          have HE:=hidp (show jrE t=6 from by unfold jrE;rw [hn];rfl)
          clear hn
          rw [h1] at c1
          clear hsx h1
          obtain ⟨B2,hB2⟩:∃ B,smB d=B:=⟨_,rfl⟩
          rw [hB2] at c2
          clear hB2
         case' true =>
          rw [h1] at c1
          cases h2:smB d
          case' false =>
           have hn:jr t=none:=by rw [hsx];exact if_neg (fun g=>by have g:=g.2.1;rw [h2] at g;cases g)
           have HV:=hidp (show jrV t=zHd from by unfold jrV;rw [hn];rfl)
           have HE:=hidp (show jrE t=6 from by unfold jrE;rw [hn];rfl)
           clear hn
           rw [h2] at c2
           clear hsx h1 h2
          case' true =>
           rw [h2] at c2
           cases hok:jOk Y
           case' false =>
            have hn:jr t=none:=by rw [hsx];exact if_neg (fun g=>by have g:=g.2.2;rw [hok] at g;cases g)
            have HV:=hidp (show jrV t=zHd from by unfold jrV;rw [hn];rfl)
            have HE:=hidp (show jrE t=6 from by unfold jrE;rw [hn];rfl)
            clear hn
            rw [jE_no hok] at cc
            clear hsx h1 h2 hok
           case' true =>
            have hn:jr t=some Y:=by rw [hsx];exact if_pos ⟨h1,h2,hok⟩
            have HV:=hidp (show jrV t=Y from by unfold jrV;rw [hn];rfl)
            have HE:=hidp (show jrE t=0 from by unfold jrE;rw [hn];rfl)
            clear hn
            rw [jE_yes hok] at cc
            clear hsx h1 h2 hok
         all_goals
          go_enter Tryz.func83,Tryz.ntmps83
          have tk0:=hT
          go_wp2_with (first|(clear tk0;(refine Mm.new rtHd H (some 2) rfl rfl rfl ?_;clear H;intro b2 _ H nw;clear nw);(try simp only [aR]);have tk1:=hT)|(clear tk1;(go_at_call 89;refine (ca.out _).mono ?_;rintro e w1 ⟨v,rfl,hst,hb⟩;have H0:=hidp (H.out.call hb);obtain ⟨g,off,cv,rfl,hg,hcs⟩:=Sl.strs_pos hst (by simp);clear H hst hb ca;have HC:=hidp (show ∀ W,Below w1.heap.size w1 W→W.cell? ⟨g,off,none⟩=some (.string wHead)∧W.cell? ⟨g,off + 1,none⟩=some (.string b)∧W.cell? ⟨g,off + 2,none⟩=some (.string c)∧W.cell? ⟨g,off + 3,none⟩=some (.string d)∧W.cell? ⟨g,off + 4,none⟩=some (.string e5) from fun W hW=>⟨(hW.cell (p:=⟨g,off,none⟩) hg).trans (hcs 0 (by simp)),(hW.cell (p:=⟨g,off + 1,none⟩) hg).trans (hcs 1 (by simp)),(hW.cell (p:=⟨g,off + 2,none⟩) hg).trans (hcs 2 (by simp)),(hW.cell (p:=⟨g,off + 3,none⟩) hg).trans (hcs 3 (by simp)),(hW.cell (p:=⟨g,off + 4,none⟩) hg).trans (hcs 4 (by simp))⟩);clear hcs;have H:=hidp (Mm.M.nil w1);obtain ⟨m0,m1,m2,m3,m4⟩:=HC.out _ H.out.below;unfold wHead at m0);(try simp only [aR]);have tk2:=hT)|(clear tk2;(go_at_call 135;refine (c1.out _).mono ?_;rintro e _ ⟨rfl,hb⟩;clear m0 m1 m2 m3 m4;replace H:=hidp (H.out.call hb);obtain ⟨m0,m1,m2,m3,m4⟩:=HC.out _ H.out.below;clear hb);(try simp only [aR]);have tk3:=hT)|(clear tk3;(go_at_call 135;refine (c2.out _).mono ?_;rintro e _ ⟨rfl,hb⟩;clear m0 m1 m2 m3 m4;replace H:=hidp (H.out.call hb);obtain ⟨m0,m1,m2,m3,m4⟩:=HC.out _ H.out.below;clear hb);(try simp only [aR]);have tk4:=hT)|(clear tk4;(refine Rt.wpL_build rfl 67 _ rfl X.row (by rw [HX.out];exact Eq.trans (by kernel_rfl) (built_hd2 b V1 V2)) ?_;clear m0 m1 m2 m3 m4);(try simp only [aR]);have tk5:=hT)|(clear tk5;(refine Mm.new rtHd H (some 10) rfl rfl rfl ?_;clear H;intro b10 _ H nw;clear nw);(try simp only [aR]);have tk6:=hT)|(clear tk6;(refine Mm.put0 rtHd H rfl (.tmp 10) (.tmp 56) X.row rfl rfl rfl (Hd.len HXL.out) (Hd.one X) (Hd.len (rfl:zHd.p.length=32)) ?_;clear H;intro _ H st;clear st);(try simp only [aR]);have tk7:=hT))
          try clear tk7
          refine Sl.region1 H (.take 0 (.take 1 (.take 2 (.take 3 (.take 4 (.one 5 .done)))))) (by kernel_rfl) (by kernel_rfl) (by simp [Scr.depth]) (by kernel_rfl) ?_
          clear H
          intro _ H hb
          clear hb
          apply s_val
          case ho | hw=>rfl
          case hv=>intro w hw;go_simp;first | done | rfl
          simp only [aS]
          refine s_slc rfl rfl (.tmp 57) rfl b10 3 rfl ?_
          iterate 2
           simp only [aS]
           apply s_val
           case ho | hw=>rfl
           case hv=>intro w hw;go_simp;first | done | rfl
          simp only [aS]
          apply s_val
          case ho | hw=>rfl
          case hv=>intro w hw;obtain ⟨m0,m1,m2,m3,m4⟩:=HC.out w hw.below;clear m0 m1 m2 m3;go_simp;first | done | rfl
          simp only [aS]
          refine o_cpHd H HXL.out e5 HE5.out (fun W h=>h.tail) rfl rfl (.tmp 58) (.tmp 61) rfl rfl rfl ?_
          clear H
          intro _ H
          rw [← HY.out] at H
          simp only [aS]
          refine NoPanic.normal ?_
          first
           | have tk0:=hT
             go_wp2_with (first|(clear tk0;(refine Mm.get0 rtHd H rfl (.tmp 10) rfl rfl (Hd.len HYL.out) ?_);(try simp only [aR]);have tk1:=hT)|(clear tk1;(go_at_call 136;refine (cc.out _).mono ?_;rintro e _ ⟨rfl,hb⟩;replace H:=hidp (H.out.call hb);clear hb;replace H:=hidp (Sl.join H0.out H.out));(try simp only [aR]);have tk2:=hT)|(clear tk2;(refine Mm.get0 rtHd H rfl (.tmp 10) rfl rfl (Hd.len HYL.out) ?_);(try simp only [aR]);have tk3:=hT)|(clear tk3;(refine Mm.put1 rtHd H rfl (.tmp 2) (.tmp 75) Y.row rfl rfl rfl (Hd.len HYL.out) (Hd.one Y) (Hd.len (rfl:zHd.p.length=32)) ?_;clear H;intro _ H st;clear st);(try simp only [aR]);have tk4:=hT))
             try clear tk4
             refine bodyPost_ret (Mm.ret_rowv rtHd Tryz.results83 _ b2 _ _ rfl rfl H.out.at1 (Hd.len HYL.out)) rfl ⟨by rw [HV.out,HE.out];first | done | rfl,H.out.below⟩
           | have tk0:=hT
             go_wp2_with (first|(clear tk0;(refine Mm.get0 rtHd H rfl (.tmp 10) rfl rfl (Hd.len HYL.out) ?_);(try simp only [aR]);have tk1:=hT)|(clear tk1;(go_at_call 136;refine (cc.out _).mono ?_;rintro e _ ⟨rfl,hb⟩;replace H:=hidp (H.out.call hb);clear hb;replace H:=hidp (Sl.join H0.out H.out));(try simp only [aR]);have tk2:=hT)|(clear tk2;(refine Rt.wpL_build rfl 67 _ rfl zHd.row (by kernel_rfl) ?_);(try simp only [aR]);have tk3:=hT)|(clear tk3;(refine Mm.put1 rtHd H rfl (.tmp 2) (.tmp 74) zHd.row rfl rfl rfl (Hd.len (rfl:zHd.p.length=32)) (Hd.one zHd) (Hd.len (rfl:zHd.p.length=32)) ?_;clear H;intro _ H st;clear st);(try simp only [aR]);have tk4:=hT))
             try clear tk4
             refine bodyPost_ret (Mm.ret_rowv rtHd Tryz.results83 _ b2 _ _ rfl rfl H.out.at1 (Hd.len (rfl:zHd.p.length=32))) rfl ⟨by rw [HV.out,HE.out];first | done | rfl,H.out.below⟩
           | replace H := hidp (Sl.join H0.out H.out)
             have tk0:=hT
             go_wp2_with (first|(clear tk0;(refine Rt.wpL_build rfl 67 _ rfl zHd.row (by kernel_rfl) ?_);(try simp only [aR]);have tk1:=hT)|(clear tk1;(refine Mm.put1 rtHd H rfl (.tmp 2) (.tmp 74) zHd.row rfl rfl rfl (Hd.len (rfl:zHd.p.length=32)) (Hd.one zHd) (Hd.len (rfl:zHd.p.length=32)) ?_;clear H;intro _ H st;clear st);(try simp only [aR]);have tk2:=hT))
             try clear tk2
             refine bodyPost_ret (Mm.ret_rowv rtHd Tryz.results83 _ b2 _ _ rfl rfl H.out.at1 (Hd.len (rfl:zHd.p.length=32))) rfl ⟨by rw [HV.out,HE.out];first | done | rfl,H.out.below⟩
       ·
        have HV:=hidp (show jrV t=zHd from by unfold jrV;rw [jr_hash hL h32];rfl)
        have HE:=hidp (show jrE t=6 from by unfold jrE;rw [jr_hash hL h32];rfl)
        have e32:((e5.size:Int) != 32)=true:=by simp;omega
        have n32:¬ (e5.size:Int)=32:=by omega
        clear hss h0 h6 hL h32
        go_enter Tryz.func83,Tryz.ntmps83
        have tk0:=hT
        go_wp2_with (first|(clear tk0;(refine Mm.new rtHd H (some 2) rfl rfl rfl ?_;clear H;intro b2 _ H nw;clear nw);(try simp only [aR]);have tk1:=hT)|(clear tk1;(go_at_call 89;refine (ca.out _).mono ?_;rintro e w1 ⟨v,rfl,hst,hb⟩;have H0:=hidp (H.out.call hb);obtain ⟨g,off,cv,rfl,hg,hcs⟩:=Sl.strs_pos hst (by simp);clear H hst hb ca;have HC:=hidp (show ∀ W,Below w1.heap.size w1 W→W.cell? ⟨g,off,none⟩=some (.string wHead)∧W.cell? ⟨g,off + 1,none⟩=some (.string b)∧W.cell? ⟨g,off + 2,none⟩=some (.string c)∧W.cell? ⟨g,off + 3,none⟩=some (.string d)∧W.cell? ⟨g,off + 4,none⟩=some (.string e5) from fun W hW=>⟨(hW.cell (p:=⟨g,off,none⟩) hg).trans (hcs 0 (by simp)),(hW.cell (p:=⟨g,off + 1,none⟩) hg).trans (hcs 1 (by simp)),(hW.cell (p:=⟨g,off + 2,none⟩) hg).trans (hcs 2 (by simp)),(hW.cell (p:=⟨g,off + 3,none⟩) hg).trans (hcs 3 (by simp)),(hW.cell (p:=⟨g,off + 4,none⟩) hg).trans (hcs 4 (by simp))⟩);clear hcs;have H:=hidp (Mm.M.nil w1);obtain ⟨m0,m1,m2,m3,m4⟩:=HC.out _ H.out.below;unfold wHead at m0;replace H:=hidp (Sl.join H0.out H.out));(try simp only [aR]);have tk2:=hT)|(clear tk2;(refine Rt.wpL_build rfl 67 _ rfl zHd.row (by kernel_rfl) ?_);(try simp only [aR]);have tk3:=hT)|(clear tk3;(refine Mm.put0 rtHd H rfl (.tmp 2) (.tmp 36) zHd.row rfl rfl rfl (Hd.len (rfl:zHd.p.length=32)) (Hd.one zHd) (Hd.len (rfl:zHd.p.length=32)) ?_;clear H;intro _ H st;clear st);(try simp only [aR]);have tk4:=hT))
        try clear tk4
        refine bodyPost_ret (Mm.ret_rowv rtHd Tryz.results83 _ b2 _ _ rfl rfl H.out.at0 (Hd.len (rfl:zHd.p.length=32))) rfl ⟨by rw [HV.out,HE.out];first | done | rfl,H.out.below⟩
     ·
      have HV:=hidp (show jrV t=zHd from by unfold jrV;rw [jr_word hL hw];rfl)
      have HE:=hidp (show jrE t=6 from by unfold jrE;rw [jr_word hL hw];rfl)
      have hq:=toList_word hw
      clear hss h0 h6 hL hw
      go_enter Tryz.func83,Tryz.ntmps83
      have tk0:=hT
      go_wp2_with (first|(clear tk0;(refine Mm.new rtHd H (some 2) rfl rfl rfl ?_;clear H;intro b2 _ H nw;clear nw);(try simp only [aR]);have tk1:=hT)|(clear tk1;(go_at_call 89;refine (ca.out _).mono ?_;rintro e w1 ⟨v,rfl,hst,hb⟩;have H0:=hidp (H.out.call hb);obtain ⟨g,off,cv,rfl,hg,hcs⟩:=Sl.strs_pos hst (by simp);clear H hst hb ca;have HC:=hidp (show ∀ W,Below w1.heap.size w1 W→W.cell? ⟨g,off,none⟩=some (.string a)∧W.cell? ⟨g,off + 1,none⟩=some (.string b)∧W.cell? ⟨g,off + 2,none⟩=some (.string c)∧W.cell? ⟨g,off + 3,none⟩=some (.string d)∧W.cell? ⟨g,off + 4,none⟩=some (.string e5) from fun W hW=>⟨(hW.cell (p:=⟨g,off,none⟩) hg).trans (hcs 0 (by simp)),(hW.cell (p:=⟨g,off + 1,none⟩) hg).trans (hcs 1 (by simp)),(hW.cell (p:=⟨g,off + 2,none⟩) hg).trans (hcs 2 (by simp)),(hW.cell (p:=⟨g,off + 3,none⟩) hg).trans (hcs 3 (by simp)),(hW.cell (p:=⟨g,off + 4,none⟩) hg).trans (hcs 4 (by simp))⟩);clear hcs;have H:=hidp (Mm.M.nil w1);obtain ⟨m0,m1,m2,m3,m4⟩:=HC.out _ H.out.below;replace H:=hidp (Sl.join H0.out H.out));(try simp only [aR]);have tk2:=hT)|(clear tk2;(refine Rt.wpL_build rfl 67 _ rfl zHd.row (by kernel_rfl) ?_);(try simp only [aR]);have tk3:=hT)|(clear tk3;(refine Mm.put0 rtHd H rfl (.tmp 2) (.tmp 36) zHd.row rfl rfl rfl (Hd.len (rfl:zHd.p.length=32)) (Hd.one zHd) (Hd.len (rfl:zHd.p.length=32)) ?_;clear H;intro _ H st;clear st);(try simp only [aR]);have tk4:=hT))
      try clear tk4
      refine bodyPost_ret (Mm.ret_rowv rtHd Tryz.results83 _ b2 _ _ rfl rfl H.out.at0 (Hd.len (rfl:zHd.p.length=32))) rfl ⟨by rw [HV.out,HE.out];first | done | rfl,H.out.below⟩
   ·
    have HV:=hidp (show jrV t=zHd from by unfold jrV;rw [jr_len h6];rfl)
    have HE:=hidp (show jrE t=6 from by unfold jrE;rw [jr_len h6];rfl)
    rw [h0] at ca
    obtain ⟨ss,hss⟩:∃ ss,(al t).1=ss:=⟨_,rfl⟩
    rw [hss] at ca h6
    obtain ⟨n,hn⟩:∃ n,ss.length=n:=⟨_,rfl⟩
    have e1:((n:Int) != 5)=true:=by simp;omega
    have g1:¬ n=5:=by omega
    have g2:(n != 5)=true:=by simpa using g1
    clear hss h0
    have cb:=hidp (fun W=>(ca.out W).mono fun e w' ⟨v,h1,h2,h3⟩=>(⟨v,h1,⟨Sl.strs_form h2,h3⟩⟩:∃ v,e=Ending.returned (.tuple #[v,.int .i64 ((0:Nat):Int)])∧(∃ a c,v=Value.slice a ss.length c)∧Below W.heap.size W w'))
    rw [hn] at cb
    clear ca hn h6
    go_enter Tryz.func83,Tryz.ntmps83
    have tk0:=hT
    go_wp2_with (first|(clear tk0;(refine Mm.new rtHd H (some 2) rfl rfl rfl ?_;clear H;intro b2 _ H nw;clear nw);(try simp only [aR]);have tk1:=hT)|(clear tk1;(go_at_call 89;refine (cb.out _).mono ?_;rintro e _ ⟨v,rfl,⟨av,cv,rfl⟩,hb⟩;replace H:=hidp (H.out.call hb);clear hb cb);(try simp only [aR]);have tk2:=hT)|(clear tk2;(refine Rt.wpL_build rfl 67 _ rfl zHd.row (by kernel_rfl) ?_);(try simp only [aR]);have tk3:=hT)|(clear tk3;(refine Mm.put0 rtHd H rfl (.tmp 2) (.tmp 36) zHd.row rfl rfl rfl (Hd.len (rfl:zHd.p.length=32)) (Hd.one zHd) (Hd.len (rfl:zHd.p.length=32)) ?_;clear H;intro _ H st;clear st);(try simp only [aR]);have tk4:=hT))
    try clear tk4
    refine bodyPost_ret (Mm.ret_rowv rtHd Tryz.results83 _ b2 _ _ rfl rfl H.out.at0 (Hd.len (rfl:zHd.p.length=32))) rfl ⟨by rw [HV.out,HE.out];first | done | rfl,H.out.below⟩
 ·
  have HV:=hidp (show jrV t=zHd from by unfold jrV;rw [jr_bad h0];rfl)
  have HE:=hidp (show jrE t=6 from by unfold jrE;rw [jr_bad h0];rfl)
  obtain ⟨E,hE⟩:∃ E,(al t).2=E:=⟨_,rfl⟩
  rw [hE] at ca h0
  have e1:((E:Int) != 0)=true:=by simp;omega
  have g1:¬ (E:Int)=0:=by omega
  have g2:¬ E=0:=h0
  clear hE h0
  go_enter Tryz.func83,Tryz.ntmps83
  have tk0:=hT
  go_wp2_with (first|(clear tk0;(refine Mm.new rtHd H (some 2) rfl rfl rfl ?_;clear H;intro b2 _ H nw;clear nw);(try simp only [aR]);have tk1:=hT)|(clear tk1;(go_at_call 89;refine (ca.out _).mono ?_;rintro e _ ⟨v,rfl,hst,hb⟩;replace H:=hidp (H.out.call hb);obtain ⟨av,cv,rfl⟩:=Sl.strs_form hst;clear hst hb ca);(try simp only [aR]);have tk2:=hT)|(clear tk2;(refine Rt.wpL_build rfl 67 _ rfl zHd.row (by kernel_rfl) ?_);(try simp only [aR]);have tk3:=hT)|(clear tk3;(refine Mm.put0 rtHd H rfl (.tmp 2) (.tmp 36) zHd.row rfl rfl rfl (Hd.len (rfl:zHd.p.length=32)) (Hd.one zHd) (Hd.len (rfl:zHd.p.length=32)) ?_;clear H;intro _ H st;clear st);(try simp only [aR]);have tk4:=hT))
  try clear tk4
  refine bodyPost_ret (Mm.ret_rowv rtHd Tryz.results83 _ b2 _ _ rfl rfl H.out.at0 (Hd.len (rfl:zHd.p.length=32))) rfl ⟨by rw [HV.out,HE.out];first | done | rfl,H.out.below⟩
end Go.Proofs.YtokakgjcegmabaaGreatDoor.Hd
