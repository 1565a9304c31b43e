import Derived.Test.YtokakgjcegmabaaGreatDoorLS4
import Derived.Test.YtokakgjcegmabaaGreatDoorLO
import Derived.Test.YtokakgjcegmabaaGreatDoorLK
set_option linter.unusedVariables false
set_option linter.unusedSimpArgs false
set_option maxHeartbeats 64000000
set_option maxRecDepth 100000
namespace Go.Proofs.YtokakgjcegmabaaGreatDoor.En
open Go.RowKit
open List (getElem_toArray getElem_cons_zero getElem_cons_succ setIfInBounds_toArray set_cons_zero set_cons_succ)
theorem rtE:Rt.RT Tryz.prog 103 37 zEn.row:=⟨by decide,.inl ⟨_,Tryz.underlying103⟩,by kernel_rfl⟩
theorem rtH:Rt.RT Tryz.prog 58 32 (u8s z32):=⟨by decide,.inr ⟨_,_,hash_row⟩,by kernel_rfl⟩
theorem naS:Mm.NA Tryz.prog 9:=⟨_,Tryz.underlying9,rfl⟩
theorem naI:Mm.NA Tryz.prog 3:=⟨_,Tryz.underlying3,rfl⟩
theorem En.getp {x:En} (h:x.p.length=32) (i:Nat) (hi:i<32):x.row[3 + i]?=(u8s x.p)[i]?:=by
 unfold En.row
 rw [List.append_assoc,List.getElem?_append_right (by simp),List.getElem?_append_left (by simp [u8s_length,h];omega)]
 congr 1;simp
theorem En.same0 (x:En):x.row.set 0 (.string x.r)=x.row:=rfl
theorem En.same35 {x:En} (h:x.p.length=32):x.row.set 35 (.string x.v)=x.row:=En.set35 h x.v
theorem En.same36 {x:En} (h:x.p.length=32):x.row.set 36 (.string x.g)=x.row:=En.set36 h x.g
theorem conv32 (W:World) (b:Nat) (x:En) (hp:x.p.length=32) (ha:Arr W b 103 x.row):(convert 174 9 (.slice (some ⟨b,3,none⟩) 32 32)).run Tryz.prog W=.ok (.string (mkS x.p)) W:=by
 have h:=run_str_at (P:=Tryz.prog) (src:=174) (e:=5) (dst:=9) Tryz.underlying174 Tryz.underlying5 Tryz.underlying9 b 3 32 x.p (w:=W) (fun i hi=>by
  have hi':i<32:=by rw [← hp];exact hi
  have e:=En.getp hp i hi'
  have hl:3 + i<x.row.length:=by rw [En.len hp];omega
  have hc:=ha.cell (3 + i) hl
  rw [List.getElem?_eq_getElem hl] at e
  rw [show (⟨b,3,none⟩:Addr).off + i=3 + i from rfl]
  rw [hc,e]
  simp [u8s,List.getD_eq_getElem?_getD,hi])
 rw [hp] at h;exact h
theorem s_cnv {ops:Array Oper} {Q:Exit→Act→World→Prop} {S:World→Prop} {k:Nat} {o:Oper} {s:Scr} {a:Act} {w:World} (ho:ops[k]?=some o) (hw:Region.wanted o (yielded ops a.tmps)=true) (x:Operand) (hop:o.op=.convert 174 9 x)
 (sv:Value) (t:ByteArray) (hx:a.eval x=sv) (hc:∀ w,S w→(convert 174 9 sv).run Tryz.prog w=.ok (.string t) w) (h:wpScr Tryz.prog ops Q s S (a.put o.dst (.string t)) w):wpScr Tryz.prog ops Q (.take k s) S a w :=
 s_val ho hw (fun w hS=>by
  unfold execOp
  simp only [hop,hx,Sem.run_bind,hc w hS,Result.andThen_ok]
  rfl) h
section
variable {ops:Array Oper} {rest:List Oper} {o:Oper} {a:Act} {w w0:World} {N:Nat} {L:List Mm.Bx} {Q:Exit→Act→World→Prop} {S:World→Prop} {j:Nat} {s:Scr} {K:Act→World→Prop}
theorem run_bsS6 (z0 z1 z2 z3 z4 z5:ByteArray) (w:World):(Instr.buildSlice 75 6 #[(0,.string z0),(1,.string z1),(2,.string z2),(3,.string z3),(4,.string z4),(5,.string z5)]).run Tryz.prog w=.ok (.slice (some ⟨w.heap.size,0,none⟩) 6 6) (w.alloc (.cells #[.string z0,.string z1,.string z2,.string z3,.string z4,.string z5] 9)):=by
 obtain ⟨i0,hi,hz0,hz1,hz2⟩:=info_parts Sl.infoS
 refine run_buildSlice w 75 9 6 _ _ i0 _ Sl.tyS hi hz0 (by rw [hz1];omega) (by rw [hz1];omega) ?_
 have hr:Array.range 6=#[0,1,2,3,4,5]:=by decide
 rw [hz1];simp [Instr.fill,Value.cells,hr]
theorem o_bsS6 (H:Hid (Mm.M N w0 w L)) (hT:∀ W,Mm.M N w0 W L→S W) (ho:ops[j]?=some o) (hw:Region.wanted o (yielded ops a.tmps)=true) (x0 x1 x2 x3 x4 x5:Operand) (z0 z1 z2 z3 z4 z5:ByteArray) (hop:o.op=.buildSlice 75 6 #[(0,x0),(1,x1),(2,x2),(3,x3),(4,x4),(5,x5)]) (hx0:a.eval x0=.string z0) (hx1:a.eval x1=.string z1) (hx2:a.eval x2=.string z2) (hx3:a.eval x3=.string z3) (hx4:a.eval x4=.string z4) (hx5:a.eval x5=.string z5)
 (h:∀ b W,Hid (Mm.M N w0 W (⟨b,9,[.string z0,.string z1,.string z2,.string z3,.string z4,.string z5]⟩ :: L))→Rt.NewAt w W b 9 [.string z0,.string z1,.string z2,.string z3,.string z4,.string z5]→K (a.put o.dst (.slice (some ⟨b,0,none⟩) 6 6)) W):opW Tryz.prog ops Q S j K a w:=by
 have n:=Rt.NewAt.mk' w 9 [.string z0,.string z1,.string z2,.string z3,.string z4,.string z5]
 have hM:=H.out.new n
 refine o_make ho hw ?_ (hT _ hM.tail) (h _ _ (hidp hM) n)
 unfold execOp
 simp only [hop,List.map_toArray,List.map_cons,List.map_nil,hx0,hx1,hx2,hx3,hx4,hx5,Sem.run_bind,run_bsS6 z0 z1 z2 z3 z4 z5 w,Result.andThen_ok]
 rfl
theorem wpL_slc (hw:Region.wanted o (yielded ops a.tmps)=true) (x:Operand) (ho:o.op=.slice 58 x none none none) (b off:Nat) (hx:a.eval x=.pointer (some ⟨b,off,none⟩))
 (h:wpList Tryz.prog ops Q rest (a.put o.dst (.slice (some ⟨b,off,none⟩) 32 32)) w):wpList Tryz.prog ops Q (o :: rest) a w:=by
 refine wpList_step fun K hK=>?_
 rw [if_pos hw]
 have:=hK _ _ h
 unfold Oper.wp execOp
 simp only [ho,hx,Option.map_none,Sem.run_bind,slice32 b off w,Result.andThen_ok]
 exact this
theorem wpL_cp {b:Nat} {ys:List Value} (H:Hid (Mm.M N w0 w (⟨b,58,ys⟩ :: L))) (hw:Region.wanted o (yielded ops a.tmps)=true) (d x:Operand) (ho:o.op=.call { callee:=.builtin .copy,args:=#[d,x],argTypes:=#[174,9] }) (t:ByteArray) (hd:a.eval d=.slice (some ⟨b,0,none⟩) 32 32) (hx:a.eval x=.string t) (ht:t.size=32) (hy:ys.length=32)
 (h:∀ W,Hid (Mm.M N w0 W (⟨b,58,u8s t.data.toList⟩ :: L))→wpList Tryz.prog ops Q rest (a.put o.dst (goInt 32)) W):wpList Tryz.prog ops Q (o :: rest) a w:=by
 have hr:=run_copy_long (P:=Tryz.prog) w 174 9 o.type 5 b 32 32 t ys.toArray 58 Tryz.underlying174 (by kernel_rfl) H.out.at0 (by omega) (by simp [hy])
 rw [show Lib.byteCells (t.data.toList.take 32)=u8s t.data.toList from by rw [List.take_of_length_le (by rw [size_toList];omega)];rfl] at hr
 have st:=Rt.Stp.setRow w b (u8s t.data.toList).toArray
 have hM:=H.out.put0 (Arr.row H.out.at0 (u8s t.data.toList)) st
 refine wpList_step fun K hK=>?_
 rw [if_pos hw]
 have:=hK _ _ (h _ (hidp hM))
 unfold Oper.wp
 simp [execOp,ho,resolve,invoke,builtin,hd,hx,hr,Result.andThen]
 exact this
end
theorem counts_any (w:World) (n:Int):Calls Tryz.prog 147 #[.int .i64 n] w fun e w'=>e=.returned (.bool (cnt n))∧w'=w:=by
 by_cases h0:0≤n
 · have e0:decide ((0:Int)≤n)=true:=by simpa using h0
   by_cases h9:n≤4096
   · have e1:decide (n≤4096)=true:=by simpa using h9
     have HF:=hidp (show cnt n=true from decide_eq_true ⟨h0,h9⟩)
     go_enter Tryz.func147,Tryz.ntmps147
     go_wp2
     go_ret
     exact ⟨by rw [HF.out];rfl,rfl⟩
   · have e1:decide (n≤4096)=false:=by simpa using h9
     have HF:=hidp (show cnt n=false from decide_eq_false (fun g=>h9 g.2))
     go_enter Tryz.func147,Tryz.ntmps147
     go_wp2
     go_ret
     exact ⟨by rw [HF.out];rfl,rfl⟩
 · have e0:decide ((0:Int)≤n)=false:=by simpa using h0
   have HF:=hidp (show cnt n=false from decide_eq_false (fun g=>h0 g.1))
   go_enter Tryz.func147,Tryz.ntmps147
   go_wp2
   go_ret
   exact ⟨by rw [HF.out];rfl,rfl⟩
theorem u8_one (l:List UInt8):∀ u ∈ u8s l,u.oneCell'=true:=fun u hu=>by
 have:=u8s_one l;rw [List.all_toArray] at this;exact (List.all_eq_true.1 this) u hu
def hsV (s:ByteArray):List UInt8:=if s.size=32 then s.data.toList else z32
def hsE (s:ByteArray):Int:=if s.size=32 then 0 else 6
theorem ohash_any (w:World) (s:ByteArray):Calls Tryz.prog 131 #[.string s] w fun e w'=>e=.returned (.tuple #[.agg (u8s (hsV s)).toArray,.int .i64 (hsE s)])∧Below w.heap.size w w':=by
 have H:=hidp (Mm.M.nil w)
 by_cases h:s.size=32
 · have HV:=hidp (show hsV s=s.data.toList from if_pos h)
   have HE:=hidp (show hsE s=0 from if_pos h)
   have HL:=hidp (show (u8s s.data.toList).length=32 from by rw [u8s_length,size_toList];exact h)
   have HS:=hidp h
   have e0:(((s.size:Nat):Int) != 32)=false:=by rw [h];rfl
   have e1:(s.size:Int)=32:=by omega
   clear h
   go_enter Tryz.func131,Tryz.ntmps131
   have tk0:=hT
   go_wp2_with (first|(clear tk0;(refine Mm.new rtH H (some 2) rfl rfl rfl ?_;clear H;intro b2 _ H nw;clear nw);(try simp only [aR]);have tk1:=hT)|(clear tk1;(refine Mm.new rtH H (some 4) rfl rfl rfl ?_;clear H;intro b4 _ H nw;clear nw);(try simp only [aR]);have tk2:=hT)|(clear tk2;(refine wpL_slc rfl (.tmp 4) rfl b4 0 rfl ?_);(try simp only [aR]);have tk3:=hT)|(clear tk3;(refine wpL_cp H rfl (.tmp 9) (.tmp 10) rfl s rfl rfl HS.out rfl ?_;clear H;intro _ H);(try simp only [aR]);have tk4:=hT)|(clear tk4;(refine Mm.get0 rtH H rfl (.tmp 4) rfl rfl HL.out ?_);(try simp only [aR]);have tk5:=hT)|(clear tk5;(refine Mm.put1 rtH H rfl (.tmp 2) (.tmp 12) (u8s s.data.toList) rfl rfl rfl HL.out (u8_one _) rfl ?_;clear H;intro _ H st;clear st);(try simp only [aR]);have tk6:=hT))
   try clear tk6
   refine bodyPost_ret (Mm.ret_rowv rtH Tryz.results131 _ b2 _ _ rfl rfl H.out.at1 HL.out) rfl ⟨by rw [HV.out,HE.out];first | done | rfl,H.out.below⟩
 · have HV:=hidp (show hsV s=z32 from if_neg h)
   have HE:=hidp (show hsE s=6 from if_neg h)
   have e0:(((s.size:Nat):Int) != 32)=true:=by simp;omega
   have e1:¬ (s.size:Int)=32:=by omega
   clear h
   go_enter Tryz.func131,Tryz.ntmps131
   have tk0:=hT
   go_wp2_with (first|(clear tk0;(refine Mm.new rtH H (some 2) rfl rfl rfl ?_;clear H;intro b2 _ H nw;clear nw);(try simp only [aR]);have tk1:=hT)|(clear tk1;(refine Mm.new rtH H (some 4) rfl rfl rfl ?_;clear H;intro b4 _ H nw;clear nw);(try simp only [aR]);have tk2:=hT)|(clear tk2;(refine Rt.wpL_build rfl 58 _ rfl (u8s z32) (by kernel_rfl) ?_);(try simp only [aR]);have tk3:=hT)|(clear tk3;(refine Mm.put1 rtH H rfl (.tmp 2) (.tmp 8) (u8s z32) rfl rfl rfl rfl (u8_one z32) rfl ?_;clear H;intro _ H st;clear st);(try simp only [aR]);have tk4:=hT))
   try clear tk4
   refine bodyPost_ret (Mm.ret_rowv rtH Tryz.results131 _ b2 _ _ rfl rfl H.out.at1 rfl) rfl ⟨by rw [HV.out,HE.out];first | done | rfl,H.out.below⟩
theorem eclone_any (w:World) (x:En) (hx:x.ok):Calls Tryz.prog 100 #[.agg x.row.toArray] w fun e w'=>e=.returned (.agg x.row.toArray)∧Below w.heap.size w w':=by
 have H:=hidp (Mm.M.nil w)
 have HP:=hidp hx.p
 have HZ:=hidp (show x.r.size≤281474976710656∧x.v.size≤281474976710656∧x.g.size≤281474976710656 from ⟨by have:=hx.r;omega,by have:=hx.v;omega,by have:=hx.g;omega⟩)
 clear hx
 go_enter Tryz.func100,Tryz.ntmps100
 have tk0:=hT
 go_wp2_with (first|(clear tk0;(refine Mm.box 103 H rfl (.tmp 0) rfl x.row rfl ?_;clear H;intro b1 _ H nw;clear nw);(try simp only [aR]);have tk1:=hT)|(clear tk1;(refine Mm.new rtE H (some 2) rfl rfl rfl ?_;clear H;intro b2 _ H nw;clear nw);(try simp only [aR]);have tk2:=hT)|(clear tk2;(refine Mm.ld1 naS H rfl (.tmp 3) 0 (.string x.r) rfl rfl (En.get0 _) ?_);(try simp only [aR]);have tk3:=hT)|(clear tk3;(go_at_call 69;refine (strClone_any x.r _ HZ.out.1).mono ?_;rintro e _ ⟨rfl,hb⟩;replace H:=hidp (H.out.call hb);clear hb);(try simp only [aR]);have tk4:=hT)|(clear tk4;(refine Mm.putF1 H rfl 9 (.tmp 6) (.tmp 5) 0 (.string x.r) rfl rfl rfl (by kernel_rfl) rfl (by rw [En.len HP.out];decide) ?_;intro _ H2 st;clear st H;rw [En.same0] at H2;have H:=H2;clear H2);(try simp only [aR]);have tk5:=hT)|(clear tk5;(refine Mm.ld1 naS H rfl (.tmp 7) 35 (.string x.v) rfl rfl (En.get35 HP.out) ?_);(try simp only [aR]);have tk6:=hT)|(clear tk6;(go_at_call 69;refine (strClone_any x.v _ HZ.out.2.1).mono ?_;rintro e _ ⟨rfl,hb⟩;replace H:=hidp (H.out.call hb);clear hb);(try simp only [aR]);have tk7:=hT)|(clear tk7;(refine Mm.putF1 H rfl 9 (.tmp 10) (.tmp 9) 35 (.string x.v) rfl rfl rfl (by kernel_rfl) rfl (by rw [En.len HP.out];decide) ?_;intro _ H2 st;clear st H;rw [En.same35 HP.out] at H2;have H:=H2;clear H2);(try simp only [aR]);have tk8:=hT)|(clear tk8;(refine Mm.ld1 naS H rfl (.tmp 11) 36 (.string x.g) rfl rfl (En.get36 HP.out) ?_);(try simp only [aR]);have tk9:=hT)|(clear tk9;(go_at_call 69;refine (strClone_any x.g _ HZ.out.2.2).mono ?_;rintro e _ ⟨rfl,hb⟩;replace H:=hidp (H.out.call hb);clear hb);(try simp only [aR]);have tk10:=hT)|(clear tk10;(refine Mm.putF1 H rfl 9 (.tmp 14) (.tmp 13) 36 (.string x.g) rfl rfl rfl (by kernel_rfl) rfl (by rw [En.len HP.out];decide) ?_;intro _ H2 st;clear st H;rw [En.same36 HP.out] at H2;have H:=H2;clear H2);(try simp only [aR]);have tk11:=hT)|(clear tk11;(refine Mm.get1 rtE H rfl (.tmp 1) rfl rfl (En.len HP.out) ?_);(try simp only [aR]);have tk12:=hT)|(clear tk12;(refine Mm.put0 rtE H rfl (.tmp 2) (.tmp 15) x.row rfl rfl rfl (En.len HP.out) (En.one x) (En.len (rfl:zEn.p.length=32)) ?_;clear H;intro _ H st;clear st);(try simp only [aR]);have tk13:=hT))
 try clear tk13
 refine bodyPost_ret (Mm.ret_row rtE Tryz.results100 _ b2 _ rfl H.out.at0 (En.len HP.out)) rfl ⟨rfl,H.out.below⟩
theorem eE_of {x:En} (h:¬ eOk x=true):eE x=2:=by unfold eE;rw [if_neg h]
theorem echeck_any (w:World) (x:En) (hx:x.ok) (hI:IT w):Calls Tryz.prog 103 #[.agg x.row.toArray] w fun e w'=>e=.returned (.int .i64 (eE x))∧Below w.heap.size w w':=by
 have H:=hidp (Mm.M.nil w)
 have HP:=hidp hx.p
 have cr:=hidp (fun W (h:IT W)=>room_any W x.r (by have:=hx.r;omega) h)
 have HI:=hidp hI
 clear hx hI
 have HOK:=hidp (show eOk x=((who 2 x.r).isSome && cnt x.e && cnt x.i && decide (x.v.size≤8192) && decide (x.g.size≤8192)) from rfl)
 cases hw:who 2 x.r with
 | none =>
   have HF:=hidp (show eE x=2 from eE_of (by rw [HOK.out,hw];simp))
   rw [hw] at cr;unfold whoV at cr
   clear hw
   go_enter Tryz.func103,Tryz.ntmps103
   have tk0:=hT
   go_wp2_with (first|(clear tk0;(refine Mm.box 103 H rfl (.tmp 0) rfl x.row rfl ?_;clear H;intro b1 _ H nw;clear nw);(try simp only [aR]);have tk1:=hT)|(clear tk1;(refine Mm.ld0 naS H rfl (.tmp 6) 0 (.string x.r) rfl rfl (En.get0 _) ?_);(try simp only [aR]);have tk2:=hT)|(clear tk2;(go_at_call 105;refine (cr.out _ (HI.out.below H.out.below (Nat.le_refl _))).mono ?_;rintro e _ ⟨rfl,hb⟩;replace H:=hidp (H.out.call hb);clear hb);(try simp only [aR]);have tk3:=hT))
   try clear tk3
   go_ret
   exact ⟨by rw [HF.out];first | done | rfl,H.out.below⟩
 | some nn =>
   rw [hw] at cr;unfold whoV at cr
   cases he:cnt x.e with
   | false =>
     have HF:=hidp (show eE x=2 from eE_of (by rw [HOK.out,he];simp))
     clear hw
     go_enter Tryz.func103,Tryz.ntmps103
     have tk0:=hT
     go_wp2_with (first|(clear tk0;(refine Mm.box 103 H rfl (.tmp 0) rfl x.row rfl ?_;clear H;intro b1 _ H nw;clear nw);(try simp only [aR]);have tk1:=hT)|(clear tk1;(refine Mm.ld0 naS H rfl (.tmp 6) 0 (.string x.r) rfl rfl (En.get0 _) ?_);(try simp only [aR]);have tk2:=hT)|(clear tk2;(go_at_call 105;refine (cr.out _ (HI.out.below H.out.below (Nat.le_refl _))).mono ?_;rintro e _ ⟨rfl,hb⟩;replace H:=hidp (H.out.call hb);clear hb);(try simp only [aR]);have tk3:=hT)|(clear tk3;(refine Mm.ld0 naI H rfl (.tmp 14) 1 (.int .i64 x.e) rfl rfl (En.get1 _) ?_);(try simp only [aR]);have tk4:=hT)|(clear tk4;(go_at_call 147;refine (counts_any _ x.e).mono ?_;rintro e _ ⟨rfl,rfl⟩);(try simp only [aR]);have tk5:=hT))
     try clear tk5
     go_ret
     exact ⟨by rw [HF.out];first | done | rfl,H.out.below⟩
   | true =>
     cases hi:cnt x.i with
     | false =>
       have HF:=hidp (show eE x=2 from eE_of (by rw [HOK.out,hi];simp))
       clear hw
       go_enter Tryz.func103,Tryz.ntmps103
       have tk0:=hT
       go_wp2_with (first|(clear tk0;(refine Mm.box 103 H rfl (.tmp 0) rfl x.row rfl ?_;clear H;intro b1 _ H nw;clear nw);(try simp only [aR]);have tk1:=hT)|(clear tk1;(refine Mm.ld0 naS H rfl (.tmp 6) 0 (.string x.r) rfl rfl (En.get0 _) ?_);(try simp only [aR]);have tk2:=hT)|(clear tk2;(go_at_call 105;refine (cr.out _ (HI.out.below H.out.below (Nat.le_refl _))).mono ?_;rintro e _ ⟨rfl,hb⟩;replace H:=hidp (H.out.call hb);clear hb);(try simp only [aR]);have tk3:=hT)|(clear tk3;(refine Mm.ld0 naI H rfl (.tmp 14) 1 (.int .i64 x.e) rfl rfl (En.get1 _) ?_);(try simp only [aR]);have tk4:=hT)|(clear tk4;(go_at_call 147;refine (counts_any _ x.e).mono ?_;rintro e _ ⟨rfl,rfl⟩);(try simp only [aR]);have tk5:=hT)|(clear tk5;(refine Mm.ld0 naI H rfl (.tmp 20) 2 (.int .i64 x.i) rfl rfl (En.get2 _) ?_);(try simp only [aR]);have tk6:=hT)|(clear tk6;(go_at_call 147;refine (counts_any _ x.i).mono ?_;rintro e _ ⟨rfl,rfl⟩);(try simp only [aR]);have tk7:=hT))
       try clear tk7
       go_ret
       exact ⟨by rw [HF.out];first | done | rfl,H.out.below⟩
     | true =>
       by_cases hv:x.v.size≤8192
       · have e3:decide ((x.v.size:Int) > 8192)=false:=by simp;omega
         have n3:¬ (8192:Int)<(x.v.size:Int):=by omega
         by_cases hg:x.g.size≤8192
         · have e4:decide ((x.g.size:Int) > 8192)=false:=by simp;omega
           have n4:¬ (8192:Int)<(x.g.size:Int):=by omega
           have HF:=hidp (show eE x=0 from eE_yes (by rw [HOK.out,hw,he,hi];simp [hv,hg]))
           clear hw hv hg
           go_enter Tryz.func103,Tryz.ntmps103
           have tk0:=hT
           go_wp2_with (first|(clear tk0;(refine Mm.box 103 H rfl (.tmp 0) rfl x.row rfl ?_;clear H;intro b1 _ H nw;clear nw);(try simp only [aR]);have tk1:=hT)|(clear tk1;(refine Mm.ld0 naS H rfl (.tmp 6) 0 (.string x.r) rfl rfl (En.get0 _) ?_);(try simp only [aR]);have tk2:=hT)|(clear tk2;(go_at_call 105;refine (cr.out _ (HI.out.below H.out.below (Nat.le_refl _))).mono ?_;rintro e _ ⟨rfl,hb⟩;replace H:=hidp (H.out.call hb);clear hb);(try simp only [aR]);have tk3:=hT)|(clear tk3;(refine Mm.ld0 naI H rfl (.tmp 14) 1 (.int .i64 x.e) rfl rfl (En.get1 _) ?_);(try simp only [aR]);have tk4:=hT)|(clear tk4;(go_at_call 147;refine (counts_any _ x.e).mono ?_;rintro e _ ⟨rfl,rfl⟩);(try simp only [aR]);have tk5:=hT)|(clear tk5;(refine Mm.ld0 naI H rfl (.tmp 20) 2 (.int .i64 x.i) rfl rfl (En.get2 _) ?_);(try simp only [aR]);have tk6:=hT)|(clear tk6;(go_at_call 147;refine (counts_any _ x.i).mono ?_;rintro e _ ⟨rfl,rfl⟩);(try simp only [aR]);have tk7:=hT)|(clear tk7;(refine Mm.ld0 naS H rfl (.tmp 26) 35 (.string x.v) rfl rfl (En.get35 HP.out) ?_);(try simp only [aR]);have tk8:=hT)|(clear tk8;(refine Mm.ld0 naS H rfl (.tmp 32) 36 (.string x.g) rfl rfl (En.get36 HP.out) ?_);(try simp only [aR]);have tk9:=hT))
           try clear tk9
           go_ret
           exact ⟨by rw [HF.out];first | done | rfl,H.out.below⟩
         · have e4:decide ((x.g.size:Int) > 8192)=true:=by simp;omega
           have n4:(8192:Int)<(x.g.size:Int):=by omega
           have HF:=hidp (show eE x=2 from eE_of (by rw [HOK.out];simp [hg]))
           clear hw hv hg
           go_enter Tryz.func103,Tryz.ntmps103
           have tk0:=hT
           go_wp2_with (first|(clear tk0;(refine Mm.box 103 H rfl (.tmp 0) rfl x.row rfl ?_;clear H;intro b1 _ H nw;clear nw);(try simp only [aR]);have tk1:=hT)|(clear tk1;(refine Mm.ld0 naS H rfl (.tmp 6) 0 (.string x.r) rfl rfl (En.get0 _) ?_);(try simp only [aR]);have tk2:=hT)|(clear tk2;(go_at_call 105;refine (cr.out _ (HI.out.below H.out.below (Nat.le_refl _))).mono ?_;rintro e _ ⟨rfl,hb⟩;replace H:=hidp (H.out.call hb);clear hb);(try simp only [aR]);have tk3:=hT)|(clear tk3;(refine Mm.ld0 naI H rfl (.tmp 14) 1 (.int .i64 x.e) rfl rfl (En.get1 _) ?_);(try simp only [aR]);have tk4:=hT)|(clear tk4;(go_at_call 147;refine (counts_any _ x.e).mono ?_;rintro e _ ⟨rfl,rfl⟩);(try simp only [aR]);have tk5:=hT)|(clear tk5;(refine Mm.ld0 naI H rfl (.tmp 20) 2 (.int .i64 x.i) rfl rfl (En.get2 _) ?_);(try simp only [aR]);have tk6:=hT)|(clear tk6;(go_at_call 147;refine (counts_any _ x.i).mono ?_;rintro e _ ⟨rfl,rfl⟩);(try simp only [aR]);have tk7:=hT)|(clear tk7;(refine Mm.ld0 naS H rfl (.tmp 26) 35 (.string x.v) rfl rfl (En.get35 HP.out) ?_);(try simp only [aR]);have tk8:=hT)|(clear tk8;(refine Mm.ld0 naS H rfl (.tmp 32) 36 (.string x.g) rfl rfl (En.get36 HP.out) ?_);(try simp only [aR]);have tk9:=hT))
           try clear tk9
           go_ret
           exact ⟨by rw [HF.out];first | done | rfl,H.out.below⟩
       · have e3:decide ((x.v.size:Int) > 8192)=true:=by simp;omega
         have n3:(8192:Int)<(x.v.size:Int):=by omega
         have HF:=hidp (show eE x=2 from eE_of (by rw [HOK.out];simp [hv]))
         clear hw hv
         go_enter Tryz.func103,Tryz.ntmps103
         have tk0:=hT
         go_wp2_with (first|(clear tk0;(refine Mm.box 103 H rfl (.tmp 0) rfl x.row rfl ?_;clear H;intro b1 _ H nw;clear nw);(try simp only [aR]);have tk1:=hT)|(clear tk1;(refine Mm.ld0 naS H rfl (.tmp 6) 0 (.string x.r) rfl rfl (En.get0 _) ?_);(try simp only [aR]);have tk2:=hT)|(clear tk2;(go_at_call 105;refine (cr.out _ (HI.out.below H.out.below (Nat.le_refl _))).mono ?_;rintro e _ ⟨rfl,hb⟩;replace H:=hidp (H.out.call hb);clear hb);(try simp only [aR]);have tk3:=hT)|(clear tk3;(refine Mm.ld0 naI H rfl (.tmp 14) 1 (.int .i64 x.e) rfl rfl (En.get1 _) ?_);(try simp only [aR]);have tk4:=hT)|(clear tk4;(go_at_call 147;refine (counts_any _ x.e).mono ?_;rintro e _ ⟨rfl,rfl⟩);(try simp only [aR]);have tk5:=hT)|(clear tk5;(refine Mm.ld0 naI H rfl (.tmp 20) 2 (.int .i64 x.i) rfl rfl (En.get2 _) ?_);(try simp only [aR]);have tk6:=hT)|(clear tk6;(go_at_call 147;refine (counts_any _ x.i).mono ?_;rintro e _ ⟨rfl,rfl⟩);(try simp only [aR]);have tk7:=hT)|(clear tk7;(refine Mm.ld0 naS H rfl (.tmp 26) 35 (.string x.v) rfl rfl (En.get35 HP.out) ?_);(try simp only [aR]);have tk8:=hT))
         try clear tk8
         go_ret
         exact ⟨by rw [HF.out];first | done | rfl,H.out.below⟩
theorem etext_any (w:World) (x:En) (hx:x.ok) (hI:IT w):Calls Tryz.prog 51 #[.agg x.row.toArray] w fun e w'=>e=.returned (.tuple #[.string (eT x),.int .i64 (eE x)])∧Below w.heap.size w w':=by
 have H:=hidp (Mm.M.nil w)
 have HP:=hidp hx.p
 have cc:=hidp (fun W (h:IT W)=>echeck_any W x hx h)
 have HI:=hidp hI;clear hI hx
 cases hok:eOk x with
 | false =>
   rw [eE_no hok] at cc ⊢
   rw [eT_no hok]
   clear hok
   go_enter Tryz.func51,Tryz.ntmps51
   have tk0:=hT
   go_wp2_with (first|(clear tk0;(refine Mm.box 103 H rfl (.tmp 0) rfl x.row rfl ?_;clear H;intro b1 _ H nw;clear nw);(try simp only [aR]);have tk1:=hT)|(clear tk1;(refine Mm.get0 rtE H rfl (.tmp 1) rfl rfl (En.len HP.out) ?_);(try simp only [aR]);have tk2:=hT)|(clear tk2;(go_at_call 103;refine (cc.out _ (HI.out.below H.out.below (Nat.le_refl _))).mono ?_;rintro e _ ⟨rfl,hb⟩;replace H:=hidp (H.out.call hb);clear cc;clear hb);(try simp only [aR]);have tk3:=hT))
   try clear tk3
   go_ret2
   exact ⟨rfl,H.out.below⟩
 | true =>
   rw [eE_yes hok] at cc ⊢
   obtain ⟨-,h2,h3,-,-⟩:=eOk_parts hok
   obtain ⟨ne,hne⟩:=Int.eq_ofNat_of_zero_le h2.1
   obtain ⟨ni,hni⟩:=Int.eq_ofNat_of_zero_le h3.1
   have hlok:=eL_ok hok HP.out
   have hT:eT x=listS (eL x)∧(0:Int)=listE (eL x):=by rw [eT_yes hok,listS_yes hlok,listE_yes hlok];exact ⟨rfl,rfl⟩
   have hL:eL x=[wEntry,x.r,mkS (encN ne),mkS (encN ni),mkS x.p,x.v]:=by unfold eL;rw [hne,hni];rfl
   have HE1:=hidp (show x.row[1]?=some (.int .i64 (ne:Int)) from by rw [En.get1,hne])
   have HI1:=hidp (show x.row[2]?=some (.int .i64 (ni:Int)) from by rw [En.get2,hni])
   have ce:=hidp (fun W=>num_any W ne (by omega))
   rw [numS_yes (by omega),numE_yes (by omega)] at ce
   have ci:=hidp (fun W=>num_any W ni (by omega))
   rw [numS_yes (by omega),numE_yes (by omega)] at ci
   have w1:IntKind.u64.wrap (ne:Int)=(ne:Int):=by unfold IntKind.wrap;simp [IntKind.bits,IntKind.signed];omega
   have w2:IntKind.u64.wrap (ni:Int)=(ni:Int):=by unfold IntKind.wrap;simp [IntKind.bits,IntKind.signed];omega
   rw [hL] at hlok hT
   have cl:=hidp (fun W v (hat:StrsAt W v [wEntry,x.r,mkS (encN ne),mkS (encN ni),mkS x.p,x.v])=>list_any W v _ hat (by simp) (fun s hs=>by have:=hlok.2 s hs;omega))
   rw [← hT.1,← hT.2] at cl
   obtain ⟨T,hTT⟩:∃ T,eT x=T:=⟨_,rfl⟩
   rw [hTT] at cl ⊢
   clear hok h2 h3 hne hni hlok hT hL hTT
   go_enter Tryz.func51,Tryz.ntmps51
   have tk0:=hT
   go_wp2_with (first|(clear tk0;(refine Mm.box 103 H rfl (.tmp 0) rfl x.row rfl ?_;clear H;intro b1 _ H nw;clear nw);(try simp only [aR]);have tk1:=hT)|(clear tk1;(refine Mm.get0 rtE H rfl (.tmp 1) rfl rfl (En.len HP.out) ?_);(try simp only [aR]);have tk2:=hT)|(clear tk2;(go_at_call 103;refine (cc.out _ (HI.out.below H.out.below (Nat.le_refl _))).mono ?_;rintro e _ ⟨rfl,hb⟩;replace H:=hidp (H.out.call hb);clear cc;clear hb);(try simp only [aR]);have tk3:=hT)|(clear tk3;(refine Mm.ld0 naI H rfl (.tmp 15) 1 (.int .i64 (ne:Int)) rfl rfl HE1.out ?_);(try simp only [aR]);have tk4:=hT)|(clear tk4;(go_at_call 66;refine (ce.out _).mono ?_;rintro e _ ⟨rfl,hb⟩;replace H:=hidp (H.out.call hb);clear hb);(try simp only [aR]);have tk5:=hT)|(clear tk5;(refine Mm.ld0 naI H rfl (.tmp 22) 2 (.int .i64 (ni:Int)) rfl rfl HI1.out ?_);(try simp only [aR]);have tk6:=hT)|(clear tk6;(go_at_call 66;refine (ci.out _).mono ?_;rintro e _ ⟨rfl,hb⟩;replace H:=hidp (H.out.call hb);clear hb);(try simp only [aR]);have tk7:=hT))
   try clear tk7
   refine Mm.region H (.take 0 (.take 1 (.take 2 (.take 3 (.take 4 (.take 5 (.take 6 (.take 7 (.take 8 (.one 9 (.one 10 (.take 11 (.take 12 (.take 13 (.take 14 .done))))))))))))))) (by kernel_rfl) (by kernel_rfl) (by simp [Scr.depth]) (by kernel_rfl) ?_
   clear H
   intro _ H hb
   clear hb
   apply s_val
   case ho | hw=>rfl
   case hv=>intro w hw;go_simp;first | done | rfl
   simp only [aS]
   refine Mm.sld0 naS (fun w h=>h) rfl rfl (.tmp 28) 0 (.string x.r) rfl rfl (En.get0 _) ?_
   iterate 3
    simp only [aS]
    apply s_val
    case ho | hw=>rfl
    case hv=>intro w hw;go_simp;first | done | rfl
   simp only [aS]
   refine s_slc rfl rfl (.tmp 32) rfl b1 3 rfl ?_
   simp only [aS]
   refine s_cnv rfl rfl (.tmp 33) rfl _ (mkS x.p) rfl (fun W hW=>conv32 W b1 x HP.out hW.at0) ?_
   simp only [aS]
   apply s_val
   case ho | hw=>rfl
   case hv=>intro w hw;go_simp;first | done | rfl
   simp only [aS]
   refine Mm.sld0 naS (fun w h=>h) rfl rfl (.tmp 35) 35 (.string x.v) rfl rfl (En.get35 HP.out) ?_
   simp only [aS]
   refine o_bsS6 H (fun W h=>h) rfl rfl _ _ _ _ _ _ wEntry x.r (mkS (encN ne)) (mkS (encN ni)) (mkS x.p) x.v rfl rfl rfl rfl rfl rfl rfl ?_
   clear H
   intro b9 _ H nw
   have hb:=nw.below
   clear hb nw
   simp only [aS]
   have hsl:=(Sl.own_arr (B:=0) (row:=strV [wEntry,x.r,mkS (encN ne),mkS (encN ni),mkS x.p,x.v]) H.out.at0 (Nat.zero_le _) (by simp [strV])).strs
   refine Mm.o_callH (v:=.tuple #[.string T,.int .i64 0]) H (fun W h=>h.tail) rfl rfl 67 (#[.slice (some ⟨b9,0,none⟩) 6 6]) (by go_simp;first | done | rfl) (cl.out _ _ hsl) ?_
   clear H
   intro _ H hb
   clear hsl cl
   clear hb
   iterate 4
    simp only [aS]
    apply s_val
    case ho | hw=>rfl
    case hv=>intro w hw;go_simp;first | done | rfl
   simp only [aS]
   refine NoPanic.normal ?_
   go_wp2
   go_ret2
   exact ⟨rfl,H.out.below⟩
end Go.Proofs.YtokakgjcegmabaaGreatDoor.En
