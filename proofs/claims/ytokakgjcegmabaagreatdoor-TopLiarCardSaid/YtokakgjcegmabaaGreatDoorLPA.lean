import Derived.Test.YtokakgjcegmabaaGreatDoorLPM
import Derived.Test.YtokakgjcegmabaaGreatDoorLN
set_option linter.unusedVariables false
set_option linter.unusedSimpArgs false
set_option maxHeartbeats 64000000
set_option maxRecDepth 100000
namespace Go.Proofs.YtokakgjcegmabaaGreatDoor.Pf
open Go.RowKit
open List (getElem_toArray getElem_cons_zero getElem_cons_succ setIfInBounds_toArray set_cons_zero set_cons_succ)
open Hd
open Ho (inE inV in_zero in_not al_sz allInt_any)
open En (eOk eE eT eE_yes eE_no esmV er er_some erV erE eread_any En naI naS)
theorem rtP:Rt.RT Tryz.prog 65 5 [.int .i64 0,.string ⟨#[]⟩,.string ⟨#[]⟩,.string ⟨#[]⟩,.string ⟨#[]⟩]:=⟨rfl,.inl ⟨_,Tryz.underlying65⟩,by kernel_rfl⟩
theorem pr_cells {W:World} {b:Nat} {s:Int} {a sa c sc:ByteArray} (h:Arr W b 65 [.int .i64 s,.string a,.string sa,.string c,.string sc]) :
 W.cell? ⟨b,0,none⟩=some (.int .i64 s)∧W.cell? ⟨b,1,none⟩=some (.string a)∧W.cell? ⟨b,2,none⟩=some (.string sa)∧W.cell? ⟨b,3,none⟩=some (.string c)∧W.cell? ⟨b,4,none⟩=some (.string sc) :=
 ⟨h.cell 0 (by simp),h.cell 1 (by simp),h.cell 2 (by simp),h.cell 3 (by simp),h.cell 4 (by simp)⟩
structure Four (w:World) (g off:Nat) (x y z u:ByteArray):Prop where
 c1:w.cell? ⟨g,off + 1,none⟩=some (.string x)
 c2:w.cell? ⟨g,off + 2,none⟩=some (.string y)
 c3:w.cell? ⟨g,off + 3,none⟩=some (.string z)
 c4:w.cell? ⟨g,off + 4,none⟩=some (.string u)
theorem en_ok {x:En} (h:eOk x=true) (hp:x.p.length=32):x.ok:=by
 obtain ⟨⟨n,h1⟩,-,-,h4,h5⟩:=En.eOk_parts h
 have:=who_size h1
 exact ⟨by omega,hp,by omega,by omega⟩
theorem syV_g (t:ByteArray):(syV t).g=⟨#[]⟩:=by
 unfold syV
 cases h:says t with
 | some x=>exact (says_ok h).2
 | none=>rfl
theorem syE_or (t:ByteArray):syE t=0∨syE t=6:=by unfold syE;split <;> simp
def zp (x:Hd):Hd:=⟨x.r,x.e,x.i,z32,x.g⟩
def eqJ (x y:Hd):Bool:=(x.r.toList == y.r.toList) && decide (x.e=y.e) && decide (x.i=y.i) && decide (x.p=y.p) && (x.g.toList == y.g.toList)
theorem eqJ_plc {x y:Hd} (hx:x.g=⟨#[]⟩) (hy:y.g=⟨#[]⟩):eqJ x y=(plc x y && decide (x.p=y.p)):=by
 unfold eqJ plc
 rw [hx,hy];simp
theorem eqJ_zp {x y:Hd} (hx:x.g=⟨#[]⟩) (hy:y.g=⟨#[]⟩):eqJ (zp x) (zp y)=plc x y:=by
 unfold eqJ plc zp
 simp only
 rw [hx,hy];simp
theorem eqin_two (W:World) (x y:Hd) (hp:x.p.length=32) (hq:y.p.length=32):(Op.equalIn 10000 67 (.agg x.row.toArray) (.agg y.row.toArray)).run Tryz.prog W=.ok (eqJ x y) W:=by
 have ht:Tryz.prog.underlying 67=some (.struct (Tryz.prog.fieldsOf 67)):=by kernel_rfl
 have hst:Tryz.prog.stoodInHeld 67=false:=by kernel_rfl
 have hu:=Tryz.underlying67
 have hus:=Tryz.underlying9
 have hui:=Tryz.underlying3
 have hl:=Hd.len hp
 have hm:=Hd.len hq
 have r0:x.row[0]'(by omega)=.string x.r:=rfl
 have r1:x.row[1]'(by omega)=.int .i64 x.e:=rfl
 have r2:x.row[2]'(by omega)=.int .i64 x.i:=rfl
 have r35:x.row[35]'(by omega)=.string x.g:=by have:=Hd.get35 hp;rw [List.getElem?_eq_getElem (by omega)] at this;simpa using this
 have r4:List.take 32 (List.drop 3 x.row)=u8s x.p:=by
  rw [Hd.mid,List.take_append_of_le_length (by rw [u8s_length,hp];exact Nat.le_refl _),List.take_of_length_le (by rw [u8s_length,hp];exact Nat.le_refl _)]
 have q0:y.row[0]'(by omega)=.string y.r:=rfl
 have q1:y.row[1]'(by omega)=.int .i64 y.e:=rfl
 have q2:y.row[2]'(by omega)=.int .i64 y.i:=rfl
 have q35:y.row[35]'(by omega)=.string y.g:=by have:=Hd.get35 hq;rw [List.getElem?_eq_getElem (by omega)] at this;simpa using this
 have q4:List.take 32 (List.drop 3 y.row)=u8s y.p:=by
  rw [Hd.mid,List.take_append_of_le_length (by rw [u8s_length,hq];exact Nat.le_refl _),List.take_of_length_le (by rw [u8s_length,hq];exact Nat.le_refl _)]
 have qh:=fun W=>eqin_hd 9997 W x.p y.p hp hq
 have ha:(x.e == y.e)=decide (x.e=y.e):=by rw [Bool.eq_iff_iff];simp
 have hb:(x.i == y.i)=decide (x.i=y.i):=by rw [Bool.eq_iff_iff];simp
 rw [run_equalIn_agg W 9999 _ _ _ ht hst]
 unfold Program.fieldsOf eqJ
 rw [hu]
 go_simp
 (repeat' split) <;> simp [*]
theorem guard_hd:Tryz.prog.eqGuardType Tryz.prog.depth 67=false:=by kernel_rfl
section
variable {ops:Array Oper} {rest:List Oper} {o:Oper} {a:Act} {w w0:World} {N:Nat} {L:List Mm.Bx} {Q:Exit→Act→World→Prop} {S:World→Prop} {k:Nat} {s:Scr} {K:Act→World→Prop}
theorem s_neHd (ho:ops[k]?=some o) (hw:Region.wanted o (yielded ops a.tmps)=true) (x y:Operand) (u:TypeId) (hop:o.op=.binOp .neq 67 x y u)
 (e f:Hd) (he:e.p.length=32) (hf:f.p.length=32) (hx:a.eval x=.agg e.row.toArray) (hy:a.eval y=.agg f.row.toArray) (h:wpScr Tryz.prog ops Q s S (a.put o.dst (.bool (!eqJ e f))) w):wpScr Tryz.prog ops Q (.take k s) S a w :=
 s_val ho hw (fun w _=>by
  unfold execOp
  simp only [hop,hx,hy,Sem.run_bind,run_eqGuard_agg (P:=Tryz.prog) _ _ _ _ _ _ _ guard_hd,run_neq_struct,eqin_two w e f he hf,Result.andThen_ok,Sem.run_pure]) h
theorem wpL_eqHd (hw:Region.wanted o (yielded ops a.tmps)=true) (x y:Operand) (u:TypeId) (hop:o.op=.binOp .eql 67 x y u)
 (e f:Hd) (he:e.p.length=32) (hf:f.p.length=32) (hx:a.eval x=.agg e.row.toArray) (hy:a.eval y=.agg f.row.toArray) (h:wpList Tryz.prog ops Q rest (a.put o.dst (.bool (eqJ e f))) w):wpList Tryz.prog ops Q (o :: rest) a w:=by
 refine wpList_step fun K hK=>?_
 rw [if_pos hw]
 have:=hK _ _ h
 unfold Oper.wp execOp
 simp only [hop,hx,hy,Sem.run_bind,run_eqGuard_agg (P:=Tryz.prog) _ _ _ _ _ _ _ guard_hd,run_eql_struct,eqin_two w e f he hf,Result.andThen_ok,Sem.run_pure]
 exact this
theorem wpL_putP1 {y0:Mm.Bx} {b:Nat} {x:Hd} (H:Hid (Mm.M N w0 w (y0 :: ⟨b,67,x.row⟩ :: L))) (hgd:o.guard=none) (p y:Operand) (ho:o.op=.store 58 p y) (l:List UInt8) (hp:x.p.length=32) (hl:l.length=32) (hx:a.eval p=.pointer (some ⟨b,3,none⟩)) (hy:a.eval y=.agg (u8s l).toArray)
 (h:∀ W,Hid (Mm.M N w0 W (y0 :: ⟨b,67,(⟨x.r,x.e,x.i,l,x.g⟩:Hd).row⟩ :: L))→wpList Tryz.prog ops Q rest (a.put o.dst undef) W):wpList Tryz.prog ops Q (o :: rest) a w:=by
 have hg:=H.out.at1
 have hle:3 + (u8s l).length≤x.row.length:=by rw [u8s_length,hl,Hd.len hp];decide
 obtain ⟨h1,h2⟩:=setCells_arr b 67 (u8s l) 3 w x.row hg hle
 have e:x.row.take 3++u8s l++x.row.drop (3 + (u8s l).length)=(⟨x.r,x.e,x.i,l,x.g⟩:Hd).row:=by
  rw [show x.row.take 3=[.string x.r,.int .i64 x.e,.int .i64 x.i] from rfl,← List.drop_drop,Hd.mid,List.drop_left' (by rw [u8s_length,u8s_length,hl,hp])]
  rfl
 rw [e] at h1
 refine wpList_store_mid hgd 58 p y ho b 3 (u8s l).toArray hx hy ?_ (hash_size hl) (u8s_one _) (h _ (hidp (H.out.put1 h1 ⟨h2.size,h2.other,h2.below⟩)))
 intro j hj
 have hj:j<(u8s l).length:=by simpa using hj
 refine ⟨?_,hg.frozen _⟩
 rw [hg.cell (3 + j) (by omega)];rfl
theorem run_bsE2 (z0 z1:Int) (w:World):(Instr.buildSlice 204 2 #[(0,.int .i64 z0),(1,.int .i64 z1)]).run Tryz.prog w=.ok (.slice (some ⟨w.heap.size,0,none⟩) 2 2) (w.alloc (.cells #[.int .i64 z0,.int .i64 z1] 29)):=by
 obtain ⟨i0,hi,hz0,hz1,hz2⟩:=info_parts En.infoE
 refine run_buildSlice w 204 29 2 _ _ i0 _ En.tyE hi hz0 (by rw [hz1];omega) (by rw [hz1];omega) ?_
 have hr:Array.range 2=#[0,1]:=by decide
 rw [hz1];simp [Instr.fill,Value.cells,hr]
theorem wpL_bsE2 (H:Hid (Mm.M N w0 w L)) (hw:Region.wanted o (yielded ops a.tmps)=true) (x0 x1:Operand) (z0 z1:Int) (ho:o.op=.buildSlice 204 2 #[(0,x0),(1,x1)]) (hx0:a.eval x0=.int .i64 z0) (hx1:a.eval x1=.int .i64 z1)
 (h:∀ b W,Hid (Mm.M N w0 W (⟨b,29,[.int .i64 z0,.int .i64 z1]⟩ :: L))→Rt.NewAt w W b 29 [.int .i64 z0,.int .i64 z1]→wpList Tryz.prog ops Q rest (a.put o.dst (.slice (some ⟨b,0,none⟩) 2 2)) W):wpList Tryz.prog ops Q (o :: rest) a w:=by
 refine wpList_step fun K hK=>?_
 rw [if_pos hw]
 have n:=Rt.NewAt.mk' w 29 [.int .i64 z0,.int .i64 z1]
 have:=hK _ _ (h _ _ (hidp (H.out.new n)) n)
 unfold Oper.wp execOp
 simp only [ho,List.map_toArray,List.map_cons,List.map_nil,hx0,hx1,Sem.run_bind,run_bsE2 z0 z1 w,Result.andThen_ok]
 exact this
end
def orL:List Int→Int
 | []=>0
 | a :: l=>if a≠0 then a else orL l
theorem orL_at:∀ (l:List Int) (i:Nat),(∀ j,j<i→l.getD j 0=0)→l.getD i 0≠0→orL l=l.getD i 0
 | [],i,_,h=>absurd (by simp) h
 | a :: l, 0, _, h => by
   have h':a≠0:=h
   unfold orL;rw [if_pos h'];rfl
 | a :: l, i + 1, h, hn => by
   have h0:a=0:=h 0 (by omega)
   unfold orL
   rw [if_neg (by simp [h0])]
   exact orL_at l i (fun j hj=>h (j + 1) (by omega)) hn
theorem orL_all:∀ (l:List Int),(∀ j,j<l.length→l.getD j 0=0)→orL l=0
 | [],_=>rfl
 | a :: l, h => by
   have h0:a=0:=h 0 (by simp)
   unfold orL
   rw [if_neg (by simp [h0])]
   exact orL_all l fun j hj=>h (j + 1) (by simp;omega)
theorem orL2_any (w:World) (g:Nat) (a b:Int) (hc:∀ i,i<2→w.cell? ⟨g,i,none⟩=some (.int .i64 (([a,b]:List Int).getD i 0))) :
 Calls Tryz.prog 91 #[.slice (some ⟨g,0,none⟩) 2 2] w fun e w'=>e=.returned (.int .i64 (orL [a,b]))∧w'=w:=by
 have HC:=hidp hc;clear hc
 obtain ⟨K,hK⟩:∃ K,orL [a,b]=K:=⟨_,rfl⟩
 have HAT:=hidp (fun i h hn=>(orL_at [a,b] i h hn).symm.trans hK)
 have HALL:=hidp (fun (h:∀ j,j<2→([a,b]:List Int).getD j 0=0)=>(orL_all [a,b] (fun j hj=>h j (by simpa using hj))).symm.trans hK)
 rw [hK]
 obtain ⟨F,hF⟩:∃ F:Nat→Int,(fun i=>([a,b]:List Int).getD i 0)=F:=⟨_,rfl⟩
 have hF2:∀ i,([a,b]:List Int).getD i 0=F i:=fun i=>congrFun hF i
 simp only [hF2] at HC HAT HALL
 clear hF hF2 hK
 go_enter Tryz.func91,Tryz.ntmps91
 go_wp2
 go_loop [5,8] (fun t5 t8=>∃ i:Nat,t8=.int .i64 (i:Int)∧i≤2∧∀ j,j<i→F j=0) (fun t5 t8=>2 - (intOf t8).toNat)
 case atStart=>exact ⟨0,rfl,by omega,fun j h=>by omega⟩
 case round =>
  obtain ⟨i,rfl,hi,hall⟩:=hrel
  have HP:=hidp hall;clear hall
  by_cases hl:i<2
  · have e0:decide ((i:Int)<2)=true:=by simp;omega
    have c0:(0:Int)≤(i:Int):=by omega
    have c1:(i:Int)<2:=by omega
    have m1:=HC.out i hl
    obtain ⟨X,hX⟩:∃ X,F i=X:=⟨_,rfl⟩
    rw [hX] at m1
    by_cases hx:X=0
    · subst hx
      have HX:=hidp hX;clear hX
      go_wp2
      refine ⟨⟨i + 1,by go_num,by omega,fun j g=>?_⟩,by simp [intOf];omega⟩
      by_cases hj:j=i
      · subst hj;exact HX.out
      · exact HP.out j (by omega)
    · have e1:(X != 0)=true:=by simpa using hx
      have HF:=hidp (HAT.out i HP.out (by rw [hX];exact hx))
      rw [hX] at HF
      clear hX hx
      go_wp2
      go_ret
      exact ⟨by rw [← HF.out];first | done | rfl,rfl⟩
  · have e0:decide ((i:Int)<2)=false:=by simp;omega
    have c1:¬ (i:Int)<2:=by omega
    have HF:=hidp (HALL.out fun j g=>HP.out j (by omega))
    go_wp2
    go_ret
    exact ⟨by rw [← HF.out];first | done | rfl,rfl⟩
theorem arr2c {W:World} {g T:Nat} {a b:Int} (h:Arr W g T [.int .i64 a,.int .i64 b]):∀ i,i<2→W.cell? ⟨g,i,none⟩=some (.int .i64 (([a,b]:List Int).getD i 0)):=by
 intro i hi
 rcases (by omega:i=0∨i=1) with rfl | rfl
 · exact h.cell 0 (by simp)
 · exact h.cell 1 (by simp)
theorem valid_any (w:World) (x:Pr):Calls Tryz.prog 84 #[.agg x.row.toArray] w fun e w'=>e=.returned (.bool (pOk x))∧Below w.heap.size w w':=by
 obtain ⟨s,a,sa,b,sb⟩:=x
 have H:=hidp (Mm.M.nil w)
 show Calls Tryz.prog 84 #[.agg #[.int .i64 s,.string a,.string sa,.string b,.string sb]] w _
 by_cases c0:(0:Int)≤s
 · have d0:decide ((0:Int)≤s)=true:=decide_eq_true c0
   by_cases c1:s≤63
   · have d1:decide (s≤63)=true:=decide_eq_true c1
     by_cases c2:(a.size:Int)≤8192
     · have d2:decide ((a.size:Int)≤8192)=true:=decide_eq_true c2
       by_cases c3:(sa.size:Int)≤8192
       · have d3:decide ((sa.size:Int)≤8192)=true:=decide_eq_true c3
         by_cases c4:(b.size:Int)≤8192
         · have d4:decide ((b.size:Int)≤8192)=true:=decide_eq_true c4
           by_cases c5:(sb.size:Int)≤8192
           · have d5:decide ((sb.size:Int)≤8192)=true:=decide_eq_true c5
             have HF:=hidp (show pOk ⟨s,a,sa,b,sb⟩=true from pOk_iff.2 ⟨⟨c0,c1⟩,by show a.size≤8192;omega,by show sa.size≤8192;omega,by show b.size≤8192;omega,by show sb.size≤8192;omega⟩)
             go_enter Tryz.func84,Tryz.ntmps84
             go_wp2_with (refine Mm.box 65 H rfl (.tmp 0) rfl [.int .i64 s,.string a,.string sa,.string b,.string sb] rfl ?_;clear H;intro b1 _ H nw;clear nw;obtain ⟨x0,x1,x2,x3,x4⟩:=pr_cells H.out.at0)
             go_ret
             exact ⟨by rw [HF.out];first | done | rfl,H.out.below⟩
           · have d5:decide ((sb.size:Int)≤8192)=false:=decide_eq_false c5
             have HF:=hidp (show pOk ⟨s,a,sa,b,sb⟩=false from by rw [Bool.eq_false_iff];intro g;have g2:=pOk_iff.1 g;simp only at g2;omega)
             go_enter Tryz.func84,Tryz.ntmps84
             go_wp2_with (refine Mm.box 65 H rfl (.tmp 0) rfl [.int .i64 s,.string a,.string sa,.string b,.string sb] rfl ?_;clear H;intro b1 _ H nw;clear nw;obtain ⟨x0,x1,x2,x3,x4⟩:=pr_cells H.out.at0)
             go_ret
             exact ⟨by rw [HF.out];first | done | rfl,H.out.below⟩
         · have d4:decide ((b.size:Int)≤8192)=false:=decide_eq_false c4
           have HF:=hidp (show pOk ⟨s,a,sa,b,sb⟩=false from by rw [Bool.eq_false_iff];intro g;have g2:=pOk_iff.1 g;simp only at g2;omega)
           go_enter Tryz.func84,Tryz.ntmps84
           go_wp2_with (refine Mm.box 65 H rfl (.tmp 0) rfl [.int .i64 s,.string a,.string sa,.string b,.string sb] rfl ?_;clear H;intro b1 _ H nw;clear nw;obtain ⟨x0,x1,x2,x3,x4⟩:=pr_cells H.out.at0)
           go_ret
           exact ⟨by rw [HF.out];first | done | rfl,H.out.below⟩
       · have d3:decide ((sa.size:Int)≤8192)=false:=decide_eq_false c3
         have HF:=hidp (show pOk ⟨s,a,sa,b,sb⟩=false from by rw [Bool.eq_false_iff];intro g;have g2:=pOk_iff.1 g;simp only at g2;omega)
         go_enter Tryz.func84,Tryz.ntmps84
         go_wp2_with (refine Mm.box 65 H rfl (.tmp 0) rfl [.int .i64 s,.string a,.string sa,.string b,.string sb] rfl ?_;clear H;intro b1 _ H nw;clear nw;obtain ⟨x0,x1,x2,x3,x4⟩:=pr_cells H.out.at0)
         go_ret
         exact ⟨by rw [HF.out];first | done | rfl,H.out.below⟩
     · have d2:decide ((a.size:Int)≤8192)=false:=decide_eq_false c2
       have HF:=hidp (show pOk ⟨s,a,sa,b,sb⟩=false from by rw [Bool.eq_false_iff];intro g;have g2:=pOk_iff.1 g;simp only at g2;omega)
       go_enter Tryz.func84,Tryz.ntmps84
       go_wp2_with (refine Mm.box 65 H rfl (.tmp 0) rfl [.int .i64 s,.string a,.string sa,.string b,.string sb] rfl ?_;clear H;intro b1 _ H nw;clear nw;obtain ⟨x0,x1,x2,x3,x4⟩:=pr_cells H.out.at0)
       go_ret
       exact ⟨by rw [HF.out];first | done | rfl,H.out.below⟩
   · have d1:decide (s≤63)=false:=decide_eq_false c1
     have HF:=hidp (show pOk ⟨s,a,sa,b,sb⟩=false from by rw [Bool.eq_false_iff];intro g;have g2:=pOk_iff.1 g;simp only at g2;omega)
     go_enter Tryz.func84,Tryz.ntmps84
     go_wp2_with (refine Mm.box 65 H rfl (.tmp 0) rfl [.int .i64 s,.string a,.string sa,.string b,.string sb] rfl ?_;clear H;intro b1 _ H nw;clear nw;obtain ⟨x0,x1,x2,x3,x4⟩:=pr_cells H.out.at0)
     go_ret
     exact ⟨by rw [HF.out];first | done | rfl,H.out.below⟩
 · have d0:decide ((0:Int)≤s)=false:=decide_eq_false c0
   have HF:=hidp (show pOk ⟨s,a,sa,b,sb⟩=false from by rw [Bool.eq_false_iff];intro g;have g2:=pOk_iff.1 g;simp only at g2;omega)
   go_enter Tryz.func84,Tryz.ntmps84
   go_wp2_with (refine Mm.box 65 H rfl (.tmp 0) rfl [.int .i64 s,.string a,.string sa,.string b,.string sb] rfl ?_;clear H;intro b1 _ H nw;clear nw;obtain ⟨x0,x1,x2,x3,x4⟩:=pr_cells H.out.at0)
   go_ret
   exact ⟨by rw [HF.out];first | done | rfl,H.out.below⟩
theorem place_any (w:World) (x:Hd) (hp:x.p.length=32):Calls Tryz.prog 92 #[.agg x.row.toArray] w fun e w'=>e=.returned (.agg (zp x).row.toArray)∧Below w.heap.size w w':=by
 have H:=hidp (Mm.M.nil w)
 have HP:=hidp hp
 have HPZ:=hidp (show (zp x).p.length=32 from rfl)
 clear hp
 go_enter Tryz.func92,Tryz.ntmps92
 have tk0:=hT
 go_wp2_with (first|(clear tk0;(refine Mm.box 67 H rfl (.tmp 0) rfl x.row rfl ?_;clear H;intro b1 _ H nw;clear nw);(try simp only [aR]);have tk1:=hT)|(clear tk1;(refine Mm.new rtHd H (some 2) rfl rfl rfl ?_;clear H;intro b2 _ H nw;clear nw);(try simp only [aR]);have tk2:=hT)|(clear tk2;(refine Rt.wpL_build rfl 58 _ rfl (u8s z32) (by kernel_rfl) ?_);(try simp only [aR]);have tk3:=hT)|(clear tk3;(refine wpL_putP1 H rfl (.tmp 4) (.tmp 3) rfl z32 HP.out rfl rfl rfl ?_;clear H;intro _ H);(try simp only [aR]);have tk4:=hT)|(clear tk4;(refine Mm.get1 rtHd H rfl (.tmp 1) rfl rfl (Hd.len HPZ.out) ?_);(try simp only [aR]);have tk5:=hT)|(clear tk5;(refine Mm.put0 rtHd H rfl (.tmp 2) (.tmp 5) (zp x).row rfl rfl rfl (Hd.len HPZ.out) (Hd.one (zp x)) (Hd.len (rfl:zHd.p.length=32)) ?_;clear H;intro _ H st;clear st);(try simp only [aR]);have tk6:=hT))
 try clear tk6
 refine bodyPost_ret (Mm.ret_row rtHd Tryz.results92 _ b2 _ rfl H.out.at0 (Hd.len HPZ.out)) rfl ⟨rfl,H.out.below⟩
theorem says_any (w:World) (t:ByteArray) (ht:t.size≤281474976710656) (hI:IT w) (hK:KT w):Calls Tryz.prog 31 #[.string t] w fun e w'=>e=.returned (.tuple #[.agg (syV t).row.toArray,.int .i64 (syE t)])∧Below w.heap.size w w':=by
 have hkp:=hK.pos;have HI:=hidp hI;have HK:=hidp hK;clear hI hK
 have H:=hidp (Mm.M.nil w)
 have c1:=hidp (fun W h=>eread_any W t ht h)
 have hql:(erV t).p.length=32:=by
  unfold erV
  cases h:er t with
  | some x=>exact (er_some h).2.2.2
  | none=>rfl
 obtain ⟨y,hy0⟩:∃ y,erV t=y:=⟨_,rfl⟩
 rw [hy0] at c1 hql
 have HQ:=hidp hql;clear hql
 obtain ⟨Y,hY0⟩:∃ Y,syV t=Y:=⟨_,rfl⟩
 have HY:=hidp (show Y.p.length=32 from by rw [← hY0];exact syV_len t)
 cases he:er t with
 | some e =>
   have hye:y=e:=by rw [← hy0];unfold erV;rw [he];rfl
   have hee:erE t=0:=by unfold erE;rw [he];rfl
   have hk:=er_some he
   have hy:y.ok:=by rw [hye];exact en_ok hk.1 hk.2.2.2
   have c2:=hidp (fun W h k=>jof_any W y hy h k)
   have e1:jOf y=Y:=by rw [← hY0,hye];unfold syV;rw [says_en he];rfl
   have HV:=hidp hY0
   have HE:=hidp (show syE t=0 from by unfold syE;rw [says_en he];rfl)
   rw [hee] at c1
   rw [eE_yes (by rw [hye];exact hk.1),e1] at c2
   clear he hye hee hk hy e1 hy0 ht hY0
   go_enter Tryz.func31,Tryz.ntmps31
   have tk0:=hT
   go_wp2_with (first|(clear tk0;(refine Mm.new rtHd H (some 2) rfl rfl rfl ?_;clear H;intro b2 _ H nw;clear nw);(try simp only [aR]);have tk1:=hT)|(clear tk1;(go_at_call 79;refine (c1.out _ (HI.out.below H.out.below (Nat.le_refl _))).mono ?_;rintro e _ ⟨rfl,hb⟩;replace H:=hidp (H.out.call hb);clear c1;clear hb);(try simp only [aR]);have tk2:=hT)|(clear tk2;(refine Mm.new En.rtE H (some 4) rfl rfl rfl ?_;clear H;intro b4 _ H nw;clear nw);(try simp only [aR]);have tk3:=hT)|(clear tk3;(refine Mm.put0 En.rtE H rfl (.tmp 4) (.tmp 9) y.row rfl rfl rfl (En.En.len HQ.out) (En.En.one y) (En.En.len (rfl:En.zEn.p.length=32)) ?_;clear H;intro _ H st;clear st);(try simp only [aR]);have tk4:=hT)|(clear tk4;(refine Mm.get0 En.rtE H rfl (.tmp 4) rfl rfl (En.En.len HQ.out) ?_);(try simp only [aR]);have tk5:=hT)|(clear tk5;(go_at_call 49;refine (c2.out _ (HI.out.below H.out.below (Nat.le_refl _)) (HK.out.below H.out.below hkp)).mono ?_;rintro e _ ⟨rfl,hb⟩;replace H:=hidp (H.out.call hb);clear c2;clear hb);(try simp only [aR]);have tk6:=hT)|(clear tk6;(refine Mm.put1 rtHd H rfl (.tmp 2) (.tmp 15) Y.row rfl rfl rfl (Hd.len HY.out) (Hd.one Y) (Hd.len (rfl:zHd.p.length=32)) ?_;clear H;intro _ H st;clear st);(try simp only [aR]);have tk7:=hT))
   try clear tk7
   refine bodyPost_ret (Mm.ret_rowv rtHd Tryz.results31 _ b2 _ _ rfl rfl H.out.at1 (Hd.len HY.out)) rfl ⟨by rw [HV.out,HE.out];first | done | rfl,H.out.below⟩
 | none =>
   have hee:erE t=6:=by unfold erE;rw [he];rfl
   have c2:=hidp (fun W h=>jread_any W t ht h)
   have e1:jrV t=Y:=by rw [← hY0];unfold syV jrV;rw [says_jr he]
   have e2:jrE t=syE t:=by unfold syE jrE;rw [says_jr he]
   have HV:=hidp hY0
   obtain ⟨E2,hE2⟩:∃ E,syE t=E:=⟨_,rfl⟩
   have HE:=hidp hE2
   rw [hee] at c1
   rw [e1,e2,hE2] at c2
   clear he hee e1 e2 hy0 ht hE2 hY0
   go_enter Tryz.func31,Tryz.ntmps31
   have tk0:=hT
   go_wp2_with (first|(clear tk0;(refine Mm.new rtHd H (some 2) rfl rfl rfl ?_;clear H;intro b2 _ H nw;clear nw);(try simp only [aR]);have tk1:=hT)|(clear tk1;(go_at_call 79;refine (c1.out _ (HI.out.below H.out.below (Nat.le_refl _))).mono ?_;rintro e _ ⟨rfl,hb⟩;replace H:=hidp (H.out.call hb);clear c1;clear hb);(try simp only [aR]);have tk2:=hT)|(clear tk2;(refine Mm.new En.rtE H (some 4) rfl rfl rfl ?_;clear H;intro b4 _ H nw;clear nw);(try simp only [aR]);have tk3:=hT)|(clear tk3;(refine Mm.put0 En.rtE H rfl (.tmp 4) (.tmp 9) y.row rfl rfl rfl (En.En.len HQ.out) (En.En.one y) (En.En.len (rfl:En.zEn.p.length=32)) ?_;clear H;intro _ H st;clear st);(try simp only [aR]);have tk4:=hT)|(clear tk4;(go_at_call 80;refine (c2.out _ (HI.out.below H.out.below (Nat.le_refl _))).mono ?_;rintro e _ ⟨rfl,hb⟩;replace H:=hidp (H.out.call hb);clear c2;clear hb);(try simp only [aR]);have tk5:=hT)|(clear tk5;(refine Mm.put1 rtHd H rfl (.tmp 2) (.tmp 19) Y.row rfl rfl rfl (Hd.len HY.out) (Hd.one Y) (Hd.len (rfl:zHd.p.length=32)) ?_;clear H;intro _ H st;clear st);(try simp only [aR]);have tk6:=hT))
   try clear tk6
   refine bodyPost_ret (Mm.ret_rowv rtHd Tryz.results31 _ b2 _ _ rfl rfl H.out.at1 (Hd.len HY.out)) rfl ⟨by rw [HV.out,HE.out];first | done | rfl,H.out.below⟩
theorem check_any (w:World) (v:Value) (gs:List Gr) (hg:GsAt w v gs) (x:Pr) (hx:x.ok) (hI:IT w) (hK:KT w):Calls Tryz.prog 37 #[v,.agg x.row.toArray] w fun e w'=>e=.returned (.int .i64 (ckE gs x))∧Below w.heap.size w w':=by
 obtain ⟨s,a,sa,b,sb⟩:=x
 have hkp:=hK.pos;have HI:=hidp hI;have HK:=hidp hK;clear hI hK
 have HG:=hidp hg;clear hg
 have H:=hidp (Mm.M.nil w)
 obtain ⟨z0,z1,z2,z3⟩:=hx
 simp only at z0 z1 z2 z3
 show Calls Tryz.prog 37 #[v,.agg #[.int .i64 s,.string a,.string sa,.string b,.string sb]] w _
 have cv:=hidp (show ∀ W,Calls Tryz.prog 84 #[.agg #[.int .i64 s,.string a,.string sa,.string b,.string sb]] W (fun e w'=>e=.returned (.bool (pOk ⟨s,a,sa,b,sb⟩))∧Below W.heap.size W w') from fun W=>valid_any W ⟨s,a,sa,b,sb⟩)
 obtain ⟨R,hR⟩:∃ R,ckE gs ⟨s,a,sa,b,sb⟩=R:=⟨_,rfl⟩
 rw [hR]
 unfold ckE at hR
 cases hok:pOk ⟨s,a,sa,b,sb⟩
 case' false =>
  rw [hok] at cv
  rw [if_neg (by rw [hok];decide)] at hR
  have HF:=hidp hR.symm
  clear hR hok z0 z1 z2 z3
 case' true =>
  obtain ⟨-,y1,y2,y3,y4⟩:=pOk_iff.1 hok
  simp only at y1 y2 y3 y4
  rw [hok] at cv
  rw [if_pos hok] at hR
  simp only at hR
  have ca:=hidp (fun W h k=>says_any W a (by omega) h k)
  have cb:=hidp (fun W h k=>says_any W b (by omega) h k)
  obtain ⟨A,hA⟩:∃ A,syV a=A:=⟨_,rfl⟩
  obtain ⟨B,hB⟩:∃ B,syV b=B:=⟨_,rfl⟩
  have HA:=hidp (show A.p.length=32 from by rw [← hA];exact syV_len a)
  have HB:=hidp (show B.p.length=32 from by rw [← hB];exact syV_len b)
  have hga:=syV_g a;have hgb:=syV_g b
  have zA:=syE_or a;have zB:=syE_or b
  rw [hA] at ca hR hga;rw [hB] at cb hR hgb
  obtain ⟨EA,hEA⟩:∃ E,syE a=E:=⟨_,rfl⟩
  obtain ⟨EB,hEB⟩:∃ E,syE b=E:=⟨_,rfl⟩
  rw [hEA] at ca hR zA;rw [hEB] at cb hR zB
  clear hA hB hEA hEB hok
  by_cases hs:EA=0∧EB=0
  case' neg =>
   rw [if_neg hs] at hR
   have HF:=hidp hR.symm
   have EO:=hidp (show orL [EA,EB]=6 from by
    rcases zA with rfl | rfl
    · rcases zB with rfl | rfl
      · exact absurd ⟨rfl,rfl⟩ hs
      · rfl
    · rcases zB with rfl | rfl <;> rfl)
   clear hs zA zB
   clear hR z0 z1 z2 z3 y1 y2 y3 y4 hga hgb
  case' pos =>
   rw [if_pos hs] at hR
   obtain ⟨rfl,rfl⟩:=hs
   clear zA zB
   have EO:=hidp (show orL [0,0]=0 from rfl)
   cases hpl:plc A B
   case' false =>
    rw [if_neg (by rw [hpl];decide)] at hR
    have HF:=hidp hR.symm
    have HPL:=hidp (show (!eqJ (zp A) (zp B))=true from by rw [eqJ_zp hga hgb,hpl];rfl)
    clear hR z0 z1 z2 z3 y1 y2 y3 y4 hga hgb hpl
   case' true =>
    rw [if_pos hpl] at hR
    have HPL:=hidp (show (!eqJ (zp A) (zp B))=false from by rw [eqJ_zp hga hgb,hpl];rfl)
    by_cases hp:A.p=B.p
    case' pos =>
     rw [if_pos hp] at hR
     have HF:=hidp hR.symm
     have HEQ:=hidp (show eqJ A B=true from by rw [eqJ_plc hga hgb,hpl];simp [hp])
     clear hR z0 z1 z2 z3 y1 y2 y3 y4 hga hgb hpl hp
    case' neg =>
     rw [if_neg hp] at hR
     have HEQ:=hidp (show eqJ A B=false from by rw [eqJ_plc hga hgb,hpl];simp [hp])
     unfold vfy at hR
     simp only at hR
     have cw:=hidp (fun W (hg:GsAt W v gs) (hk:KT W)=>bverify_any W v gs hg s A.i a sa (by omega) (by omega) hk)
     have cx:=hidp (fun W (hg:GsAt W v gs) (hk:KT W)=>bverify_any W v gs hg s A.i b sb (by omega) (by omega) hk)
     obtain ⟨E1,hE1⟩:∃ E,bvE gs s A.i a sa=E:=⟨_,rfl⟩
     obtain ⟨E2,hE2⟩:∃ E,bvE gs s A.i b sb=E:=⟨_,rfl⟩
     rw [hE1] at cw hR;rw [hE2] at cx hR
     clear hE1 hE2 hga hgb hpl hp z0 z1 z2 z3 y1 y2 y3 y4
     by_cases h1:E1=0
     case' pos =>
      subst h1
      rw [if_pos rfl] at hR
      have HF:=hidp hR.symm
      clear hR
     case' neg =>
      rw [if_neg h1] at hR
      have HF:=hidp hR.symm
      have e1:(E1 != 0)=true:=by simpa using h1
      clear hR
 all_goals
  go_enter Tryz.func37,Tryz.ntmps37
  have tk0:=hT
  go_wp2_with (first|(clear tk0;(refine Mm.box 65 H rfl (.tmp 1) rfl [.int .i64 s,.string a,.string sa,.string b,.string sb] rfl ?_;clear H;intro b3 _ H nw;clear nw);(try simp only [aR]);have tk1:=hT)|(clear tk1;(refine Mm.get0 rtP H rfl (.tmp 3) rfl rfl rfl ?_);(try simp only [aR]);have tk2:=hT)|(clear tk2;(go_at_call 84;refine (cv.out _).mono ?_;rintro e _ ⟨rfl,hb⟩;replace H:=hidp (H.out.call hb);clear cv;clear hb);(try simp only [aR]);have tk3:=hT)|(clear tk3;(refine Mm.ld0 En.naS H rfl (.tmp 16) 1 (.string a) rfl rfl rfl ?_);(try simp only [aR]);have tk4:=hT)|(clear tk4;(go_at_call 31;refine (ca.out _ (HI.out.below H.out.below (Nat.le_refl _)) (HK.out.below H.out.below hkp)).mono ?_;rintro e _ ⟨rfl,hb⟩;replace H:=hidp (H.out.call hb);clear ca;clear hb);(try simp only [aR]);have tk5:=hT)|(clear tk5;(refine Mm.new rtHd H (some 5) rfl rfl rfl ?_;clear H;intro b5 _ H nw;clear nw);(try simp only [aR]);have tk6:=hT)|(clear tk6;(refine Mm.put0 rtHd H rfl (.tmp 5) (.tmp 19) A.row rfl rfl rfl (Hd.len HA.out) (Hd.one A) (Hd.len (rfl:zHd.p.length=32)) ?_;clear H;intro _ H st;clear st);(try simp only [aR]);have tk7:=hT)|(clear tk7;(refine Mm.ld1 En.naS H rfl (.tmp 22) 3 (.string b) rfl rfl rfl ?_);(try simp only [aR]);have tk8:=hT)|(clear tk8;(go_at_call 31;refine (cb.out _ (HI.out.below H.out.below (Nat.le_refl _)) (HK.out.below H.out.below hkp)).mono ?_;rintro e _ ⟨rfl,hb⟩;replace H:=hidp (H.out.call hb);clear cb;clear hb);(try simp only [aR]);have tk9:=hT)|(clear tk9;(refine Mm.new rtHd H (some 7) rfl rfl rfl ?_;clear H;intro b7 _ H nw;clear nw);(try simp only [aR]);have tk10:=hT)|(clear tk10;(refine Mm.put0 rtHd H rfl (.tmp 7) (.tmp 25) B.row rfl rfl rfl (Hd.len HB.out) (Hd.one B) (Hd.len (rfl:zHd.p.length=32)) ?_;clear H;intro _ H st;clear st);(try simp only [aR]);have tk11:=hT)|(clear tk11;(refine wpL_bsE2 H rfl (.tmp 27) (.tmp 28) _ _ rfl rfl rfl ?_;clear H;intro b9 _ H nw;clear nw);(try simp only [aR]);have tk12:=hT)|(clear tk12;(go_at_call 91;refine (orL2_any _ b9 _ _ (arr2c H.out.at0)).mono ?_;rintro e _ ⟨rfl,rfl⟩;replace H:=hidp H.out.tail;rw [EO.out]);(try simp only [aR]);have tk13:=hT))
  try clear tk13
  try (go_ret;exact ⟨by rw [HF.out];first | done | rfl,H.out.below⟩)
 all_goals
  refine Mm.region H (.take 0 (.take 2 (.one 1 (.one 3 (.take 4 .done))))) (by kernel_rfl) (by kernel_rfl) (by simp [Scr.depth]) (by kernel_rfl) ?_
  clear H
  intro _ H hb
  clear hb
  refine Mm.sget1 rtHd (fun w h=>h) rfl rfl (.tmp 5) rfl rfl (Hd.len HA.out) ?_
  simp only [aS]
  refine Mm.sget0 rtHd (fun w h=>h) rfl rfl (.tmp 7) rfl rfl (Hd.len HB.out) ?_
  simp only [aS]
  refine Mm.o_callH (v:=.agg (zp A).row.toArray) H (fun W h=>h) rfl rfl 92 (#[.agg A.row.toArray]) (by go_simp;first | done | rfl) (place_any _ A HA.out) ?_
  clear H
  intro _ H hb
  clear hb
  simp only [aS]
  refine Mm.o_callH (v:=.agg (zp B).row.toArray) H (fun W h=>h) rfl rfl 92 (#[.agg B.row.toArray]) (by go_simp;first | done | rfl) (place_any _ B HB.out) ?_
  clear H
  intro _ H hb
  clear hb
  simp only [aS]
  refine s_neHd rfl rfl _ _ _ rfl (zp A) (zp B) rfl rfl rfl rfl ?_
  rw [HPL.out]
  simp only [aS]
  refine NoPanic.normal ?_
  have tk0:=hT
  go_wp2_with (first|(clear tk0;(refine Mm.get1 rtHd H rfl (.tmp 5) rfl rfl (Hd.len HA.out) ?_);(try simp only [aR]);have tk1:=hT)|(clear tk1;(refine Mm.get0 rtHd H rfl (.tmp 7) rfl rfl (Hd.len HB.out) ?_);(try simp only [aR]);have tk2:=hT)|(clear tk2;(refine wpL_eqHd rfl _ _ _ rfl A B HA.out HB.out rfl rfl ?_;rw [HEQ.out]);(try simp only [aR]);have tk3:=hT)|(clear tk3;(refine Mm.ld1 naI H rfl (.tmp 42) 2 (.int .i64 A.i) rfl rfl (Hd.get2 _) ?_);(try simp only [aR]);have tk4:=hT)|(clear tk4;(refine Mm.ld2 En.naI H rfl (.tmp 45) 0 (.int .i64 s) rfl rfl rfl ?_);(try simp only [aR]);have tk5:=hT)|(clear tk5;(refine Mm.ld2 En.naS H rfl (.tmp 48) 1 (.string a) rfl rfl rfl ?_);(try simp only [aR]);have tk6:=hT)|(clear tk6;(refine Mm.ld2 En.naS H rfl (.tmp 50) 2 (.string sa) rfl rfl rfl ?_);(try simp only [aR]);have tk7:=hT)|(clear tk7;(go_at_call 57;refine (cw.out _ (HG.out.to H.out.below) (HK.out.below H.out.below hkp)).mono ?_;rintro e _ ⟨rfl,hb⟩;replace H:=hidp (H.out.call hb);clear cw;clear hb);(try simp only [aR]);have tk8:=hT)|(clear tk8;(refine Mm.ld2 En.naI H rfl (.tmp 57) 0 (.int .i64 s) rfl rfl rfl ?_);(try simp only [aR]);have tk9:=hT)|(clear tk9;(refine Mm.ld2 En.naS H rfl (.tmp 60) 3 (.string b) rfl rfl rfl ?_);(try simp only [aR]);have tk10:=hT)|(clear tk10;(refine Mm.ld2 En.naS H rfl (.tmp 62) 4 (.string sb) rfl rfl rfl ?_);(try simp only [aR]);have tk11:=hT)|(clear tk11;(go_at_call 57;refine (cx.out _ (HG.out.to H.out.below) (HK.out.below H.out.below hkp)).mono ?_;rintro e _ ⟨rfl,hb⟩;replace H:=hidp (H.out.call hb);clear cx;clear hb);(try simp only [aR]);have tk12:=hT))
  try clear tk12
  go_ret
  exact ⟨by rw [HF.out];first | done | rfl,H.out.below⟩
end Go.Proofs.YtokakgjcegmabaaGreatDoor.Pf
