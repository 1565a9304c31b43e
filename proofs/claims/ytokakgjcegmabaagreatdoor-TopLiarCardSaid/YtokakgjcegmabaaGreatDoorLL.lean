import Derived.Test.YtokakgjcegmabaaGreatDoorLK
import Derived.Test.YtokakgjcegmabaaGreatDoorLJ
set_option linter.unusedVariables false
set_option linter.unusedSimpArgs false
set_option maxHeartbeats 64000000
set_option maxRecDepth 100000
namespace Go.Proofs.YtokakgjcegmabaaGreatDoor
open Go.RowKit
theorem set3 {w:World} {b T:Nat} {a0 a1 a2:Value} (h:Arr w b T [a0,a1,a2]) (x0 x1 x2:Value):∃ W,((w.setCell ⟨b,0,none⟩ x0).setCell ⟨b,1,none⟩ x1).setCell ⟨b,2,none⟩ x2=W∧Arr W b T [x0,x1,x2]∧Stp b w W:=by
 have s1:∀ (w:World) (i:Nat) (v:Value),Stp b w (w.setCell ⟨b,i,none⟩ v):=fun w i v=>⟨by simp,fun c hc=>Below.heap_setCell w ⟨b,i,none⟩ v c hc,fun N hN=>(Below.refl N w).setCell (p:=⟨b,i,none⟩) hN v⟩
 refine ⟨_,rfl,((h.set 0 x0).set 1 x1).set 2 x2,?_⟩
 have t1:=s1 w 0 x0;have t2:=s1 (w.setCell ⟨b,0,none⟩ x0) 1 x1;have t3:=s1 ((w.setCell ⟨b,0,none⟩ x0).setCell ⟨b,1,none⟩ x1) 2 x2
 exact ⟨t3.size.trans (t2.size.trans t1.size),fun c hc=>(t3.other c hc).trans ((t2.other c hc).trans (t1.other c hc)),fun N hN=>(t1.below N hN).trans ((t2.below N hN).trans (t3.below N hN))⟩
theorem set1 {w:World} {b T:Nat} {xs:List Value} (h:Arr w b T xs) (i:Nat) (v:Value):∃ W,w.setCell ⟨b,i,none⟩ v=W∧Arr W b T (xs.set i v)∧Stp b w W :=
 ⟨_,rfl,h.set i v,by simp,fun c hc=>Below.heap_setCell w ⟨b,i,none⟩ v c hc,fun N hN=>(Below.refl N w).setCell (p:=⟨b,i,none⟩) hN v⟩
theorem own_stp {w W:World} {B e b:Nat} {v:Value} {l:List UInt8} (h:Own w B e v l) (hs:Stp b w W) (hb:b<B):Own W B e v l:=by
 refine ⟨h.1,?_⟩
 rcases h.2 with h0 | ⟨g,cap,cur,e,hB,hg,r⟩
 · exact .inl h0
 · exact .inr ⟨g,cap,cur,e,hB,(hs.other g (by omega)).trans hg,r⟩
theorem pathV_le {L:List (List UInt8)} {i:Int}:(pathV L i).length≤7:=by
 unfold pathV;split
 · rename_i h
   rw [refP_len]
   have h2:fitN L.length=true:=by unfold okP at h;simp only [Bool.and_eq_true] at h;exact h.1
   exact (fit_hi h2).2
 · simp
theorem info8:(Tryz.prog.info? 5).map (fun i=>(i.zero,i.size,i.bytes))=some (some (.int .u8 0),1,1):=by kernel_rfl
theorem own_lit (W:World) (B:Nat) (hB:B≤W.heap.size) (z:Int) (b:UInt8) (hz:z=b.toNat):Own (W.alloc (.cells #[.int .u8 z] 5)) B 5 (.slice (some ⟨W.heap.size,0,none⟩) 1 1) [b]:=by
 subst hz
 exact World.ownsRow_lit (size:=1) (e:=5) W #[.int .u8 (b.toNat:Int)] 1 hB (by decide) rfl
section
variable {ops:Array Oper} {rest:List Oper} {o:Oper} {a:Act} {w:World} {Q:Exit→Act→World→Prop}
theorem o_callP {ops:Array Oper} {Q:Exit→Act→World→Prop} {S:World→Prop} {k:Nat} {o:Oper} {a:Act} {w:World} {K:Act→World→Prop} (ho:ops[k]?=some o) (hw:Region.wanted o (yielded ops a.tmps)=true) (f:FuncId) (args:Array Value) (hop:(execOp a.eval o).run Tryz.prog w=.ok (.enter f args) w) {x:Value} {R:Value→World→Prop} (hc:Calls Tryz.prog f args w fun e w'=>∃ v,e=.returned (.tuple #[v,x])∧R v w')
 (h:∀ v w',R v w'→S w'∧K (a.put o.dst (.tuple #[v,x])) w'):opW Tryz.prog ops Q S k K a w:=by
 refine ⟨o,ho,hw,?_⟩
 unfold Oper.wp
 rw [hop]
 exact hc.mono fun e w' ⟨v,he,hr⟩=>by subst he;exact h v w' hr
theorem wpL_appH (hgd:o.guard=none) (s x:Operand) (ho:o.op=.call { callee:=.builtin .append,args:=#[s,x],argTypes:=#[174,174] }) (B g:Nat) (v:Value) (xs l:List UInt8)
 (hv:a.eval s=v) (hx:a.eval x=.slice (some ⟨g,0,none⟩) 32 32) (hown:Own w B 5 v xs) (hg:Arr w g 58 (u8s l)) (hl:l.length=32) (hB:B≤w.heap.size) (hn:xs.length≤1048576)
 (h:∀ v' W,Own W B 5 v' (xs++l)→Below B w W→wpList Tryz.prog ops Q rest (a.put o.dst v') W):wpList Tryz.prog ops Q (o :: rest) a w:=by
 obtain ⟨i0,hi,hz0,hz1,hz2⟩:=info_parts info8
 refine wpList_append_own w hgd s x 174 ho B 5 i0 _ 1 1 Tryz.underlying174 hi hz0 hz1 hz2 rfl (by decide) v xs.length (bv xs) hv hown ⟨g,0,none⟩ 32 32 (u8s l) hx ?_ ?_ ?_ ?_ ?_ hB ?_
 · rw [u8s_length,hl]
 · intro j u hj
   rw [addr_add];exact hg.range j u hj
 · intro u hu
   have:=u8s_one l
   simp only [Array.all_eq_true',List.mem_toArray] at this
   exact this u hu
 · unfold maxLen;omega
 · omega
 · intro v' W h1 h2 _
   refine h v' W ?_ ((Below.refl B w).grown h2 hB fun k hk=>(World.ownsRow.lt hown k hk).1)
   unfold Own;rw [bv_append,List.length_append,hl];exact h1
end
theorem wpL_slc {ops:Array Oper} {rest:List Oper} {o:Oper} {a:Act} {w:World} {Q:Exit→Act→World→Prop} (hgd:o.guard=none) (x:Operand) (ho:o.op=.slice 58 x none none none) (b off:Nat) (hx:a.eval x=.pointer (some ⟨b,off,none⟩))
 (h:wpList Tryz.prog ops Q rest (a.put o.dst (.slice (some ⟨b,off,none⟩) 32 32)) w):wpList Tryz.prog ops Q (o :: rest) a w:=by
 refine wpList_plain hgd fun K hK=>?_
 have:=hK _ _ h
 unfold Oper.wp execOp
 simp only [ho,hx,Option.map_none,Sem.run_bind,slice32 b off,Result.andThen_ok]
 exact this
theorem o_putK {ops:Array Oper} {Q:Exit→Act→World→Prop} {S:World→Prop} {k:Nat} {o:Oper} {a:Act} {w:World} {K:Act→World→Prop} (ho:ops[k]?=some o) (hw:Region.wanted o (yielded ops a.tmps)=true) (x y:Operand) (hop:o.op=.store 23 x y) (b:Nat) (x0 x1 x2:Value) (hx:a.eval x=.pointer (some ⟨b,0,none⟩)) (hy:a.eval y=.agg #[x0,x1,x2])
 (h1:#[x0,x1,x2].all (·.oneCell')=true) (y0 y1 y2:Value) (hg:Arr w b 23 [y0,y1,y2])
 (h:∀ W,Arr W b 23 [x0,x1,x2]→Stp b w W→S W∧K (a.put o.dst undef) W):opW Tryz.prog ops Q S k K a w :=
 ⟨o,ho,hw,wp_store_row (P:=Tryz.prog) 23 x y hop b #[x0,x1,x2] hx hy 23 _ hg (key_size _ _ _) rfl h1 (h _ (Arr.row hg _) (Stp.setRow _ _ _))⟩
theorem o_appS {ops:Array Oper} {Q:Exit→Act→World→Prop} {S:World→Prop} {k:Nat} {o:Oper} {a:Act} {w:World} {K:Act→World→Prop} (ho:ops[k]?=some o) (hw:Region.wanted o (yielded ops a.tmps)=true) (s x:Operand)
 (hop:o.op=.call { callee:=.builtin .append,args:=#[s,x],argTypes:=#[174,9] }) (B:Nat) (v:Value) (xs:List UInt8) (t:ByteArray)
 (hv:a.eval s=v) (hx:a.eval x=.string t) (hown:Own w B 5 v xs) (hB:B≤w.heap.size) (hn:xs.length + t.size≤1048576)
 (h:∀ v' W,Own W B 5 v' (xs++t.data.toList)→Below B w W→S W∧K (a.put o.dst v') W):opW Tryz.prog ops Q S k K a w:=by
 obtain ⟨i0,hi,hz0,hz1,hz2⟩:=info_parts info8
 obtain ⟨v',w',hrun,r1,r2,r3⟩:=Lib.run_append_own_string (P:=Tryz.prog) w B 174 9 o.type 5 i0 Tryz.underlying174 Tryz.underlying9 hi hz0 hz1 hz2 v xs.length (bv xs) hown t (by unfold maxLen;omega) (by omega) hB
 refine ⟨o,ho,hw,?_⟩
 unfold Oper.wp
 simp [execOp,hop,resolve,invoke,builtin,hv,hx,hrun,Result.andThen]
 refine h v' w' ?_ ((Below.refl B w).grown r2 hB fun k hk=>(World.ownsRow.lt hown k hk).1)
 have e1:(xs++t.data.toList).length=xs.length + t.size:=by simp
 have e2:bv (xs++t.data.toList)=bv xs++Lib.strCells t:=by rw [bv_append];rfl
 unfold Own;rw [e1,e2];exact r1
theorem ksign_any (w:World) (S:ByteArray) (H N:Int) (t:ByteArray) (ht:t.size≤281474976710656 / 4) (hK:KT w) :
 Calls Tryz.prog 93 #[.agg #[.string S,.int .i64 H,.int .i64 N],.string t] w fun e w'=>e=.returned (.tuple #[.agg (sgA S H N).toArray,.string (sgS S H N t.data.toList),.int .i64 (sgE S H N)])∧Below w.heap.size w w':=by
 have HK:=hidp hK;have hkp:=hK.pos;clear hK
 have c1:=hidp (fun W=>kyCheck_any W S H N)
 cases hok:kyOk S H N with
 | false =>
   have hE:kyE S H N=2:=by unfold kyE;rw [hok];rfl
   obtain ⟨g1,g2,g3⟩:=sg_no t.data.toList hok
   have G1:=hidp g1;have G2:=hidp g2;have G3:=hidp g3
   rw [hE] at c1
   clear hE hok g1 g2 g3
   go_enter Tryz.func93,Tryz.ntmps93
   go_wp2_with (first|(refine wpL_boxK rfl _ rfl [.string S,.int .i64 H,.int .i64 N] rfl ?_;intro b2 w1 n1)|(refine wpL_newK rfl rfl ?_;intro b4 w2 n2;have HA:=hidp (n2.old n1.arr);have HR:=hidp n2.arr;have HB:=hidp (n1.below.trans (n2.below.mono n1.below.size));have h2w:=hidp n1.le;have h24:=hidp (show b2<b4 from by have:=n2.at_;have:=n1.lt;omega);clear n1 n2)|(refine wpL_getK rfl (.tmp 2) rfl b2 _ _ _ rfl HA.out ?_))
   refine (c1.out _).mono ?_
   rintro e w3 ⟨rfl,hb3⟩
   have HA3:=hidp (HA.out.below hb3 HA.out.lt);have HR3:=hidp (HR.out.below hb3 HR.out.lt);have HB3:=hidp (HB.out.trans (hb3.mono HB.out.size))
   clear hb3 HA HR HB
   obtain ⟨y0,y1,y2,yf⟩:=arr3k HR3.out
   have f0:=yf 0;have f1:=yf 1;have f2:=yf 2
   clear yf
   go_wp2_with fail
   clear y0 y1 y2 f0 f1 f2
   obtain ⟨w9,hw9,ha9,hp9⟩:=set3 HR3.out (.string ⟨#[]⟩) (.int .i64 0) (.int .i64 0)
   rw [hw9]
   have HB9:=hidp (hp9.below' HB3.out (by have:=h2w.out;have:=h24.out;omega))
   obtain ⟨y0,y1,y2,-⟩:=arr3k ha9
   refine bodyPost_ret (v:=.tuple #[.agg #[.string ⟨#[]⟩,.int .i64 0,.int .i64 0],.string ⟨#[]⟩,.int .i64 2]) (by simp [results,Tryz.results93,go_sem,y0,y1,y2]) rfl ⟨by rw [G1.out,G2.out,G3.out],HB9.out⟩
 | true =>
   have hE:kyE S H N=0:=by unfold kyE;rw [hok];rfl
   obtain ⟨⟨s1,s2⟩,⟨q1,q2⟩,q3,q4⟩:=kyOk_parts hok
   rw [hE] at c1
   have co:=hidp (fun W=>owned_any W S H N (by omega))
   obtain ⟨h,rfl⟩:∃ h:Nat,H=h:=⟨H.toNat,by omega⟩
   obtain ⟨m,rfl⟩:∃ m:Nat,N=m:=⟨N.toNat,by omega⟩
   have hh7:h≤7:=by omega
   have ci:=hidp (fun W=>indices_any W h hh7)
   have hm0:m≤2 ^ h:=by rw [Int.toNat_natCast] at q4;exact_mod_cast q4
   clear hE q1 q2 q3 q4
   by_cases hn:m=2 ^ h
   · obtain ⟨g1,g2,g3⟩:=sg_over t.data.toList hok (by rw [Int.toNat_natCast,hn])
     have G1:=hidp g1;have G2:=hidp g2;have G3:=hidp g3
     rw [← hn] at ci
     have e0:((m:Int) == (m:Int))=true:=by simp
     clear g1 g2 g3 hok hn hm0
     go_enter Tryz.func93,Tryz.ntmps93
     go_wp2_with (first|(refine wpL_boxK rfl _ rfl [.string S,.int .i64 (h:Int),.int .i64 (m:Int)] rfl ?_;intro b2 w1 n1)|(refine wpL_newK rfl rfl ?_;intro b4 w2 n2;have HA:=hidp (n2.old n1.arr);have HR:=hidp n2.arr;have HB:=hidp (n1.below.trans (n2.below.mono n1.below.size));have h2w:=hidp n1.le;have h24:=hidp (show b2<b4 from by have:=n2.at_;have:=n1.lt;omega);clear n1 n2)|(refine wpL_getK rfl (.tmp 2) rfl b2 _ _ _ rfl HA.out ?_))
     refine (c1.out _).mono ?_
     rintro e w3 ⟨rfl,hb3⟩
     have HA3:=hidp (HA.out.below hb3 HA.out.lt);have HR3:=hidp (HR.out.below hb3 HR.out.lt);have HB3:=hidp (HB.out.trans (hb3.mono HB.out.size))
     clear hb3 HA HR HB
     obtain ⟨x0,x1,x2,-⟩:=arr3k HA3.out
     go_wp2_with fail
     clear x0 x1 x2
     refine (co.out _).mono ?_
     rintro e w4 ⟨rfl,hb4⟩
     have HA4:=hidp (HA3.out.below hb4 HA3.out.lt);have HR4:=hidp (HR3.out.below hb4 HR3.out.lt);have HB4:=hidp (HB3.out.trans (hb4.mono HB3.out.size))
     clear hb4 HA3 HR3 HB3
     obtain ⟨y0,y1,y2,yf⟩:=arr3k HA4.out
     have f0:=yf 0;have f1:=yf 1;have f2:=yf 2
     clear yf
     go_wp2_with fail
     clear y0 y1 y2 f0 f1 f2
     obtain ⟨w5,hw5,ha5,hp5⟩:=set3 HA4.out (.string S) (.int .i64 (h:Int)) (.int .i64 (m:Int))
     rw [hw5]
     clear hw5
     have HA5:=hidp ha5;have HR5:=hidp (hp5.arr (by have:=h24.out;omega) HR4.out);have HB5:=hidp (hp5.below' HB4.out h2w.out)
     clear ha5 hp5 HA4 HR4 HB4
     obtain ⟨U,hU⟩:∃ U,({ w5 with drawn:=w5.drawn + 1 }:World)=U:=⟨_,rfl⟩
     have bU:Below w5.heap.size w5 U:=by rw [← hU];exact (Below.refl _ _).drew
     have HA6:=hidp (HA5.out.below bU HA5.out.lt);have HR6:=hidp (HR5.out.below bU HR5.out.lt);have HB6:=hidp (HB5.out.trans (bU.mono HB5.out.size))
     clear bU HA5 HR5 HB5
     refine wp_region_noPanic ?_
     refine wp_region_scr (S:=fun W=>Arr W b2 23 [.string S,.int .i64 (h:Int),.int .i64 (m:Int)]) (.take 0 (.take 1 (.take 2 (.take 3 (.one 4 (.take 5 .done)))))) (by kernel_rfl) (by kernel_rfl) (fun _ _ _ _ _ h=>h) (by simp [Scr.depth]) (by kernel_rfl) (by rw [hU];exact HA6.out) ?_
     simp only [hU]
     clear hU
     iterate 4
      apply s_val
      case ho=>rfl
      case hw=>rfl
      case hv=>intro w hw;obtain ⟨x0,x1,x2,-⟩:=arr3k hw;go_simp;first | done | with_reducible rfl | rfl
      simp only [aS]
     apply o_call (f:=116) (args:=#[.int .i64 (h:Int)]) (hc:=ci.out _)
     case ho=>rfl
     case hw=>rfl
     case hop=>go_simp;first | done | rfl
     rintro W' rfl
     refine ⟨HA6.out,?_⟩
     simp only [aS]
     apply s_val
     case ho=>rfl
     case hw=>rfl
     case hv=>intro w hw;go_simp;first | done | with_reducible rfl | rfl
     simp only [aS]
     refine NoPanic.normal ?_
     obtain ⟨y0,y1,y2,yf⟩:=arr3k HR6.out
     have f0:=yf 0;have f1:=yf 1;have f2:=yf 2
     clear yf
     obtain ⟨x0,x1,x2,-⟩:=arr3k HA6.out
     go_wp2_with fail
     clear y0 y1 y2 f0 f1 f2 x0 x1 x2
     obtain ⟨w9,hw9,ha9,hp9⟩:=set3 HR6.out (.string S) (.int .i64 (h:Int)) (.int .i64 (m:Int))
     rw [hw9]
     have HB9:=hidp (hp9.below' HB6.out (by have:=h2w.out;have:=h24.out;omega))
     obtain ⟨y0,y1,y2,-⟩:=arr3k ha9
     refine bodyPost_ret (v:=.tuple #[.agg #[.string S,.int .i64 (h:Int),.int .i64 (m:Int)],.string ⟨#[]⟩,.int .i64 10]) (by simp [results,Tryz.results93,go_sem,y0,y1,y2]) rfl ⟨by rw [G1.out,G2.out,G3.out],HB9.out⟩
   · have hm1:m<2 ^ h:=by omega
     have hne:(m:Int)≠((2 ^ h:Nat):Int):=by exact_mod_cast hn
     obtain ⟨g1,g2,g3⟩:=sg_yes t.data.toList hok (by rw [Int.toNat_natCast];exact hne)
     have G1:=hidp g1;have G2:=hidp g2;have G3:=hidp g3
     have hP:=pow_le7 hh7
     have hm128:m<128:=by omega
     have hmS:S.size≤64:=s2
     have cp:=hidp (fun W k=>publics_any W S h m hmS hh7 k)
     have hpE:=pathE_leaf S.data.toList hh7 hm1
     have hLl:=leafL_len S.data.toList h
     have hL32:=leafL_32 S.data.toList h
     have hpl:=hidp (pathV_32 (leafL S.data.toList h) m hL32)
     obtain ⟨L,hL⟩:∃ L,leafL S.data.toList h=L:=⟨_,rfl⟩
     rw [hL] at cp hpE hLl hL32 hpl
     obtain ⟨p,hp⟩:∃ p,pathV L m=p:=⟨_,rfl⟩
     rw [hp] at hpl
     have hpn:p.length≤7:=by rw [← hp];exact pathV_le
     have ct:=hidp (show ∀ W v,HsAt W v L→KT W→Calls Tryz.prog 140 #[v,.int .i64 (m:Int)] W fun e w'=>∃ v',e=.returned (.tuple #[v',.int .i64 0])∧OwnH w' W.heap.size v' p∧Below W.heap.size W w' from fun W v hv k=>by
      have:=path_any W v L m (by simp [Lit.wf,IntKind.min,IntKind.max,IntKind.signed,IntKind.bits];omega) hv (by rw [hLl];omega) k
      rw [hpE,hp] at this;exact this)
     obtain ⟨P,hPP⟩:∃ P,2 ^ h=P:=⟨_,rfl⟩
     rw [hPP] at ci hne
     have e0:((m:Int) == (P:Int))=false:=by rw [beq_eq_false_iff_ne];exact hne
     obtain ⟨n,hn7⟩:∃ n,p.length=n:=⟨_,rfl⟩
     have HN:=hidp hn7
     obtain ⟨sd,hsd⟩:∃ s,mkS (seedL S.data.toList m)=s:=⟨_,rfl⟩
     have hsds:sd.size=16:=by rw [← hsd,mkS_size,seedL_len]
     have cs:=hidp (show ∀ W,KT W→Calls Tryz.prog 142 #[.agg #[.string S,.int .i64 (h:Int),.int .i64 (m:Int)],.int .i64 (m:Int)] W fun e w'=>e=.returned (.string sd)∧Below W.heap.size W w' from fun W k=>by
      have:=kseed_any W S h m hmS m (by omega) k
      rw [hsd] at this;exact this)
     obtain ⟨G,hG⟩:∃ s,mkS (signL (seedL S.data.toList m) t.data.toList)=s:=⟨_,rfl⟩
     have hGs:=hidp (show G.size=1088 from by rw [← hG,mkS_size,signL_len])
     have cg:=hidp (show ∀ W,KT W→Calls Tryz.prog 141 #[.string sd,.string t] W fun e w'=>e=.returned (.string G)∧Below W.heap.size W w' from fun W k=>by
      have:=sign_any W sd t (by omega) (by omega) k
      rw [show sd.data.toList=seedL S.data.toList m from by rw [← hsd,mkS_data],hG] at this;exact this)
     have hGd:G.data.toList=signL (seedL S.data.toList m) t.data.toList:=by rw [← hG,mkS_data]
     have G2':=hidp (show sgS S (h:Int) (m:Int) t.data.toList=mkS (([UInt8.ofNat m]++G.data.toList)++flat p) from by
      rw [g2,Int.toNat_natCast,Int.toNat_natCast,hGd];unfold sigL sigH;rw [hL,hp];rfl)
     rw [hn7] at hpn
     have hw1:IntKind.u8.wrap (m:Int)=(m:Int):=by unfold IntKind.wrap;simp [IntKind.bits,IntKind.signed];omega
     have hw2:IntKind.i64.wrap ((m:Int) + 1)=(m:Int) + 1:=by rw [IntKind.wrap_i64];omega
     clear hn7 hsd hG hGd hp hL G2
     clear g1 g2 g3 hok hn hm0 hm1 hP hpE hLl hL32 hPP
     go_enter Tryz.func93,Tryz.ntmps93
     go_wp2_with (first|(refine wpL_boxK rfl _ rfl [.string S,.int .i64 (h:Int),.int .i64 (m:Int)] rfl ?_;intro b2 w1 n1)|(refine wpL_newK rfl rfl ?_;intro b4 w2 n2;have HA:=hidp (n2.old n1.arr);have HR:=hidp n2.arr;have HB:=hidp (n1.below.trans (n2.below.mono n1.below.size));have h2w:=hidp n1.le;have h24:=hidp (show b2<b4 from by have:=n2.at_;have:=n1.lt;omega);clear n1 n2)|(refine wpL_getK rfl (.tmp 2) rfl b2 _ _ _ rfl HA.out ?_))
     refine (c1.out _).mono ?_
     rintro e w3 ⟨rfl,hb3⟩
     have HA3:=hidp (HA.out.below hb3 HA.out.lt);have HR3:=hidp (HR.out.below hb3 HR.out.lt);have HB3:=hidp (HB.out.trans (hb3.mono HB.out.size))
     clear hb3 HA HR HB
     obtain ⟨x0,x1,x2,-⟩:=arr3k HA3.out
     go_wp2_with fail
     clear x0 x1 x2
     refine (co.out _).mono ?_
     rintro e w4 ⟨rfl,hb4⟩
     have HA4:=hidp (HA3.out.below hb4 HA3.out.lt);have HR4:=hidp (HR3.out.below hb4 HR3.out.lt);have HB4:=hidp (HB3.out.trans (hb4.mono HB3.out.size))
     clear hb4 HA3 HR3 HB3
     obtain ⟨y0,y1,y2,yf⟩:=arr3k HA4.out
     have f0:=yf 0;have f1:=yf 1;have f2:=yf 2
     clear yf
     go_wp2_with fail
     clear y0 y1 y2 f0 f1 f2
     obtain ⟨w5,hw5,ha5,hp5⟩:=set3 HA4.out (.string S) (.int .i64 (h:Int)) (.int .i64 (m:Int))
     rw [hw5]
     clear hw5
     have HA5:=hidp ha5;have HR5:=hidp (hp5.arr (by have:=h24.out;omega) HR4.out);have HB5:=hidp (hp5.below' HB4.out h2w.out)
     clear ha5 hp5 HA4 HR4 HB4
     obtain ⟨U,hU⟩:∃ U,({ w5 with drawn:=w5.drawn + 1 }:World)=U:=⟨_,rfl⟩
     have bU:Below w5.heap.size w5 U:=by rw [← hU];exact (Below.refl _ _).drew
     have HA6:=hidp (HA5.out.below bU HA5.out.lt);have HR6:=hidp (HR5.out.below bU HR5.out.lt);have HB6:=hidp (HB5.out.trans (bU.mono HB5.out.size))
     clear bU HA5 HR5 HB5
     refine wp_region_noPanic ?_
     refine wp_region_scr (S:=fun W=>Arr W b2 23 [.string S,.int .i64 (h:Int),.int .i64 (m:Int)]) (.take 0 (.take 1 (.take 2 (.take 3 (.one 4 (.take 5 .done)))))) (by kernel_rfl) (by kernel_rfl) (fun _ _ _ _ _ h=>h) (by simp [Scr.depth]) (by kernel_rfl) (by rw [hU];exact HA6.out) ?_
     simp only [hU]
     clear hU
     iterate 4
      apply s_val
      case ho=>rfl
      case hw=>rfl
      case hv=>intro w hw;obtain ⟨x0,x1,x2,-⟩:=arr3k hw;go_simp;first | done | with_reducible rfl | rfl
      simp only [aS]
     apply o_call (f:=116) (args:=#[.int .i64 (h:Int)]) (hc:=ci.out _)
     case ho=>rfl
     case hw=>rfl
     case hop=>go_simp;first | done | rfl
     rintro W' rfl
     refine ⟨HA6.out,?_⟩
     simp only [aS]
     apply s_val
     case ho=>rfl
     case hw=>rfl
     case hv=>intro w hw;go_simp;first | done | with_reducible rfl | rfl
     simp only [aS]
     refine NoPanic.normal ?_
     go_wp2_with fail
     obtain ⟨U7,hU⟩:∃ U,({ W' with drawn:=W'.drawn + 1 }:World)=U:=⟨_,rfl⟩
     have bU:Below W'.heap.size W' U7:=by rw [← hU];exact (Below.refl _ _).drew
     have HA7:=hidp (HA6.out.below bU HA6.out.lt);have HR7:=hidp (HR6.out.below bU HR6.out.lt);have HB7:=hidp (HB6.out.trans (bU.mono HB6.out.size))
     clear bU HA6 HR6 HB6
     refine wp_region_noPanic ?_
     refine wp_region_scr (S:=fun W=>Arr W b2 23 [.string S,.int .i64 (h:Int),.int .i64 (m:Int)]) (.take 0 (.take 2 (.take 3 (.one 1 (.one 4 (.take 5 (.take 6 (.take 7 (.take 8 (.take 9 .done)))))))))) (by kernel_rfl) (by kernel_rfl) (fun _ _ _ _ _ h=>h) (by simp [Scr.depth]) (by kernel_rfl) (by rw [hU];exact HA7.out) ?_
     simp only [hU]
     clear hU
     iterate 3
      apply s_val
      case ho=>rfl
      case hw=>rfl
      case hv=>intro w hw;obtain ⟨x0,x1,x2,-⟩:=arr3k hw;go_simp;first | done | with_reducible rfl | rfl
      simp only [aS]
     apply o_callE (f:=130) (args:=#[.agg #[.string S,.int .i64 (h:Int),.int .i64 (m:Int)]]) (hc:=cp.out _ (HK.out.below HB7.out hkp))
     case ho=>rfl
     case hw=>rfl
     case hop=>go_simp;first | done | rfl
     rintro vL W8 ⟨hv,hb⟩
     refine ⟨HA7.out.below hb HA7.out.lt,?_⟩
     have HA8:=hidp (HA7.out.below hb HA7.out.lt);have HR8:=hidp (HR7.out.below hb HR7.out.lt);have HB8:=hidp (HB7.out.trans (hb.mono HB7.out.size));have HV8:=hidp hv
     clear hb hv HA7 HR7 HB7
     simp only [aS]
     apply o_callP (f:=140) (args:=#[vL,.int .i64 (m:Int)]) (hc:=ct.out _ _ HV8.out (HK.out.below HB8.out hkp))
     case ho=>rfl
     case hw=>rfl
     case hop=>go_simp;first | done | rfl
     rintro vp W9 ⟨hv,hb⟩
     refine ⟨HA8.out.below hb HA8.out.lt,?_⟩
     have HA9:=hidp (HA8.out.below hb HA8.out.lt);have HR9:=hidp (HR8.out.below hb HR8.out.lt);have HB9:=hidp (HB8.out.trans (hb.mono HB8.out.size));have HP9:=hidp hv.hs
     clear hb hv HA8 HR8 HB8 HV8
     obtain ⟨ap,cp',rfl⟩:=HP9.out.form
     rw [HN.out] at HP9 ⊢
     iterate 5
      simp only [aS]
      apply s_val
      case ho=>rfl
      case hw=>rfl
      case hv=>intro w hw;go_simp;first | done | with_reducible rfl | rfl
     simp only [aS]
     refine NoPanic.normal ?_
     go_wp2_with fail
     obtain ⟨U,hU⟩:∃ U,({ W9 with drawn:=W9.drawn + 1 }:World)=U:=⟨_,rfl⟩
     have bU:Below W9.heap.size W9 U:=by rw [← hU];exact (Below.refl _ _).drew
     have HA:=hidp (HA9.out.below bU HA9.out.lt);have HR:=hidp (HR9.out.below bU HR9.out.lt);have HB:=hidp (HB9.out.trans (bU.mono HB9.out.size));have HP:=hidp (HP9.out.to bU)
     clear bU HA9 HR9 HB9 HP9
     obtain ⟨B0,hB0⟩:∃ B0,U.heap.size=B0:=⟨_,rfl⟩
     have HB0:=hidp hB0
     have h2B:=hidp (show b2<B0 from by rw [← hB0];exact HA.out.lt);have h4B:=hidp (show b4<B0 from by rw [← hB0];exact HR.out.lt);have hwB:=hidp (show w.heap.size≤B0 from by rw [← hB0];exact HB.out.size)
     clear hB0
     refine wp_region_noPanic ?_
     refine wp_region_scr (S:=fun W=>Arr W b2 23 [.string S,.int .i64 (h:Int),.int .i64 (m:Int)]) (.take 0 (.take 1 (.take 2 (.take 4 (.take 5 (.take 6 (.take 8 (.two 3 (.one 7 (.one 9 (.one 10 (.take 11 .done)))) 7 (.two 3 (.one 9 (.one 10 (.take 11 .done))) 9 (.one 3 (.one 10 (.take 11 .done)))))))))))) (by kernel_rfl) (by kernel_rfl) (fun _ _ _ _ _ h=>h) (by simp [Scr.depth]) (by kernel_rfl) (by rw [hU];exact HA.out) ?_
     simp only [hU]
     clear hU
     iterate 7
      apply s_val
      case ho=>rfl
      case hw=>rfl
      case hv=>intro w hw;obtain ⟨x0,x1,x2,-⟩:=arr3k hw;go_simp;first | done | with_reducible rfl | rfl
      simp only [aS]
     have HQ0:=hidp (Below.refl B0 U)
     refine ⟨?_,?_⟩
     · refine o_make (v:=.slice (some ⟨U.heap.size,0,none⟩) 1 1) (W:=U.alloc (.cells #[.int .u8 (m:Int)] 5)) rfl rfl (by go_simp;first | done | rfl) ?_ ?_
       · exact (HA.out.below HQ0.out h2B.out).alloc _
       obtain ⟨X1,hX⟩:∃ X,U.alloc (.cells #[.int .u8 (m:Int)] 5)=X:=⟨_,rfl⟩
       have HO1:=hidp (show Own X1 B0 5 (.slice (some ⟨U.heap.size,0,none⟩) 1 1) [UInt8.ofNat m] from by rw [← hX];exact own_lit U B0 (by have:=HQ0.out.size;have:=HB0.out;omega) _ _ (by rw [u8n _ (by omega)]))
       have HQ1:=hidp (show Below B0 U X1 from by rw [← hX];exact HQ0.out.alloc (by have:=HQ0.out.size;have:=HB0.out;omega) _)
       rw [hX]
       clear hX
       simp only [aS]
       apply o_call (f:=142) (args:=#[.agg #[.string S,.int .i64 (h:Int),.int .i64 (m:Int)],.int .i64 (m:Int)]) (v:=.string sd) (hc:=cs.out _ (HK.out.below (HB.out.trans (HQ1.out.mono hwB.out)) hkp))
       case ho=>rfl
       case hw=>rfl
       case hop=>go_simp;first | done | rfl
       rintro X2 hb
       have HQ2:=hidp (HQ1.out.trans (hb.mono (by have:=HQ1.out.size;have:=HB0.out;omega)))
       refine ⟨HA.out.below HQ2.out h2B.out,?_⟩
       have HO2:=hidp (HO1.out.kept hb (Nat.le_refl _))
       clear hb
       simp only [aS]
       apply o_call (f:=141) (args:=#[.string sd,.string t]) (v:=.string G) (hc:=cg.out _ (HK.out.below (HB.out.trans (HQ2.out.mono hwB.out)) hkp))
       case ho=>rfl
       case hw=>rfl
       case hop=>go_simp;first | done | rfl
       rintro X3 hb
       have HQ3:=hidp (HQ2.out.trans (hb.mono (by have:=HQ2.out.size;have:=HB0.out;omega)))
       refine ⟨HA.out.below HQ3.out h2B.out,?_⟩
       have HO3:=hidp (HO2.out.kept hb (Nat.le_refl _))
       clear hb
       simp only [aS]
       refine o_appS rfl rfl (.tmp 43) (.tmp 49) rfl B0 _ [UInt8.ofNat m] G rfl rfl HO3.out (by have:=HQ3.out.size;have:=HB0.out;omega) (by rw [hGs.out];simp) ?_
       rintro vz X4 ho hb
       have HQ4:=hidp (HQ3.out.trans hb)
       have HO4:=hidp ho
       refine ⟨HA.out.below HQ4.out h2B.out,?_⟩
       clear ho hb
       simp only [aS]
       apply s_val
       case ho=>rfl
       case hw=>rfl
       case hv=>intro w hw;go_simp;first | done | with_reducible rfl | rfl
       simp only [aS]
       refine NoPanic.normal ?_
       go_wp2_with fail
       go_loopw [10,53] (fun t10 t53 wr=>∃ k:Nat,t53=.int .i64 (k:Int)∧k≤n∧Own wr B0 5 t10 (([UInt8.ofNat m]++G.data.toList)++flat (p.take k))∧Below B0 U wr) (fun _ t53 _=>n - (intOf t53).toNat)
       case atStart=>exact ⟨0,rfl,by omega,by simpa [flat] using HO4.out,HQ4.out⟩
       case round =>
        obtain ⟨k,rfl,hk,ho,hq⟩:=hrel
        have HO1:=hidp ho;have HQ1:=hidp hq
        have hsz:=hidp (show B0≤wr.heap.size from by have:=hq.size;have:=HB0.out;omega)
        clear ho hq
        by_cases hlt:k<n
        · obtain ⟨B,off,c',e1,_,hB,hrr⟩:=HP.out.get (by rw [HN.out];omega)
          simp only [Value.slice.injEq] at e1
          obtain ⟨rfl,-,-⟩:=e1
          have hkp':k<p.length:=by rw [HN.out];exact hlt
          have hxl:=hidp (HP.out.1.get k hkp')
          have hrx:=hidp (show wr.rangeAt B (off + 32 * k) (u8s p[k]) from rangeAt_below (range_nth hrr HP.out.1 k hkp') HQ1.out (by have:=HB0.out;omega))
          have htk:=hidp (show flat (p.take k)++p[k]=flat (p.take (k + 1)) from by rw [List.take_succ_eq_append_getElem hkp',flat_snoc])
          have hlen:=hidp (show (([UInt8.ofNat m]++G.data.toList)++flat (p.take k)).length≤1048576 from by
           rw [List.length_append,flat_len (hpl.out.take k),List.length_append,List.length_take,size_toList,hGs.out];simp;omega)
          obtain ⟨x,hx⟩:∃ x,p[k]=x:=⟨_,rfl⟩
          rw [hx] at hxl hrx htk
          have e1:decide ((k:Int)<(n:Int))=true:=by simp;omega
          clear hx hkp' hrr
          go_wp2_with (first|(refine wpL_idx rfl (.tmp 51) (.tmp 53) rfl B off _ _ k rfl rfl hlt ?_)|(refine wpL_at rfl (.tmp 55) rfl B (off + 32 * k) x rfl hxl.out hrx.out ?_)|(refine wpL_new rfl rfl ?_;intro b12 w12 n12)|(refine wpL_put rfl (.tmp 12) (.tmp 56) rfl b12 x rfl rfl hxl.out (u8s z32) rfl n12.arr ?_;intro w13 ha13 hp13)|(refine wpL_slc rfl (.tmp 12) rfl b12 0 rfl ?_)|(refine wpL_appH rfl (.tmp 57) (.tmp 58) rfl B0 b12 _ (([UInt8.ofNat m]++G.data.toList)++flat (p.take k)) x rfl rfl (HO1.out.kept (n12.put hp13) (Nat.le_refl _)) ha13 hxl.out (Nat.le_trans hsz.out (n12.put hp13).size) hlen.out ?_;intro v' w14 ho14 hb14))
          exact ⟨⟨k + 1,by go_num,by omega,by rw [← htk.out,← List.append_assoc];exact ho14,(HQ1.out.trans ((n12.put hp13).mono hsz.out)).trans hb14⟩,by simp [intOf];omega⟩
        · have e1:decide ((k:Int)<(n:Int))=false:=by simp;omega
          have hkn:k=n:=by omega
          have ho:=HO1.out
          rw [hkn,List.take_of_length_le (by rw [HN.out];exact Nat.le_refl _)] at ho
          have HO2:=hidp ho
          clear ho HO1
          have HA1:=hidp (HA.out.below HQ1.out h2B.out);have HR1:=hidp (HR.out.below HQ1.out h4B.out);have HB1:=hidp (HB.out.trans (HQ1.out.mono hwB.out))
          obtain ⟨x0,x1,x2,xf⟩:=arr3k HA1.out
          have f2:=xf 2
          clear xf
          go_wp2_with fail
          clear x0 x1 x2 f2
          obtain ⟨w15,hw15,ha15,hp15⟩:=set1 HA1.out 2 (.int .i64 ((m:Int) + 1))
          rw [hw15]
          clear hw15
          have HO3:=hidp (own_stp HO2.out hp15 h2B.out);have HA3:=hidp (show Arr w15 b2 23 [.string S,.int .i64 (h:Int),.int .i64 ((m:Int) + 1)] from ha15);have HR3:=hidp (hp15.arr (by have:=h24.out;omega) HR1.out);have HB3:=hidp (hp15.below' HB1.out h2w.out)
          clear ha15 hp15 HO2 HA1 HR1 HB1
          obtain ⟨U2,hU⟩:∃ U,({ w15 with drawn:=w15.drawn + 1 }:World)=U:=⟨_,rfl⟩
          have bU:Below w15.heap.size w15 U2:=by rw [← hU];exact (Below.refl _ _).drew
          have HO4:=hidp (HO3.out.kept bU (Nat.le_refl _));have HA4:=hidp (HA3.out.below bU HA3.out.lt);have HR4:=hidp (HR3.out.below bU HR3.out.lt);have HB4:=hidp (HB3.out.trans (bU.mono HB3.out.size))
          clear bU HO3 HA3 HR3 HB3
          obtain ⟨SGL,hSGL⟩:∃ l,(([UInt8.ofNat m]++G.data.toList)++flat p)=l:=⟨_,rfl⟩
          rw [hSGL] at HO4
          have hG2:=G2'.out
          rw [hSGL] at hG2
          clear hSGL
          obtain ⟨MS,hMS⟩:∃ s,mkS SGL=s:=⟨_,rfl⟩
          rw [hMS] at hG2
          have HMS:=hidp hMS;have HG2:=hidp hG2
          clear hMS hG2
          refine wp_region_noPanic ?_
          refine wp_region_scr (S:=fun W=>Arr W b2 23 [.string S,.int .i64 (h:Int),.int .i64 ((m:Int) + 1)]∧Own W B0 5 _ SGL) (.take 0 (.take 1 (.take 2 (.one 3 (.take 4 (.take 5 .done)))))) (by kernel_rfl) (by kernel_rfl) (fun _ _ _ _ _ h=>h) (by simp [Scr.depth]) (by kernel_rfl) (by rw [hU];exact ⟨HA4.out,HO4.out⟩) ?_
          simp only [hU]
          clear hU
          apply s_val
          case ho=>rfl
          case hw=>rfl
          case hv=>intro w hw;obtain ⟨x0,x1,x2,-⟩:=arr3k hw.1;go_simp;first | done | with_reducible rfl | rfl
          simp only [aS]
          apply s_val
          case ho=>rfl
          case hw=>rfl
          case hv=>intro w hw;go_simp;first | done | with_reducible rfl | rfl
          simp only [aS]
          apply s_val (v:=.string MS)
          case ho=>rfl
          case hw=>rfl
          case hv =>
           intro w hw
           have hc:=run_str_own (P:=Tryz.prog) Tryz.underlying174 Tryz.underlying5 Tryz.underlying9 hw.2
           rw [HMS.out] at hc
           go_simp
           first | done | with_reducible rfl | rfl
          simp only [aS]
          refine o_putK rfl rfl (.tmp 4) (.tmp 65) rfl b4 (.string S) (.int .i64 (h:Int)) (.int .i64 ((m:Int) + 1)) rfl rfl (by simp [Value.oneCell']) _ _ _ HR4.out ?_
          rintro W9 ha hp
          refine ⟨⟨hp.arr (by have:=h24.out;omega) HA4.out,own_stp HO4.out hp h4B.out⟩,?_⟩
          have HRZ:=hidp ha;have HBZ:=hidp (hp.below' HB4.out (by have:=h2w.out;have:=h24.out;omega))
          clear ha hp HA4 HO4 HR4 HB4
          iterate 2
           simp only [aS]
           apply s_val
           case ho=>rfl
           case hw=>rfl
           case hv=>intro w hw;go_simp;first | done | with_reducible rfl | rfl
          simp only [aS]
          refine NoPanic.normal ?_
          go_wp2_with fail
          obtain ⟨y0,y1,y2,-⟩:=arr3k HRZ.out
          refine bodyPost_ret (v:=.tuple #[.agg #[.string S,.int .i64 (h:Int),.int .i64 ((m:Int) + 1)],.string MS,.int .i64 0]) (by simp [results,Tryz.results93,go_sem,y0,y1,y2]) rfl ⟨by rw [G1.out,HG2.out,G3.out],HBZ.out⟩
     · apply o_call (f:=142) (args:=#[.agg #[.string S,.int .i64 (h:Int),.int .i64 (m:Int)],.int .i64 (m:Int)]) (v:=.string sd) (hc:=cs.out _ (HK.out.below (HB.out.trans (HQ0.out.mono hwB.out)) hkp))
       case ho=>rfl
       case hw=>rfl
       case hop=>go_simp;first | done | rfl
       rintro X5 hb
       have HQ5:=hidp (HQ0.out.trans (hb.mono (by have:=HQ0.out.size;have:=HB0.out;omega)))
       refine ⟨HA.out.below HQ5.out h2B.out,?_⟩
       clear hb
       simp only [aS]
       refine ⟨?_,?_⟩
       · refine o_make (v:=.slice (some ⟨X5.heap.size,0,none⟩) 1 1) (W:=X5.alloc (.cells #[.int .u8 (m:Int)] 5)) rfl rfl (by go_simp;first | done | rfl) ?_ ?_
         · exact (HA.out.below HQ5.out h2B.out).alloc _
         obtain ⟨X6,hX⟩:∃ X,X5.alloc (.cells #[.int .u8 (m:Int)] 5)=X:=⟨_,rfl⟩
         have HO6:=hidp (show Own X6 B0 5 (.slice (some ⟨X5.heap.size,0,none⟩) 1 1) [UInt8.ofNat m] from by rw [← hX];exact own_lit X5 B0 (by have:=HQ5.out.size;have:=HB0.out;omega) _ _ (by rw [u8n _ (by omega)]))
         have HQ6:=hidp (show Below B0 U X6 from by rw [← hX];exact HQ5.out.alloc (by have:=HQ5.out.size;have:=HB0.out;omega) _)
         rw [hX]
         clear hX
         simp only [aS]
         apply o_call (f:=141) (args:=#[.string sd,.string t]) (v:=.string G) (hc:=cg.out _ (HK.out.below (HB.out.trans (HQ6.out.mono hwB.out)) hkp))
         case ho=>rfl
         case hw=>rfl
         case hop=>go_simp;first | done | rfl
         rintro X7 hb
         have HQ7:=hidp (HQ6.out.trans (hb.mono (by have:=HQ6.out.size;have:=HB0.out;omega)))
         refine ⟨HA.out.below HQ7.out h2B.out,?_⟩
         have HO7:=hidp (HO6.out.kept hb (Nat.le_refl _))
         clear hb
         simp only [aS]
         refine o_appS rfl rfl (.tmp 43) (.tmp 49) rfl B0 _ [UInt8.ofNat m] G rfl rfl HO7.out (by have:=HQ7.out.size;have:=HB0.out;omega) (by rw [hGs.out];simp) ?_
         rintro vz X8 ho hb
         have HQ8:=hidp (HQ7.out.trans hb)
         have HO8:=hidp ho
         refine ⟨HA.out.below HQ8.out h2B.out,?_⟩
         clear ho hb
         simp only [aS]
         apply s_val
         case ho=>rfl
         case hw=>rfl
         case hv=>intro w hw;go_simp;first | done | with_reducible rfl | rfl
         simp only [aS]
         refine NoPanic.normal ?_
         go_wp2_with fail
         go_loopw [10,53] (fun t10 t53 wr=>∃ k:Nat,t53=.int .i64 (k:Int)∧k≤n∧Own wr B0 5 t10 (([UInt8.ofNat m]++G.data.toList)++flat (p.take k))∧Below B0 U wr) (fun _ t53 _=>n - (intOf t53).toNat)
         case atStart=>exact ⟨0,rfl,by omega,by simpa [flat] using HO8.out,HQ8.out⟩
         case round =>
          obtain ⟨k,rfl,hk,ho,hq⟩:=hrel
          have HO1:=hidp ho;have HQ1:=hidp hq
          have hsz:=hidp (show B0≤wr.heap.size from by have:=hq.size;have:=HB0.out;omega)
          clear ho hq
          by_cases hlt:k<n
          · obtain ⟨B,off,c',e1,_,hB,hrr⟩:=HP.out.get (by rw [HN.out];omega)
            simp only [Value.slice.injEq] at e1
            obtain ⟨rfl,-,-⟩:=e1
            have hkp':k<p.length:=by rw [HN.out];exact hlt
            have hxl:=hidp (HP.out.1.get k hkp')
            have hrx:=hidp (show wr.rangeAt B (off + 32 * k) (u8s p[k]) from rangeAt_below (range_nth hrr HP.out.1 k hkp') HQ1.out (by have:=HB0.out;omega))
            have htk:=hidp (show flat (p.take k)++p[k]=flat (p.take (k + 1)) from by rw [List.take_succ_eq_append_getElem hkp',flat_snoc])
            have hlen:=hidp (show (([UInt8.ofNat m]++G.data.toList)++flat (p.take k)).length≤1048576 from by
             rw [List.length_append,flat_len (hpl.out.take k),List.length_append,List.length_take,size_toList,hGs.out];simp;omega)
            obtain ⟨x,hx⟩:∃ x,p[k]=x:=⟨_,rfl⟩
            rw [hx] at hxl hrx htk
            have e1:decide ((k:Int)<(n:Int))=true:=by simp;omega
            clear hx hkp' hrr
            go_wp2_with (first|(refine wpL_idx rfl (.tmp 51) (.tmp 53) rfl B off _ _ k rfl rfl hlt ?_)|(refine wpL_at rfl (.tmp 55) rfl B (off + 32 * k) x rfl hxl.out hrx.out ?_)|(refine wpL_new rfl rfl ?_;intro b12 w12 n12)|(refine wpL_put rfl (.tmp 12) (.tmp 56) rfl b12 x rfl rfl hxl.out (u8s z32) rfl n12.arr ?_;intro w13 ha13 hp13)|(refine wpL_slc rfl (.tmp 12) rfl b12 0 rfl ?_)|(refine wpL_appH rfl (.tmp 57) (.tmp 58) rfl B0 b12 _ (([UInt8.ofNat m]++G.data.toList)++flat (p.take k)) x rfl rfl (HO1.out.kept (n12.put hp13) (Nat.le_refl _)) ha13 hxl.out (Nat.le_trans hsz.out (n12.put hp13).size) hlen.out ?_;intro v' w14 ho14 hb14))
            exact ⟨⟨k + 1,by go_num,by omega,by rw [← htk.out,← List.append_assoc];exact ho14,(HQ1.out.trans ((n12.put hp13).mono hsz.out)).trans hb14⟩,by simp [intOf];omega⟩
          · have e1:decide ((k:Int)<(n:Int))=false:=by simp;omega
            have hkn:k=n:=by omega
            have ho:=HO1.out
            rw [hkn,List.take_of_length_le (by rw [HN.out];exact Nat.le_refl _)] at ho
            have HO2:=hidp ho
            clear ho HO1
            have HA1:=hidp (HA.out.below HQ1.out h2B.out);have HR1:=hidp (HR.out.below HQ1.out h4B.out);have HB1:=hidp (HB.out.trans (HQ1.out.mono hwB.out))
            obtain ⟨x0,x1,x2,xf⟩:=arr3k HA1.out
            have f2:=xf 2
            clear xf
            go_wp2_with fail
            clear x0 x1 x2 f2
            obtain ⟨w15,hw15,ha15,hp15⟩:=set1 HA1.out 2 (.int .i64 ((m:Int) + 1))
            rw [hw15]
            clear hw15
            have HO3:=hidp (own_stp HO2.out hp15 h2B.out);have HA3:=hidp (show Arr w15 b2 23 [.string S,.int .i64 (h:Int),.int .i64 ((m:Int) + 1)] from ha15);have HR3:=hidp (hp15.arr (by have:=h24.out;omega) HR1.out);have HB3:=hidp (hp15.below' HB1.out h2w.out)
            clear ha15 hp15 HO2 HA1 HR1 HB1
            obtain ⟨U2,hU⟩:∃ U,({ w15 with drawn:=w15.drawn + 1 }:World)=U:=⟨_,rfl⟩
            have bU:Below w15.heap.size w15 U2:=by rw [← hU];exact (Below.refl _ _).drew
            have HO4:=hidp (HO3.out.kept bU (Nat.le_refl _));have HA4:=hidp (HA3.out.below bU HA3.out.lt);have HR4:=hidp (HR3.out.below bU HR3.out.lt);have HB4:=hidp (HB3.out.trans (bU.mono HB3.out.size))
            clear bU HO3 HA3 HR3 HB3
            obtain ⟨SGL,hSGL⟩:∃ l,(([UInt8.ofNat m]++G.data.toList)++flat p)=l:=⟨_,rfl⟩
            rw [hSGL] at HO4
            have hG2:=G2'.out
            rw [hSGL] at hG2
            clear hSGL
            obtain ⟨MS,hMS⟩:∃ s,mkS SGL=s:=⟨_,rfl⟩
            rw [hMS] at hG2
            have HMS:=hidp hMS;have HG2:=hidp hG2
            clear hMS hG2
            refine wp_region_noPanic ?_
            refine wp_region_scr (S:=fun W=>Arr W b2 23 [.string S,.int .i64 (h:Int),.int .i64 ((m:Int) + 1)]∧Own W B0 5 _ SGL) (.take 0 (.take 1 (.take 2 (.one 3 (.take 4 (.take 5 .done)))))) (by kernel_rfl) (by kernel_rfl) (fun _ _ _ _ _ h=>h) (by simp [Scr.depth]) (by kernel_rfl) (by rw [hU];exact ⟨HA4.out,HO4.out⟩) ?_
            simp only [hU]
            clear hU
            apply s_val
            case ho=>rfl
            case hw=>rfl
            case hv=>intro w hw;obtain ⟨x0,x1,x2,-⟩:=arr3k hw.1;go_simp;first | done | with_reducible rfl | rfl
            simp only [aS]
            apply s_val
            case ho=>rfl
            case hw=>rfl
            case hv=>intro w hw;go_simp;first | done | with_reducible rfl | rfl
            simp only [aS]
            apply s_val (v:=.string MS)
            case ho=>rfl
            case hw=>rfl
            case hv =>
             intro w hw
             have hc:=run_str_own (P:=Tryz.prog) Tryz.underlying174 Tryz.underlying5 Tryz.underlying9 hw.2
             rw [HMS.out] at hc
             go_simp
             first | done | with_reducible rfl | rfl
            simp only [aS]
            refine o_putK rfl rfl (.tmp 4) (.tmp 65) rfl b4 (.string S) (.int .i64 (h:Int)) (.int .i64 ((m:Int) + 1)) rfl rfl (by simp [Value.oneCell']) _ _ _ HR4.out ?_
            rintro W9 ha hp
            refine ⟨⟨hp.arr (by have:=h24.out;omega) HA4.out,own_stp HO4.out hp h4B.out⟩,?_⟩
            have HRZ:=hidp ha;have HBZ:=hidp (hp.below' HB4.out (by have:=h2w.out;have:=h24.out;omega))
            clear ha hp HA4 HO4 HR4 HB4
            iterate 2
             simp only [aS]
             apply s_val
             case ho=>rfl
             case hw=>rfl
             case hv=>intro w hw;go_simp;first | done | with_reducible rfl | rfl
            simp only [aS]
            refine NoPanic.normal ?_
            go_wp2_with fail
            obtain ⟨y0,y1,y2,-⟩:=arr3k HRZ.out
            refine bodyPost_ret (v:=.tuple #[.agg #[.string S,.int .i64 (h:Int),.int .i64 ((m:Int) + 1)],.string MS,.int .i64 0]) (by simp [results,Tryz.results93,go_sem,y0,y1,y2]) rfl ⟨by rw [G1.out,HG2.out,G3.out],HBZ.out⟩
       · apply o_call (f:=141) (args:=#[.string sd,.string t]) (v:=.string G) (hc:=cg.out _ (HK.out.below (HB.out.trans (HQ5.out.mono hwB.out)) hkp))
         case ho=>rfl
         case hw=>rfl
         case hop=>go_simp;first | done | rfl
         rintro X9 hb
         have HQ9:=hidp (HQ5.out.trans (hb.mono (by have:=HQ5.out.size;have:=HB0.out;omega)))
         refine ⟨HA.out.below HQ9.out h2B.out,?_⟩
         clear hb
         simp only [aS]
         refine o_make (v:=.slice (some ⟨X9.heap.size,0,none⟩) 1 1) (W:=X9.alloc (.cells #[.int .u8 (m:Int)] 5)) rfl rfl (by go_simp;first | done | rfl) ?_ ?_
         · exact (HA.out.below HQ9.out h2B.out).alloc _
         obtain ⟨X10,hX⟩:∃ X,X9.alloc (.cells #[.int .u8 (m:Int)] 5)=X:=⟨_,rfl⟩
         have HO10:=hidp (show Own X10 B0 5 (.slice (some ⟨X9.heap.size,0,none⟩) 1 1) [UInt8.ofNat m] from by rw [← hX];exact own_lit X9 B0 (by have:=HQ9.out.size;have:=HB0.out;omega) _ _ (by rw [u8n _ (by omega)]))
         have HQ10:=hidp (show Below B0 U X10 from by rw [← hX];exact HQ9.out.alloc (by have:=HQ9.out.size;have:=HB0.out;omega) _)
         rw [hX]
         clear hX
         simp only [aS]
         refine o_appS rfl rfl (.tmp 43) (.tmp 49) rfl B0 _ [UInt8.ofNat m] G rfl rfl HO10.out (by have:=HQ10.out.size;have:=HB0.out;omega) (by rw [hGs.out];simp) ?_
         rintro vz X11 ho hb
         have HQ11:=hidp (HQ10.out.trans hb)
         have HO11:=hidp ho
         refine ⟨HA.out.below HQ11.out h2B.out,?_⟩
         clear ho hb
         simp only [aS]
         apply s_val
         case ho=>rfl
         case hw=>rfl
         case hv=>intro w hw;go_simp;first | done | with_reducible rfl | rfl
         simp only [aS]
         refine NoPanic.normal ?_
         go_wp2_with fail
         go_loopw [10,53] (fun t10 t53 wr=>∃ k:Nat,t53=.int .i64 (k:Int)∧k≤n∧Own wr B0 5 t10 (([UInt8.ofNat m]++G.data.toList)++flat (p.take k))∧Below B0 U wr) (fun _ t53 _=>n - (intOf t53).toNat)
         case atStart=>exact ⟨0,rfl,by omega,by simpa [flat] using HO11.out,HQ11.out⟩
         case round =>
          obtain ⟨k,rfl,hk,ho,hq⟩:=hrel
          have HO1:=hidp ho;have HQ1:=hidp hq
          have hsz:=hidp (show B0≤wr.heap.size from by have:=hq.size;have:=HB0.out;omega)
          clear ho hq
          by_cases hlt:k<n
          · obtain ⟨B,off,c',e1,_,hB,hrr⟩:=HP.out.get (by rw [HN.out];omega)
            simp only [Value.slice.injEq] at e1
            obtain ⟨rfl,-,-⟩:=e1
            have hkp':k<p.length:=by rw [HN.out];exact hlt
            have hxl:=hidp (HP.out.1.get k hkp')
            have hrx:=hidp (show wr.rangeAt B (off + 32 * k) (u8s p[k]) from rangeAt_below (range_nth hrr HP.out.1 k hkp') HQ1.out (by have:=HB0.out;omega))
            have htk:=hidp (show flat (p.take k)++p[k]=flat (p.take (k + 1)) from by rw [List.take_succ_eq_append_getElem hkp',flat_snoc])
            have hlen:=hidp (show (([UInt8.ofNat m]++G.data.toList)++flat (p.take k)).length≤1048576 from by
             rw [List.length_append,flat_len (hpl.out.take k),List.length_append,List.length_take,size_toList,hGs.out];simp;omega)
            obtain ⟨x,hx⟩:∃ x,p[k]=x:=⟨_,rfl⟩
            rw [hx] at hxl hrx htk
            have e1:decide ((k:Int)<(n:Int))=true:=by simp;omega
            clear hx hkp' hrr
            go_wp2_with (first|(refine wpL_idx rfl (.tmp 51) (.tmp 53) rfl B off _ _ k rfl rfl hlt ?_)|(refine wpL_at rfl (.tmp 55) rfl B (off + 32 * k) x rfl hxl.out hrx.out ?_)|(refine wpL_new rfl rfl ?_;intro b12 w12 n12)|(refine wpL_put rfl (.tmp 12) (.tmp 56) rfl b12 x rfl rfl hxl.out (u8s z32) rfl n12.arr ?_;intro w13 ha13 hp13)|(refine wpL_slc rfl (.tmp 12) rfl b12 0 rfl ?_)|(refine wpL_appH rfl (.tmp 57) (.tmp 58) rfl B0 b12 _ (([UInt8.ofNat m]++G.data.toList)++flat (p.take k)) x rfl rfl (HO1.out.kept (n12.put hp13) (Nat.le_refl _)) ha13 hxl.out (Nat.le_trans hsz.out (n12.put hp13).size) hlen.out ?_;intro v' w14 ho14 hb14))
            exact ⟨⟨k + 1,by go_num,by omega,by rw [← htk.out,← List.append_assoc];exact ho14,(HQ1.out.trans ((n12.put hp13).mono hsz.out)).trans hb14⟩,by simp [intOf];omega⟩
          · have e1:decide ((k:Int)<(n:Int))=false:=by simp;omega
            have hkn:k=n:=by omega
            have ho:=HO1.out
            rw [hkn,List.take_of_length_le (by rw [HN.out];exact Nat.le_refl _)] at ho
            have HO2:=hidp ho
            clear ho HO1
            have HA1:=hidp (HA.out.below HQ1.out h2B.out);have HR1:=hidp (HR.out.below HQ1.out h4B.out);have HB1:=hidp (HB.out.trans (HQ1.out.mono hwB.out))
            obtain ⟨x0,x1,x2,xf⟩:=arr3k HA1.out
            have f2:=xf 2
            clear xf
            go_wp2_with fail
            clear x0 x1 x2 f2
            obtain ⟨w15,hw15,ha15,hp15⟩:=set1 HA1.out 2 (.int .i64 ((m:Int) + 1))
            rw [hw15]
            clear hw15
            have HO3:=hidp (own_stp HO2.out hp15 h2B.out);have HA3:=hidp (show Arr w15 b2 23 [.string S,.int .i64 (h:Int),.int .i64 ((m:Int) + 1)] from ha15);have HR3:=hidp (hp15.arr (by have:=h24.out;omega) HR1.out);have HB3:=hidp (hp15.below' HB1.out h2w.out)
            clear ha15 hp15 HO2 HA1 HR1 HB1
            obtain ⟨U2,hU⟩:∃ U,({ w15 with drawn:=w15.drawn + 1 }:World)=U:=⟨_,rfl⟩
            have bU:Below w15.heap.size w15 U2:=by rw [← hU];exact (Below.refl _ _).drew
            have HO4:=hidp (HO3.out.kept bU (Nat.le_refl _));have HA4:=hidp (HA3.out.below bU HA3.out.lt);have HR4:=hidp (HR3.out.below bU HR3.out.lt);have HB4:=hidp (HB3.out.trans (bU.mono HB3.out.size))
            clear bU HO3 HA3 HR3 HB3
            obtain ⟨SGL,hSGL⟩:∃ l,(([UInt8.ofNat m]++G.data.toList)++flat p)=l:=⟨_,rfl⟩
            rw [hSGL] at HO4
            have hG2:=G2'.out
            rw [hSGL] at hG2
            clear hSGL
            obtain ⟨MS,hMS⟩:∃ s,mkS SGL=s:=⟨_,rfl⟩
            rw [hMS] at hG2
            have HMS:=hidp hMS;have HG2:=hidp hG2
            clear hMS hG2
            refine wp_region_noPanic ?_
            refine wp_region_scr (S:=fun W=>Arr W b2 23 [.string S,.int .i64 (h:Int),.int .i64 ((m:Int) + 1)]∧Own W B0 5 _ SGL) (.take 0 (.take 1 (.take 2 (.one 3 (.take 4 (.take 5 .done)))))) (by kernel_rfl) (by kernel_rfl) (fun _ _ _ _ _ h=>h) (by simp [Scr.depth]) (by kernel_rfl) (by rw [hU];exact ⟨HA4.out,HO4.out⟩) ?_
            simp only [hU]
            clear hU
            apply s_val
            case ho=>rfl
            case hw=>rfl
            case hv=>intro w hw;obtain ⟨x0,x1,x2,-⟩:=arr3k hw.1;go_simp;first | done | with_reducible rfl | rfl
            simp only [aS]
            apply s_val
            case ho=>rfl
            case hw=>rfl
            case hv=>intro w hw;go_simp;first | done | with_reducible rfl | rfl
            simp only [aS]
            apply s_val (v:=.string MS)
            case ho=>rfl
            case hw=>rfl
            case hv =>
             intro w hw
             have hc:=run_str_own (P:=Tryz.prog) Tryz.underlying174 Tryz.underlying5 Tryz.underlying9 hw.2
             rw [HMS.out] at hc
             go_simp
             first | done | with_reducible rfl | rfl
            simp only [aS]
            refine o_putK rfl rfl (.tmp 4) (.tmp 65) rfl b4 (.string S) (.int .i64 (h:Int)) (.int .i64 ((m:Int) + 1)) rfl rfl (by simp [Value.oneCell']) _ _ _ HR4.out ?_
            rintro W9 ha hp
            refine ⟨⟨hp.arr (by have:=h24.out;omega) HA4.out,own_stp HO4.out hp h4B.out⟩,?_⟩
            have HRZ:=hidp ha;have HBZ:=hidp (hp.below' HB4.out (by have:=h2w.out;have:=h24.out;omega))
            clear ha hp HA4 HO4 HR4 HB4
            iterate 2
             simp only [aS]
             apply s_val
             case ho=>rfl
             case hw=>rfl
             case hv=>intro w hw;go_simp;first | done | with_reducible rfl | rfl
            simp only [aS]
            refine NoPanic.normal ?_
            go_wp2_with fail
            obtain ⟨y0,y1,y2,-⟩:=arr3k HRZ.out
            refine bodyPost_ret (v:=.tuple #[.agg #[.string S,.int .i64 (h:Int),.int .i64 ((m:Int) + 1)],.string MS,.int .i64 0]) (by simp [results,Tryz.results93,go_sem,y0,y1,y2]) rfl ⟨by rw [G1.out,HG2.out,G3.out],HBZ.out⟩
end Go.Proofs.YtokakgjcegmabaaGreatDoor
