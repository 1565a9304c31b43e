import Derived.Test.YtokakgjcegmabaaGreatDoorLL
set_option linter.unusedVariables false
set_option linter.unusedSimpArgs false
set_option maxHeartbeats 64000000
set_option maxRecDepth 100000
namespace Go.Proofs.YtokakgjcegmabaaGreatDoor
section
open Go.RowKit
theorem flat_drop:∀ (i:Nat) (p:List (List UInt8)),All32 p→(flat p).drop (32 * i)=flat (p.drop i)
 | 0,p,_=>rfl
 | i + 1,[],_=>by simp [flat]
 | i + 1, a :: p, h => by
   have ha:a.length=32:=h a (by simp)
   have e:flat (a :: p)=a++flat p:=rfl
   rw [e,show 32 * (i + 1)=a.length + 32 * i from by omega,List.drop_append,List.drop_eq_nil_of_le (by omega),List.nil_append,show a.length + 32 * i - a.length=32 * i from by omega,flat_drop i p h.tail]
   rfl
theorem hashes_flat (p:List (List UInt8)) (h:All32 p):hashesL (flat p)=p:=by
 have hl:(hashesL (flat p)).length=p.length:=by rw [hashesL_len,flat_len h];omega
 refine List.ext_getElem hl fun i h1 h2=>?_
 rw [hashesL_get,flat_drop i p h,List.drop_eq_getElem_cons h2]
 have e:flat (p[i] :: p.drop (i + 1))=p[i]++flat (p.drop (i + 1)):=rfl
 have hx:(p[i]).length=32:=h _ (List.getElem_mem _)
 rw [e,List.take_append_of_le_length (by omega),List.take_of_length_le (by omega)]
theorem sig_parts {S:ByteArray} {h m:Nat} (t:List UInt8) (hh:h≤7) (hm:m<2 ^ h) :
 (pathV (leafL S.data.toList h) m).length=h∧(mkS (sigL S.data.toList h m t)).size=1089 + 32 * h∧plV h (mkS (sigL S.data.toList h m t))=some m:=by
 have hP:=pow_le7 hh
 have ho:=okP_leaf S.data.toList hh hm
 have hp:(pathV (leafL S.data.toList h) m).length=h:=by
  unfold pathV;rw [if_pos ho,refP_len,leafL_len,hiN_pow]
 have hz:(mkS (sigL S.data.toList h m t)).size=1089 + 32 * h:=by
  rw [mkS_size];unfold sigL sigH
  rw [List.length_append,List.length_cons,signL_len,flat_len (pathV_32 _ _ (leafL_32 _ _)),hp]
 refine ⟨hp,hz,?_⟩
 have h0:((mkS (sigL S.data.toList h m t)).data.toList.getD 0 0).toNat=m:=by
  rw [mkS_data];unfold sigL sigH
  rw [List.cons_append,List.getD_cons_zero,u8n _ (by omega)]
 unfold plV
 rw [h0,Int.toNat_natCast]
 have hk:hiK (h:Int)=true:=decide_eq_true ⟨by omega,by omega⟩
 rw [if_pos ⟨hk,by rw [hz];omega,hm⟩]
theorem drop_1089 (A:List UInt8) (B:List UInt8) (h:A.length=1089):(A++B).drop 1089=B:=by
 rw [← h];exact List.drop_left
theorem vf_key (SL A B T root:List UInt8) (i:Int) (h1:(SL.drop 1).take 1088=A) (h2:SL.drop 1089=B) :
 (if climbV (recV T ((SL.drop 1).take 1088)) i (hashesL (SL.drop 1089))=root then (0:Int) else 9)=if climbV (recV T A) i (hashesL B)=root then 0 else 9:=by rw [h1,h2]
theorem vf_sign {S:ByteArray} {h m:Nat} (t:ByteArray) (root:List UInt8) (hh:h≤7) (hm:m<2 ^ h) :
 vfE root h t (mkS (sigL S.data.toList h m t.data.toList))=if rootV (leafL S.data.toList h)=root then 0 else 9:=by
 obtain ⟨hp,hz,hpl⟩:=sig_parts (S:=S) t.data.toList hh hm
 unfold vfE
 rw [hpl]
 simp only [mkS_data]
 have e1:(sigL S.data.toList h m t.data.toList).drop 1=signL (seedL S.data.toList m) t.data.toList++flat (pathV (leafL S.data.toList h) m):=rfl
 have hs:(signL (seedL S.data.toList m) t.data.toList).length=1088:=signL_len _ _
 have e2:((sigL S.data.toList h m t.data.toList).drop 1).take 1088=signL (seedL S.data.toList m) t.data.toList:=by
  rw [e1,List.take_append_of_le_length (by omega),List.take_of_length_le (by omega)]
 have e3:(sigL S.data.toList h m t.data.toList).drop 1089=flat (pathV (leafL S.data.toList h) m):=by
  unfold sigL sigH
  exact drop_1089 _ _ (by rw [List.length_cons,hs])
 refine (vf_key _ _ _ _ root (m:Int) e2 e3).trans ?_
 rw [hashes_flat _ (pathV_32 _ _ (leafL_32 _ _)),recV_yes _ _ hs,rec_sign]
 have ho:=okP_leaf S.data.toList hh hm
 have hf:fitN (leafL S.data.toList h).length=true:=by rw [leafL_len];exact fit_pow h hh
 have e4:climbV (pubL (seedL S.data.toList m)) (m:Int) (pathV (leafL S.data.toList h) m)=rootV (leafL S.data.toList h):=by
  unfold climbV
  rw [if_pos (by rw [hp];exact okC_pow hh hm),Int.toNat_natCast]
  unfold pathV rootV
  rw [if_pos ho,if_pos hf,leafL_len,hiN_pow,Int.toNat_natCast,← climb_path h (leafL S.data.toList h) m (leafL_len _ _) hm]
  congr 1
  rw [List.getD_eq_getElem?_getD,List.getElem?_eq_getElem (by rw [leafL_len];exact hm),Option.getD_some,leafL_get _ _ _ hm]
 rw [e4]
end
section
open Go.RowKit
section
variable {ops:Array Oper} {rest:List Oper} {o:Oper} {a:Act} {w:World} {Q:Exit→Act→World→Prop}
theorem wpL_boxT (T:TypeId) (hgd:o.guard=none) (x:Operand) (ho:o.op=.box T x) (xs:List Value) (hx:a.eval x=.agg xs.toArray)
 (h:∀ b W,NewAt w W b T xs→wpList Tryz.prog ops Q rest (a.put o.dst (.pointer (some ⟨b,0,none⟩))) W) :
 wpList Tryz.prog ops Q (o :: rest) a w:=by
 refine wpList_plain hgd fun K hK=>?_
 have:=hK _ _ (h w.heap.size (w.alloc (.cells xs.toArray T)) (NewAt.mk' _ _ _))
 unfold Oper.wp execOp
 simp only [ho,Instr.box,Sem.run_bind,Result.andThen_ok,hx]
 simp [newVar,newRow,Value.cells]
 exact this
end
theorem krKey_any (w:World) (b:Nat) (S:ByteArray) (H N:Int) (hA:Arr w b 118 [.string S,.int .i64 H,.int .i64 N]) :
 Calls Tryz.prog 19 #[.pointer (some ⟨b,0,none⟩)] w fun e w'=>e=.returned (.agg #[.string S,.int .i64 H,.int .i64 N])∧Below w.heap.size w w':=by
 have HA:=hidp hA;have hlt:=hidp hA.lt;clear hA
 go_enter Tryz.func19,Tryz.ntmps19
 go_wp2_with (refine wpL_newK rfl rfl ?_;intro b2 w2 n2;have HX:=hidp (n2.old HA.out);have HR:=hidp n2.arr;have HB:=hidp n2.below;have h2w:=hidp n2.le;have hne:b≠b2:=(by have:=n2.at_;have:=hlt.out;omega);clear n2;obtain ⟨x0,x1,x2,-⟩:=arr3k HX.out;obtain ⟨y0,y1,y2,yf⟩:=arr3k HR.out;have f0:=yf 0;have f1:=yf 1;have f2:=yf 2;clear yf;have hne':b2≠b:=Ne.symm hne)
 clear y0 y1 y2 f0 f1 f2
 clear x0 x1 x2
 obtain ⟨w9,hw9,ha9,hp9⟩:=set3 HR.out (.string S) (.int .i64 H) (.int .i64 N)
 rw [hw9]
 have HB9:=hidp (hp9.below' HB.out h2w.out)
 obtain ⟨y0,y1,y2,-⟩:=arr3k ha9
 refine bodyPost_ret (v:=.agg #[.string S,.int .i64 H,.int .i64 N]) (by simp [results,Tryz.results19,go_sem,y0,y1,y2]) rfl ⟨rfl,HB9.out⟩
theorem krRoot_any (w:World) (b:Nat) (S:ByteArray) (H N:Int) (hA:Arr w b 118 [.string S,.int .i64 H,.int .i64 N]) (hK:KT w) :
 Calls Tryz.prog 28 #[.pointer (some ⟨b,0,none⟩)] w fun e w'=>e=.returned (.agg (u8s (keyR S H N)).toArray)∧Below w.heap.size w w':=by
 have HK:=hidp hK;have hkp:=hK.pos;clear hK
 have HA:=hidp hA;have hlt:=hidp hA.lt;clear hA
 have hRl:=hidp (keyR_len S H N)
 have cr:=hidp (fun W (k:KT W)=>kroot_any W S H N k)
 obtain ⟨R,hR⟩:∃ R,keyR S H N=R:=⟨_,rfl⟩
 rw [hR] at hRl cr ⊢
 clear hR
 go_enter Tryz.func28,Tryz.ntmps28
 go_wp2_with (refine wpL_new rfl rfl ?_;intro b2 w2 n2;have HA2:=hidp (n2.old HA.out);have HR2:=hidp n2.arr;have HB2:=hidp n2.below;have h2w:=hidp n2.le;clear n2)
 refine (krKey_any _ b S H N HA2.out).mono ?_
 rintro e w3 ⟨rfl,hb3⟩
 have HB3:=hidp (HB2.out.trans (hb3.mono HB2.out.size));have HR3:=hidp (HR2.out.below hb3 HR2.out.lt)
 clear hb3
 go_wp2_with fail
 refine (cr.out _ (HK.out.below HB3.out hkp)).mono ?_
 rintro e w4 ⟨rfl,hb4⟩
 have HB4:=hidp (HB3.out.trans (hb4.mono HB3.out.size));have HR4:=hidp (HR3.out.below hb4 HR3.out.lt)
 clear hb4
 go_wp2_with (first
  | (refine wpL_new rfl rfl ?_;intro b3 w5 n5)
  | (refine wpL_put rfl (.tmp 3) (.tmp 9) rfl b3 R rfl rfl hRl.out (u8s z32) rfl n5.arr ?_;intro w6 ha hp;have HR6:=hidp (hp.old (n5.old HR4.out) (by have:=n5.at_;have:=HR4.out.lt;omega));have HB6:=hidp (HB4.out.trans ((n5.put hp).mono HB4.out.size));clear n5 hp;have HC6:=hidp ha;clear ha)
  | (refine wpL_get rfl (.tmp 3) rfl b3 R rfl hRl.out HC6.out ?_)
  | (refine wpL_put rfl (.tmp 2) (.tmp 11) rfl b2 R rfl rfl hRl.out (u8s z32) rfl HR6.out ?_;intro w9 ha9 hp9))
 have HB9:=hidp (hp9.below' HB6.out h2w.out)
 refine bodyPost_ret (results_cell_row (P:=Tryz.prog) (p:=2) (ty:=58) Tryz.results28 _ _ b2 58 (u8s R).toArray (0,0) _ rfl ha9 hash_row rfl (hash_size hRl.out)) rfl ⟨rfl,HB9.out⟩
def rgA (S:ByteArray) (H N:Int):List Value:=if sgE S H N=0 then sgA S H N else [.string S,.int .i64 H,.int .i64 N]
theorem krSign_any (w:World) (b:Nat) (S:ByteArray) (h m:Nat) (hok:kyOk S h m=true) (t:ByteArray) (ht:t.size≤281474976710656 / 4) (hA:Arr w b 118 [.string S,.int .i64 (h:Int),.int .i64 (m:Int)]) (hK:KT w) :
 Calls Tryz.prog 39 #[.pointer (some ⟨b,0,none⟩),.string t] w fun e w'=>e=.returned (.tuple #[.string (sgS S h m t.data.toList),.int .i64 (sgE S h m)])∧∃ W,Below w.heap.size w W∧Stp b W w'∧Arr w' b 118 (rgA S h m):=by
 have HK:=hidp hK;have hkp:=hK.pos;clear hK
 have HA:=hidp hA;have hlt:=hidp hA.lt;clear hA
 have hS:=(kyOk_parts hok).1.2
 have cs:=hidp (fun W (k:KT W)=>ksign_any W S (h:Int) (m:Int) t ht k)
 by_cases hn:m=2 ^ h
 · obtain ⟨g1,g2,g3⟩:=sg_over t.data.toList hok (by rw [Int.toNat_natCast,hn])
   have G4:=hidp (show rgA S h m=[.string S,.int .i64 (h:Int),.int .i64 (m:Int)] from by unfold rgA;rw [g3];rfl)
   rw [g1,g2,g3] at cs
   rw [g2,g3,G4.out]
   clear g1 g2 g3 hn hok
   go_enter Tryz.func39,Tryz.ntmps39
   go_wp2_with fail
   refine (krKey_any _ b S h m HA.out).mono ?_
   rintro e w1 ⟨rfl,hb1⟩
   have HA1:=hidp (HA.out.below hb1 hlt.out);have HB1:=hidp hb1
   clear hb1
   go_wp2_with fail
   refine (cs.out _ (HK.out.below HB1.out hkp)).mono ?_
   rintro e w2 ⟨rfl,hb2⟩
   have HA2:=hidp (HA1.out.below hb2 HA1.out.lt);have HB2:=hidp (HB1.out.trans (hb2.mono HB1.out.size))
   clear hb2 HA1
   go_wp2_with (first
    | (refine wpL_newK rfl rfl ?_;intro b6 w3 n3;have HA3:=hidp (n3.old HA2.out);have HR3:=hidp n3.arr;have HB3:=hidp (HB2.out.trans (n3.below.mono HB2.out.size));have h3w:=hidp (Nat.le_trans HB2.out.size n3.le);have hbb:=hidp (show b<b6 from by have:=n3.at_;have:=HA2.out.lt;omega);clear n3)
    | (refine wpL_putK rfl (.tmp 6) (.tmp 14) rfl b6 (.string S) (.int .i64 (h:Int)) (.int .i64 (m:Int)) rfl rfl (by simp [Value.oneCell']) _ _ _ HR3.out ?_;intro w4 ha hp;have HA4:=hidp (hp.old HA3.out hbb.out);have HC4:=hidp ha;have HB4:=hidp (hp.below' HB3.out h3w.out);clear ha hp HA3 HR3 HB3;obtain ⟨x0,x1,x2,-⟩:=arr3k HC4.out;obtain ⟨y0,y1,y2,yf⟩:=arr3k HA4.out;have f0:=yf 0;have f1:=yf 1;have f2:=yf 2;clear yf;have hne:b≠b6:=(by have:=hbb.out;omega);have hne':b6≠b:=Ne.symm hne))
   clear x0 x1 x2 y0 y1 y2 f0 f1 f2
   go_ret2
   exact ⟨rfl,_,HB4.out,⟨rfl,fun _ _=>rfl,fun N _=>Below.refl N _⟩,HA4.out⟩
 · obtain ⟨g1,g2,g3⟩:=sg_yes t.data.toList hok (by rw [Int.toNat_natCast];exact_mod_cast hn)
   have G4:=hidp (show rgA S h m=[.string S,.int .i64 (h:Int),.int .i64 ((m:Int) + 1)] from by unfold rgA;rw [g3,if_pos rfl,g1])
   rw [g1,g3] at cs
   rw [g3,G4.out]
   obtain ⟨G,hG⟩:∃ G,sgS S h m t.data.toList=G:=⟨_,rfl⟩
   rw [hG] at cs ⊢
   clear g1 g2 g3 hn hok hG
   go_enter Tryz.func39,Tryz.ntmps39
   go_wp2_with fail
   refine (krKey_any _ b S h m HA.out).mono ?_
   rintro e w1 ⟨rfl,hb1⟩
   have HA1:=hidp (HA.out.below hb1 hlt.out);have HB1:=hidp hb1
   clear hb1
   go_wp2_with fail
   refine (cs.out _ (HK.out.below HB1.out hkp)).mono ?_
   rintro e w2 ⟨rfl,hb2⟩
   have HA2:=hidp (HA1.out.below hb2 HA1.out.lt);have HB2:=hidp (HB1.out.trans (hb2.mono HB1.out.size))
   clear hb2 HA1
   go_wp2_with (first
    | (refine wpL_newK rfl rfl ?_;intro b6 w3 n3;have HA3:=hidp (n3.old HA2.out);have HR3:=hidp n3.arr;have HB3:=hidp (HB2.out.trans (n3.below.mono HB2.out.size));have h3w:=hidp (Nat.le_trans HB2.out.size n3.le);have hbb:=hidp (show b<b6 from by have:=n3.at_;have:=HA2.out.lt;omega);clear n3)
    | (refine wpL_putK rfl (.tmp 6) (.tmp 14) rfl b6 (.string S) (.int .i64 (h:Int)) (.int .i64 ((m:Int) + 1)) rfl rfl (by simp [Value.oneCell']) _ _ _ HR3.out ?_;intro w4 ha hp;have HA4:=hidp (hp.old HA3.out hbb.out);have HC4:=hidp ha;have HB4:=hidp (hp.below' HB3.out h3w.out);clear ha hp HA3 HR3 HB3;obtain ⟨x0,x1,x2,-⟩:=arr3k HC4.out;obtain ⟨y0,y1,y2,yf⟩:=arr3k HA4.out;have f0:=yf 0;have f1:=yf 1;have f2:=yf 2;clear yf;have hne:b≠b6:=(by have:=hbb.out;omega);have hne':b6≠b:=Ne.symm hne))
   clear x0 x1 x2 y0 y1 y2 f0 f1 f2
   obtain ⟨w9,hw9,ha9,hp9⟩:=set3 HA4.out (.string S) (.int .i64 (h:Int)) (.int .i64 ((m:Int) + 1))
   rw [hw9]
   go_ret2
   exact ⟨rfl,_,HB4.out,hp9,ha9⟩
theorem kmake_no (w:World) (S:ByteArray) (H N:Int) (hok:kyOk S H N=false) :
 Calls Tryz.prog 15 #[.agg #[.string S,.int .i64 H,.int .i64 N]] w fun e w'=>e=.returned (.tuple #[.pointer none,.int .i64 2])∧Below w.heap.size w w':=by
 have c1:=hidp (fun W=>kyCheck_any W S H N)
 have hE:kyE S H N=2:=by unfold kyE;rw [hok];rfl
 rw [hE] at c1
 clear hE hok
 go_enter Tryz.func15,Tryz.ntmps15
 go_wp2_with (refine wpL_boxK rfl _ rfl [.string S,.int .i64 H,.int .i64 N] rfl ?_;intro b1 w1 n1;have HA:=hidp n1.arr;have HB:=hidp n1.below;clear n1;obtain ⟨x0,x1,x2,-⟩:=arr3k HA.out)
 clear x0 x1 x2
 refine (c1.out _).mono ?_
 rintro e w2 ⟨rfl,hb2⟩
 have HA2:=hidp (HA.out.below hb2 HA.out.lt);have HB2:=hidp (HB.out.trans (hb2.mono HB.out.size))
 clear hb2 HA HB
 obtain ⟨x0,x1,x2,-⟩:=arr3k HA2.out
 go_wp2_with fail
 go_ret2
 exact ⟨rfl,HB2.out⟩
theorem kmake_yes (w:World) (S:ByteArray) (H N:Int) (hS:S.size≤281474976710656) (hok:kyOk S H N=true) :
 Calls Tryz.prog 15 #[.agg #[.string S,.int .i64 H,.int .i64 N]] w fun e w'=>∃ b,e=.returned (.tuple #[.pointer (some ⟨b,0,none⟩),.int .i64 0])∧Arr w' b 118 [.string S,.int .i64 H,.int .i64 N]∧w.heap.size≤b∧Below w.heap.size w w':=by
 have c1:=hidp (fun W=>kyCheck_any W S H N)
 have co:=hidp (fun W=>owned_any W S H N hS)
 have hE:kyE S H N=0:=by unfold kyE;rw [hok];rfl
 rw [hE] at c1
 clear hE hok
 go_enter Tryz.func15,Tryz.ntmps15
 go_wp2_with (refine wpL_boxK rfl _ rfl [.string S,.int .i64 H,.int .i64 N] rfl ?_;intro b1 w1 n1;have HA:=hidp n1.arr;have HB:=hidp n1.below;clear n1;obtain ⟨x0,x1,x2,-⟩:=arr3k HA.out)
 clear x0 x1 x2
 refine (c1.out _).mono ?_
 rintro e w2 ⟨rfl,hb2⟩
 have HA2:=hidp (HA.out.below hb2 HA.out.lt);have HB2:=hidp (HB.out.trans (hb2.mono HB.out.size))
 clear hb2 HA HB
 obtain ⟨x0,x1,x2,-⟩:=arr3k HA2.out
 go_wp2_with fail
 clear x0 x1 x2
 refine (co.out _).mono ?_
 rintro e w3 ⟨rfl,hb3⟩
 have HB3:=hidp (HB2.out.trans (hb3.mono HB2.out.size))
 clear hb3
 go_wp2_with (refine wpL_boxT 118 rfl (.tmp 12) rfl [.string S,.int .i64 H,.int .i64 N] rfl ?_;intro b5 w5 n5)
 go_ret2
 exact ⟨b5,rfl,n5.arr,Nat.le_trans HB3.out.size n5.le,HB3.out.trans (n5.below.mono HB3.out.size)⟩
end
end Go.Proofs.YtokakgjcegmabaaGreatDoor
