import Derived.Test.YtokakgjcegmabaaGreatDoorLPL
set_option linter.unusedVariables false
set_option linter.unusedSimpArgs false
set_option maxHeartbeats 64000000
set_option maxRecDepth 100000
namespace Go.Proofs.YtokakgjcegmabaaGreatDoor.Pf
open Go.RowKit
open List (getElem_toArray getElem_cons_zero getElem_cons_succ setIfInBounds_toArray set_cons_zero set_cons_succ)
open Hd
open Ho (inE inV in_zero in_not al_sz allInt_any)
open En (eOk eE eT eE_yes eE_no esmV er er_some erV erE eread_any En naI naS)
open En (eT_yes eL eL_ok eOk_parts wSigE er_back erL esV esE esR esign_any etext_any z32e eT_sig wSigE_ok)
open Ho (fi_one gs_one rwG run_bldG Rg rgAt ringR)
theorem e300:mkS (encN 300)=⟨#[172,2]⟩:=by decide +kernel
theorem begins_any (w:World):Calls Tryz.prog 20 #[] w fun e w'=>e=.returned (.bool true)∧Below w.heap.size w w':=by
 have c1:Hid (∀ w,Calls Tryz.prog 66 #[.int .u64 300] w fun e w'=>e=.returned (.tuple #[.string ⟨#[172,2]⟩,.int .i64 0])∧Below w.heap.size w w'):=fun w=>by
  have:=num_any w 300 (by omega);rw [numS_yes (by omega),numE_yes (by omega),e300] at this;exact this
 go_enter Tryz.func20,Tryz.ntmps20
 go_wp2_with fail
 refine (c1.out _).mono ?_
 rintro e w1 ⟨rfl,hb1⟩
 go_wp2_with fail
 go_ret
 exact ⟨rfl,hb1⟩
theorem says_eT {x:En.En} (h:eOk x=true) (hp:x.p.length=32):says (eT x)=some (jOf x):=by
 rw [says_en (er_back h hp)]
 unfold jOf esmV
 have h0:eOk (wSigE x ⟨#[]⟩)=true:=wSigE_ok h (by decide)
 rw [if_pos h0,if_pos h0,if_pos h,if_pos h,eT_sig h (by decide)];rfl
theorem says_jT {x:Hd} (h:jOk x=true) (hp:x.p.length=32):says (jT x)=some (wSigJ x ⟨#[]⟩):=by
 rw [says_jr,jr_back h hp]
 unfold er
 rw [jT_yes h,al_back _ (jL_ok h hp)]
 simp only [if_true,jL];rfl
theorem jOf_len' (x:En.En):(jOf x).p.length=32:=by
 unfold jOf;split
 · exact esm_len x
 · rfl
theorem jOf_ok {x:En.En} (h:eOk x=true):jOk (jOf x)=true:=by
 obtain ⟨⟨n,h1⟩,h2,h3,h4,h5⟩:=En.eOk_parts h
 unfold jOf;rw [if_pos h]
 exact jOk_mk (by show (who 2 x.r).isSome=true;rw [h1];rfl) h2 h3 (by show (⟨#[]⟩:ByteArray).size≤8192;decide)
theorem jT_8192 {x:Hd} (h:jOk x=true) (hp:x.p.length=32):(jT x).size≤8192:=by
 obtain ⟨⟨n,h1⟩,h2,h3,h4⟩:=jOk_parts h
 have g1:=who_size h1
 have g2:=encN_len64 x.e.toNat (by omega)
 have g3:=encN_len64 x.i.toNat (by omega)
 have e1:=Ho.encTs_len (jL x) 32 (by omega) (fun s hs=>by
  simp only [jL,List.mem_cons,List.not_mem_nil,or_false] at hs
  rcases hs with rfl | rfl | rfl | rfl | rfl
  · show wHead.size≤32;decide
  · omega
  · rw [mkS_size];omega
  · rw [mkS_size];omega
  · rw [mkS_size];omega)
 rw [jT_yes h,mkS_size];unfold encL
 have e2:=encN_len64 (jL x).length (by simp [jL])
 simp only [jL,List.length_append,List.length_cons,List.length_nil] at e1 e2 ⊢;omega
theorem es_E {S:ByteArray} {h m:Nat} (hok:kyOk S h m=true) (hm:m<2 ^ h) (x:En.En):esE S h m x=eE x:=by
 obtain ⟨-,-,p3⟩:=sg_yes (S:=S) (H:=h) (N:=m) [] hok (by rw [Int.toNat_natCast];exact_mod_cast Nat.ne_of_lt hm)
 unfold En.esE
 cases hx:eOk x with
 | true=>rw [if_pos rfl,p3,eE_yes hx]
 | false=>rw [if_neg (by decide),eE_no hx]
theorem ky_up {S:ByteArray} {h m k:Nat} (hok:kyOk S h m=true) (hk:k≤2 ^ h):kyOk S h k=true:=by
 unfold kyOk at hok ⊢
 simp only [Bool.and_eq_true,decide_eq_true_eq] at hok ⊢
 exact ⟨hok.1,by omega,by rw [Int.toNat_natCast];exact_mod_cast hk⟩
theorem rg_up {S:ByteArray} {h m:Nat} (hok:kyOk S h m=true) (hm:m<2 ^ h):sgE S h m=0∧rgA S h m=ringR S h (m + 1)∧∀ t,sgS S h m t=mkS (sigL S.data.toList h m t):=by
 have hq:=fun t=>sg_yes (S:=S) (H:=h) (N:=m) t hok (by rw [Int.toNat_natCast];exact_mod_cast Nat.ne_of_lt hm)
 refine ⟨(hq []).2.2,?_,fun t=>?_⟩
 · unfold rgA;rw [if_pos (hq []).2.2,(hq []).1];unfold ringR;rw [Int.natCast_add];rfl
 · have:=(hq t).2.1;rwa [Int.toNat_natCast,Int.toNat_natCast] at this
theorem es_at {S:ByteArray} {h m:Nat} (hok:kyOk S h m=true) (hm:m<2 ^ h) (x:En.En):∃ k:Nat,kyOk S h k=true∧k≤m + 1∧esR S h m x=ringR S h k∧(eOk x=true→k=m + 1):=by
 obtain ⟨g1,g2,-⟩:=rg_up hok hm
 unfold En.esR
 cases hx:eOk x with
 | true=>exact ⟨m + 1,ky_up hok hm,Nat.le_refl _,by rw [if_pos rfl,g2],fun _=>rfl⟩
 | false=>exact ⟨m,hok,by omega,by rw [if_neg (by decide)],fun h=>by cases h⟩
theorem bv_key {S:ByteArray} {h m:Nat} (hok:kyOk S h m=true) (hm:m<2 ^ h) {R:List UInt8} (hR:rootV (leafL S.data.toList h)=R) (i:Int) (h0:0≤i) (h1:i≤4096) (t:ByteArray):bvE [⟨1,0,4096,(h:Int),R⟩] 1 i t (sgS S h m t.data.toList)=0:=by
 have hh:=(kyOk_parts hok).2.1
 have hvg:vG ⟨1,0,4096,(h:Int),R⟩=true:=by
  unfold vG
  simp only [Bool.and_eq_true,decide_eq_true_eq]
  exact ⟨⟨⟨⟨⟨⟨by omega,by omega⟩,by omega⟩,by omega⟩,by omega⟩,hh.1⟩,hh.2⟩
 unfold bvE
 obtain ⟨q1,q2⟩:=fi_one hvg 1 i
 have q3:fdG 1 i ⟨1,0,4096,(h:Int),R⟩=true:=by
  unfold fdG
  simp only [Bool.and_eq_true,decide_eq_true_eq]
  exact ⟨⟨trivial,h0⟩,h1⟩
 rw [q3] at q1
 rw [q1,if_pos (by rfl),q2 q3,(rg_up hok hm).2.2]
 have:=vf_sign (S:=S) (h:=h) (m:=m) t R (by omega) hm
 rw [if_pos hR] at this
 exact this
theorem ck_gen {gs:List Gr} {s:Int} {a sa b sb:ByteArray} {A B:Hd} (hs:0≤s∧s≤63) (h1:a.size≤8192) (h2:sa.size≤8192) (h3:b.size≤8192) (h4:sb.size≤8192) (ha:says a=some A) (hb:says b=some B) (hp:plc A B=true)
 (g1:bvE gs s A.i a sa=0) (g2:bvE gs s A.i b sb=0):ckE gs ⟨s,a,sa,b,sb⟩=if A.p=B.p then 4 else 0:=by
 unfold ckE
 rw [if_pos (pOk_iff.2 ⟨hs,h1,h2,h3,h4⟩)]
 have e1:syV a=A:=by unfold syV;rw [ha];rfl
 have e2:syV b=B:=by unfold syV;rw [hb];rfl
 have e3:syE a=0:=by unfold syE;rw [ha];rfl
 have e4:syE b=0:=by unfold syE;rw [hb];rfl
 simp only [e1,e2,e3,e4]
 rw [if_pos ⟨trivial,trivial⟩,if_pos hp]
 unfold vfy
 simp only
 rw [if_pos g1,g2]
theorem wp_cutV {P:Program} {c:Code} {Q:Exit→Act→World→Prop} {a:Act} {w:World} (f:Act→Value→Act) (G:Value→World→Prop)
 (h1:c.wp P (fun e a' W=>e=.normal∧∃ v,a'=f a v∧G v W) a w) (h2:∀ v W,G v W→Q .normal (f a v) W):c.wp P Q a w :=
 wp_mono h1 fun e a' W h=>by
  obtain ⟨rfl,v,rfl,hg⟩:=h
  exact h2 v W hg
theorem o_putFi {P:Program} {ops:Array Oper} {o:Oper} {a:Act} {w w0:World} {Q:Exit→Act→World→Prop} {S:World→Prop} {j:Nat} {K:Act→World→Prop} {N:Nat} {L:List Mm.Bx} {ty b t:Nat} {ys:List Value} (H:Hid (Mm.M N w0 w L)) (i:Nat) (hi:L[i]?=some ⟨b,t,ys⟩) (f:Nat) (v:Value) (hT:∀ W,Mm.M N w0 W (L.set i ⟨b,t,ys.set f v⟩)→S W) (ho:ops[j]?=some o) (hw:Region.wanted o (yielded ops a.tmps)=true) (x y:Operand) (hop:o.op=.store ty x y) (hx:a.eval x=.pointer (some ⟨b,f,none⟩)) (hy:a.eval y=v)
 (hs:(P.info? ty).map (·.size)=some 1) (h1:v.oneCell'=true) (hf:f<ys.length)
 (h:∀ W,Hid (Mm.M N w0 W (L.set i ⟨b,t,ys.set f v⟩))→Rt.Stp b w W→K (a.put o.dst undef) W):opW P ops Q S j K a w:=by
 have ha:Arr w b t ys:=H.out.has ⟨b,t,ys⟩ (List.mem_of_getElem? hi)
 have st:=Rt.Stp.setRow w b (ys.set f v).toArray
 have hM:=H.out.put i b t (ys.set f v) ys hi (Arr.row ha (ys.set f v)) st
 subst hy
 refine ⟨o,ho,hw,?_⟩
 have:=h _ (hidp hM) st
 unfold Oper.wp
 rw [show (execOp a.eval o).run P w=.ok .skip (w.setRow b (ys.set f (a.eval y)).toArray) from by
  unfold execOp
  simp only [hop,hx,Instr.storeAt,Instr.sureAddr,Sem.run_bind,Sem.run_pure,Result.andThen_ok,Rt.run_storeVar_cell w b f t ty ys _ ha hf hs h1]]
 exact ⟨hT _ hM,this⟩
section
variable {ops:Array Oper} {rest:List Oper} {o:Oper} {a:Act} {w w0:World} {N:Nat} {L:List Mm.Bx} {Q:Exit→Act→World→Prop} {S:World→Prop} {k:Nat} {s:Scr} {K:Act→World→Prop}
theorem wpL_mid (hw:Region.wanted o (yielded ops a.tmps)=true) (x:Operand) (ho:o.op=.load 58 x) (b off:Nat) (l:List UInt8) (hx:a.eval x=.pointer (some ⟨b,off,none⟩)) (hl:l.length=32) (hg:w.rangeAt b off (u8s l))
 (h:wpList Tryz.prog ops Q rest (a.put o.dst (.agg (u8s l).toArray)) w):wpList Tryz.prog ops Q (o :: rest) a w :=
 wpList_step fun K hK=>by
  rw [if_pos hw]
  exact wp_load_mid 58 x ho b off hx (u8s l) _ hg hash_row rfl (by have:=hash_size hl;simpa using this) (hK _ _ h)
theorem wpL_neHs (hw:Region.wanted o (yielded ops a.tmps)=true) (x y:Operand) (u:TypeId) (hop:o.op=.binOp .neq 58 x y u)
 (e f:List UInt8) (he:e.length=32) (hf:f.length=32) (hx:a.eval x=.agg (u8s e).toArray) (hy:a.eval y=.agg (u8s f).toArray) (h:wpList Tryz.prog ops Q rest (a.put o.dst (.bool (!decide (e=f)))) w):wpList Tryz.prog ops Q (o :: rest) a w:=by
 refine wpList_step fun K hK=>?_
 rw [if_pos hw]
 have:=hK _ _ h
 unfold Oper.wp execOp
 simp only [hop,hx,hy,Sem.run_bind,run_eqGuard_agg (P:=Tryz.prog) _ _ _ _ _ _ _ guard_hash,neq_hash w e f he hf,Result.andThen_ok,Sem.run_pure]
 exact this
theorem s_bldG (ho:ops[k]?=some o) (hw:Region.wanted o (yielded ops a.tmps)=true) (x0 x2 x3 x4:Operand) (hop:o.op=.build 61 #[(0,x0),(2,x2),(3,x3),(4,x4)]) (z t h:Int) (r:List UInt8) (h0:a.eval x0=.int .i64 z) (h2:a.eval x2=.int .i64 t) (h3:a.eval x3=.int .i64 h) (h4:a.eval x4=.agg (u8s r).toArray) (hok:r.length=32)
 (hh:wpScr Tryz.prog ops Q s S (a.put o.dst (.agg (Gr.row ⟨z,0,t,h,r⟩).toArray)) w):wpScr Tryz.prog ops Q (.take k s) S a w :=
 s_val ho hw (fun w _=>by
  unfold execOp
  simp only [hop,List.map_toArray,List.map_cons,List.map_nil,h0,h2,h3,h4,Sem.run_bind,run_bldG w z t h r hok,Result.andThen_ok]
  rfl) hh
theorem o_bsG (H:Hid (Mm.M N w0 w L)) (hT:∀ W,Mm.M N w0 W L→S W) (ho:ops[k]?=some o) (hw:Region.wanted o (yielded ops a.tmps)=true) (x:Operand) (hop:o.op=.buildSlice 27 1 #[(0,x)]) (g:Gr) (hx:a.eval x=.agg g.row.toArray) (hg:g.row.length=36)
 (h:∀ b W,Hid (Mm.M N w0 W (⟨b,61,g.row⟩ :: L))→K (a.put o.dst (.slice (some ⟨b,0,none⟩) 1 1)) W):opW Tryz.prog ops Q S k K a w:=by
 have n:=Rt.NewAt.mk' w 61 g.row
 have hM:=H.out.new n
 refine o_make ho hw ?_ (hT _ hM.tail) (h _ _ (hidp hM))
 unfold execOp
 simp only [hop,List.map_toArray,List.map_cons,List.map_nil,hx,Sem.run_bind,Rw.run_bs1R rwG g.row hg,Result.andThen_ok]
 rfl
end
theorem hd_mid {w:World} {b:Nat} {x:Hd} (ha:Arr w b 67 x.row):w.rangeAt b 3 (u8s x.p):=by
 have h:=ha.range
 unfold Hd.row at h
 rw [List.append_assoc,rangeAt_app] at h
 have:=(rangeAt_app.1 h.2).1
 simpa using this
theorem walk_topLiar (w:World) (S:ByteArray) (H0 N0:Int) (hS:S.size≤140737488351232) (wH:(Lit.int .i64 H0).wf) (wN:(Lit.int .i64 N0).wf) (e:En.En) (he:e.ok) (f:En.En) (hf:f.ok) (hL:IT w∧KT w) :
 Calls Tryz.prog 10 #[.agg #[.string S,.int .i64 H0,.int .i64 N0],.agg e.row.toArray,.agg f.row.toArray] w fun e w'=>e=.returned (.bool true)∧Below w.heap.size w w':=by
 obtain ⟨hI,hK⟩:=hL
 have hkp:=hK.pos
 have HI:=hidp hI;have HK:=hidp hK;clear hI hK wH wN
 have H:=hidp (Mm.M.nil w)
 have HE:=hidp he.p
 have HF:=hidp hf.p
 cases hok:kyOk S H0 N0 with
 | false =>
   have ck:=hidp (fun W=>kmake_no W S H0 N0 hok)
   clear hok hS he hf
   go_enter Tryz.func10,Tryz.ntmps10
   have tk0:=hT
   go_wp2_with (first|(clear tk0;(refine Mm.box 23 H rfl (.tmp 0) rfl [.string S,.int .i64 H0,.int .i64 N0] rfl ?_;clear H;intro b3 _ H nw;clear nw);(try simp only [aR]);have tk1:=hT)|(clear tk1;(refine Mm.box 103 H rfl (.tmp 1) rfl e.row rfl ?_;clear H;intro b4 _ H nw;clear nw);(try simp only [aR]);have tk2:=hT)|(clear tk2;(refine Mm.box 103 H rfl (.tmp 2) rfl f.row rfl ?_;clear H;intro b5 _ H nw;clear nw);(try simp only [aR]);have tk3:=hT)|(clear tk3;(go_at_call 20;refine (begins_any _).mono ?_;rintro e _ ⟨rfl,hb⟩;replace H:=hidp (H.out.call hb);clear hb);(try simp only [aR]);have tk4:=hT)|(clear tk4;(refine Mm.get2 rtKy H rfl (.tmp 3) rfl rfl rfl ?_);(try simp only [aR]);have tk5:=hT)|(clear tk5;(go_at_call 15;refine (ck.out _).mono ?_;rintro e _ ⟨rfl,hb⟩;replace H:=hidp (H.out.call hb);clear ck;clear hb);(try simp only [aR]);have tk6:=hT))
   try clear tk6
   go_ret
   exact ⟨rfl,H.out.below⟩
 | true =>
   obtain ⟨⟨s1,s2⟩,⟨q1,q2⟩,q3,q4⟩:=kyOk_parts hok
   obtain ⟨h,rfl⟩:∃ h:Nat,H0=h:=⟨H0.toNat,by omega⟩
   obtain ⟨m,rfl⟩:∃ m:Nat,N0=m:=⟨N0.toNat,by omega⟩
   have ck:=hidp (fun W=>kmake_yes W S h m (by omega) hok)
   obtain ⟨R,hR⟩:∃ R,keyR S h m=R:=⟨_,rfl⟩
   have hRl:=hidp (show R.length=32 from by rw [← hR];exact keyR_len _ _ _)
   have cr:=hidp (show ∀ W br,Arr W br 118 [.string S,.int .i64 (h:Int),.int .i64 (m:Int)]→KT W→Calls Tryz.prog 28 #[.pointer (some ⟨br,0,none⟩)] W (fun e w'=>e=.returned (.agg (u8s R).toArray)∧Below W.heap.size W w') from fun W br ha hk=>by
    have:=krRoot_any W br S h m ha hk
    rw [hR] at this;exact this)
   clear q4 s1 s2
   by_cases k1:(h:Int) > 3
   case' pos =>
    have e1:decide ((h:Int) > 3)=true:=decide_eq_true k1
    clear hok he hf hR hS
   case' neg =>
    have e1:decide ((h:Int) > 3)=false:=decide_eq_false k1
    by_cases k2:(m:Int) > 0
    case' pos =>
     have e2:decide ((m:Int) > 0)=true:=decide_eq_true k2
     clear hok he hf hR hS
    case' neg =>
     have e2:decide ((m:Int) > 0)=false:=decide_eq_false k2
     by_cases k3:(h:Int)<2
     case' pos =>
      have e3:decide ((h:Int)<2)=true:=decide_eq_true k3
      clear hok he hf hR hS
     case' neg =>
      have e3:decide ((h:Int)<2)=false:=decide_eq_false k3
      have hm:m=0:=by omega
      have h4:4≤2 ^ h:=by
       rcases (by omega:h=2∨h=3) with rfl | rfl <;> decide
      have f':(⟨e.r,e.e,e.i,f.p,f.v,f.g⟩:En.En).ok:=⟨he.r,hf.p,hf.v,hf.g⟩
      obtain ⟨m1,o1,l1,r1,t1⟩:=es_at hok (by omega) e
      obtain ⟨m2,o2,l2,r2,t2⟩:=es_at o1 (by omega) (⟨e.r,e.e,e.i,f.p,f.v,f.g⟩:En.En)
      have cs1:=hidp (fun W br (ha:Arr W br 118 [.string S,.int .i64 (h:Int),.int .i64 (m:Int)]) hi hk=>esign_any W br S h m hok ha e he hi hk)
      have cs2:=hidp (fun W br (ha:Arr W br 118 (ringR S h m1)) hi hk=>esign_any W br S h m1 o1 ha (⟨e.r,e.e,e.i,f.p,f.v,f.g⟩:En.En) f' hi hk)
      have co1:=hidp (fun W hi hk=>jof_any W e he hi hk)
      have co2:=hidp (fun W hi hk=>jof_any W (⟨e.r,e.e,e.i,f.p,f.v,f.g⟩:En.En) f' hi hk)
      have aL:=jOf_len' e
      have bL:=jOf_len' (⟨e.r,e.e,e.i,f.p,f.v,f.g⟩:En.En)
      have g1:sgE S h m=0:=(rg_up hok (by omega)).1
      have g2:sgE S h m1=0:=(rg_up o1 (by omega)).1
      have xV:esV S h m e=if eOk e=true then wSigE e (sgS S h m (eT e).data.toList) else e:=by unfold En.esV;rw [g1];simp
      have yV:esV S h m1 (⟨e.r,e.e,e.i,f.p,f.v,f.g⟩:En.En)=if eOk (⟨e.r,e.e,e.i,f.p,f.v,f.g⟩:En.En)=true then wSigE (⟨e.r,e.e,e.i,f.p,f.v,f.g⟩:En.En) (sgS S h m1 (eT (⟨e.r,e.e,e.i,f.p,f.v,f.g⟩:En.En)).data.toList) else (⟨e.r,e.e,e.i,f.p,f.v,f.g⟩:En.En):=by unfold En.esV;rw [g2];simp
      simp only [r1,es_E hok (show m<2 ^ h by omega) e] at cs1
      simp only [r2,es_E o1 (show m1<2 ^ h by omega) (⟨e.r,e.e,e.i,f.p,f.v,f.g⟩:En.En)] at cs2
      have HX0:(esV S h m e).p.length=32:=by rw [xV];split <;> exact he.p
      have HY0:(esV S h m1 (⟨e.r,e.e,e.i,f.p,f.v,f.g⟩:En.En)).p.length=32:=by rw [yV];split <;> exact hf.p
      obtain ⟨X,hX⟩:∃ X,esV S h m e=X:=⟨_,rfl⟩
      obtain ⟨Y,hY⟩:∃ Y,esV S h m1 (⟨e.r,e.e,e.i,f.p,f.v,f.g⟩:En.En)=Y:=⟨_,rfl⟩
      obtain ⟨A,hA⟩:∃ A,jOf e=A:=⟨_,rfl⟩
      obtain ⟨B,hB⟩:∃ B,jOf (⟨e.r,e.e,e.i,f.p,f.v,f.g⟩:En.En)=B:=⟨_,rfl⟩
      rw [hX] at cs1 HX0 xV;rw [hY] at cs2 HY0 yV;rw [hA] at co1 aL;rw [hB] at co2 bL
      obtain ⟨RR1,hR1⟩:∃ L,ringR S h m1=L:=⟨_,rfl⟩
      obtain ⟨RR2,hR2⟩:∃ L,ringR S h m2=L:=⟨_,rfl⟩
      rw [hR1] at cs1 cs2;rw [hR2] at cs2
      have HX:=hidp HX0;have HY:=hidp HY0;have HA:=hidp aL;have HB:=hidp bL
      clear HX0 HY0 aL bL r1 r2
      cases oe:eOk e
      case' false =>
       rw [eE_no oe] at cs1 co1
       obtain ⟨E2,hE2⟩:∃ E,eE (⟨e.r,e.e,e.i,f.p,f.v,f.g⟩:En.En)=E:=⟨_,rfl⟩
       rw [hE2] at cs2 co2
       clear hE2 oe hok he hf hR hm h4 f' o1 l1 t1 o2 l2 t2 g1 g2 xV yV hX hY hA hB hR1 hR2 hS
      case' true =>
       rw [eE_yes oe] at cs1 co1
       cases of:eOk (⟨e.r,e.e,e.i,f.p,f.v,f.g⟩:En.En)
       case' false =>
        rw [eE_no of] at cs2 co2
        clear oe of hok he hf hR hm h4 f' o1 l1 t1 o2 l2 t2 g1 g2 xV yV hX hY hA hB hR1 hR2 hS
       case' true =>
        rw [eE_yes of] at cs2 co2
        rw [if_pos oe] at xV
        rw [if_pos of] at yV
        have hm1:=t1 oe
        have hm2:=t2 of
        clear t1 t2
        have o3:kyOk S h ((m2 + 1:Nat):Int)=true:=ky_up hok (by omega)
        have jA:jOk A=true:=by rw [← hA];exact jOf_ok oe
        have jB:jOk B=true:=by rw [← hB];exact jOf_ok of
        have aG:A.g=⟨#[]⟩:=by rw [← hA];unfold jOf;rw [if_pos oe]
        have bG:B.g=⟨#[]⟩:=by rw [← hB];unfold jOf;rw [if_pos of]
        have aI:A.i=e.i:=by rw [← hA];unfold jOf;rw [if_pos oe]
        have hpl:plc A B=true:=by rw [← hA,← hB];unfold jOf plc;rw [if_pos oe,if_pos of];simp
        have hpA:plc A A=true:=by unfold plc;simp
        have iB:=(En.eOk_parts oe).2.2.1
        have gsz:∀ (k:Nat) t,k<2 ^ h→kyOk S h k=true→(sgS S h k t).size≤8192:=fun k t hk ho=>by
         rw [(rg_up ho hk).2.2]
         have:=(sig_parts (S:=S) (h:=h) (m:=k) t (by omega) hk).2.1
         omega
        have hRr:rootV (leafL S.data.toList h)=R:=by rw [← hR];unfold keyR;rw [if_pos hok,Int.toNat_natCast]
        have z1:=gsz m (eT e).data.toList (by omega) hok
        have z2:=gsz m1 (eT (⟨e.r,e.e,e.i,f.p,f.v,f.g⟩:En.En)).data.toList (by omega) o1
        have z3:=gsz m2 (jT A).data.toList (by omega) o2
        have z4:=gsz (m2 + 1) (jT B).data.toList (by omega) o3
        have v1:=bv_key hok (by omega) hRr e.i iB.1 iB.2 (eT e)
        have v2:=bv_key o1 (by omega) hRr e.i iB.1 iB.2 (eT (⟨e.r,e.e,e.i,f.p,f.v,f.g⟩:En.En))
        have v3:=bv_key o2 (by omega) hRr e.i iB.1 iB.2 (jT A)
        have v4:=bv_key o3 (by omega) hRr e.i iB.1 iB.2 (jT B)
        have x3:=rg_up o2 (by omega)
        have x4:=rg_up o3 (by omega)
        have aok:A.ok:=⟨by obtain ⟨n,hn⟩:=(jOk_parts jA).1;have:=who_size hn;omega,HA.out,by rw [aG];decide⟩
        have bok:B.ok:=⟨by obtain ⟨n,hn⟩:=(jOk_parts jB).1;have:=who_size hn;omega,HB.out,by rw [bG];decide⟩
        have ch1:=hidp (fun W br (ha:Arr W br 118 (ringR S h m2)) hi hk=>jsign_any W br S h m2 o2 ha A aok hi hk)
        have ch2:=hidp (fun W br (ha:Arr W br 118 (ringR S h (m2 + 1))) hi hk=>jsign_any W br S h (m2 + 1) o3 ha B bok hi hk)
        have wA:jsV S h m2 A=wSigJ A (sgS S h m2 (jT A).data.toList):=by unfold jsV;rw [if_pos ⟨jA,x3.1⟩]
        have wB:jsV S h (m2 + 1) B=wSigJ B (sgS S h ((m2 + 1:Nat):Int) (jT B).data.toList):=by unfold jsV;rw [if_pos ⟨jB,x4.1⟩]
        have eA':jsE S h m2 A=0:=by unfold jsE;rw [if_pos jA];exact x3.1
        have eB':jsE S h (m2 + 1) B=0:=by unfold jsE;rw [if_pos jB];exact x4.1
        have rA':jsR S h m2 A=ringR S h (m2 + 1):=by unfold jsR;rw [if_pos jA];exact x3.2.1
        obtain ⟨RR4,hR4⟩:∃ L,jsR S h (m2 + 1) B=L:=⟨_,rfl⟩
        obtain ⟨RR3,hR3⟩:∃ L,ringR S h (m2 + 1)=L:=⟨_,rfl⟩
        rw [wA,eA',rA',hR2,hR3] at ch1
        rw [wB,eB',hR4,hR3] at ch2
        obtain ⟨G1,hG1⟩:∃ G,sgS S h m (eT e).data.toList=G:=⟨_,rfl⟩
        obtain ⟨G2,hG2⟩:∃ G,sgS S h m1 (eT (⟨e.r,e.e,e.i,f.p,f.v,f.g⟩:En.En)).data.toList=G:=⟨_,rfl⟩
        obtain ⟨G3,hG3⟩:∃ G,sgS S h m2 (jT A).data.toList=G:=⟨_,rfl⟩
        obtain ⟨G4,hG4⟩:∃ G,sgS S h ((m2 + 1:Nat):Int) (jT B).data.toList=G:=⟨_,rfl⟩
        rw [hG1] at v1 z1 xV;rw [hG2] at v2 z2 yV;rw [hG3] at v3 z3 ch1;rw [hG4] at v4 z4 ch2
        obtain ⟨A1,hA1⟩:∃ A1,wSigJ A G3=A1:=⟨_,rfl⟩
        obtain ⟨B1,hB1⟩:∃ B1,wSigJ B G4=B1:=⟨_,rfl⟩
        rw [hA1] at ch1;rw [hB1] at ch2
        have HA1:=hidp (show A1.p.length=32 from by rw [← hA1];exact HA.out)
        have HB1:=hidp (show B1.p.length=32 from by rw [← hB1];exact HB.out)
        have pA:A1.p=A.p:=by rw [← hA1];rfl
        have pB':B1.p=B.p:=by rw [← hB1];rfl
        have gX:X.g=G1:=by rw [xV];rfl
        have gY:Y.g=G2:=by rw [yV];rfl
        have gA:A1.g=G3:=by rw [← hA1];rfl
        have gB:B1.g=G4:=by rw [← hB1];rfl
        have s1:says (eT e)=some A:=by rw [says_eT oe he.p,hA]
        have s2:says (eT (⟨e.r,e.e,e.i,f.p,f.v,f.g⟩:En.En))=some B:=by rw [says_eT of hf.p,hB]
        have nA:wSigJ A ⟨#[]⟩=A:=by rw [← aG];rfl
        have nB:wSigJ B ⟨#[]⟩=B:=by rw [← bG];rfl
        have s3:says (jT A)=some A:=by rw [says_jT jA HA.out,nA]
        have s4:says (jT B)=some B:=by rw [says_jT jB HB.out,nB]
        have y3:=jT_8192 jA HA.out
        have y4:=jT_8192 jB HB.out
        have tX:eT X=eT e:=by rw [xV];exact eT_sig oe z1
        have tY:eT Y=eT (⟨e.r,e.e,e.i,f.p,f.v,f.g⟩:En.En):=by rw [yV];exact eT_sig of z2
        have tA:jT A1=jT A:=by rw [← hA1];exact jT_sig jA z3
        have tB:jT B1=jT B:=by rw [← hB1];exact jT_sig jB z4
        have xok:X.ok:=by rw [xV];exact ⟨he.r,he.p,he.v,by show G1.size≤_;omega⟩
        have yok:Y.ok:=by rw [yV];exact ⟨he.r,hf.p,hf.v,by show G2.size≤_;omega⟩
        have a1ok:A1.ok:=by rw [← hA1];exact ⟨aok.r,HA.out,by show G3.size≤_;omega⟩
        have b1ok:B1.ok:=by rw [← hB1];exact ⟨bok.r,HB.out,by show G4.size≤_;omega⟩
        have k1':eOk X=true:=by rw [xV];exact wSigE_ok oe z1
        have k2':eOk Y=true:=by rw [yV];exact wSigE_ok of z2
        have k3':jOk A1=true:=by rw [← hA1];exact wSigJ_ok jA z3
        have k4':jOk B1=true:=by rw [← hB1];exact wSigJ_ok jB z4
        have ct1:=hidp (fun W hi=>etext_any W X xok hi)
        have ct2:=hidp (fun W hi=>etext_any W Y yok hi)
        have ct3:=hidp (fun W hi=>jtext_any W A1 a1ok hi)
        have ct4:=hidp (fun W hi=>jtext_any W B1 b1ok hi)
        rw [tX,eE_yes k1'] at ct1;rw [tY,eE_yes k2'] at ct2;rw [tA,jE_yes k3'] at ct3;rw [tB,jE_yes k4'] at ct4
        obtain ⟨T1,hT1⟩:∃ T,eT e=T:=⟨_,rfl⟩
        obtain ⟨T2,hT2⟩:∃ T,eT (⟨e.r,e.e,e.i,f.p,f.v,f.g⟩:En.En)=T:=⟨_,rfl⟩
        obtain ⟨T3,hT3⟩:∃ T,jT A=T:=⟨_,rfl⟩
        obtain ⟨T4,hT4⟩:∃ T,jT B=T:=⟨_,rfl⟩
        rw [hT1] at ct1 s1 v1;rw [hT2] at ct2 s2 v2;rw [hT3] at ct3 s3 v3 y3;rw [hT4] at ct4 s4 v4 y4
        rw [← aI] at v1 v2 v3 v4
        clear oe of hok he hf hR hm h4 f' o1 l1 o2 l2 g1 g2 xV yV hX hY hA hB hR1 hR2 hS hm1 hm2 o3 jA jB aI iB gsz hRr x3 x4 aok bok wA wB eA' eB' rA' hR3 hR4 hG1 hG2 hG3 hG4 hA1 hB1 nA nB tX tY tA tB xok yok a1ok b1ok k1' k2' k3' k4' hT1 hT2 hT3 hT4
        by_cases d1:(T1.size:Int) > 8192
        case' pos =>
         have e4:decide ((T1.size:Int) > 8192)=true:=decide_eq_true d1
         have n4:(8192:Int)<(T1.size:Int):=d1
         clear s1 s2 s3 s4 v1 v2 v3 v4 y3 y4 z1 z2 z3 z4 gX gY gA gB pA pB' hpl hpA aG bG
        case' neg =>
         have e4:decide ((T1.size:Int) > 8192)=false:=decide_eq_false d1
         have n4:¬ (8192:Int)<(T1.size:Int):=d1
         by_cases d2:(T2.size:Int) > 8192
         case' pos =>
          have e5:decide ((T2.size:Int) > 8192)=true:=decide_eq_true d2
          have n5:(8192:Int)<(T2.size:Int):=d2
          clear s1 s2 s3 s4 v1 v2 v3 v4 y3 y4 z1 z2 z3 z4 gX gY gA gB pA pB' hpl hpA aG bG
         case' neg =>
          have e5:decide ((T2.size:Int) > 8192)=false:=decide_eq_false d2
          have n5:¬ (8192:Int)<(T2.size:Int):=d2
          have q1:=ck_gen (gs:=[⟨1,0,4096,(h:Int),R⟩]) (s:=1) (by decide) (by omega) z1 (by omega) z2 s1 s2 hpl v1 v2
          have q2:=ck_gen (gs:=[⟨1,0,4096,(h:Int),R⟩]) (s:=1) (by decide) (by omega) z1 y4 z4 s1 s4 hpl v1 v4
          have q3:=ck_gen (gs:=[⟨1,0,4096,(h:Int),R⟩]) (s:=1) (by decide) (by omega) z1 y3 z3 s1 s3 hpA v1 v3
          rw [if_pos rfl] at q3
          have u1:(⟨1,T1,G1,T2,G2⟩:Pr).ok:=⟨by show T1.size≤_;omega,by show G1.size≤_;omega,by show T2.size≤_;omega,by show G2.size≤_;omega⟩
          have u2:(⟨1,T1,G1,T4,G4⟩:Pr).ok:=⟨u1.1,u1.2.1,by show T4.size≤_;omega,by show G4.size≤_;omega⟩
          have u3:(⟨1,T1,G1,T3,G3⟩:Pr).ok:=⟨u1.1,u1.2.1,by show T3.size≤_;omega,by show G3.size≤_;omega⟩
          have c1:=hidp (fun W v (hg:GsAt W v [⟨1,0,4096,(h:Int),R⟩]) hi hk=>check_any W v _ hg (⟨1,T1,G1,T2,G2⟩:Pr) u1 hi hk)
          have c2:=hidp (fun W v (hg:GsAt W v [⟨1,0,4096,(h:Int),R⟩]) hi hk=>check_any W v _ hg (⟨1,T1,G1,T4,G4⟩:Pr) u2 hi hk)
          have c3:=hidp (fun W v (hg:GsAt W v [⟨1,0,4096,(h:Int),R⟩]) hi hk=>check_any W v _ hg (⟨1,T1,G1,T3,G3⟩:Pr) u3 hi hk)
          rw [q1] at c1;rw [q2] at c2;rw [q3] at c3
          rw [← gX,← gY] at c1;rw [← gX,← gB] at c2;rw [← gX,← gA] at c3
          have c3:=hidp (show ∀ W v,GsAt W v [⟨1,0,4096,(h:Int),R⟩]→IT W→KT W→Calls Tryz.prog 37 #[v,.agg #[.int .i64 1,.string T1,.string X.g,.string T3,.string A1.g]] W _ from c3.out)
          by_cases hp:A.p=B.p
          case' pos =>
           rw [if_pos hp] at c1 c2
           have HEQ:=hidp (show (!decide (A1.p=B1.p))=false from by rw [pA,pB',hp];simp)
          case' neg =>
           rw [if_neg hp] at c1 c2
           have HEQ:=hidp (show (!decide (A1.p=B1.p))=true from by rw [pA,pB'];simp [hp])
          all_goals
           have c1:=hidp (show ∀ W v,GsAt W v [⟨1,0,4096,(h:Int),R⟩]→IT W→KT W→Calls Tryz.prog 37 #[v,.agg #[.int .i64 1,.string T1,.string X.g,.string T2,.string Y.g]] W _ from c1.out)
           have c2:=hidp (show ∀ W v,GsAt W v [⟨1,0,4096,(h:Int),R⟩]→IT W→KT W→Calls Tryz.prog 37 #[v,.agg #[.int .i64 1,.string T1,.string X.g,.string T4,.string B1.g]] W _ from c2.out)
           clear s1 s2 s3 s4 v1 v2 v3 v4 y3 y4 z1 z2 z3 z4 gX gY gA gB pA pB' hpl hpA aG bG q1 q2 q3 u1 u2 u3 hp
   all_goals
    go_enter Tryz.func10,Tryz.ntmps10
    have tk0:=hT
    go_wp2_with (first|(refine Rt.wpL_skip _ _ rfl rfl ?_)|(refine Rt.wpL_skipN _ _ rfl rfl ?_)|(clear tk0;(refine Mm.box 23 H rfl (.tmp 0) rfl [.string S,.int .i64 (h:Int),.int .i64 (m:Int)] rfl ?_;clear H;intro b3 _ H nw;clear nw);(try simp only [aR]);have tk1:=hT)|(clear tk1;(refine Mm.box 103 H rfl (.tmp 1) rfl e.row rfl ?_;clear H;intro b4 _ H nw;clear nw);(try simp only [aR]);have tk2:=hT)|(clear tk2;(refine Mm.box 103 H rfl (.tmp 2) rfl f.row rfl ?_;clear H;intro b5 _ H nw;clear nw);(try simp only [aR]);have tk3:=hT)|(clear tk3;(go_at_call 20;refine (begins_any _).mono ?_;rintro e _ ⟨rfl,hb⟩;replace H:=hidp (H.out.call hb);clear hb);(try simp only [aR]);have tk4:=hT)|(clear tk4;(refine Mm.get2 rtKy H rfl (.tmp 3) rfl rfl rfl ?_);(try simp only [aR]);have tk5:=hT)|(clear tk5;(go_at_call 15;refine (ck.out _).mono ?_;rintro e _ ⟨br,rfl,hring,hge,hb⟩;replace H:=hidp (H.out.add (m:=0) hb hge hring);clear hring hge hb ck);(try simp only [aR]);have tk6:=hT)|(clear tk6;(refine Mm.ld3 En.naI H rfl (.tmp 46) 1 (.int .i64 (h:Int)) rfl rfl rfl ?_);(try simp only [aR]);have tk7:=hT)|(clear tk7;(refine Mm.ld3 En.naI H rfl (.tmp 51) 2 (.int .i64 (m:Int)) rfl rfl rfl ?_);(try simp only [aR]);have tk8:=hT)|(clear tk8;(refine Mm.ld3 En.naI H rfl (.tmp 56) 1 (.int .i64 (h:Int)) rfl rfl rfl ?_);(try simp only [aR]);have tk9:=hT))
    try clear tk9
    try (go_ret;exact ⟨rfl,H.out.below⟩)
   all_goals
    refine Mm.region H (.take 0 (.take 1 (.take 2 (.one 3 (.take 4 (.one 5 (.take 6 .done))))))) (by kernel_rfl) (by kernel_rfl) (by simp [Scr.depth]) (by kernel_rfl) ?_
    clear H
    intro _ H hb
    clear hb
    apply s_val
    case ho | hw=>rfl
    case hv=>intro w hw;go_simp;first | done | rfl
    simp only [aS]
    refine Mm.sld3 En.naI (fun w h=>h) rfl rfl (.tmp 65) 1 (.int .i64 (h:Int)) rfl rfl rfl ?_
    simp only [aS]
    apply s_val
    case ho | hw=>rfl
    case hv=>intro w hw;go_simp;first | done | rfl
    simp only [aS]
    refine Mm.o_callH (v:=.agg (u8s R).toArray) H (fun W h=>h) rfl rfl 28 (#[.pointer (some ⟨br,0,none⟩)]) (by go_simp;first | done | rfl) (cr.out _ br H.out.at0 (HK.out.below H.out.below hkp)) ?_
    clear H
    intro _ H hb
    clear hb
    simp only [aS]
    refine s_bldG rfl rfl _ _ _ _ rfl 1 4096 (h:Int) R rfl rfl rfl rfl hRl.out ?_
    simp only [aS]
    refine o_bsG H (fun W h=>h) rfl rfl _ rfl ⟨1,0,4096,(h:Int),R⟩ rfl (Gr.len hRl.out) ?_
    clear H
    intro bg _ H
    simp only [aS]
    apply s_val
    case ho | hw=>rfl
    case hv=>intro w hw;go_simp;first | done | rfl
    simp only [aS]
    refine NoPanic.normal ?_
    go_upto_region 7 with fail
    refine wp_cutV (fun a v=>(((((((((a.put (some 71) (.pointer (some ⟨b4,0,none⟩))).put (some 72) (.string e.r)).put (some 73) (.pointer (some ⟨b4,1,none⟩))).put (some 74) (.int .i64 e.e)).put (some 75) (.pointer (some ⟨b4,2,none⟩))).put (some 76) (.int .i64 e.i)).put (some 77) (.pointer (some ⟨b5,0,none⟩))).put (some 78) (.pointer (some ⟨b5,1,none⟩))).put (some 79) (.pointer (some ⟨b5,2,none⟩)))) (fun v W=>Hid (Mm.M w.heap.size w W [⟨bg,61,(Gr.row ⟨1,0,4096,(h:Int),R⟩)⟩,⟨br,118,[.string S,.int .i64 (h:Int),.int .i64 (m:Int)]⟩,⟨b5,103,(⟨e.r,e.e,e.i,f.p,f.v,f.g⟩:En.En).row⟩,⟨b4,103,e.row⟩,⟨b3,23,[.string S,.int .i64 (h:Int),.int .i64 (m:Int)]⟩])) ?_ ?_
    · refine Sl.regionS [⟨bg,61,(Gr.row ⟨1,0,4096,(h:Int),R⟩)⟩,⟨br,118,[.string S,.int .i64 (h:Int),.int .i64 (m:Int)]⟩,⟨b4,103,e.row⟩,⟨b3,23,[.string S,.int .i64 (h:Int),.int .i64 (m:Int)]⟩] (fun W h=>h.sub (.cons_cons _ (.cons_cons _ (.cons _ (.refl _))))) H (.take 0 (.take 1 (.take 2 (.take 3 (.take 4 (.take 5 (.take 6 (.one 7 (.take 8 (.one 9 (.take 10 (.one 11 .done)))))))))))) (by kernel_rfl) (by kernel_rfl) (by simp [Scr.depth]) (by kernel_rfl) ?_
      clear H
      intro _ H hb
      clear hb
      apply s_val
      case ho | hw=>rfl
      case hv=>intro w hw;go_simp;first | done | rfl
      simp only [aS]
      refine Mm.sld2 En.naS (fun w h=>h) rfl rfl (.tmp 71) 0 (.string e.r) rfl rfl (En.En.get0 _) ?_
      simp only [aS]
      apply s_val
      case ho | hw=>rfl
      case hv=>intro w hw;go_simp;first | done | rfl
      simp only [aS]
      refine Mm.sld2 En.naI (fun w h=>h) rfl rfl (.tmp 73) 1 (.int .i64 e.e) rfl rfl (En.En.get1 _) ?_
      simp only [aS]
      apply s_val
      case ho | hw=>rfl
      case hv=>intro w hw;go_simp;first | done | rfl
      simp only [aS]
      refine Mm.sld2 En.naI (fun w h=>h) rfl rfl (.tmp 75) 2 (.int .i64 e.i) rfl rfl (En.En.get2 _) ?_
      simp only [aS]
      apply s_val
      case ho | hw=>rfl
      case hv=>intro w hw;go_simp;first | done | rfl
      simp only [aS]
      refine o_putFi H 2 rfl 0 (.string e.r) (fun W h=>h.sub (.cons_cons _ (.cons_cons _ (.cons _ (.refl _))))) rfl rfl (.tmp 77) (.tmp 72) rfl rfl rfl (by kernel_rfl) rfl (by rw [En.En.len (x:=f) HF.out];decide) ?_
      clear H
      intro _ H st
      have H:Hid (Mm.M w.heap.size w _ [⟨bg,61,(Gr.row ⟨1,0,4096,(h:Int),R⟩)⟩,⟨br,118,[.string S,.int .i64 (h:Int),.int .i64 (m:Int)]⟩,⟨b5,103,(⟨e.r,f.e,f.i,f.p,f.v,f.g⟩:En.En).row⟩,⟨b4,103,e.row⟩,⟨b3,23,[.string S,.int .i64 (h:Int),.int .i64 (m:Int)]⟩]):=H
      clear st
      simp only [aS]
      apply s_val
      case ho | hw=>rfl
      case hv=>intro w hw;go_simp;first | done | rfl
      simp only [aS]
      refine o_putFi H 2 rfl 1 (.int .i64 e.e) (fun W h=>h.sub (.cons_cons _ (.cons_cons _ (.cons _ (.refl _))))) rfl rfl (.tmp 78) (.tmp 74) rfl rfl rfl (by kernel_rfl) rfl (by rw [En.En.len (x:=(⟨e.r,f.e,f.i,f.p,f.v,f.g⟩:En.En)) HF.out];decide) ?_
      clear H
      intro _ H st
      have H:Hid (Mm.M w.heap.size w _ [⟨bg,61,(Gr.row ⟨1,0,4096,(h:Int),R⟩)⟩,⟨br,118,[.string S,.int .i64 (h:Int),.int .i64 (m:Int)]⟩,⟨b5,103,(⟨e.r,e.e,f.i,f.p,f.v,f.g⟩:En.En).row⟩,⟨b4,103,e.row⟩,⟨b3,23,[.string S,.int .i64 (h:Int),.int .i64 (m:Int)]⟩]):=H
      clear st
      simp only [aS]
      apply s_val
      case ho | hw=>rfl
      case hv=>intro w hw;go_simp;first | done | rfl
      simp only [aS]
      refine o_putFi H 2 rfl 2 (.int .i64 e.i) (fun W h=>h.sub (.cons_cons _ (.cons_cons _ (.cons _ (.refl _))))) rfl rfl (.tmp 79) (.tmp 76) rfl rfl rfl (by kernel_rfl) rfl (by rw [En.En.len (x:=(⟨e.r,e.e,f.i,f.p,f.v,f.g⟩:En.En)) HF.out];decide) ?_
      clear H
      intro _ H st
      have H:Hid (Mm.M w.heap.size w _ [⟨bg,61,(Gr.row ⟨1,0,4096,(h:Int),R⟩)⟩,⟨br,118,[.string S,.int .i64 (h:Int),.int .i64 (m:Int)]⟩,⟨b5,103,(⟨e.r,e.e,e.i,f.p,f.v,f.g⟩:En.En).row⟩,⟨b4,103,e.row⟩,⟨b3,23,[.string S,.int .i64 (h:Int),.int .i64 (m:Int)]⟩]):=H
      clear st
      simp only [aS]
      refine NoPanic.normal ?_
      exact ⟨rfl,.bool true,rfl,H⟩
    · intro v W H
      simp only [aR]
      have tk0:=hT
      go_wp2_with (first|(refine Rt.wpL_skip _ _ rfl rfl ?_)|(refine Rt.wpL_skipN _ _ rfl rfl ?_)|(clear tk0;(refine Mm.get3 En.rtE H rfl (.tmp 4) rfl rfl (En.En.len HE.out) ?_);(try simp only [aR]);have tk1:=hT)|(clear tk1;(go_at_call 48;refine (cs1.out _ br H.out.at1 (HI.out.below H.out.below (Nat.le_refl _)) (HK.out.below H.out.below hkp)).mono ?_;rintro e _ ⟨rfl,hr,ha⟩;replace H:=(show Hid (Mm.M w.heap.size w _ ([⟨bg,61,(Gr.row ⟨1,0,4096,(h:Int),R⟩)⟩,⟨br,118,RR1⟩,⟨b5,103,(⟨e.r,e.e,e.i,f.p,f.v,f.g⟩:En.En).row⟩,⟨b4,103,e.row⟩,⟨b3,23,[.string S,.int .i64 (h:Int),.int .i64 (m:Int)]⟩])) from hidp (rgAt H.out 1 rfl hr ha));clear hr ha cs1);(try simp only [aR]);have tk2:=hT)|(clear tk2;(refine Mm.new En.rtE H (some 10) rfl rfl rfl ?_;clear H;intro b10 _ H nw;clear nw);(try simp only [aR]);have tk3:=hT)|(clear tk3;(refine Mm.put0 En.rtE H rfl (.tmp 10) (.tmp 84) X.row rfl rfl rfl (En.En.len HX.out) (En.En.one X) (En.En.len (rfl:En.zEn.p.length=32)) ?_;clear H;intro _ H st;clear st);(try simp only [aR]);have tk4:=hT)|(clear tk4;(refine Mm.get3 En.rtE H rfl (.tmp 5) rfl rfl (En.En.len HF.out) ?_);(try simp only [aR]);have tk5:=hT)|(clear tk5;(go_at_call 48;refine (cs2.out _ br H.out.at2 (HI.out.below H.out.below (Nat.le_refl _)) (HK.out.below H.out.below hkp)).mono ?_;rintro e _ ⟨rfl,hr,ha⟩;replace H:=(show Hid (Mm.M w.heap.size w _ ([⟨b10,103,X.row⟩,⟨bg,61,(Gr.row ⟨1,0,4096,(h:Int),R⟩)⟩,⟨br,118,RR2⟩,⟨b5,103,(⟨e.r,e.e,e.i,f.p,f.v,f.g⟩:En.En).row⟩,⟨b4,103,e.row⟩,⟨b3,23,[.string S,.int .i64 (h:Int),.int .i64 (m:Int)]⟩])) from hidp (rgAt H.out 2 rfl hr ha));clear hr ha cs2);(try simp only [aR]);have tk6:=hT)|(clear tk6;(refine Mm.new En.rtE H (some 12) rfl rfl rfl ?_;clear H;intro b12 _ H nw;clear nw);(try simp only [aR]);have tk7:=hT)|(clear tk7;(refine Mm.put0 En.rtE H rfl (.tmp 12) (.tmp 90) Y.row rfl rfl rfl (En.En.len HY.out) (En.En.one Y) (En.En.len (rfl:En.zEn.p.length=32)) ?_;clear H;intro _ H st;clear st);(try simp only [aR]);have tk8:=hT)|(clear tk8;(refine Mm.get5 En.rtE H rfl (.tmp 4) rfl rfl (En.En.len HE.out) ?_);(try simp only [aR]);have tk9:=hT)|(clear tk9;(go_at_call 49;refine (co1.out _ (HI.out.below H.out.below (Nat.le_refl _)) (HK.out.below H.out.below hkp)).mono ?_;rintro e _ ⟨rfl,hb⟩;replace H:=hidp (H.out.call hb);clear co1;clear hb);(try simp only [aR]);have tk10:=hT)|(clear tk10;(refine Mm.new rtHd H (some 14) rfl rfl rfl ?_;clear H;intro b14 _ H nw;clear nw);(try simp only [aR]);have tk11:=hT)|(clear tk11;(refine Mm.put0 rtHd H rfl (.tmp 14) (.tmp 95) A.row rfl rfl rfl (Hd.len HA.out) (Hd.one A) (Hd.len (rfl:zHd.p.length=32)) ?_;clear H;intro _ H st;clear st);(try simp only [aR]);have tk12:=hT)|(clear tk12;(refine Mm.get5 En.rtE H rfl (.tmp 5) rfl rfl (En.En.len HF.out) ?_);(try simp only [aR]);have tk13:=hT)|(clear tk13;(go_at_call 49;refine (co2.out _ (HI.out.below H.out.below (Nat.le_refl _)) (HK.out.below H.out.below hkp)).mono ?_;rintro e _ ⟨rfl,hb⟩;replace H:=hidp (H.out.call hb);clear co2;clear hb);(try simp only [aR]);have tk14:=hT)|(clear tk14;(refine Mm.new rtHd H (some 16) rfl rfl rfl ?_;clear H;intro b16 _ H nw;clear nw);(try simp only [aR]);have tk15:=hT)|(clear tk15;(refine Mm.put0 rtHd H rfl (.tmp 16) (.tmp 100) B.row rfl rfl rfl (Hd.len HB.out) (Hd.one B) (Hd.len (rfl:zHd.p.length=32)) ?_;clear H;intro _ H st;clear st);(try simp only [aR]);have tk16:=hT)|(clear tk16;(refine Mm.get1 rtHd H rfl (.tmp 14) rfl rfl (Hd.len HA.out) ?_);(try simp only [aR]);have tk17:=hT)|(clear tk17;(go_at_call 50;refine (ch1.out _ br H.out.at5 (HI.out.below H.out.below (Nat.le_refl _)) (HK.out.below H.out.below hkp)).mono ?_;rintro e _ ⟨rfl,hr,ha⟩;replace H:=(show Hid (Mm.M w.heap.size w _ ([⟨b16,67,B.row⟩,⟨b14,67,A.row⟩,⟨b12,103,Y.row⟩,⟨b10,103,X.row⟩,⟨bg,61,(Gr.row ⟨1,0,4096,(h:Int),R⟩)⟩,⟨br,118,RR3⟩,⟨b5,103,(⟨e.r,e.e,e.i,f.p,f.v,f.g⟩:En.En).row⟩,⟨b4,103,e.row⟩,⟨b3,23,[.string S,.int .i64 (h:Int),.int .i64 (m:Int)]⟩])) from hidp (rgAt H.out 5 rfl hr ha));clear hr ha ch1);(try simp only [aR]);have tk18:=hT)|(clear tk18;(refine Mm.put1 rtHd H rfl (.tmp 14) (.tmp 126) A1.row rfl rfl rfl (Hd.len HA1.out) (Hd.one A1) (Hd.len HA.out) ?_;clear H;intro _ H st;clear st);(try simp only [aR]);have tk19:=hT)|(clear tk19;(refine Mm.get0 rtHd H rfl (.tmp 16) rfl rfl (Hd.len HB.out) ?_);(try simp only [aR]);have tk20:=hT)|(clear tk20;(go_at_call 50;refine (ch2.out _ br H.out.at5 (HI.out.below H.out.below (Nat.le_refl _)) (HK.out.below H.out.below hkp)).mono ?_;rintro e _ ⟨rfl,hr,ha⟩;replace H:=(show Hid (Mm.M w.heap.size w _ ([⟨b16,67,B.row⟩,⟨b14,67,A1.row⟩,⟨b12,103,Y.row⟩,⟨b10,103,X.row⟩,⟨bg,61,(Gr.row ⟨1,0,4096,(h:Int),R⟩)⟩,⟨br,118,RR4⟩,⟨b5,103,(⟨e.r,e.e,e.i,f.p,f.v,f.g⟩:En.En).row⟩,⟨b4,103,e.row⟩,⟨b3,23,[.string S,.int .i64 (h:Int),.int .i64 (m:Int)]⟩])) from hidp (rgAt H.out 5 rfl hr ha));clear hr ha ch2);(try simp only [aR]);have tk21:=hT)|(clear tk21;(refine Mm.put0 rtHd H rfl (.tmp 16) (.tmp 132) B1.row rfl rfl rfl (Hd.len HB1.out) (Hd.one B1) (Hd.len HB.out) ?_;clear H;intro _ H st;clear st);(try simp only [aR]);have tk22:=hT)|(clear tk22;(refine Mm.get3 En.rtE H rfl (.tmp 10) rfl rfl (En.En.len HX.out) ?_);(try simp only [aR]);have tk23:=hT)|(clear tk23;(go_at_call 51;refine (ct1.out _ (HI.out.below H.out.below (Nat.le_refl _))).mono ?_;rintro e _ ⟨rfl,hb⟩;replace H:=hidp (H.out.call hb);clear ct1;clear hb);(try simp only [aR]);have tk24:=hT)|(clear tk24;(refine Mm.get2 En.rtE H rfl (.tmp 12) rfl rfl (En.En.len HY.out) ?_);(try simp only [aR]);have tk25:=hT)|(clear tk25;(go_at_call 51;refine (ct2.out _ (HI.out.below H.out.below (Nat.le_refl _))).mono ?_;rintro e _ ⟨rfl,hb⟩;replace H:=hidp (H.out.call hb);clear ct2;clear hb);(try simp only [aR]);have tk26:=hT)|(clear tk26;(refine Mm.get1 rtHd H rfl (.tmp 14) rfl rfl (Hd.len HA1.out) ?_);(try simp only [aR]);have tk27:=hT)|(clear tk27;(go_at_call 52;refine (ct3.out _ (HI.out.below H.out.below (Nat.le_refl _))).mono ?_;rintro e _ ⟨rfl,hb⟩;replace H:=hidp (H.out.call hb);clear ct3;clear hb);(try simp only [aR]);have tk28:=hT)|(clear tk28;(refine Mm.get0 rtHd H rfl (.tmp 16) rfl rfl (Hd.len HB1.out) ?_);(try simp only [aR]);have tk29:=hT)|(clear tk29;(go_at_call 52;refine (ct4.out _ (HI.out.below H.out.below (Nat.le_refl _))).mono ?_;rintro e _ ⟨rfl,hb⟩;replace H:=hidp (H.out.call hb);clear ct4;clear hb);(try simp only [aR]);have tk30:=hT)|(clear tk30;(refine wpL_mid rfl (.tmp 168) rfl b14 3 A1.p rfl HA1.out (hd_mid H.out.at1) ?_);(try simp only [aR]);have tk31:=hT)|(clear tk31;(refine wpL_mid rfl (.tmp 170) rfl b16 3 B1.p rfl HB1.out (hd_mid H.out.at0) ?_);(try simp only [aR]);have tk32:=hT)|(clear tk32;(refine wpL_neHs rfl _ _ _ rfl A1.p B1.p HA1.out HB1.out rfl rfl ?_;rw [HEQ.out]);(try simp only [aR]);have tk33:=hT)|(clear tk33;(refine Mm.ld3 En.naS H rfl (.tmp 175) 36 (.string X.g) rfl rfl (En.En.get36 HX.out) ?_);(try simp only [aR]);have tk34:=hT)|(clear tk34;(refine Mm.ld2 En.naS H rfl (.tmp 178) 36 (.string Y.g) rfl rfl (En.En.get36 HY.out) ?_);(try simp only [aR]);have tk35:=hT)|(clear tk35;(refine Rt.wpL_build rfl 65 _ rfl [.int .i64 1,.string T1,.string X.g,.string T2,.string Y.g] (by kernel_rfl) ?_);(try simp only [aR]);have tk36:=hT)|(clear tk36;(go_at_call 37;refine (c1.out _ _ (gs_one hRl.out H.out.at4) (HI.out.below H.out.below (Nat.le_refl _)) (HK.out.below H.out.below hkp)).mono ?_;rintro e _ ⟨rfl,hb⟩;replace H:=hidp (H.out.call hb);clear c1;clear hb);(try simp only [aR]);have tk37:=hT)|(clear tk37;(refine Mm.ld3 En.naS H rfl (.tmp 185) 36 (.string X.g) rfl rfl (En.En.get36 HX.out) ?_);(try simp only [aR]);have tk38:=hT)|(clear tk38;(refine Mm.ld0 En.naS H rfl (.tmp 188) 35 (.string B1.g) rfl rfl (Hd.get35 HB1.out) ?_);(try simp only [aR]);have tk39:=hT)|(clear tk39;(refine Rt.wpL_build rfl 65 _ rfl [.int .i64 1,.string T1,.string X.g,.string T4,.string B1.g] (by kernel_rfl) ?_);(try simp only [aR]);have tk40:=hT)|(clear tk40;(go_at_call 37;refine (c2.out _ _ (gs_one hRl.out H.out.at4) (HI.out.below H.out.below (Nat.le_refl _)) (HK.out.below H.out.below hkp)).mono ?_;rintro e _ ⟨rfl,hb⟩;replace H:=hidp (H.out.call hb);clear c2;clear hb);(try simp only [aR]);have tk41:=hT)|(clear tk41;(refine Mm.ld3 En.naS H rfl (.tmp 195) 36 (.string X.g) rfl rfl (En.En.get36 HX.out) ?_);(try simp only [aR]);have tk42:=hT)|(clear tk42;(refine Mm.ld1 En.naS H rfl (.tmp 198) 35 (.string A1.g) rfl rfl (Hd.get35 HA1.out) ?_);(try simp only [aR]);have tk43:=hT)|(clear tk43;(refine Rt.wpL_build rfl 65 _ rfl [.int .i64 1,.string T1,.string X.g,.string T3,.string A1.g] (by kernel_rfl) ?_);(try simp only [aR]);have tk44:=hT)|(clear tk44;(go_at_call 37;refine (c3.out _ _ (gs_one hRl.out H.out.at4) (HI.out.below H.out.below (Nat.le_refl _)) (HK.out.below H.out.below hkp)).mono ?_;rintro e _ ⟨rfl,hb⟩;replace H:=hidp (H.out.call hb);clear c3;clear hb);(try simp only [aR]);have tk45:=hT))
      try clear tk45
      go_ret
      exact ⟨rfl,H.out.below⟩
end Go.Proofs.YtokakgjcegmabaaGreatDoor.Pf
