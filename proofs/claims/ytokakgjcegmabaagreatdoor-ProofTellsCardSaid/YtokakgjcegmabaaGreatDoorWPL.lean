import Derived.Test.YtokakgjcegmabaaGreatDoorWPA
import Derived.Test.YtokakgjcegmabaaGreatDoorWS0
import Derived.Test.YtokakgjcegmabaaGreatDoorWR
import Derived.Test.YtokakgjcegmabaaGreatDoorWX
import Derived.Test.YtokakgjcegmabaaGreatDoorWU3
set_option linter.unusedVariables false
set_option linter.unusedSimpArgs false
set_option maxHeartbeats 64000000
set_option maxRecDepth 100000
namespace Go.Proofs.YtokakgjcegmabaaGreatDoor.Pf
open Go.RowKit
open List (getElem_toArray getElem_cons_zero getElem_cons_succ setIfInBounds_toArray set_cons_zero set_cons_succ)
open Hd
open Ho (inE inV in_zero in_not al_sz allInt_any)
open En (eOk eE eT eE_yes eE_no esmV er er_some erV erE eread_any rread_any En naI naS)
open En (eT_yes eL eL_ok eOk_parts wSigE er_back erL esV esE esR esign_any etext_any z32e)
open Ho (fi_one gs_one rwG wpL_bldG S0 ok10 ok11 Rg rgAt ringR)
def eA:En.En:=⟨⟨#[33,104,97,108,108,58,48]⟩,0,5,z32e,⟨#[120]⟩,⟨#[]⟩⟩
def fE (G:ByteArray):En.En:=⟨⟨#[33,104,97,108,108,58,48]⟩,0,5,z32e,⟨#[120]⟩,G⟩
def hA:Hd:=⟨⟨#[33,104,97,108,108,58,48]⟩,0,5,z32e,⟨#[]⟩⟩
def fH (G:ByteArray):Hd:=⟨⟨#[33,104,97,108,108,58,48]⟩,0,5,z32e,G⟩
theorem eA_ok:eOk eA=true:=by decide +kernel
theorem hA_ok:jOk hA=true:=by decide +kernel
theorem sum_ne:esmV eA≠z32:=by
 unfold esmV
 rw [if_pos eA_ok,shaF_eq];decide +kernel
theorem say_e:says (eT eA)=some ⟨⟨#[33,104,97,108,108,58,48]⟩,0,5,esmV eA,⟨#[]⟩⟩:=by
 have h:=er_back eA_ok rfl
 rw [show wSigE eA ⟨#[]⟩=eA from rfl] at h
 rw [says_en h];unfold jOf;rw [if_pos eA_ok];rfl
theorem say_h:says (jT hA)=some hA:=by
 have h:=jr_back hA_ok rfl
 rw [show wSigJ hA ⟨#[]⟩=hA from rfl] at h
 rw [says_jr,h]
 unfold er
 rw [jT_yes hA_ok,al_back _ (jL_ok hA_ok rfl)]
 simp only [if_true,jL];rfl
theorem says_x:says ⟨#[120]⟩=none:=by
 rw [says_jr]
 · unfold jr;rw [if_neg];decide +kernel
 · unfold er;rw [if_neg];decide +kernel
theorem says_0:says ⟨#[]⟩=none:=by
 rw [says_jr]
 · unfold jr;rw [if_neg];decide +kernel
 · unfold er;rw [if_neg];decide +kernel
theorem bv_own {R:List UInt8} (hR:rootV (leafL S0.data.toList 1)=R) {m:Nat} (hm:m<2) (t:ByteArray):bvE [⟨2,0,9,1,R⟩] 2 5 t (mkS (sigL S0.data.toList 1 m t.data.toList))=0:=by
 have hvg:vG ⟨2,0,9,1,R⟩=true:=rfl
 unfold bvE
 obtain ⟨q1,q2⟩:=fi_one hvg 2 5
 have q3:fdG 2 5 ⟨2,0,9,1,R⟩=true:=rfl
 rw [q3] at q1
 rw [q1,if_pos (by rfl),q2 q3]
 have:=vf_sign (S:=S0) (h:=1) (m:=m) t R (by decide) (by omega)
 rw [if_pos hR] at this
 exact this
theorem bv_none {R:List UInt8} (t g:ByteArray):bvE [⟨2,0,9,1,R⟩] 1 5 t g=3:=by
 have hvg:vG ⟨2,0,9,1,R⟩=true:=rfl
 unfold bvE
 obtain ⟨q1,q2⟩:=fi_one hvg 1 5
 have q3:fdG 1 5 ⟨2,0,9,1,R⟩=false:=rfl
 rw [q3] at q1
 rw [q1];rfl
theorem eqin_pr (W:World) (s:Int) (a sa b sb:ByteArray):(Op.equalIn 10000 65 (.agg #[.int .i64 s,.string a,.string sa,.string b,.string sb]) (.agg #[.int .i64 s,.string a,.string sa,.string b,.string sb])).run Tryz.prog W=.ok true W:=by
 have ht:Tryz.prog.underlying 65=some (.struct (Tryz.prog.fieldsOf 65)):=by kernel_rfl
 have hst:Tryz.prog.stoodInHeld 65=false:=by kernel_rfl
 have hu:=Tryz.underlying65
 have hus:=Tryz.underlying9
 have hui:=Tryz.underlying3
 rw [run_equalIn_agg W 9999 _ _ _ ht hst]
 unfold Program.fieldsOf
 rw [hu]
 go_simp
theorem guard_pr:Tryz.prog.eqGuardType Tryz.prog.depth 65=false:=by kernel_rfl
theorem pP_back {x:Pr} (h:pOk x=true):pP (mkS (encL (pL x)))=some x:=by
 obtain ⟨⟨h0,h0'⟩,-⟩:=pOk_iff.1 h
 obtain ⟨s,a,sa,b,sb⟩:=x
 simp only at h0 h0'
 obtain ⟨n,rfl⟩:=Int.eq_ofNat_of_zero_le h0
 have e:=al_back _ (pL_ok h)
 have hn:n≤63:=by omega
 have hi:inE (mkS (encN n)) 63=0∧inV (mkS (encN n)) 63=n:=by
  have h1:=Ho.nm_some (numOf_back n (by omega))
  have i0:inE (mkS (encN n)) 63=0:=by unfold Ho.inE;rw [if_pos h1.1,h1.2,if_neg (by omega)]
  exact ⟨i0,by unfold Ho.inV;rw [if_pos i0];exact h1.2⟩
 rw [pP_five (n:=mkS (encN n)) (a:=a) (b:=sa) (c:=b) (d:=sb) (by rw [e]) (by rw [e];rfl),if_pos hi.1,hi.2]
theorem lives22_any (w:World) (hI:IT w) (hK:KT w):Calls Tryz.prog 30 #[] w fun e w'=>e=.returned (.bool true)∧Below w.heap.size w w':=by
 have hkp:=hK.pos
 have HI:=hidp hI;have HK:=hidp hK;clear hI hK
 have ck:=hidp (show ∀ W,Calls Tryz.prog 15 #[.agg #[.string ⟨#[115]⟩,.int .i64 1,.int .i64 0]] W (fun e w'=>∃ b,e=.returned (.tuple #[.pointer (some ⟨b,0,none⟩),.int .i64 0])∧Arr w' b 118 [.string S0,.int .i64 1,.int .i64 0]∧W.heap.size≤b∧Below W.heap.size W w') from fun W=>kmake_yes W S0 1 0 (by decide) ok10)
 obtain ⟨T1,hT1⟩:∃ T,eT eA=T:=⟨_,rfl⟩
 obtain ⟨T2,hT2⟩:∃ T,jT hA=T:=⟨_,rfl⟩
 obtain ⟨U,hU⟩:∃ U,esmV eA=U:=⟨_,rfl⟩
 have hs1:=say_e;have hs2:=say_h;have hne:=sum_ne
 have z1:T1.size≤8192:=by rw [← hT1];decide +kernel
 have z2:T2.size≤8192:=by rw [← hT2];decide +kernel
 rw [hT1,hU] at hs1;rw [hT2] at hs2;rw [hU] at hne
 obtain ⟨p1,p2,p3⟩:=sg_yes (S:=S0) (H:=1) (N:=0) T1.data.toList ok10 (by decide)
 obtain ⟨q1,q2,q3⟩:=sg_yes (S:=S0) (H:=1) (N:=1) T2.data.toList ok11 (by decide)
 obtain ⟨R,hR⟩:∃ R,keyR S0 1 0=R:=⟨_,rfl⟩
 have hRl:=hidp (show R.length=32 from by rw [← hR];exact keyR_len _ _ _)
 have hRr:rootV (leafL S0.data.toList 1)=R:=by rw [← hR];unfold keyR;rw [ok10];rfl
 have b1:=bv_own hRr (m:=0) (by omega) T1
 have b2:=bv_own hRr (m:=1) (by omega) T2
 have y1:=(sig_parts (S:=S0) (h:=1) (m:=0) T1.data.toList (by decide) (by decide)).2.1
 have y2:=(sig_parts (S:=S0) (h:=1) (m:=1) T2.data.toList (by decide) (by decide)).2.1
 obtain ⟨G1,hG1⟩:∃ G,sgS S0 1 0 T1.data.toList=G:=⟨_,rfl⟩
 obtain ⟨G2,hG2⟩:∃ G,sgS S0 1 1 T2.data.toList=G:=⟨_,rfl⟩
 rw [show mkS (sigL S0.data.toList 1 0 T1.data.toList)=G1 from by rw [← hG1,p2];rfl] at b1 y1
 rw [show mkS (sigL S0.data.toList 1 1 T2.data.toList)=G2 from by rw [← hG2,q2];rfl] at b2 y2
 have E1:eA.ok:=⟨by show (⟨#[33,104,97,108,108,58,48]⟩:ByteArray).size≤_;decide,rfl,by show (⟨#[120]⟩:ByteArray).size≤_;decide,by show (⟨#[]⟩:ByteArray).size≤_;decide⟩
 have H1:hA.ok:=⟨E1.r,rfl,by show (⟨#[]⟩:ByteArray).size≤_;decide⟩
 have E2:(fE G1).ok:=⟨E1.r,rfl,E1.v,by show G1.size≤_;omega⟩
 have H2:(fH G2).ok:=⟨H1.r,rfl,by show G2.size≤_;omega⟩
 have t1:eT (fE G1)=T1:=(En.eT_sig (x:=eA) (g:=G1) eA_ok (by omega)).trans hT1
 have t2:jT (fH G2)=T2:=(jT_sig (x:=hA) (g:=G2) hA_ok (by omega)).trans hT2
 have o1:eOk (fE G1)=true:=En.wSigE_ok (x:=eA) (g:=G1) eA_ok (by omega)
 have o2:jOk (fH G2)=true:=wSigJ_ok (x:=hA) (g:=G2) hA_ok (by omega)
 have v1:esV S0 1 0 eA=fE G1∧esE S0 1 0 eA=0∧esR S0 1 0 eA=[.string S0,.int .i64 1,.int .i64 1]:=by
  refine ⟨?_,?_,?_⟩
  · unfold En.esV;rw [if_pos ⟨eA_ok,p3⟩,hT1];show wSigE eA (sgS S0 1 0 T1.data.toList)=fE G1;rw [hG1];rfl
  · unfold En.esE;rw [eA_ok,if_pos rfl];exact p3
  · unfold En.esR;rw [eA_ok,if_pos rfl];unfold rgA;rw [if_pos (by exact p3)];exact p1
 have v2:jsV S0 1 1 hA=fH G2∧jsE S0 1 1 hA=0∧jsR S0 1 1 hA=[.string S0,.int .i64 1,.int .i64 2]:=by
  refine ⟨?_,?_,?_⟩
  · unfold jsV;rw [if_pos ⟨hA_ok,q3⟩,hT2];show wSigJ hA (sgS S0 1 1 T2.data.toList)=fH G2;rw [hG2];rfl
  · unfold jsE;rw [hA_ok,if_pos rfl];exact q3
  · unfold jsR;rw [hA_ok,if_pos rfl];unfold rgA;rw [if_pos (by exact q3)];exact q1
 have cr:=hidp (show ∀ W br,Arr W br 118 [.string S0,.int .i64 1,.int .i64 0]→KT W→Calls Tryz.prog 28 #[.pointer (some ⟨br,0,none⟩)] W (fun e w'=>e=.returned (.agg (u8s R).toArray)∧Below W.heap.size W w') from fun W br ha hk=>by
  have:=krRoot_any W br S0 1 0 ha hk
  rw [hR] at this;exact this)
 have cs:=hidp (show ∀ W br,Arr W br 118 [.string S0,.int .i64 1,.int .i64 0]→IT W→KT W→Calls Tryz.prog 48 #[.pointer (some ⟨br,0,none⟩),.agg eA.row.toArray] W (fun e w'=>e=.returned (.tuple #[.agg (fE G1).row.toArray,.int .i64 0])∧Rg br W w'∧Arr w' br 118 [.string S0,.int .i64 1,.int .i64 1]) from fun W br ha hi hk=>by
  have:=esign_any W br S0 1 0 ok10 ha eA E1 hi hk
  rw [v1.1,v1.2.1,v1.2.2] at this;exact this)
 have ch:=hidp (show ∀ W br,Arr W br 118 [.string S0,.int .i64 1,.int .i64 1]→IT W→KT W→Calls Tryz.prog 50 #[.pointer (some ⟨br,0,none⟩),.agg hA.row.toArray] W (fun e w'=>e=.returned (.tuple #[.agg (fH G2).row.toArray,.int .i64 0])∧Rg br W w'∧Arr w' br 118 [.string S0,.int .i64 1,.int .i64 2]) from fun W br ha hi hk=>by
  have:=jsign_any W br S0 1 1 ok11 ha hA H1 hi hk
  rw [v2.1,v2.2.1,v2.2.2] at this;exact this)
 have yV1:syV T1=⟨⟨#[33,104,97,108,108,58,48]⟩,0,5,U,⟨#[]⟩⟩:=by unfold syV;rw [hs1];rfl
 have yV2:syV T2=hA:=by unfold syV;rw [hs2];rfl
 have yE1:syE T1=0:=by unfold syE;rw [hs1];rfl
 have yE2:syE T2=0:=by unfold syE;rw [hs2];rfl
 have pk:∀ n:Int,0≤n→n≤63→pOk (⟨n,T1,G1,T2,G2⟩:Pr)=true:=fun n h0 h1=>pOk_iff.2 ⟨⟨h0,h1⟩,z1,by show G1.size≤_;omega,z2,by show G2.size≤_;omega⟩
 have pk3:pOk (⟨2,T1,G1,T1,G1⟩:Pr)=true:=pOk_iff.2 ⟨⟨by show (0:Int)≤2;decide,by show (2:Int)≤63;decide⟩,z1,by show G1.size≤_;omega,z1,by show G1.size≤_;omega⟩
 have k1:ckE [⟨2,0,9,1,R⟩] (⟨2,T1,G1,T2,G2⟩:Pr)=0:=by
  unfold ckE
  rw [if_pos (pk 2 (by decide) (by decide))]
  simp only [yV1,yV2,yE1,yE2]
  rw [if_pos ⟨trivial,trivial⟩,if_pos (by unfold plc hA;simp),if_neg (show ¬ U=hA.p from fun g=>hne g)]
  unfold vfy;simp only;rw [if_pos b1];exact b2
 have k2:ckE [⟨2,0,9,1,R⟩] (⟨1,T1,G1,T2,G2⟩:Pr)=3:=by
  unfold ckE
  rw [if_pos (pk 1 (by decide) (by decide))]
  simp only [yV1,yV2,yE1,yE2]
  rw [if_pos ⟨trivial,trivial⟩,if_pos (by unfold plc hA;simp),if_neg (show ¬ U=hA.p from fun g=>hne g)]
  unfold vfy;simp only;rw [if_neg (by rw [bv_none];decide)];exact bv_none _ _
 have k3:ckE [⟨2,0,9,1,R⟩] (⟨2,T1,G1,T1,G1⟩:Pr)=4:=by
  unfold ckE
  rw [if_pos pk3]
  simp only [yV1,yE1]
  rw [if_pos ⟨trivial,trivial⟩,if_pos (by unfold plc;simp),if_pos trivial]
 have k4:ckE [⟨2,0,9,1,R⟩] zP=6:=by
  unfold ckE
  rw [if_pos (by decide),if_neg]
  intro g
  have:=g.1
  unfold syE zP at this
  simp only at this
  rw [says_0] at this;cases this
 have Q1:(⟨2,T1,G1,T2,G2⟩:Pr).ok:=⟨by show T1.size≤_;omega,by show G1.size≤_;omega,by show T2.size≤_;omega,by show G2.size≤_;omega⟩
 have Q2:(⟨1,T1,G1,T2,G2⟩:Pr).ok:=⟨Q1.1,Q1.2.1,Q1.2.2.1,Q1.2.2.2⟩
 have Q3:(⟨2,T1,G1,T1,G1⟩:Pr).ok:=⟨Q1.1,Q1.2.1,Q1.1,Q1.2.1⟩
 have Q4:zP.ok:=⟨by decide,by decide,by decide,by decide⟩
 have hX:=pB_yes (pk 2 (by decide) (by decide))
 have hXE:=pE_yes (pk 2 (by decide) (by decide))
 have hXP:=pP_back (pk 2 (by decide) (by decide))
 obtain ⟨X,hX0⟩:∃ X,mkS (encL (pL (⟨2,T1,G1,T2,G2⟩:Pr)))=X:=⟨_,rfl⟩
 rw [hX0] at hX hXP
 have hXs:X.size≤65536:=by
  rw [← hX0,mkS_size];unfold encL
  have e1:=Ho.encTs_len (pL (⟨2,T1,G1,T2,G2⟩:Pr)) 8192 (by omega) (pL_ok (pk 2 (by decide) (by decide))).2
  have e2:=encN_len64 (pL (⟨2,T1,G1,T2,G2⟩:Pr)).length (by simp [pL])
  simp only [pL,List.length_append,List.length_cons,List.length_nil] at e1 e2 ⊢;omega
 have ct:=hidp (show ∀ W,IT W→Calls Tryz.prog 51 #[.agg (fE G1).row.toArray] W (fun e w'=>e=.returned (.tuple #[.string T1,.int .i64 0])∧Below W.heap.size W w') from fun W hi=>by
  have:=etext_any W _ E2 hi
  rw [t1,eE_yes o1] at this;exact this)
 have cu:=hidp (show ∀ W,IT W→Calls Tryz.prog 52 #[.agg (fH G2).row.toArray] W (fun e w'=>e=.returned (.tuple #[.string T2,.int .i64 0])∧Below W.heap.size W w') from fun W hi=>by
  have:=jtext_any W _ H2 hi
  rw [t2,jE_yes o2] at this;exact this)
 have cy:=hidp (show ∀ W,IT W→KT W→Calls Tryz.prog 31 #[.string T2] W (fun e w'=>e=.returned (.tuple #[.agg hA.row.toArray,.int .i64 0])∧Below W.heap.size W w') from fun W hi hk=>by
  have:=says_any W T2 (by omega) hi hk
  rw [yV2,yE2] at this;exact this)
 have cz:=hidp (show ∀ W,IT W→KT W→Calls Tryz.prog 31 #[.string ⟨#[120]⟩] W (fun e w'=>e=.returned (.tuple #[.agg zHd.row.toArray,.int .i64 6])∧Below W.heap.size W w') from fun W hi hk=>by
  have:=says_any W ⟨#[120]⟩ (by decide) hi hk
  rw [show syV ⟨#[120]⟩=zHd from by unfold syV;rw [says_x];rfl,show syE ⟨#[120]⟩=6 from by unfold syE;rw [says_x];rfl] at this;exact this)
 have cb:=hidp (show ∀ W,Calls Tryz.prog 33 #[.agg #[.int .i64 2,.string T1,.string G1,.string T2,.string G2]] W (fun e w'=>e=.returned (.tuple #[.string X,.int .i64 0])∧Below W.heap.size W w') from fun W=>by
  have:=bytes_any W (⟨2,T1,G1,T2,G2⟩:Pr)
  rw [hX,hXE] at this;exact this)
 have cp:=hidp (show ∀ W,Calls Tryz.prog 35 #[.string X] W (fun e w'=>e=.returned (.tuple #[.agg #[.int .i64 2,.string T1,.string G1,.string T2,.string G2],.int .i64 0])∧Below W.heap.size W w') from fun W=>by
  have:=parse_any W X (by omega)
  rw [show ppV X=(⟨2,T1,G1,T2,G2⟩:Pr) from by unfold ppV;rw [hXP];rfl,show ppE X=0 from by unfold ppE;rw [hXP];rfl] at this;exact this)
 have c1:=hidp (show ∀ W v,GsAt W v [⟨2,0,9,1,R⟩]→IT W→KT W→Calls Tryz.prog 37 #[v,.agg #[.int .i64 2,.string T1,.string G1,.string T2,.string G2]] W (fun e w'=>e=.returned (.int .i64 0)∧Below W.heap.size W w') from fun W v hg hi hk=>by
  have:=check_any W v _ hg (⟨2,T1,G1,T2,G2⟩:Pr) Q1 hi hk
  rw [k1] at this;exact this)
 have c2:=hidp (show ∀ W v,GsAt W v [⟨2,0,9,1,R⟩]→IT W→KT W→Calls Tryz.prog 37 #[v,.agg #[.int .i64 1,.string T1,.string G1,.string T2,.string G2]] W (fun e w'=>e=.returned (.int .i64 3)∧Below W.heap.size W w') from fun W v hg hi hk=>by
  have:=check_any W v _ hg (⟨1,T1,G1,T2,G2⟩:Pr) Q2 hi hk
  rw [k2] at this;exact this)
 have c3:=hidp (show ∀ W v,GsAt W v [⟨2,0,9,1,R⟩]→IT W→KT W→Calls Tryz.prog 37 #[v,.agg #[.int .i64 2,.string T1,.string G1,.string T1,.string G1]] W (fun e w'=>e=.returned (.int .i64 4)∧Below W.heap.size W w') from fun W v hg hi hk=>by
  have:=check_any W v _ hg (⟨2,T1,G1,T1,G1⟩:Pr) Q3 hi hk
  rw [k3] at this;exact this)
 have c4:=hidp (show ∀ W v,GsAt W v [⟨2,0,9,1,R⟩]→IT W→KT W→Calls Tryz.prog 37 #[v,.agg #[.int .i64 0,.string ⟨#[]⟩,.string ⟨#[]⟩,.string ⟨#[]⟩,.string ⟨#[]⟩]] W (fun e w'=>e=.returned (.int .i64 6)∧Below W.heap.size W w') from fun W v hg hi hk=>by
  have:=check_any W v _ hg zP Q4 hi hk
  rw [k4] at this;exact this)
 have qe:=fun W=>eqin_pr W 2 T1 G1 T2 G2
 have ge:=guard_pr
 have H:=hidp (Mm.M.nil w)
 clear hT1 hT2 hU hs1 hs2 hne z1 z2 p1 p2 p3 q1 q2 q3 hR hRr b1 b2 y1 y2 hG1 hG2 E1 H1 E2 H2 t1 t2 o1 o2 v1 v2 yV1 yV2 yE1 yE2 pk pk3 k1 k2 k3 k4 Q1 Q2 Q3 Q4 hX hXE hXP hX0 hXs
 go_enter Tryz.func30,Tryz.ntmps30
 have tk0:=hT
 go_wp2_with (first|(clear tk0;(refine Rt.wpL_build rfl 23 _ rfl [.string ⟨#[115]⟩,.int .i64 1,.int .i64 0] (by kernel_rfl) ?_);(try simp only [aR]);have tk1:=hT)|(clear tk1;(go_at_call 15;refine (ck.out _).mono ?_;rintro e _ ⟨br,rfl,hring,hge,hb⟩;replace H:=hidp (H.out.add (m:=0) hb hge hring);clear hring hge hb ck);(try simp only [aR]);have tk2:=hT)|(clear tk2;(go_at_call 28;refine (cr.out _ br H.out.at0 (HK.out.below H.out.below hkp)).mono ?_;rintro e _ ⟨rfl,hb⟩;replace H:=hidp (H.out.call hb);clear cr;clear hb);(try simp only [aR]);have tk3:=hT)|(clear tk3;(refine wpL_bldG rfl _ _ _ (.tmp 35) rfl 2 9 1 R rfl rfl rfl rfl hRl.out ?_);(try simp only [aR]);have tk4:=hT)|(clear tk4;(refine Rw.wpL_bs1R rwG rfl (.tmp 36) rfl (Gr.row ⟨2,0,9,1,R⟩) rfl (Gr.len hRl.out) ?_;intro bg _ nw;replace H:=hidp (H.out.new nw);clear nw);(try simp only [aR]);have tk5:=hT)|(clear tk5;(refine Rt.wpL_build rfl 103 _ rfl eA.row (by kernel_rfl) ?_);(try simp only [aR]);have tk6:=hT)|(clear tk6;(go_at_call 48;refine (cs.out _ br H.out.at1 (HI.out.below H.out.below (Nat.le_refl _)) (HK.out.below H.out.below hkp)).mono ?_;rintro e _ ⟨rfl,hr,ha⟩;replace H:=(show Hid (Mm.M w.heap.size w _ ([⟨bg,61,(Gr.row ⟨2,0,9,1,R⟩)⟩,⟨br,118,[.string S0,.int .i64 1,.int .i64 1]⟩])) from hidp (rgAt H.out 1 rfl hr ha));clear hr ha cs);(try simp only [aR]);have tk7:=hT)|(clear tk7;(refine Mm.new En.rtE H (some 4) rfl rfl rfl ?_;clear H;intro b4 _ H nw;clear nw);(try simp only [aR]);have tk8:=hT)|(clear tk8;(refine Mm.put0 En.rtE H rfl (.tmp 4) (.tmp 42) (fE G1).row rfl rfl rfl (En.En.len (rfl:(fE G1).p.length=32)) (En.En.one (fE G1)) (En.En.len (rfl:En.zEn.p.length=32)) ?_;clear H;intro _ H st;clear st);(try simp only [aR]);have tk9:=hT)|(clear tk9;(refine Rt.wpL_build rfl 67 _ rfl hA.row (by kernel_rfl) ?_);(try simp only [aR]);have tk10:=hT)|(clear tk10;(go_at_call 50;refine (ch.out _ br H.out.at2 (HI.out.below H.out.below (Nat.le_refl _)) (HK.out.below H.out.below hkp)).mono ?_;rintro e _ ⟨rfl,hr,ha⟩;replace H:=(show Hid (Mm.M w.heap.size w _ ([⟨b4,103,(fE G1).row⟩,⟨bg,61,(Gr.row ⟨2,0,9,1,R⟩)⟩,⟨br,118,[.string S0,.int .i64 1,.int .i64 2]⟩])) from hidp (rgAt H.out 2 rfl hr ha));clear hr ha ch);(try simp only [aR]);have tk11:=hT)|(clear tk11;(refine Mm.new rtHd H (some 6) rfl rfl rfl ?_;clear H;intro b6 _ H nw;clear nw);(try simp only [aR]);have tk12:=hT)|(clear tk12;(refine Mm.put0 rtHd H rfl (.tmp 6) (.tmp 48) (fH G2).row rfl rfl rfl (Hd.len (rfl:(fH G2).p.length=32)) (Hd.one (fH G2)) (Hd.len (rfl:zHd.p.length=32)) ?_;clear H;intro _ H st;clear st);(try simp only [aR]);have tk13:=hT)|(clear tk13;(refine Mm.get1 En.rtE H rfl (.tmp 4) rfl rfl (En.En.len (rfl:(fE G1).p.length=32)) ?_);(try simp only [aR]);have tk14:=hT)|(clear tk14;(go_at_call 51;refine (ct.out _ (HI.out.below H.out.below (Nat.le_refl _))).mono ?_;rintro e _ ⟨rfl,hb⟩;replace H:=hidp (H.out.call hb);clear ct;clear hb);(try simp only [aR]);have tk15:=hT)|(clear tk15;(refine Mm.get0 rtHd H rfl (.tmp 6) rfl rfl (Hd.len (rfl:(fH G2).p.length=32)) ?_);(try simp only [aR]);have tk16:=hT)|(clear tk16;(go_at_call 52;refine (cu.out _ (HI.out.below H.out.below (Nat.le_refl _))).mono ?_;rintro e _ ⟨rfl,hb⟩;replace H:=hidp (H.out.call hb);clear cu;clear hb);(try simp only [aR]);have tk17:=hT)|(clear tk17;(refine Mm.ld1 En.naS H rfl (.tmp 61) 36 (.string G1) rfl rfl (En.En.get36 (x:=fE G1) rfl) ?_);(try simp only [aR]);have tk18:=hT)|(clear tk18;(refine Mm.ld0 En.naS H rfl (.tmp 64) 35 (.string G2) rfl rfl (Hd.get35 (x:=fH G2) rfl) ?_);(try simp only [aR]);have tk19:=hT)|(clear tk19;(refine Rt.wpL_build rfl 65 _ rfl [.int .i64 2,.string T1,.string G1,.string T2,.string G2] (by kernel_rfl) ?_);(try simp only [aR]);have tk20:=hT)|(clear tk20;(refine Mm.new rtP H (some 12) rfl rfl rfl ?_;clear H;intro b12 _ H nw;clear nw);(try simp only [aR]);have tk21:=hT)|(clear tk21;(refine Mm.put0 rtP H rfl (.tmp 12) (.tmp 66) [.int .i64 2,.string T1,.string G1,.string T2,.string G2] rfl rfl rfl rfl (by simp [Value.oneCell']) rfl ?_;clear H;intro _ H st;clear st);(try simp only [aR]);have tk22:=hT)|(clear tk22;(go_at_call 31;refine (cy.out _ (HI.out.below H.out.below (Nat.le_refl _)) (HK.out.below H.out.below hkp)).mono ?_;rintro e _ ⟨rfl,hb⟩;replace H:=hidp (H.out.call hb);clear cy;clear hb);(try simp only [aR]);have tk23:=hT)|(clear tk23;(refine Mm.new rtHd H (some 13) rfl rfl rfl ?_;clear H;intro b13 _ H nw;clear nw);(try simp only [aR]);have tk24:=hT)|(clear tk24;(refine Mm.put0 rtHd H rfl (.tmp 13) (.tmp 70) hA.row rfl rfl rfl (Hd.len (rfl:hA.p.length=32)) (Hd.one hA) (Hd.len (rfl:zHd.p.length=32)) ?_;clear H;intro _ H st;clear st);(try simp only [aR]);have tk25:=hT)|(clear tk25;(refine Mm.get1 rtP H rfl (.tmp 12) rfl rfl rfl ?_);(try simp only [aR]);have tk26:=hT)|(clear tk26;(go_at_call 33;refine (cb.out _).mono ?_;rintro e _ ⟨rfl,hb⟩;replace H:=hidp (H.out.call hb);clear cb;clear hb);(try simp only [aR]);have tk27:=hT)|(clear tk27;(go_at_call 35;refine (cp.out _).mono ?_;rintro e _ ⟨rfl,hb⟩;replace H:=hidp (H.out.call hb);clear cp;clear hb);(try simp only [aR]);have tk28:=hT)|(clear tk28;(refine Mm.new rtP H (some 17) rfl rfl rfl ?_;clear H;intro b17 _ H nw;clear nw);(try simp only [aR]);have tk29:=hT)|(clear tk29;(refine Mm.put0 rtP H rfl (.tmp 17) (.tmp 80) [.int .i64 2,.string T1,.string G1,.string T2,.string G2] rfl rfl rfl rfl (by simp [Value.oneCell']) rfl ?_;clear H;intro _ H st;clear st);(try simp only [aR]);have tk30:=hT)|(clear tk30;(go_at_call 31;refine (cz.out _ (HI.out.below H.out.below (Nat.le_refl _)) (HK.out.below H.out.below hkp)).mono ?_;rintro e _ ⟨rfl,hb⟩;replace H:=hidp (H.out.call hb);clear cz;clear hb);(try simp only [aR]);have tk31:=hT)|(clear tk31;(refine Mm.new rtHd H (some 19) rfl rfl rfl ?_;clear H;intro b19 _ H nw;clear nw);(try simp only [aR]);have tk32:=hT)|(clear tk32;(refine Mm.put0 rtHd H rfl (.tmp 19) (.tmp 84) zHd.row rfl rfl rfl (Hd.len (rfl:zHd.p.length=32)) (Hd.one zHd) (Hd.len (rfl:zHd.p.length=32)) ?_;clear H;intro _ H st;clear st);(try simp only [aR]);have tk33:=hT)|(clear tk33;(refine Mm.get3 rtP H rfl (.tmp 12) rfl rfl rfl ?_);(try simp only [aR]);have tk34:=hT)|(clear tk34;(refine Mm.new rtP H (some 21) rfl rfl rfl ?_;clear H;intro b21 _ H nw;clear nw);(try simp only [aR]);have tk35:=hT)|(clear tk35;(refine Mm.put0 rtP H rfl (.tmp 21) (.tmp 86) [.int .i64 2,.string T1,.string G1,.string T2,.string G2] rfl rfl rfl rfl (by simp [Value.oneCell']) rfl ?_;clear H;intro _ H st;clear st);(try simp only [aR]);have tk36:=hT)|(clear tk36;(refine Mm.putF0 H rfl 3 (.tmp 87) (.const (.int .i64 1)) 0 (.int .i64 1) rfl rfl rfl (by kernel_rfl) rfl (of_decide_eq_true rfl) ?_;intro _ H2 st;clear st H;have H:Hid (Mm.M w.heap.size w _ ([⟨b21,65,[.int .i64 1,.string T1,.string G1,.string T2,.string G2]⟩,⟨b19,67,zHd.row⟩,⟨b17,65,[.int .i64 2,.string T1,.string G1,.string T2,.string G2]⟩,⟨b13,67,hA.row⟩,⟨b12,65,[.int .i64 2,.string T1,.string G1,.string T2,.string G2]⟩,⟨b6,67,(fH G2).row⟩,⟨b4,103,(fE G1).row⟩,⟨bg,61,(Gr.row ⟨2,0,9,1,R⟩)⟩,⟨br,118,[.string S0,.int .i64 1,.int .i64 2]⟩])):=H2;clear H2);(try simp only [aR]);have tk37:=hT)|(clear tk37;(refine Mm.get4 rtP H rfl (.tmp 12) rfl rfl rfl ?_);(try simp only [aR]);have tk38:=hT)|(clear tk38;(refine Mm.new rtP H (some 22) rfl rfl rfl ?_;clear H;intro b22 _ H nw;clear nw);(try simp only [aR]);have tk39:=hT)|(clear tk39;(refine Mm.put0 rtP H rfl (.tmp 22) (.tmp 88) [.int .i64 2,.string T1,.string G1,.string T2,.string G2] rfl rfl rfl rfl (by simp [Value.oneCell']) rfl ?_;clear H;intro _ H st;clear st);(try simp only [aR]);have tk40:=hT)|(clear tk40;(refine Mm.ld0 En.naS H rfl (.tmp 89) 1 (.string T1) rfl rfl rfl ?_);(try simp only [aR]);have tk41:=hT)|(clear tk41;(refine Mm.ld0 En.naS H rfl (.tmp 91) 2 (.string G1) rfl rfl rfl ?_);(try simp only [aR]);have tk42:=hT)|(clear tk42;(refine Mm.putF0 H rfl 9 (.tmp 93) (.tmp 90) 3 (.string T1) rfl rfl rfl (by kernel_rfl) rfl (of_decide_eq_true rfl) ?_;intro _ H2 st;clear st H;have H:Hid (Mm.M w.heap.size w _ ([⟨b22,65,[.int .i64 2,.string T1,.string G1,.string T1,.string G2]⟩,⟨b21,65,[.int .i64 1,.string T1,.string G1,.string T2,.string G2]⟩,⟨b19,67,zHd.row⟩,⟨b17,65,[.int .i64 2,.string T1,.string G1,.string T2,.string G2]⟩,⟨b13,67,hA.row⟩,⟨b12,65,[.int .i64 2,.string T1,.string G1,.string T2,.string G2]⟩,⟨b6,67,(fH G2).row⟩,⟨b4,103,(fE G1).row⟩,⟨bg,61,(Gr.row ⟨2,0,9,1,R⟩)⟩,⟨br,118,[.string S0,.int .i64 1,.int .i64 2]⟩])):=H2;clear H2);(try simp only [aR]);have tk43:=hT)|(clear tk43;(refine Mm.putF0 H rfl 9 (.tmp 94) (.tmp 92) 4 (.string G1) rfl rfl rfl (by kernel_rfl) rfl (of_decide_eq_true rfl) ?_;intro _ H2 st;clear st H;have H:Hid (Mm.M w.heap.size w _ ([⟨b22,65,[.int .i64 2,.string T1,.string G1,.string T1,.string G1]⟩,⟨b21,65,[.int .i64 1,.string T1,.string G1,.string T2,.string G2]⟩,⟨b19,67,zHd.row⟩,⟨b17,65,[.int .i64 2,.string T1,.string G1,.string T2,.string G2]⟩,⟨b13,67,hA.row⟩,⟨b12,65,[.int .i64 2,.string T1,.string G1,.string T2,.string G2]⟩,⟨b6,67,(fH G2).row⟩,⟨b4,103,(fE G1).row⟩,⟨bg,61,(Gr.row ⟨2,0,9,1,R⟩)⟩,⟨br,118,[.string S0,.int .i64 1,.int .i64 2]⟩])):=H2;clear H2;obtain ⟨p0,p1,p2,p3,p4⟩:=pr_cells H.out.at5;obtain ⟨q0,q1,q2,q3,q4⟩:=pr_cells H.out.at3;obtain ⟨r0,r1,r2,r3,r4⟩:=pr_cells H.out.at1;obtain ⟨s0,s1,s2,s3,s4⟩:=pr_cells H.out.at0;have x2:_=some (Value.int .i64 5):=H.out.at4.cell 2 (of_decide_eq_true rfl));(try simp only [aR]);have tk44:=hT)|(clear tk44;(go_at_call 37;refine (c1.out _ _ (gs_one hRl.out H.out.at8) (HI.out.below H.out.below (Nat.le_refl _)) (HK.out.below H.out.below hkp)).mono ?_;rintro e _ ⟨rfl,hb⟩;clear x2 p0 p1 p2 p3 p4 q0 q1 q2 q3 q4 r0 r1 r2 r3 r4 s0 s1 s2 s3 s4;replace H:=hidp (H.out.call hb);clear hb c1;obtain ⟨p0,p1,p2,p3,p4⟩:=pr_cells H.out.at5;obtain ⟨q0,q1,q2,q3,q4⟩:=pr_cells H.out.at3;obtain ⟨r0,r1,r2,r3,r4⟩:=pr_cells H.out.at1;obtain ⟨s0,s1,s2,s3,s4⟩:=pr_cells H.out.at0;have x2:_=some (Value.int .i64 5):=H.out.at4.cell 2 (of_decide_eq_true rfl));(try simp only [aR]);have tk45:=hT)|(clear tk45;(go_at_call 37;refine (c2.out _ _ (gs_one hRl.out H.out.at8) (HI.out.below H.out.below (Nat.le_refl _)) (HK.out.below H.out.below hkp)).mono ?_;rintro e _ ⟨rfl,hb⟩;clear x2 p0 p1 p2 p3 p4 q0 q1 q2 q3 q4 r0 r1 r2 r3 r4 s0 s1 s2 s3 s4;replace H:=hidp (H.out.call hb);clear hb c2;obtain ⟨p0,p1,p2,p3,p4⟩:=pr_cells H.out.at5;obtain ⟨q0,q1,q2,q3,q4⟩:=pr_cells H.out.at3;obtain ⟨r0,r1,r2,r3,r4⟩:=pr_cells H.out.at1;obtain ⟨s0,s1,s2,s3,s4⟩:=pr_cells H.out.at0;have x2:_=some (Value.int .i64 5):=H.out.at4.cell 2 (of_decide_eq_true rfl));(try simp only [aR]);have tk46:=hT)|(clear tk46;(go_at_call 37;refine (c3.out _ _ (gs_one hRl.out H.out.at8) (HI.out.below H.out.below (Nat.le_refl _)) (HK.out.below H.out.below hkp)).mono ?_;rintro e _ ⟨rfl,hb⟩;clear x2 p0 p1 p2 p3 p4 q0 q1 q2 q3 q4 r0 r1 r2 r3 r4 s0 s1 s2 s3 s4;replace H:=hidp (H.out.call hb);clear hb c3;obtain ⟨p0,p1,p2,p3,p4⟩:=pr_cells H.out.at5;obtain ⟨q0,q1,q2,q3,q4⟩:=pr_cells H.out.at3;obtain ⟨r0,r1,r2,r3,r4⟩:=pr_cells H.out.at1;obtain ⟨s0,s1,s2,s3,s4⟩:=pr_cells H.out.at0;have x2:_=some (Value.int .i64 5):=H.out.at4.cell 2 (of_decide_eq_true rfl));(try simp only [aR]);have tk47:=hT)|(clear tk47;(go_at_call 37;refine (c4.out _ _ (gs_one hRl.out H.out.at8) (HI.out.below H.out.below (Nat.le_refl _)) (HK.out.below H.out.below hkp)).mono ?_;rintro e _ ⟨rfl,hb⟩;clear x2 p0 p1 p2 p3 p4 q0 q1 q2 q3 q4 r0 r1 r2 r3 r4 s0 s1 s2 s3 s4;replace H:=hidp (H.out.call hb);clear hb c4);(try simp only [aR]);have tk48:=hT))
 try clear tk48
 go_ret
 exact ⟨rfl,H.out.below⟩
end Go.Proofs.YtokakgjcegmabaaGreatDoor.Pf
