import Derived.Test.YtokakgjcegmabaaGreatDoorLI
import Derived.OrdersIn
import Derived.Maps.OwnIn
import Derived.Test.YtokakgjcegmabaaGreatDoorLH
import Derived.OrdersHeld
set_option linter.unusedVariables false
set_option linter.unusedSimpArgs false
set_option maxHeartbeats 64000000
set_option maxRecDepth 100000
namespace Go.Proofs.YtokakgjcegmabaaGreatDoor
section
open Go.RowKit
def noDefer3:Op→Bool
 | .defer _=>false
 | _=>true
theorem noDefer3_spec {ops:Array Oper} (h:(ops.all fun o=>noDefer3 o.op)=true) (i:Nat) (o:Oper) (ho:ops[i]?=some o):∀ c,o.op≠.defer c:=by
 intro c e
 obtain ⟨hi,rfl⟩:=Array.getElem?_eq_some_iff.1 ho
 have:=(Array.all_eq_true.1 h) i hi
 rw [e] at this
 cases this
section
variable {F:Fence} {n:Nat} {P:Program} {ops:Array Oper} {md:Region.Mode} {C:World→Prop} {Q:Exit→Act→World→Prop}
theorem Oper.wpIn_of_quiet3 (hF:∀ f,F.fn f) (hd:F.depth=none) (hc:∀ (f:FuncId) (args:Array Value) (w:World) (R:Ending→World→Prop),Calls P f args w R→CallsIn F (n - 1) P f args w R)
 {o:Oper} (hn:∀ c,o.op≠.defer c) {a:Act} {K:Act→Prop} {K':Act→World→Prop} {w:World} (hw:C w) (h:∀ a w',C w'→K a→K' a w') (hh:o.quiet P a C K):o.wpIn F n P a w K' Q:=by
 obtain ⟨v,h1,h2⟩:=hh
 have h3:=h1 w hw
 unfold Oper.quietAt at h3
 refine ⟨fun f _=>hF f,?_⟩
 rw [Oper.semAt_plain F _ _ hn]
 generalize (execOp a.eval o).run P w=r at *
 cases r with
 | ok n w' =>
   cases n <;> simp only [Oper.quietUpon] at h3 <;> simp only [Oper.uponIn]
   case value u =>
    obtain ⟨e1,e2⟩:=h3
    rw [e1,e2]
    exact h _ _ hw h2
   case skip =>
    obtain ⟨e1,e2⟩:=h3
    rw [e1,← e2]
    exact h _ _ hw h2
   case enter f args =>
    obtain ⟨e1,hcc⟩:=h3
    rw [e1]
    exact ⟨fun hx=>(by rw [hd] at hx;cases hx),hc _ _ _ _ (hcc.mono fun e w'' ⟨he,hw''⟩=>by subst he;exact h _ _ hw'' h2)⟩
 | halt x w'=>simp only [Oper.quietUpon] at h3
theorem wpOpIn_of_qOp3 (hF:∀ f,F.fn f) (hd:F.depth=none) (hc:∀ (f:FuncId) (args:Array Value) (w:World) (R:Ending→World→Prop),Calls P f args w R→CallsIn F (n - 1) P f args w R)
 (hn:∀ (i:Nat) o,ops[i]?=some o→∀ c,o.op≠.defer c) {i:Nat} {a:Act} {K:Act→Prop} {K':Act→World→Prop} {w:World} (hC:C w) (h:∀ a w',C w'→K a→K' a w') (hh:qOp P ops C i K a):wpOpIn F n P ops Q i K' a w:=by
 unfold qOp at hh
 unfold wpOpIn
 split
 · rename_i ho;simp only [ho] at hh;exact h _ _ hC hh
 · rename_i o ho
   simp only [ho] at hh
   split
   · rename_i hw;simp only [hw,if_true] at hh;exact Oper.wpIn_of_quiet3 hF hd hc (hn i o ho) hC h hh
   · rename_i hw;simp only [hw] at hh;exact ⟨fun f _=>hF f,h _ _ hC hh⟩
theorem wpAnyIn_more:∀ (fuel:Nat) (listed:Array Bool) (a:Act) (w:World),wpAnyIn F n P md ops Q fuel listed a w→∀ m,fuel≤m→wpAnyIn F n P md ops Q m listed a w
 | 0,_,_,_,h,m,_=>wpAnyIn_done h.1 h.2 m
 | fuel + 1, _, _, _, h, m, hm => by
   obtain ⟨m,rfl⟩:∃ k,m=k + 1:=⟨m - 1,by omega⟩
   exact ⟨h.1,fun i hi=>wpOpIn_mono (fun a w h=>wpAnyIn_more fuel _ a w h m (by omega)) (h.2 i hi)⟩
theorem last_anyIn:∀ (r:List Oper) (j:Nat) (a:Act) (w:World),(∀ i,i<r.length→r[i]?=ops[j + i]?)→tailB md ops r.length j=true→wpListIn F n P ops Q r a w→wpAnyIn F n P md ops Q r.length (first j ops.size) a w
 | [],j,a,w,_,hB,h=>wpAnyIn_done (by simpa [tailB] using hB) h 0
 | o :: r, j, a, w, hr, hB, h => by
   simp only [List.length_cons,tailB,Bool.and_eq_true,decide_eq_true_iff] at hB
   refine wpAnyIn_all hB.1 (by simp) fun i hi=>?_
   obtain rfl:i=j:=by simpa using hi
   have h0:ops[i]?=some o:=by simpa using (hr 0 (by simp)).symm
   unfold wpOpIn
   simp only [h0]
   have key:=fun a w=>last_anyIn r (i + 1) a w (fun q hq=>by have:=hr (q + 1) (by simpa using hq);simpa [Nat.add_assoc,Nat.add_comm 1 q] using this) hB.2
   rw [first_set]
   unfold wpListIn at h
   split
   · rename_i hw
     rw [if_pos hw] at h
     exact Oper.wpIn_mono key h
   · rename_i hw
     rw [if_neg hw] at h
     exact ⟨h.1,key _ _ h.2⟩
end
end
section
open Go.RowKit
section
variable {F:Fence} {n:Nat} {P:Program} {ops:Array Oper} {md:Region.Mode} {C:World→Prop} {Q:Exit→Act→World→Prop}
def afterK (C:World→Prop):Result Next→Prop
 | .ok (.value _) w1=>C w1
 | .halt _ _=>True
 | _=>False
theorem both_anyIn0 (hF:∀ f,F.fn f) (hd:F.depth=none) (hcl:∀ (f:FuncId) (args:Array Value) (w:World) (R:Ending→World→Prop),Calls P f args w R→CallsIn F (n - 1) P f args w R)
 (hn:∀ (i:Nat) o,ops[i]?=some o→∀ c,o.op≠.defer c) {k:Nat} (hk:k≤ops.size) (hback:∀ (j:Nat) o,ops[j]?=some o→∀ e ∈ o.after,Region.binds md e=true→e.on<j)
 (hk0:0<k) (hlate:∀ j,k<j→j<ops.size→∀ i,i<k→waits md ops ops.size j i=true) (hlatek:∀ i,0<i→i<k→waits md ops ops.size k i=true)
 {o0 ok:Oper} (ho0:ops[0]?=some o0) (hok:ops[k]?=some ok) (hgk:ok.guard=none) (hs0:∀ cs b,o0.op≠.select cs b) (hsk:∀ cs b,ok.op≠.select cs b) (hap:o0.apart ops ok=true) (hap2:ok.apart ops o0=true)
 (hl0:∀ (a:Act) (w:World) (f:FuncId) (args:Array Value) (w':World),(execOp a.eval o0).run P w≠.ok (.enter f args) w')
 (hresk:∀ (a:Act) (w:World),C w→afterK C ((execOp a.eval ok).run P w)) (hQp:∀ c a w,¬ Q (.panic c) a w)
 (hB1:Region.ready md ops (((first k ops.size).setIfInBounds 0 false).setIfInBounds k true)=[0]) {r:List Oper} (hr1:∀ i,i<r.length→r[i]?=ops[k + 1 + i]?) (hB2:tailB md ops r.length (k + 1)=true) {Qm:Act→Prop} {fuel2:Nat} (hf2:r.length + 1≤fuel2)
 (hq:∀ a w,C w→Qm a→wpAnyIn F n P md ops Q fuel2 (first k ops.size) a w) (hqr:∀ a w,C w→Qm a→wpListIn F n P ops Q (ok :: r) a w) :
 ∀ (fuel:Nat) (listed:Array Bool) (a:Act) (w:World),listed.size=ops.size→(∀ j,k≤j→listed.getD j false=false)→Closed md ops listed→C w→wpAnyQ P md ops C Qm fuel (mark k listed) a→wpAnyIn F n P md ops Q (fuel + fuel2) listed a w:=by
 have hall:∀ listed:Array Bool,listed.size=ops.size→(∀ j,k≤j→listed.getD j false=false)→Region.ready md ops (mark k listed)=[]→listed=first k ops.size:=by
  intro listed hs ht hr
  have hpre:∀ i,i<k→listed.getD i false=true:=by
   intro i
   induction i using Nat.strongRecOn with
   | ind i ih =>
     intro hi
     by_cases hl:listed.getD i false=true
     · exact hl
     · exfalso
       obtain ⟨o,ho⟩:∃ o,ops[i]?=some o:=⟨ops[i]'(by omega),by simp⟩
       have:i ∈ Region.ready md ops (mark k listed):=mem_ready.2 ⟨by
        rw [mark_getD _ _ _ _ (by omega)]
        have:listed.getD i true=false:=by
         have h1:i<listed.size:=by omega
         simp [h1] at hl ⊢;exact hl
        rw [this];simp;omega,o,ho,fun e he hb=>by
        have hlt:=hback i o ho e he hb
        rw [mark_getD _ _ _ _ (by omega),ih e.on hlt (by omega)];rfl⟩
       rw [hr] at this;cases this
  apply Array.ext (by rw [hs,first_size])
  intro i h1 h2
  by_cases hik:i<k
  · have:=hpre i hik
    simp [h1] at this
    simp [first,this,hik]
  · have:=ht i (by omega)
    simp [h1] at this
    simp [first,this,hik]
 intro fuel
 induction fuel with
 | zero =>
   intro listed a w hs ht hc hw h
   obtain ⟨hr,hQ⟩:=h
   rw [hall listed hs ht hr,Nat.zero_add]
   exact hq a w hw hQ
 | succ fuel ih =>
   intro listed a w hs ht hc hw h
   by_cases hr:Region.ready md ops (mark k listed)=[]
   · rw [hall listed hs ht hr]
     exact wpAnyIn_more fuel2 _ _ _ (hq a w hw (h.1 hr)) _ (by omega)
   · rw [show fuel + 1 + fuel2=(fuel + fuel2) + 1 from by omega]
     have hpick:∀ i ∈ Region.ready md ops listed,(i<k∧i ∈ Region.ready md ops (mark k listed))∨(i=k∧∀ q,0<q→q<k→listed.getD q false=true):=by
      intro i hi
      obtain ⟨hun,o,ho,hal⟩:=mem_ready.1 hi
      have hio:i<ops.size:=(Array.getElem?_eq_some_iff.1 ho).1
      by_cases hik:i<k
      · refine .inl ⟨hik,mem_ready.2 ⟨?_,o,ho,fun e he hb=>?_⟩⟩
        · rw [mark_getD _ _ _ _ (by omega),hun];simp;omega
        · have hlt:=hback i o ho e he hb
          rw [mark_getD _ _ _ _ (by omega),hal e he hb];rfl
      · by_cases hik2:i=k
        · subst hik2
          exact .inr ⟨rfl,fun q hq0 hqk=>waits_listed hc ops.size i q (fun o' ho' e he hb=>by rw [ho] at ho';cases ho';exact hal e he hb) (hlatek q hq0 hqk)⟩
        · exfalso
          apply hr
          have hfull:∀ q,q<k→listed.getD q false=true:=fun q hqk =>
           waits_listed hc ops.size i q (fun o' ho' e he hb=>by rw [ho] at ho';cases ho';exact hal e he hb) (hlate i (by omega) hio q hqk)
          rw [List.eq_nil_iff_forall_not_mem]
          intro j hj
          obtain ⟨hun',oj,hoj,_⟩:=mem_ready.1 hj
          have hjs:j<ops.size:=(Array.getElem?_eq_some_iff.1 hoj).1
          rw [mark_getD _ _ _ _ (by omega)] at hun'
          simp at hun'
          have:=hfull j (by omega)
          have h1:j<listed.size:=by omega
          simp [h1] at this hun'
          rw [this] at hun';simp at hun'
     refine ⟨fun h0=>?_,fun i hi=>?_⟩
     · exfalso;apply hr
       rw [List.eq_nil_iff_forall_not_mem]
       intro j hj
       obtain ⟨hun',oj,hoj,hal⟩:=mem_ready.1 hj
       have hjs:j<ops.size:=(Array.getElem?_eq_some_iff.1 hoj).1
       rw [mark_getD _ _ _ _ (by omega)] at hun'
       simp only [Bool.or_eq_false_iff,decide_eq_false_iff_not,Nat.not_le] at hun'
       have:j ∈ Region.ready md ops listed:=mem_ready.2 ⟨hun'.1,oj,hoj,fun e he hb=>by
        have hlt:=hback j oj hoj e he hb
        have h2:=hal e he hb
        rw [mark_getD _ _ _ _ (by omega)] at h2
        simp only [Bool.or_eq_true,decide_eq_true_iff] at h2
        rcases h2 with h2 | h2
        · exact h2
        · omega⟩
       rw [h0] at this;cases this
     · rcases hpick i hi with ⟨hik,him⟩ | ⟨rfl,hfull⟩
       · refine wpOpIn_of_qOp3 hF hd hcl hn hw (fun a' w' hw' hk'=>ih (listed.setIfInBounds i true) a' w' (by simpa using hs) (fun j hj=>by rw [getD_set_ne false (by omega)];exact ht j hj) (hc.set hi) hw' ?_) (h.2 i him)
         rw [mark_set];exact hk'
       · -- operation 0 has not come up: else nothing were left in thought
         have h00:listed.getD 0 false=false:=by
          by_cases e:listed.getD 0 false=true
          · exfalso
            apply hr
            rw [List.eq_nil_iff_forall_not_mem]
            intro j hj
            obtain ⟨hun',oj,hoj,_⟩:=mem_ready.1 hj
            have hjs:j<ops.size:=(Array.getElem?_eq_some_iff.1 hoj).1
            rw [mark_getD _ _ _ _ (by omega)] at hun'
            simp only [Bool.or_eq_false_iff,decide_eq_false_iff_not,Nat.not_le] at hun'
            have h2:listed.getD j false=true:=by
             by_cases ej:j=0
             · subst ej;exact e
             · exact hfull j (by omega) hun'.2
            have h1:j<listed.size:=by omega
            simp [h1] at h2 hun'
            rw [h2] at hun';simp at hun'
          · simpa using e
         have hlst:listed=(first i ops.size).setIfInBounds 0 false:=by
          refine Array.ext (by simp [hs,first_size]) fun q h1 h2=>?_
          have hq1:q<listed.size:=h1
          by_cases eq0:q=0
          · subst eq0
            have:listed[0]=false:=by simpa [hq1] using h00
            rw [this];simp
          · rw [Array.getElem_setIfInBounds_ne (by simpa using h2) (fun e=>eq0 e.symm)]
            by_cases eqk:q<i
            · have:=hfull q (by omega) eqk
              simp [hq1] at this
              simp [first,this,eqk]
            · have:=ht q (by omega)
              simp [hq1] at this
              simp [first,this,eqk]
         have h0m:0 ∈ Region.ready md ops (mark i listed):=mem_ready.2 ⟨by
          rw [mark_getD _ _ _ _ (by omega)]
          have h1:0<listed.size:=by omega
          simp [h1] at h00 ⊢;exact ⟨h00,by omega⟩,o0,ho0,fun e he hb=>by
           have:=hback 0 o0 ho0 e he hb;omega⟩
         obtain ⟨v,hy,hK⟩:=yieldsIn_of_qOp ho0 (h.2 0 h0m)
         have hmf:Region.ready md ops ((mark i listed).setIfInBounds 0 true)=[]:=by
          rw [List.eq_nil_iff_forall_not_mem]
          intro j hj
          obtain ⟨hun',oj,hoj,_⟩:=mem_ready.1 hj
          have hjs:j<ops.size:=(Array.getElem?_eq_some_iff.1 hoj).1
          by_cases ej:j=0
          · subst ej
            have h1:0<(mark i listed).size:=by rw [mark_size];omega
            simp [h1] at hun'
          · rw [getD_set_ne true (fun e=>ej e.symm),mark_getD _ _ _ _ (by omega)] at hun'
            simp only [Bool.or_eq_false_iff,decide_eq_false_iff_not,Nat.not_le] at hun'
            have h2:=hfull j (by omega) hun'.2
            have h1:j<listed.size:=by omega
            simp [h1] at h2 hun'
            rw [h2] at hun';simp at hun'
         have hQm:Qm (a.put o0.dst v):=by
          cases fuel with
          | zero=>exact hK.2
          | succ f=>exact hK.1 hmf
         have hL:=hqr _ _ hw hQm
         obtain ⟨p1,p2,p3⟩:=Oper.apart_spec hap
         unfold wpOpIn
         simp only [hok]
         have hwk:∀ t,Region.wanted ok t=true:=fun t=>by simp [Region.wanted,hgk]
         rw [if_pos (hwk _)]
         unfold wpListIn at hL
         rw [if_pos (hwk _)] at hL
         refine ⟨fun f _=>hF f,?_⟩
         have hU:=hL.2
         rw [Oper.semAt_plain F _ _ (hn i ok hok)] at hU ⊢
         rw [execOp_put ok hsk a o0.dst v p1] at hU
         have hres:=hresk a w hw
         generalize hre:(execOp a.eval ok).run P w=res at hU hres ⊢
         cases res with
         | halt x w'=>cases x <;> simp only [Oper.uponIn] at hU ⊢;exact absurd hU (hQp _ _ _)
         | ok nx w1 =>
           cases nx <;> simp only [afterK] at hres
           case value u =>
            simp only [Oper.uponIn] at hU ⊢
            rw [hlst]
            have hy1:YieldsIn P ops C o0 v (a.put ok.dst u):=by
             obtain ⟨q1,q2,q3⟩:=Oper.apart_spec hap2
             exact hy.of_same (execOp_put o0 hs0 a ok.dst u q1) (wanted_put o0 a ok.dst u q1)
            rw [show fuel + fuel2=(fuel + fuel2 - 1) + 1 from by omega]
            refine wpAnyIn_all hB1 (by simp) fun q hq'=>?_
            obtain rfl:q=0:=by simpa using hq'
            have hfin:wpAnyIn F n P md ops Q (fuel + fuel2 - 1) ((((first i ops.size).setIfInBounds 0 false).setIfInBounds i true).setIfInBounds 0 true) ((a.put ok.dst u).put o0.dst v) w1:=by
             have e1:(((first i ops.size).setIfInBounds 0 false).setIfInBounds i true).setIfInBounds 0 true=first (i + 1) ops.size:=by
              rw [← first_set]
              refine Array.ext (by simp) fun q h1 h2=>?_
              have hqs:q<ops.size:=by simpa [first_size] using h2
              by_cases e0:q=0
              · subst e0
                rw [Array.getElem_setIfInBounds_self,Array.getElem_setIfInBounds_ne (by simpa [first_size] using hqs) (by omega)]
                simp [first,hk0]
              · rw [Array.getElem_setIfInBounds_ne (by simpa [first_size] using hqs) (by omega)]
                by_cases ei:q=i
                · subst ei
                  rw [Array.getElem_setIfInBounds_self,Array.getElem_setIfInBounds_self]
                · rw [Array.getElem_setIfInBounds_ne (by simpa [first_size] using hqs) (by omega),Array.getElem_setIfInBounds_ne (by simpa [first_size] using hqs) (by omega),Array.getElem_setIfInBounds_ne (by simpa [first_size] using hqs) (by omega)]
             rw [e1,← Act.put_comm a v u p2]
             exact wpAnyIn_more _ _ _ _ (last_anyIn r (i + 1) _ _ hr1 hB2 hU) _ (by omega)
            unfold wpOpIn
            simp only [ho0]
            rcases hy1 with ⟨hw0,hv0⟩ | ⟨hw0,rfl⟩
            · rw [if_pos hw0]
              refine ⟨fun f _=>hF f,?_⟩
              rw [Oper.semAt_plain F _ _ (hn 0 o0 ho0)]
              have h3:=hv0 w1 hres
              unfold Oper.quietAt at h3
              have hl:=hl0 (a.put ok.dst u) w1
              generalize (execOp (a.put ok.dst u).eval o0).run P w1=r0 at h3 hl ⊢
              cases r0 with
              | halt x w'=>exact h3.elim
              | ok ny w' =>
                cases ny <;> simp only [Oper.quietUpon] at h3 <;> simp only [Oper.uponIn]
                case value u'=>obtain ⟨e1,e2⟩:=h3;rw [e1,e2];exact hfin
                case skip=>obtain ⟨e1,e2⟩:=h3;rw [e1,← e2];exact hfin
                case enter f args=>exact absurd rfl (hl f args w')
            · rw [if_neg (by rw [hw0];exact Bool.false_ne_true)]
              exact ⟨fun f _=>hF f,hfin⟩
def thenB0 (ops:Array Oper) (k:Nat):Bool :=
 Region.noSelect ops && decide (k<ops.size) && (List.range ops.size).all (fun j=>match ops[j]? with | some o=>o.after.all fun e=>!Region.binds .any e || decide (e.on<j) | none=>true)
 && (List.range ops.size).all (fun j=>!decide (k<j) || (List.range k).all fun i=>waits .any ops ops.size j i)
 && lexTo .any ops k 0 (mark k (first 0 ops.size)) && tailB .any ops (ops.size - k) k
 && decide (0<k) && (List.range k).all (fun i=>decide (i=0) || waits .any ops ops.size k i)
 && (match ops[0]?,ops[k]? with | some o0,some ok=>ok.guard.isNone && o0.apart ops ok && ok.apart ops o0 | _,_=>false)
 && decide (Region.ready .any ops (((first k ops.size).setIfInBounds 0 false).setIfInBounds k true)=[0]) && tailB .any ops (ops.size - (k + 1)) (k + 1)
theorem wpIn_region_then0 (hF:∀ f,F.fn f) (hd:F.depth=none) (hcl:∀ (f:FuncId) (args:Array Value) (w:World) (R:Ending→World→Prop),Calls P f args w R→CallsIn F (n - 1) P f args w R)
 {id:Nat} {a:Act} {w:World} (k:Nat) (hm:P.follows .mixedOrders=true) (hn:(ops.all fun o=>noDefer3 o.op)=true) (hB:thenB0 ops k=true) (hC:C { w with drawn:=w.drawn + 1 })
 (hl0:∀ o0,ops[0]?=some o0→∀ (a:Act) (w:World) (f:FuncId) (args:Array Value) (w':World),(execOp a.eval o0).run P w≠.ok (.enter f args) w')
 (hresk:∀ ok,ops[k]?=some ok→∀ (a:Act) (w:World),C w→afterK C ((execOp a.eval ok).run P w)) (hQp:∀ c a w,¬ Q (.panic c) a w)
 (h:wpQuiet P ops C (fun a'=>∀ w',C w'→wpListIn F n P ops Q (ops.toList.drop k) a' w') (ops.toList.take k) a):(Code.region id ops true).wpIn F n P Q a w:=by
 simp only [thenB0,Bool.and_eq_true,decide_eq_true_iff] at hB
 obtain ⟨⟨⟨⟨⟨⟨⟨⟨⟨⟨hs,hk⟩,hback⟩,hlate⟩,hlex⟩,hlast⟩,hk0⟩,hlatek⟩,hpair⟩,hB1⟩,hB2⟩:=hB
 obtain ⟨o0,ho0⟩:∃ o,ops[0]?=some o:=⟨ops[0]'(by omega),by simp⟩
 obtain ⟨ok,hok⟩:∃ o,ops[k]?=some o:=⟨ops[k]'hk,by simp [hk]⟩
 rw [ho0,hok] at hpair
 simp only [Bool.and_eq_true] at hpair
 obtain ⟨⟨hgk,hap⟩,hap2⟩:=hpair
 have hlt:(ops.toList.take k).length=k:=by simp;omega
 have hld:(ops.toList.drop k).length=ops.size - k:=by simp
 have hdk:ops.toList.drop k=ok :: ops.toList.drop (k + 1):=by
  have h1:k<ops.toList.length:=by simpa using hk
  rw [List.drop_eq_getElem_cons h1]
  congr 1
  have:=hok;rw [Array.getElem?_eq_getElem hk] at this;simpa using this
 refine wpIn_region_any hm ?_
 have h1:=lexTo_any (md:=.any) hs (ops.toList.take k) 0 (mark k (first 0 ops.size)) a (fun j hj=>by rw [hlt] at hj;simp [hj]) (by rw [hlt];exact hlex) h
 have h2:=both_anyIn0 (F:=F) (n:=n) (P:=P) (Q:=Q) (C:=C) (md:=.any) hF hd hcl (noDefer3_spec hn) (Nat.le_of_lt hk) (fun j o ho e he hb=>by
  have:=(List.all_eq_true.1 hback) j (by simp;exact (Array.getElem?_eq_some_iff.1 ho).1)
  rw [ho] at this
  have:=(Array.all_eq_true_iff_forall_mem.1 this) e he
  simpa [hb] using this) hk0 (fun j hkj hj i hi=>by
  have:=(List.all_eq_true.1 hlate) j (by simpa using hj)
  simp only [Bool.or_eq_true,Bool.not_eq_true',decide_eq_false_iff_not,List.all_eq_true] at this
  rcases this with h | h
  · omega
  · exact h i (by simpa using hi)) (fun i hi0 hik=>by
  have:=(List.all_eq_true.1 hlatek) i (by simpa using hik)
  simp only [Bool.or_eq_true,decide_eq_true_iff] at this
  exact this.resolve_left (by omega)) ho0 hok (by simpa using hgk) (Region.noSelect_spec hs 0 o0 · · ho0) (Region.noSelect_spec hs k ok · · hok) hap hap2 (hl0 o0 ho0) (hresk ok hok) hQp hB1
  (r:=ops.toList.drop (k + 1)) (fun i hi=>by simp) (by rw [List.length_drop,Array.length_toList];exact hB2)
  (fuel2:=ops.size - k) (by rw [List.length_drop,Array.length_toList];omega) (fun a' w' hw' hq=>by
    have:=last_anyIn (F:=F) (n:=n) (P:=P) (Q:=Q) (md:=.any) (ops.toList.drop k) k a' w' (fun i hi=>by simp) (by rw [hld];exact hlast) (hq w' hw')
    rwa [hld] at this) (fun a' w' hw' hq=>by have:=hq w' hw';rwa [hdk] at this)
  (ops.toList.take k).length (first 0 ops.size) a _ (first_size _ _) (fun j hj=>by
    by_cases hjs:j<ops.size
    · rw [first_getD _ _ _ hjs];simp
    · simp [first,hjs]) (fun j o ho hl=>by
    have hjs:j<ops.size:=(Array.getElem?_eq_some_iff.1 ho).1
    rw [first_getD _ _ _ hjs] at hl;simp at hl) hC h1
 rw [hlt,show k + (ops.size - k)=ops.size from by omega,first_zero] at h2
 exact h2
end
end
section
open Go.RowKit Go.Shelf
attribute [local go_sem] Oper.semAt_some
theorem load_stays {P:Program} {o:Oper} (T:TypeId) (x:Operand) (ho:o.op=.load T x) (a:Act) (w:World) (f:FuncId) (args:Array Value) (w':World):(execOp a.eval o).run P w≠.ok (.enter f args) w':=by
 unfold execOp
 simp only [ho,Sem.run_bind]
 generalize (Instr.loadAt T (a.eval x)).run P w=r
 cases r <;> simp [Result.andThen]
theorem bs_run (parts:Array (Nat × Value)) (w:World):(∃ v cells,(Instr.buildSlice 37 1 parts).run Tryz.prog w=.ok v (w.alloc (.cells cells 58)))∨∃ h,(Instr.buildSlice 37 1 parts).run Tryz.prog w=.halt h w:=by
 obtain ⟨i0,hi,hz0,hz1,hz2⟩:=info_parts infoHash
 cases hf:Instr.fill (fun i=>some (i * i0.size,i0.size)) ((Array.range (1 * i0.size)).map ((Value.agg (u8s z32).toArray).cells[· % (Value.agg (u8s z32).toArray).cells.size]!)) parts.toList with
 | some cells=>exact .inl ⟨_,cells,run_buildSlice w 37 58 1 parts cells i0 _ hashes_row hi hz0 (by rw [hz1];decide) (by rw [hz1];decide) hf⟩
 | none =>
   refine .inr ?_
   rw [hz1] at hf
   simp [Instr.buildSlice,run_underlying hashes_row,sizeOf,typeInfo,zeroValue,hi,hz0,hz1]
   simp only [Nat.one_mul] at hf
   rw [hf]
   exact ⟨_,rfl⟩
theorem bs_after (W w:World) (hC:Cls W.heap.size W w) {o:Oper} (parts:Array (Nat × Operand)) (ho:o.op=.buildSlice 37 1 parts) (a:Act):afterK (Cls W.heap.size W) ((execOp a.eval o).run Tryz.prog w):=by
 unfold execOp
 simp only [ho,Sem.run_bind]
 rcases bs_run (parts.map fun (i,x)=>(i,a.eval x)) w with ⟨v,cells,h⟩ | ⟨h',h⟩
 · rw [h];exact Below.alloc hC hC.size _
 · rw [h];trivial
section
variable {P:Program} {w:World}
theorem run_put1 (b:Nat) (T:TypeId) (v old:Value) (hv:v.cells=#[v]) (h1:v.oneCell'=true) (hi:(P.info? T).map (·.size)=some 1) (hg:Arr w b T [old]):(storeVar T ⟨b,0,none⟩ v).run P w=.ok () (w.setCell ⟨b,0,none⟩ v):=by
 have:=run_storeCells_cells (P:=P) b 0 [v] 0 w (fun j hj=>by
  have:j=0:=by simpa using hj
  subst this;rw [hg.cell 0 (by simp)];rfl) (fun j hj=>hg.frozen _) (fun u hu=>by simp at hu;subst hu;exact h1)
 cases hq:P.info? T with
 | none=>simp [hq] at hi
 | some i =>
   have hs:i.size=1:=by simpa [hq] using hi
   simp [storeVar,sizeOf,typeInfo,hq,hv,hs]
   simpa [World.setCells] using this
end
section
variable {F:Fence} {n:Nat} {ops:Array Oper} {rest:List Oper} {o:Oper} {a:Act} {w:World} {Q:Exit→Act→World→Prop}
theorem f1_put (T:TypeId) (hgd:o.guard=none) (x y:Operand) (ho:o.op=.store T x y) (b:Nat) (v:Value) (hx:a.eval x=.pointer (some ⟨b,0,none⟩)) (hy:a.eval y=v) (hv:v.cells=#[v]) (h1:v.oneCell'=true) (hT:(Tryz.prog.info? T).map (·.size)=some 1) (old:Value) (hg:Arr w b T [old])
 (h:∀ W,Arr W b T [v]→Stp b w W→wpListIn F n Tryz.prog ops Q rest (a.put o.dst undef) W):wpListIn F n Tryz.prog ops Q (o :: rest) a w:=by
 have s1:Stp b w (w.setCell ⟨b,0,none⟩ v):=⟨by simp,fun c hc=>Below.heap_setCell w ⟨b,0,none⟩ v c hc,fun N hN=>(Below.refl N w).setCell (p:=⟨b,0,none⟩) hN v⟩
 refine wpIn_skip hgd (by rw [ho];intro c hc;cases hc) (by simp [Oper.about,ho]) _ ?_ (h _ (hg.set 0 v) s1)
 unfold execOp
 simp only [ho,hx,hy,Instr.storeAt,Instr.sureAddr,Sem.run_bind,Sem.run_pure,Result.andThen_ok,run_put1 b T v old hv h1 hT hg]
theorem f1_box (T:TypeId) (hgd:o.guard=none) (x:Operand) (ho:o.op=.box T x) (v:Value) (hx:a.eval x=v) (hv:v.cells=#[v])
 (h:∀ b W,NewAt w W b T [v]→wpListIn F n Tryz.prog ops Q rest (a.put o.dst (.pointer (some ⟨b,0,none⟩))) W):wpListIn F n Tryz.prog ops Q (o :: rest) a w:=by
 refine wpIn_value hgd (by rw [ho];intro c hc;cases hc) (by simp [Oper.about,ho]) _ _ ?_ (h w.heap.size (w.alloc (.cells #[v] T)) (NewAt.mk' w T [v]))
 unfold execOp
 simp only [ho,Instr.box,Sem.run_bind,Result.andThen_ok,hx]
 simp [newVar,newRow,hv]
theorem f1_new (T:TypeId) (hgd:o.guard=none) (ho:o.op=.alloc T) (v:Value) (hv:v.cells=#[v]) (hz:∀ w,(zeroValue T).run Tryz.prog w=.ok v w)
 (h:∀ b W,NewAt w W b T [v]→wpListIn F n Tryz.prog ops Q rest (a.put o.dst (.pointer (some ⟨b,0,none⟩))) W):wpListIn F n Tryz.prog ops Q (o :: rest) a w:=by
 refine wpIn_value hgd (by rw [ho];intro c hc;cases hc) (by simp [Oper.about,ho]) _ _ ?_ (h w.heap.size (w.alloc (.cells #[v] T)) (NewAt.mk' w T [v]))
 unfold execOp
 simp only [ho,Instr.alloc,Sem.run_bind,Result.andThen_ok,hz w]
 simp [newVar,newRow,hv]
theorem fL_bs1 (hgd:o.guard=none) (x:Operand) (ho:o.op=.buildSlice 37 1 #[(0,x)]) (l:List UInt8) (hx:a.eval x=.agg (u8s l).toArray) (hl:l.length=32)
 (h:∀ b W,NewAt w W b 58 (cat32 [l])→wpListIn F n Tryz.prog ops Q rest (a.put o.dst (.slice (some ⟨b,0,none⟩) 1 1)) W):wpListIn F n Tryz.prog ops Q (o :: rest) a w:=by
 refine wpIn_value hgd (by rw [ho];intro c hc;cases hc) (by simp [Oper.about,ho]) _ _ ?_ (h w.heap.size (w.alloc (.cells (cat32 [l]).toArray 58)) (NewAt.mk' _ _ _))
 unfold execOp
 simp only [ho,List.map_toArray,List.map_cons,List.map_nil,hx,Sem.run_bind,run_bs1 l hl,Result.andThen_ok,Sem.run_pure]
theorem fL_bs0 (hgd:o.guard=none) (ho:o.op=.buildSlice 37 0 #[])
 (h:∀ b W,NewAt w W b 58 []→wpListIn F n Tryz.prog ops Q rest (a.put o.dst (.slice (some ⟨b,0,none⟩) 0 0)) W):wpListIn F n Tryz.prog ops Q (o :: rest) a w:=by
 obtain ⟨i0,hi,hz0,hz1,hz2⟩:=info_parts infoHash
 refine wpIn_value hgd (by rw [ho];intro c hc;cases hc) (by simp [Oper.about,ho]) _ _ ?_ (h w.heap.size (w.alloc (.cells #[] 58)) (NewAt.mk' w 58 []))
 unfold execOp
 simp only [ho,List.map_toArray,List.map_nil,Sem.run_bind]
 simp [Instr.buildSlice,run_underlying hashes_row,sizeOf,typeInfo,zeroValue,hi,hz0,hz1,newRow,Instr.fill,Array.range_zero']
theorem fL_app (hgd:o.guard=none) (s x:Operand) (ho:o.op=.call { callee:=.builtin .append,args:=#[s,x],argTypes:=#[37,37] }) (B g:Nat) (v:Value) (hs:List (List UInt8)) (l:List UInt8)
 (hv:a.eval s=v) (hx:a.eval x=.slice (some ⟨g,0,none⟩) 1 1) (hown:OwnH w B v hs) (hg:Arr w g 58 (cat32 [l])) (hl:l.length=32) (hB:B≤w.heap.size) (hn:hs.length≤1024)
 (h:∀ v' W,OwnH W B v' (hs++[l])→w.grownBy W v.ownBlock→wpListIn F n Tryz.prog ops Q rest (a.put o.dst v') W):wpListIn F n Tryz.prog ops Q (o :: rest) a w:=by
 obtain ⟨i0,hi,hz0,hz1,hz2⟩:=info_parts infoHash
 obtain ⟨v',W,hr,h1,h2,_⟩:=run_append_own_at (P:=Tryz.prog) w B 37 o.type 58 i0 _ 32 32 hashes_row hi hz0 hz1 hz2 (by simp [Value.cells,z32_len,u8s_length]) (by decide) v hs.length (cat32 hs) hown.2 ⟨g,0,none⟩ 1 1 (cat32 [l])
  (by rw [cat32_one,u8s_length,hl]) (fun j u hj=>by rw [addr_add];exact hg.range j u hj) (cat32_cells _) (by unfold maxLen;omega) (by omega) hB
 refine wpIn_value hgd (by rw [ho];intro c hc;cases hc) (by simp [Oper.about,ho,resolve,Target.leads]) v' W ?_ (h v' W ⟨hown.1.app (All32.one hl),?_⟩ h2)
 · unfold execOp
   simp only [ho,resolve,invoke,builtin,Sem.run_bind,Sem.run_pure,Result.andThen_ok,List.map_toArray,List.map_cons,List.map_nil,hv,hx,hr]
 · rw [List.length_append,cat32_app];exact h1
end
theorem zero_hashes (w:World):(zeroValue 37).run Tryz.prog w=.ok (.slice none 0 0) w:=by kernel_rfl
theorem size_hashes:(Tryz.prog.info? 37).map (·.size)=some 1:=by kernel_rfl
theorem size_int:(Tryz.prog.info? 3).map (·.size)=some 1:=by kernel_rfl
theorem Stp.ownH {w W:World} {b t B:Nat} {v:Value} {hs:List (List UInt8)} {xs:List Value} (h:Stp b w W) (ho:OwnH w B v hs) (ha:Arr w b t xs) (hte:t≠58):OwnH W B v hs:=by
 refine ⟨ho.1,ho.2.1,ho.2.2.imp id ?_⟩
 rintro ⟨g,cap,cur,e1,hB,hg,r⟩
 refine ⟨g,cap,cur,e1,hB,(h.other g ?_).trans hg,r⟩
 rintro rfl
 rw [show w.heap[g]?=_ from ha] at hg
 cases hg;exact hte rfl
def PI (w:World) (b3 b6 K:Nat) (hs:List (List UInt8)) (i:Nat) (pre:List LvX) (W:World):Prop :=
 (Arr W b3 3 [.int .i64 ((i / 2 ^ (min pre.length K):Nat):Int)]∧∃ v,Boxed W b6 37 v∧W.ownsRow w.heap.size 58 32 v (pathL (min pre.length K) hs i).length (cat32 (pathL (min pre.length K) hs i))∧True)∧Below w.heap.size w W
theorem PI.own {w:World} {b3 b6 K i m:Nat} {hs:List (List UInt8)} (hm:w.heap.size≤m):OwnFrom m (PI w b3 b6 K hs i) :=
 OwnFrom.and (Go.Own.from (OwnAnd (arr_own _ _ _) (holdsRow_own w.heap.size _ _ _ 32 (fun (pre:List LvX)=>(pathL (min pre.length K) hs i).length) (fun pre=>cat32 (pathL (min pre.length K) hs i)) (fun _ _=>True))) _) (ownFrom_below (Nat.le_refl _) hm)
theorem path_in (n:Nat) (hn:12≤n) (w:World) (v:Value) (hs:List (List UInt8)) (hH:HsAt w v hs) (hf:fitN hs.length=true) (i:Nat) (hi:i<hs.length) (hKT:KT w) :
 CallsIn Fence.wide n Tryz.prog 140 #[v,.int .i64 (i:Int)] w fun e w'=>∃ v',e=.returned (.tuple #[v',.int .i64 0])∧OwnH w' w.heap.size v' (refP (hiN hs.length) hs i)∧Below w.heap.size w w':=by
 obtain ⟨hl0,hK7⟩:=fit_hi hf
 obtain ⟨B,off,c,rfl,hc,hB,hr⟩:=hH.get (by rw [hl0];exact Nat.pow_pos (by omega))
 have hl128:hs.length≤128:=by
  have:=Nat.pow_le_pow_right (n:=2) (show 0<2 by omega) hK7
  rw [← hl0] at this;simpa using this
 have cpm:=hidp (fun n W=>permF n W hs.length (by omega))
 rw [hf] at cpm
 have HH:=hidp hH;have HR:=hidp hr;have HC:=hidp hc
 have HL0:=hidp hl0;have HL1:=hidp hl128;have HF:=hidp hf;have HK:=hidp hKT;have HI:=hidp hi
 have hkp:=hKT.pos
 obtain ⟨L,hL⟩:∃ L,hs.length=L:=⟨_,rfl⟩
 have t0:decide ((i:Int)<0)=false:=by simp
 have t1:decide ((i:Int) ≥ (L:Int))=false:=by simp;omega
 have t2:decide (L≤i)=false:=by simp;omega
 rw [hL] at cpm ⊢
 have HL:=hidp hL
 clear hH hr hc hl0 hl128 hf hKT hL hi
 refine callsIn_of_wp_marks Tryz.func140 rfl trivial ?_ rfl
 simp only [Tryz.ntmps140,List.size_toArray,List.length_cons,List.length_nil,Nat.reduceAdd,Nat.reduceSub,Array.replicate_succ,Array.replicate_zero,List.push_toArray,List.append_toArray,List.nil_append,List.cons_append]
 gi_wp2_with (refine f1_box 3 rfl (.tmp 1) rfl (.int .i64 (i:Int)) rfl rfl ?_;intro b3 w3 n3)
 refine ⟨trivial,fun _=>by omega,?_⟩
 refine (cpm.out _ _).mono ?_
 rintro e w4 ⟨rfl,rfl⟩
 have hx3:=n3.arr.cell 0 (by simp)
 simp only [List.getElem_cons_zero] at hx3
 gi_wp2_with (first
  | (refine fL_bs0 rfl rfl ?_;intro b5 w5 n5)
  | (refine f1_new 37 rfl rfl _ rfl zero_hashes ?_;intro b6 w6 n6)
  | (refine f1_put 37 rfl (.tmp 6) (.tmp 22) rfl b6 (.slice (some ⟨b5,0,none⟩) 0 0) rfl rfl rfl rfl size_hashes (.slice none 0 0) n6.arr ?_;intro w7 ha7 hp7))
 refine ⟨trivial,fun _=>by omega,?_⟩
 refine (callsIn_wide.2 (levels_any _ _)).mono ?_
 rintro e w8 ⟨b8,rfl,n8⟩
 gi_wp2
 have hB4:=n5.below.trans ((n6.put hp7).mono n5.below.size)
 have hB8:=n3.below.trans ((hB4.mono n3.below.size).trans (n8.below.mono (Nat.le_trans n3.below.size hB4.size)))
 have hA3:Arr w8 b3 3 [.int .i64 (i:Int)]:=n8.old (n3.arr.below hB4 n3.lt)
 have hA6:Arr w8 b6 37 [.slice (some ⟨b5,0,none⟩) 0 0]:=n8.old ha7
 have h3w:=n3.le
 have h5w:=Nat.le_trans n3.below.size n5.le
 have h6w:=Nat.le_trans (Nat.le_trans n3.below.size n5.below.size) n6.le
 have h36:b3≠b6:=by have:=n3.lt;have:=n5.below.size;have:=n6.at_;omega
 have hO5:OwnH w8 w.heap.size (.slice (some ⟨b5,0,none⟩) 0 0) []:=⟨All32.nil,by simp [cat32],.inr ⟨b5,0,#[],rfl,h5w,n8.old ((n6.old n5.arr).below (hp7.below _ (by have:=n5.lt;have:=n6.at_;omega):Below (b5 + 1) w6 w7) (by omega)),Nat.le_refl _,by unfold maxLen;omega,rfl,rfl⟩⟩
 have hV8:VX w.heap.size ⟨B,off,c,hs⟩ w8.heap.size w8 :=
  ⟨HC.out,rangeAt_below HR.out hB8 hB,HH.out.1,by show 0<hs.length;rw [HL0.out];exact Nat.pow_pos (by omega),HL1.out,Nat.lt_of_lt_of_le hB hB8.size,.inl hB⟩
 obtain ⟨K,hKe⟩:∃ K,hiN hs.length=K:=⟨_,rfl⟩
 have hL0:=HL0.out
 rw [hKe] at hL0 hK7
 have hseq:=levels_seq (n - 1) (by omega) w.heap.size b8 K hK7 ⟨B,off,c,hs⟩ hL0 w8 (by have:=n8.arr;unfold LvX.v;dsimp only;rw [HL.out];exact this) hV8 hB hB8.size hkp (HK.out.below hB8 hkp)
 have hpt32:∀ j,j≤K→All32 (pathL j hs i):=by
  intro j hj z hz
  unfold pathL at hz
  obtain ⟨q,hq,rfl⟩:=List.mem_map.1 hz
  rw [List.getD_eq_getElem?_getD]
  cases he:(lvl q hs)[sibN (i / 2 ^ q)]? with
  | none=>rfl
  | some y=>exact lvl_32 q hs HH.out.1 y (List.mem_of_getElem? he)
 have HPT:=hidp hpt32
 have hK0:=hidp (show pathL 0 hs i=[] from rfl)
 have hlt3:=hA3.lt
 have hlt6:=hA6.lt
 have hKe':=hidp hKe
 have hL0':=hidp hL0
 clear hpt32 hKe hL0
 refine wpIn_rangeFunc_V (α:=LvX) rfl (by omega) (gf:=193) (lb:=#[.pointer (some ⟨b8,0,none⟩)]) rfl trivial (enters_of Tryz.func193 (by kernel_rfl) rfl)
  hseq hB8.size isLv_cells (fun _=>rfl)
  (PI w b3 b6 K hs i) (PI.own hB8.size) ⟨⟨by simpa using hA3,_,hA6,by simpa [hK0.out] using hO5.2,trivial⟩,hB8⟩
  (fun x a' W=>∃ bx,Arr W bx 227 (lvV x.v)∧a'={ tmps:=#[.slice (some ⟨B,off,none⟩) L c,.int .i64 (i:Int),undef,.pointer (some ⟨b3,0,none⟩),.slice none 0 0,.int .i64 0,.pointer (some ⟨b6,0,none⟩),.pointer (some ⟨bx,0,none⟩),.slice (some ⟨B,off,none⟩) L c,.int .i64 (L:Int),.bool true,.bool false,.bool false,.int .i64 (i:Int),.bool false,.bool false,.bool false,.int .i64 (i:Int),.slice (some ⟨B,off,none⟩) L c,.int .i64 (L:Int),.bool false,.bool false,.slice (some ⟨b5,0,none⟩) 0 0,.slice (some ⟨B,off,none⟩) L c,.agg #[.slice (some ⟨B,off,none⟩) L c,.func (.func 170) #[] #[]],.func (.func 193) #[] #[.pointer (some ⟨b8,0,none⟩)],.agg (lvV x.v).toArray,undef,undef,undef,undef,undef,undef,undef,undef,undef,undef,undef,undef,undef,undef,undef,undef],defers:=[] })
  (fun x a' W l o o' ho hc ⟨bx,hax,e⟩=>⟨bx,(World.putObj_heap_other (fun e2=>by subst e2;rw [show W.heap[bx]?=_ from hax] at ho;cases ho;cases hc)).trans hax,e⟩)
  ?assign ?body ?done
 case assign =>
  intro l x W K' hKK
  have HKK:=hidp hKK
  clear hKK
  simp only [encX,List.zip_toArray,List.zip_cons_cons,List.zip_nil_right,List.foldl_toArray,List.foldl_toArray',List.foldl_cons,List.foldl_nil,List.setIfInBounds_toArray,List.set_cons_succ,List.set_cons_zero]
  gi_wp2_with (first
   | (refine fT_new 227 rfl rfl _ zero_lvl ?_;intro bx wx nx)
   | (refine fT_put 227 rfl (.tmp 7) (.tmp 26) rfl bx (lvV x.v) rfl rfl [.slice none 0 0,.nilFunc] rfl size_lvl x.one nx.arr ?_;intro wy hay hpy))
  exact HKK.out _ _ (nx.put hpy) ⟨bx,hay,rfl⟩
 case body =>
  rintro l pre x W0 W1 a' W ⟨⟨h3,v,h6,hown,-⟩,hb⟩ hit ⟨hv,hpl,hxs⟩ hcel ⟨bx,hax,rfl⟩
  obtain ⟨j,hj⟩:∃ j,pre.length=j:=⟨_,rfl⟩
  have hpn:∀ y:LvX,(pre++[y]).length=j + 1:=fun y=>by simp [hj]
  rw [hj] at h3 hown hpl hxs
  rw [Nat.min_eq_left hpl] at h3 hown
  have nlv:∀ (cs:Array Value) (T:Nat) (fz:Nat × Nat),T≠227→¬ isLv (.cells cs T fz):=by rintro cs T fz hT ⟨cs',fz',e⟩;cases e;exact hT rfl
  have g3:Arr W b3 3 [.int .i64 ((i / 2 ^ j:Nat):Int)]:=hcel.2.2 _ _ (hit.2.2 _ _ h3 (nlv _ _ _ (by decide))) rfl
  have g6:Arr W b6 37 [v]:=hcel.2.2 _ _ (hit.2.2 _ _ h6 (nlv _ _ _ (by decide))) rfl
  have gb:Below w.heap.size w W:=hb.trans ((hit.1.mono hB8.size).trans (hcel.1.mono hB8.size))
  have gown:OwnH W w.heap.size v (pathL j hs i):=⟨HPT.out j hpl,hown.1,by
   rcases hown.2 with h0 | ⟨g,cap,cur,e,hB0,hg,r⟩
   · exact .inl h0
   · exact .inr ⟨g,cap,cur,e,hB0,hcel.2.2 _ _ (hit.2.2 _ _ hg (nlv _ _ _ (by decide))) rfl,r⟩⟩
  have hgl:∀ g,v.ownBlock=some g→w.heap.size≤g∧g<W0.heap.size:=fun g hg=>World.ownsRow.lt hown g hg
  have hx3:x.b≠b3:=by have:=h3.lt;rcases hv.own with h | h <;> omega
  have hx6:x.b≠b6:=by have:=h6.lt;rcases hv.own with h | h <;> omega
  have hxg:v.ownBlock≠some x.b:=fun e=>by have:=hgl _ e;rcases hv.own with h | h <;> omega
  have gv:VX w.heap.size x W0.heap.size W:=by
   obtain ⟨o,ho,hoc⟩:=hv.cells
   exact hv.kept ((hcel.2.2 _ _ ho hoc).trans ho.symm) hcel.2.1 (Nat.le_refl _)
  have hxl:=lvl_len j K hs hL0'.out hpl
  rw [← hxs] at hxl
  have hx0:=hax.cell 0 (by simp [lvV])
  simp only [lvV,LvX.v,List.getElem_cons_zero] at hx0
  have G3:=hidp g3;have G6:=hidp g6;have GB:=hidp gb;have GO:=hidp gown;have GV:=hidp gv;have HX3:=hidp hx3;have HX6:=hidp hx6;have HXG:=hidp hxg;have HAX:=hidp hax;have HXS:=hidp hxs;have HPN:=hidp hpn;have HXL:=hidp hxl;have HPL:=hidp hpl
  clear g3 g6 gb gown gv hx3 hx6 hxg h3 h6 hown hb hit hv hcel hgl nlv hxs hax hpn hseq hV8 hA3 hA6 hO5 hB4 hB8 hxl hpl
  by_cases hjK:j<K
  · have hlen:x.hs.length=2 ^ (K - j - 1 + 1):=by rw [HXL.out,show K - j - 1 + 1=K - j from by omega]
    have hI2:i / 2 ^ j<2 ^ (K - j - 1 + 1):=by
     rw [show K - j - 1 + 1=K - j from by omega,Nat.div_lt_iff_lt_mul (Nat.pow_pos (by omega)),← Nat.pow_add,show K - j + j=K from by omega,← hL0'.out]
     exact HI.out
    have hsx:sibN (i / 2 ^ j)<x.hs.length:=by rw [hlen];exact sib_lt _ _ hI2
    have hI1:=hidp (show i / 2 ^ (j + 1)=i / 2 ^ j / 2 from by rw [Nat.pow_succ,Nat.div_div_eq_div_mul])
    have hIle:i / 2 ^ j<128:=by
     have h1:x.hs.length≤128:=GV.out.most
     have:=hI2;rw [← hlen] at this;omega
    have hlen1:1<x.hs.length:=by
     rw [hlen,two_pow_succ]
     have:=Nat.pow_pos (n:=K - j - 1) (show 0<2 by omega);omega
    have hyl:=GV.out.all.get _ hsx
    have hry:=range_nth GV.out.range GV.out.all _ hsx
    have hps:=hidp (show pathL (j + 1) hs i=pathL j hs i++[x.hs[sibN (i / 2 ^ j)]'hsx] from by
     rw [pathL_succ]
     congr 2
     have:lvl j hs=x.hs:=HXS.out.symm
     rw [this,List.getD_eq_getElem?_getD,List.getElem?_eq_getElem hsx];rfl)
    have cs:=hidp (show ∀ u,Cls W.heap.size W u→Calls Tryz.prog 174 #[.int .i64 ((i / 2 ^ j:Nat):Int)] u fun e w'=>e=.returned (.int .i64 ((sibN (i / 2 ^ j):Nat):Int))∧Cls W.heap.size W w' from fun u hu =>
     (sib_any u _ (by omega)).mono fun e w' ⟨h1,h2⟩=>⟨h1,h2 ▸ hu⟩)
    obtain ⟨y,hy⟩:∃ y,x.hs[sibN (i / 2 ^ j)]'hsx=y:=⟨_,rfl⟩
    rw [hy] at hyl hry hps
    have HSX:=hidp hsx
    obtain ⟨s,hs'⟩:∃ s,sibN (i / 2 ^ j)=s:=⟨_,rfl⟩
    rw [hs'] at cs hry HSX
    obtain ⟨I,hI⟩:∃ I,i / 2 ^ j=I:=⟨_,rfl⟩
    rw [hI] at cs hI1 hIle G3
    have hq1:((I:Int)).tdiv 2=((I / 2:Nat):Int):=by rw [Int.tdiv_eq_ediv_of_nonneg (by omega)];omega
    have hq2:((I:Int)) / 2=((I / 2:Nat):Int):=by omega
    have hqw:IntKind.i64.wrap (((I / 2:Nat):Int))=((I / 2:Nat):Int):=by rw [IntKind.wrap_i64];omega
    obtain ⟨J,hJ⟩:∃ J,I / 2=J:=⟨_,rfl⟩
    rw [hJ] at hq1 hq2 hqw hI1
    obtain ⟨va,vc,hve⟩:=GO.out.hs.form
    obtain ⟨N,hN⟩:∃ N,(pathL j hs i).length=N:=⟨_,rfl⟩
    rw [hN] at hve
    subst hve
    obtain ⟨L2,hL2⟩:∃ L,x.hs.length=L:=⟨_,rfl⟩
    rw [hL2] at hx0 hlen1 HSX
    have tg:decide ((L2:Int) > 1)=true:=by simp;omega
    have HRY:=hidp (show ∀ u,Cls W.heap.size W u→u.rangeAt x.b (x.o + 32 * s) (u8s y) from fun u hu=>rangeAt_below hry hu GV.out.lt)
    have c6:=hidp (show ∀ u,Cls W.heap.size W u→u.cell? ⟨b6,0,none⟩=some (.slice va N vc) from fun u hu=>(G6.out.below hu G6.out.lt).cell 0 (by simp))
    have c3:=hidp (show ∀ u,Cls W.heap.size W u→u.cell? ⟨b3,0,none⟩=some (.int .i64 (I:Int)) from fun u hu=>(G3.out.below hu G3.out.lt).cell 0 (by simp))
    have cx:=hidp (show ∀ u,Cls W.heap.size W u→u.cell? ⟨bx,0,none⟩=some (.slice (some ⟨x.b,x.o,none⟩) L2 x.c) from fun u hu=>by
     have:=(HAX.out.below hu HAX.out.lt).cell 0 (by simp [lvV])
     simp only [lvV,LvX.v,List.getElem_cons_zero] at this
     rw [hL2] at this;exact this)
    have hN1024:=hidp (show (pathL j hs i).length≤1024 from by rw [pathL_len];omega)
    have hjK':=hidp hjK
    clear hy hs' hI hJ hN hL2 hlen hI2 hsx hry hjK hj hlen1
    gi_wp2
    refine wpIn_region_then0 (C:=Cls W.heap.size W) (fun _=>trivial) rfl (fun f args w R h=>CallsIn.inRound l (callsIn_wide.2 h)) 7 (by kernel_rfl) (by kernel_rfl) (by kernel_rfl) (Cls.start _ _) (fun o0 ho0=>by cases ho0;exact load_stays _ _ rfl) (fun ok hok=>by cases hok;exact fun a w hC=>bs_after W w hC _ rfl a) (fun _ _ _ h=>h) ?_
    simp only [List.take,List.drop]
    repeat (first
     | (refine q_idx ?_ (.tmp 33) (.tmp 35) rfl x.b x.o _ _ s rfl rfl HSX.out ?_
        · rfl
        simp only [aR])
     | (refine q_mid ?_ (.tmp 36) rfl x.b (x.o + 32 * s) y rfl hyl HRY.out ?_
        · rfl
        simp only [aR])
     | (refine q_call ?_ 174 _ ?_ cs.out ?_
        · rfl
        · intro w;go_simp;done
        simp only [aR])
     | (apply q_val
        · rfl
        · intro w hw;have h6:=c6.out w hw;have h3:=c3.out w hw;have hx:=cx.out w hw;go_simp;first | done | with_reducible rfl | rfl
        simp only [aR]))
    refine wpQuiet_nil ?_
    intro w4 hC
    have hC4:=hidp (show Below W.heap.size W w4 from hC)
    have hO4:=hidp (GO.out.to hC4.out (Nat.le_refl _))
    have hg6:=hidp (G6.out.below hC4.out G6.out.lt)
    have hg3:=hidp (G3.out.below hC4.out G3.out.lt)
    have hGB4:=hidp (GB.out.trans (hC4.out.mono GB.out.size))
    clear hC c6 c3 cx cs HRY
    gi_wp2_with (first
     | (refine fL_bs1 rfl (.tmp 37) rfl y rfl hyl ?_;intro b7 w5 n7
        have hO5:=hidp (hO4.out.to n7.below (Nat.le_refl _))
        have h65:=hidp (n7.old hg6.out);have h35:=hidp (n7.old hg3.out)
        have hGB5:=hidp (hGB4.out.trans (n7.below.mono hGB4.out.size)))
     | (refine fL_app rfl (.tmp 31) (.tmp 38) rfl w.heap.size b7 _ _ y rfl rfl hO5.out n7.arr hyl hGB5.out.size hN1024.out ?_;intro v' w6 hO6 hgr
        have h66:=hidp (show Arr w6 b6 37 [.slice va N vc] from h65.out.grown hgr (not_row_cells' h65.out (by decide) hO5.out.2))
        have h36':=hidp (show Arr w6 b3 3 [.int .i64 (I:Int)] from h35.out.grown hgr (not_row_cells' h35.out (by decide) hO5.out.2))
        obtain ⟨ua,uc,rfl⟩:=hO6.hs.form)
     | (refine f1_put 37 rfl (.tmp 6) (.tmp 39) rfl b6 (.slice ua _ uc) rfl rfl rfl rfl size_hashes (.slice va N vc) h66.out ?_;intro w7 ha7 hp7
        have h37:=hidp (hp7.arr h36 h36'.out)
        have hx3:=h37.out.cell 0 (by simp)
        simp only [List.getElem_cons_zero] at hx3)
     | (refine f1_put 3 rfl (.tmp 3) (.tmp 41) rfl b3 (.int .i64 (J:Int)) rfl rfl rfl rfl size_int (.int .i64 (I:Int)) h37.out ?_;intro w8 ha8 hp8))
    have hsz:W.heap.size≤w8.heap.size:=Nat.le_trans (Nat.le_trans (Nat.le_trans hC4.out.size n7.below.size) (Nat.le_trans hgr.size hp7.sz)) hp8.sz
    have hg56:Below w.heap.size w5 w6:=(Below.refl _ w5).grown hgr hGB5.out.size (fun k hk=>(World.ownsRow.lt hO5.out.2 k hk).1)
    have hBW:Below w.heap.size W w8:=(hC4.out.mono GB.out.size).trans ((n7.below.mono hGB4.out.size).trans (hg56.trans ((hp7.below _ h6w).trans (hp8.below _ h3w))))
    have hall:∀ (k:Nat) (o:Obj),W.heap[k]?=some o→k≠b6→k≠b3→(Value.slice va N vc).ownBlock≠some k→w8.heap[k]?=some o:=by
     intro k o hk h6 h3 hg
     have hkl:k<W.heap.size:=(Array.getElem?_eq_some_iff.1 hk).1
     have hkl4:k<w4.heap.size:=Nat.lt_of_lt_of_le hkl hC4.out.size
     rw [hp8.other k h3,hp7.other k h6,hgr.block k (Nat.lt_of_lt_of_le hkl4 n7.below.size) (fun e=>hg e.symm),n7.below.block k hkl4,hC4.out.block k hkl]
     exact hk
    have hown:∀ k,(Value.slice va N vc).ownBlock=some k→∃ cs,W.heap[k]?=some (.cells cs 58 (0,0)):=by
     intro k hk
     rcases GO.out.2.2 with ⟨e,_⟩ | ⟨g,cap,cur,e,_,hg,_⟩
     · rw [e] at hk;cases hk
     · rw [e] at hk
       simp only [Value.ownBlock,Option.some.injEq] at hk
       subst hk;exact ⟨cur,hg⟩
    refine ⟨⟨hsz,fun k o _ hk ho=>hall k o hk (fun e=>?_) (fun e=>?_) (fun e=>?_)⟩,⟨hBW,hsz,fun k o hk hc hl=>hall k o hk (fun e=>?_) (fun e=>?_) (fun e=>?_)⟩,⟨⟨?_,.slice ua (pathL j hs i++[y]).length uc,?_,?_,trivial⟩,GB.out.trans hBW⟩⟩
    · subst e;rw [show W.heap[k]?=_ from G6.out] at hk;cases hk;cases ho
    · subst e;rw [show W.heap[k]?=_ from G3.out] at hk;cases hk;cases ho
    · obtain ⟨cs,h⟩:=hown k e;rw [h] at hk;cases hk;cases ho
    · subst e
      rcases hl with ⟨cs,fz,rfl⟩ | h
      · rw [show W.heap[k]?=_ from G6.out] at hk;cases hk
      · exact HX6.out h.symm
    · subst e
      rcases hl with ⟨cs,fz,rfl⟩ | h
      · rw [show W.heap[k]?=_ from G3.out] at hk;cases hk
      · exact HX3.out h.symm
    · rcases hl with ⟨cs,fz,rfl⟩ | h
      · obtain ⟨cs',h'⟩:=hown k e;rw [h'] at hk;cases hk
      · exact HXG.out (by rw [← h];exact e)
    · rw [HPN.out,Nat.min_eq_left (by have:=hjK'.out;omega),hI1.out];exact ha8
    · exact hp8.arr (Ne.symm h36) ha7
    · rw [HPN.out,Nat.min_eq_left (by have:=hjK'.out;omega),hps.out]
      exact ((Stp.ownH hp8 (Stp.ownH hp7 hO6 h66.out (by decide)) h37.out (by decide))).2
  · have hjK:j=K:=by have:=HPL.out;omega
    have HJK:=hidp hjK
    clear hj
    have hx1:x.hs.length=1:=by rw [HXL.out,hjK,Nat.sub_self,Nat.pow_zero]
    rw [hx1] at hx0
    clear hjK hx1
    gi_wp2
    refine ⟨KeepsFrom.refl _ _,⟨Below.refl _ _,Nat.le_refl _,fun _ _ h _ _=>h⟩,⟨?_,v,G6.out,?_,trivial⟩,GB.out⟩
    · rw [HPN.out,Nat.min_eq_right (by have:=HJK.out;omega),← HJK.out];exact G3.out
    · rw [HPN.out,Nat.min_eq_right (by have:=HJK.out;omega),← HJK.out];exact GO.out.2
 case done =>
  rintro D xs W0 W W' hD hS ⟨⟨h3,v,h6,hown,-⟩,hb⟩ hit hcel hDD
  have hS:xs.map (·.hs)=(List.range (K + 1)).map fun i=>lvl i hs:=hS
  have hxl:xs.length=K + 1:=by have:=congrArg List.length hS;simpa using this
  rw [hxl,Nat.min_eq_right (by omega)] at hown
  have nlv:∀ (cs:Array Value) (T:Nat) (fz:Nat × Nat),T≠227→¬ isLv (.cells cs T fz):=by rintro cs T fz hT ⟨cs',fz',e⟩;cases e;exact hT rfl
  have g6:Arr W' b6 37 [v]:=hcel.2.2 _ _ (hit.2.2 _ _ h6 (nlv _ _ _ (by decide))) rfl
  have gb:Below w.heap.size w W':=hb.trans ((hit.1.mono hB8.size).trans (hcel.1.mono hB8.size))
  have gown:OwnH W' w.heap.size v (pathL K hs i):=⟨HPT.out K (Nat.le_refl _),hown.1,by
   rcases hown.2 with h0 | ⟨g,cap,cur,e,hB0,hg,r⟩
   · exact .inl h0
   · exact .inr ⟨g,cap,cur,e,hB0,hcel.2.2 _ _ (hit.2.2 _ _ hg (nlv _ _ _ (by decide))) rfl,r⟩⟩
  have hpr:=hidp (pathL_ref K hs i hL0'.out (by rw [← hL0'.out];exact HI.out))
  have hx0:=g6.cell 0 (by simp)
  simp only [List.getElem_cons_zero] at hx0
  obtain ⟨va,vc,rfl⟩:=gown.hs.form
  have G6:=hidp g6;have GB:=hidp gb;have GO:=hidp gown;have HD:=hidp hDD
  clear g6 gb gown h3 h6 hown hb hit hcel nlv hseq hV8 hA3 hA6 hO5 hB4 hB8 hS hDD
  gi_wp2
  have hBF:=GB.out.trans ((Below.refl w.heap.size W').grown (grownBy_putObj' W' D (.deferred none)) (by have:=GB.out.size;omega) (fun k e=>by cases e;have:=GB.out.size;omega))
  refine ⟨by simp [Act.put],.inl ⟨_,_,rfl,run_takeDeferred HD.out,?_⟩⟩
  refine ⟨_,by simp [results,Tryz.results140,go_sem];rfl,?_⟩
  refine ⟨_,rfl,?_,hBF⟩
  rw [← HL.out,hKe'.out,← hpr.out]
  refine ⟨GO.out.1,GO.out.2.1,?_⟩
  rcases GO.out.2.2 with h0 | ⟨g,cap,cur,e,hB0,hg,r⟩
  · exact .inl h0
  · exact .inr ⟨g,cap,cur,e,hB0,(World.putObj_heap_other (fun e2=>by subst e2;rw [HD.out] at hg;cases hg)).trans hg,r⟩
theorem path_any (w:World) (v:Value) (hs:List (List UInt8)) (i:Int) (hi:(Lit.int .i64 i).wf=true) (hH:HsAt w v hs) (hl:hs.length≤4611686018427387904) (hKT:KT w) :
 Calls Tryz.prog 140 #[v,.int .i64 i] w fun e w'=>∃ v',e=.returned (.tuple #[v',.int .i64 ((pathE hs.length i:Nat):Int)])∧OwnH w' w.heap.size v' (pathV hs i)∧Below w.heap.size w w':=by
 by_cases ho:okP hs.length i=true
 · have hv:pathV hs i=refP (hiN hs.length) hs i.toNat:=if_pos ho
   have he:pathE hs.length i=0:=if_pos ho
   rw [hv,he]
   unfold okP at ho
   simp only [Bool.and_eq_true,decide_eq_true_iff] at ho
   obtain ⟨hf,h0,h1⟩:=ho
   have:=(callsIn_wide (n:=12)).1 (path_in 12 (Nat.le_refl _) w v hs hH hf i.toNat (by omega) hKT)
   rw [show ((i.toNat:Nat):Int)=i from by omega] at this
   exact this
 · have ho:okP hs.length i=false:=by simpa using ho
   have hv:pathV hs i=[]:=if_neg (by simp [ho])
   have he:pathE hs.length i=1:=if_neg (by simp [ho])
   rw [hv,he]
   unfold okP at ho
   have c0:=hidp (fun W=>perm_any W hs.length hl)
   obtain ⟨a,c,rfl⟩:=hH.form
   obtain ⟨n,hn⟩:∃ n,hs.length=n:=⟨_,rfl⟩
   rw [hn] at c0 ho hl ⊢
   clear hH hn
   cases hf:fitN n with
   | false =>
     rw [hf] at c0
     clear ho hf
     go_enter Tryz.func140,Tryz.ntmps140
     go_wp2_with (go_at_call 168;refine (c0.out _).mono ?_;rintro e w1 ⟨rfl,rfl⟩)
     go_ret2
     exact ⟨_,rfl,OwnH.nil _ _,(Below.refl _ _).alloc (Nat.le_refl _) _⟩
   | true =>
     rw [hf] at c0 ho
     by_cases h0:i<0
     · have t1:decide (i<0)=true:=by simpa using h0
       clear ho hf
       go_enter Tryz.func140,Tryz.ntmps140
       go_wp2_with (go_at_call 168;refine (c0.out _).mono ?_;rintro e w1 ⟨rfl,rfl⟩)
       go_ret2
       exact ⟨_,rfl,OwnH.nil _ _,(Below.refl _ _).alloc (Nat.le_refl _) _⟩
     · have h1:(n:Int)≤i:=by
        simp only [Bool.true_and,decide_eq_false_iff_not,not_and,Int.not_lt] at ho
        exact ho (by omega)
       have t1:decide (i<0)=false:=by simp;omega
       have t2:decide (i ≥ (n:Int))=true:=by simpa using h1
       have t3:decide ((n:Int)≤i)=true:=by simpa using h1
       clear ho hf
       go_enter Tryz.func140,Tryz.ntmps140
       go_wp2_with (go_at_call 168;refine (c0.out _).mono ?_;rintro e w1 ⟨rfl,rfl⟩)
       go_ret2
       exact ⟨_,rfl,OwnH.nil _ _,(Below.refl _ _).alloc (Nat.le_refl _) _⟩
end
section
open Go.RowKit
end
section
open Go.RowKit
section
variable {P:Program} {ops:Array Oper} {md:Region.Mode} {S:World→Prop} {Q:Exit→Act→World→Prop} {sole:Nat→Bool}
variable {k:Nat} {o:Oper} {rest:List Oper} {a:Act} {w:World}
end
end
section
open Go.RowKit
section
variable {ops:Array Oper} {rest:List Oper} {o:Oper} {a:Act} {w:World} {Q:Exit→Act→World→Prop}
theorem wpL_valg (hw:Region.wanted o (yielded ops a.tmps)=true) (v:Value) (hr:(execOp a.eval o).run Tryz.prog w=.ok (.value v) w) (h:wpList Tryz.prog ops Q rest (a.put o.dst v) w):wpList Tryz.prog ops Q (o :: rest) a w :=
 wpList_step fun K hK=>by
  rw [if_pos hw]
  unfold Oper.wp
  rw [hr]
  exact hK _ _ h
theorem wpL_neqg (hw:Region.wanted o (yielded ops a.tmps)=true) (x y:Operand) (u:TypeId) (ho:o.op=.binOp .neq 58 x y u) (l m:List UInt8) (hx:a.eval x=.agg (u8s l).toArray) (hy:a.eval y=.agg (u8s m).toArray) (hl:l.length=32) (hm:m.length=32) (b:Bool) (hb:(!decide (l=m))=b)
 (h:wpList Tryz.prog ops Q rest (a.put o.dst (.bool b)) w):wpList Tryz.prog ops Q (o :: rest) a w :=
 wpL_valg hw _ (by
  unfold execOp
  simp only [ho,hx,hy,Sem.run_bind,run_eqGuard_agg (P:=Tryz.prog) _ _ _ _ _ _ _ guard_hash,neq_hash w l m hl hm,hb,Result.andThen_ok,Sem.run_pure]) h
end
end
end Go.Proofs.YtokakgjcegmabaaGreatDoor
