import Derived.Test.YtokakgjcegmabaaGreatDoorLB
import Derived.Test.YtokakgjcegmabaaGreatDoorLF
import Derived.Test.YtokakgjcegmabaaGreatDoorLE
set_option linter.unusedVariables false
set_option linter.unusedSimpArgs false
set_option maxHeartbeats 64000000
set_option maxRecDepth 100000
namespace Go.Proofs.YtokakgjcegmabaaGreatDoor
section
open Go.RowKit Go.Shelf
attribute [local go_sem] Oper.semAt_some
def encS (seed:List UInt8) (j:Fin 68):Array Value:=#[.int .i64 ((j.1:Nat):Int),.string (mkS (startL seed j.1))]
def chains:List (Fin 68):=List.finRange 68
theorem chains_len:chains.length=68:=List.length_finRange
theorem chains_take (j:Nat) (h:j<68):chains.take (j + 1)=chains.take j++[⟨j,h⟩]:=by
 rw [List.take_add_one,List.getElem?_eq_getElem (by rw [chains_len];exact h)]
 simp [chains]
theorem chains_all:chains.take 68=chains:=List.take_of_length_le (by rw [chains_len];exact Nat.le_refl _)
theorem starts_in (F:Fence) (n:Nat) (hf:F.fn 176) (hro:F.round=none) (s:ByteArray) (w:World) :
 CallsIn F n Tryz.prog 176 #[.string s] w fun e w'=>e=.returned (.func (.func 197) #[] #[.pointer (some ⟨w.heap.size,0,none⟩)])∧w'=w.alloc (.cells #[.string s] 9):=by
 refine callsIn_of_wp Tryz.func176 rfl hf ?_ hro
 simp only [Tryz.ntmps176,List.size_toArray,List.length_cons,List.length_nil,Nat.reduceAdd,Nat.reduceSub,Array.replicate_succ,Array.replicate_zero,List.push_toArray,List.append_toArray,List.nil_append,List.cons_append]
 gi_wp2
 go_ret
 exact ⟨rfl,rfl⟩
def KpB (m B:Nat) (X Y:World):Prop:=Below m X Y∧Y.heap[B]?=X.heap[B]?
theorem KpB.trans {m B:Nat} {X Y Z:World} (h:KpB m B X Y) (k:KpB m B Y Z):KpB m B X Z:=⟨h.1.trans k.1,k.2.trans h.2⟩
theorem KpB.refl (m B:Nat) (X:World):KpB m B X X:=⟨Below.refl _ _,rfl⟩
theorem KpB.of_below {m B:Nat} {X Y:World} (hB:B<X.heap.size) (hm:m≤X.heap.size) (h:Below X.heap.size X Y):KpB m B X Y:=⟨h.mono hm,h.block B hB⟩
theorem KpB.cell {m B i:Nat} {X Y:World} {v:Value} (h:KpB m B X Y) (hc:X.cell? ⟨B,i,none⟩=some v):Y.cell? ⟨B,i,none⟩=some v:=by
 simp only [World.cell?,h.2] at hc ⊢;exact hc
theorem KpB.put {m B:Nat} {w:World} (hm:m≤w.heap.size) (hB:B<w.heap.size) (W:World) (l:Nat) (o o':Obj) (hl:w.heap.size≤l) (h:W.heap[l]?=some o) (hc:o.isCells=false) (hw:o.isWalk=false):KpB m B W (W.putObj l o') :=
 ⟨belowK_b hm W l o o' hl h hc hw,(grownBy_putObj' W l o').block B (by have:=(Array.getElem?_eq_some_iff.1 h).1;omega) (fun e=>by cases e;omega)⟩
theorem starts1_in (n:Nat) (hn:2≤n) (l Bs m:Nat) (seed:ByteArray) (hs:seed.size≤1048576) (J Jx:List (Fin 68)→World→Prop) (W:World) (hJ:AbidesFrom W.heap.size J) (hK0:KT W) (hm0:2<m) (hm:m≤W.heap.size)
 (hY:∀ pre x W1,J pre W1→pre.length<chains.length→YieldAt Fence.wide (n - 1) Tryz.prog l (encS seed.data.toList x) W1 fun e W' =>
   (e=.returned (.bool true)∧J (pre++[x]) W'∧KpB m Bs W1 W')∨(e=.returned (.bool false)∧Jx (pre++[x]) W'))
 (hc0:W.cell? ⟨Bs,0,none⟩=some (.string seed)) (h0:J [] W) :
 CallsIn Fence.wide n Tryz.prog 197 #[.func (.yield l) #[] #[],.pointer (some ⟨Bs,0,none⟩)] W fun e W'=>(∃ v,e=.returned v) ∧
  ((∃ ys,ys=chains∧J ys W')∨(∃ pre,pre <+: chains∧Jx pre W')):=by
 refine callsIn_of_wp Tryz.func197 rfl trivial ?_ rfl
 simp only [Tryz.ntmps197,List.size_toArray,List.length_cons,List.length_nil,Nat.reduceAdd,Nat.reduceSub,Array.replicate_succ,Array.replicate_zero,List.push_toArray,List.append_toArray,List.nil_append,List.cons_append]
 have HY:=hidp hY;have HC0:=hidp hc0;have HK0:=hidp hK0
 have hbs0:=World.block_lt_of_cell? W _ hc0
 simp only at hbs0
 clear hY hc0 hK0
 have c1:=hidp (show ∀ W j,KT W→Calls Tryz.prog 178 #[.string (mkS (3 :: UInt8.ofNat j :: seed.data.toList))] W fun e w'=>e=.returned (.string (mkS (startL seed.data.toList j)))∧Below W.heap.size W w' from fun W j h=>by
  have:=mid_any W (mkS (3 :: UInt8.ofNat j :: seed.data.toList)) (by rw [mkS_size];simp;omega) h
  rw [mkS_data] at this
  unfold startL midL;exact this)
 gi_wp2
 gi_loopw [5] (fun t5 wr=>∃ j:Nat,t5=.int .i64 (j:Int)∧j≤68∧J (chains.take j) wr∧KpB m Bs W wr) (fun t5 _=>68 - (intOf t5).toNat)
 case atStart=>exact ⟨0,rfl,by omega,by simpa using h0,KpB.refl _ _ _⟩
 case round =>
  obtain ⟨j,rfl,hj,hJs,hkp⟩:=hrel
  by_cases hlt:j<68
  · have hc:=hkp.cell HC0.out
    have HJs:=hidp hJs
    have HKP:=hidp hkp
    have hBw:=World.block_lt_of_cell? wr _ hc
    have hmw:=Nat.le_trans hm hkp.1.size
    simp only at hBw
    have hcl:(wr.alloc (.cells #[.int .u8 (j:Int)] 5)).cell? ⟨Bs,0,none⟩=some (.string seed):=by
     rw [World.cell?_alloc_lt _ _ _ hBw];exact hc
    have hstr:=run_str_one (P:=Tryz.prog) (w:=wr) (src:=174) (e:=5) (dst:=9) Tryz.underlying174 Tryz.underlying5 Tryz.underlying9 (j:Int) (UInt8.ofNat j) (by rw [u8n _ (by omega)])
    have hcat:=hidp (cat3 j seed)
    have c1j:=hidp (fun W h=>c1.out W j h)
    have hba:Below wr.heap.size wr (wr.alloc (.cells #[.int .u8 (j:Int)] 5)):=(Below.refl _ wr).alloc (Nat.le_refl _) _
    have HKA:=hidp ((HK0.out.below hkp.1 hm0).below hba (by omega))
    have HBA:=hidp hba
    obtain ⟨S,hS⟩:∃ S,mkS [UInt8.ofNat j]=S:=⟨_,rfl⟩
    have hSs:S.size≤1:=by rw [← hS,mkS_size];simp
    rw [hS] at hstr hcat
    clear hS hJs hba hkp
    gi_wp2_with fail
    rw [hcat.out]
    refine ⟨trivial,fun _=>by omega,?_⟩
    refine (callsIn_wide.2 (c1j.out _ HKA.out)).mono ?_
    rintro e1 w2 ⟨rfl,hb2⟩
    clear hstr hcl hc
    have hb3:=HBA.out.trans (hb2.mono (by simp))
    have hJ2:=hJ (chains.take j) wr w2 none HJs.out (grown_of_below hb3) (fun r e=>by cases e)
    have HK2:=hidp (HKP.out.trans (KpB.of_below hBw hmw hb3))
    obtain ⟨fn,tmps,assign,body,hy,hR⟩:=HY.out (chains.take j) ⟨j,hlt⟩ w2 hJ2 (by rw [List.length_take,chains_len];omega)
    simp only [encS] at hy hR
    have hrs:=hidp (chains_take j hlt)
    clear hb2 hb3
    gi_wp2
    refine ⟨fun _=>by omega,hR.mono ?_⟩
    rintro e1 W3 (⟨rfl,hJ3,hk3⟩ | ⟨rfl,hJx3⟩)
    · have HK3:=hidp (HK2.out.trans hk3)
      clear hk3
      gi_wp2
      exact ⟨⟨j + 1,by go_num,by omega,by rw [hrs.out];exact hJ3,HK3.out⟩,by simp [intOf];omega⟩
    · have hp3:=hidp (show (chains.take j++[⟨j,hlt⟩]) <+: chains from by
       rw [← hrs.out];exact List.take_prefix _ _)
      gi_wp2
      refine bodyPost_ret (results_none rfl _ _ _) rfl ?_
      exact ⟨⟨_,rfl⟩,.inr ⟨_,hp3.out,hJx3⟩⟩
  · obtain rfl:j=68:=by omega
    have HJs:=hidp hJs
    gi_wp2
    go_end0
    exact ⟨⟨_,rfl⟩,.inl ⟨_,rfl,by rw [← chains_all];exact HJs.out⟩⟩
theorem starts_stops (n:Nat) (hn:2≤n) (Bs m:Nat) (seed:ByteArray) (hs:seed.size≤1048576) (w:World) (hK:KT w) (hm0:2<m) (hm:m≤w.heap.size) (hc:w.cell? ⟨Bs,0,none⟩=some (.string seed)) :
 SeqStopsK Fence.wide n Tryz.prog 197 #[.pointer (some ⟨Bs,0,none⟩)] (encS seed.data.toList) (KpB m Bs) (fun ys=>ys=chains) (fun pre=>pre <+: chains) chains.length w :=
 fun l J Jx W hW hJ _ hY h0=>starts1_in n hn l Bs m seed hs J Jx W hJ (hK.below hW (by omega)) hm0 (by have:=hW.size;omega) hY ((hW.cell (World.block_lt_of_cell? w _ hc)).trans hc) h0
end
section
open Go.RowKit Go.Shelf
attribute [local go_sem] Oper.semAt_some
theorem wpIn_appS {F:Fence} {n:Nat} {P:Program} {w:World} {o:Oper} {a:Act} {K:Act→World→Prop} {Q:Exit→Act→World→Prop} (sl x:Operand) (t u:TypeId)
 (ho:o.op=.call { callee:=.builtin .append,args:=#[sl,x],argTypes:=#[t,u] }) (B e:Nat) (i:TypeInfo) (ht:P.underlying t=some (.slice e)) (hu:P.underlying u=some .string) (hi:P.info? e=some i)
 (hz0:i.zero=some (.int .u8 0)) (hz1:i.size=1) (hz2:i.bytes=1) (v:Value) (xs:List UInt8) (hs:a.eval sl=v) (hown:Own w B e v xs) (s:ByteArray) (hx:a.eval x=.string s)
 (hlen:xs.length + s.size≤140737488351232) (hB:B≤w.heap.size)
 (h:∀ v' w',Own w' B e v' (xs++s.data.toList)→w.grownBy w' v.ownBlock→K (a.put o.dst v') w'):o.wpIn F n P a w K Q:=by
 obtain ⟨v',w',hrun,r1,r2,r3⟩:=Lib.run_append_own_string (P:=P) w B t u o.type e i ht hu hi hz0 hz1 hz2 v xs.length (bv xs) hown s (by unfold maxLen;omega) (by omega) hB
 unfold Oper.wpIn
 refine ⟨?_,?_⟩
 · simp [Oper.about,ho,resolve,Target.leads,Sem.run_pure]
 · rw [Oper.semAt_plain F _ _ (by rw [ho];intro c hc';cases hc')]
   simp [execOp,ho,resolve,invoke,builtin,hs,hx,hrun,Result.andThen]
   refine h v' w' ?_ r2
   have e1:(xs++s.data.toList).length=xs.length + s.size:=by simp
   have e2:bv (xs++s.data.toList)=bv xs++Lib.strCells s:=by rw [bv_append];rfl
   unfold Own;rw [e1,e2];exact r1
theorem own_form {w:World} {B e:Nat} {v:Value} {l:List UInt8} (h:Own w B e v l) (hn:0<l.length):∃ g cap,v=.slice (some ⟨g,0,none⟩) l.length cap:=by
 rcases h.2 with ⟨_,h0⟩ | ⟨g,cap,cur,hv,_⟩
 · omega
 · exact ⟨g,cap,hv⟩
theorem if_wanted {o:Oper} {ops:Array Oper} {a:Act} {A B:Prop} (hgd:o.guard=none) (h:A):if Region.wanted o (yielded ops a.tmps)=true then A else B:=by
 simp only [Region.wanted,hgd,if_true];exact h
theorem wpListIn_store_row {F:Fence} {n:Nat} {P:Program} {ops:Array Oper} {rest:List Oper} {o:Oper} {a:Act} {w:World} {Q:Exit→Act→World→Prop} (hgd:o.guard=none) (ty:TypeId) (x y:Operand) (ho:o.op=.store ty x y)
 (g:Nat) (cells:Array Value) (hx:a.eval x=.pointer (some ⟨g,0,none⟩)) (hy:a.eval y=.agg cells)
 (t:TypeId) (old:Array Value) (hg:w.heap[g]?=some (.cells old t (0,0))) (hi:(P.info? ty).map (·.size)=some cells.size)
 (hold:old.size=cells.size) (h1:cells.all (·.oneCell')=true)
 (h:wpListIn F n P ops Q rest (a.put o.dst undef) (w.setRow g cells)):wpListIn F n P ops Q (o :: rest) a w:=by
 refine wpListIn_plain hgd fun K hK=>?_
 unfold Oper.wpIn
 refine ⟨by simp [Oper.about,ho],?_⟩
 rw [Oper.semAt_plain F _ _ (by rw [ho];intro c hc;cases hc)]
 unfold execOp
 simp only [ho,hx,hy,Instr.storeAt,Instr.sureAddr,Sem.run_bind,Sem.run_pure,Result.andThen_ok,run_storeVar_row w g t ty old cells hg hi hold h1]
 exact hK _ _ h
def Firm (A:World→Prop):Prop:=∀ X Y row,A X→X.grownBy Y row→(∀ r,row=some r→∃ o:Obj,X.heap[r]?=some o∧(o.isCells=false∨∃ c t fz,o=.cells c t fz∧(t=5∨t=174)))→A Y
theorem firm_arr (B t:Nat) (xs:List Value) (h1:t≠5) (h2:t≠174):Firm (fun W=>Arr W B t xs):=fun X Y row h hg hr =>
 (hg.block B h.lt (fun e=>by
   obtain ⟨o,ho,hc | ⟨c,t',fz,rfl,hc⟩⟩:=hr B e.symm
   · rw [show X.heap[B]?=_ from h] at ho;cases ho;cases hc
   · rw [show X.heap[B]?=_ from h] at ho;cases ho;rcases hc with hc | hc
     · exact h1 hc
     · exact h2 hc)).trans h
theorem firm_boxed (B t:Nat) (v:Value) (h1:t≠5) (h2:t≠174):Firm (fun W=>Boxed W B t v):=fun X Y row h hg hr=>firm_arr B t [v] h1 h2 X Y row h hg hr
theorem Firm.and {A A':World→Prop} (h:Firm A) (h':Firm A'):Firm (fun W=>A W∧A' W):=fun X Y row hs hg hr=>⟨h X Y row hs.1 hg hr,h' X Y row hs.2 hg hr⟩
theorem Firm.own {A:World→Prop} (h:Firm A) {β:Type}:Go.Own (fun (_:β) W=>A W):=fun _ X Y row hs hg hr=>h X Y row hs hg fun r e=>by
 obtain ⟨o,ho,hc⟩:=hr r e;exact ⟨o,ho,.inl hc⟩
theorem Firm.below {A:World→Prop} (h:Firm A) {X Y:World} (hs:A X) (hb:Below X.heap.size X Y):A Y:=h X Y none hs (grown_of_below hb) (fun r e=>by cases e)
def txP (f:Nat→List UInt8) (pre:List (Fin 68)):List UInt8:=pre.flatMap fun j=>f j.1
theorem txP_snoc (f:Nat→List UInt8) (pre:List (Fin 68)) (x:Fin 68):txP f (pre++[x])=txP f pre++f x.1:=by simp [txP]
theorem txP_len (f:Nat→List UInt8) (hf:∀ j,(f j).length=16) (pre:List (Fin 68)):(txP f pre).length=16 * pre.length:=by
 induction pre with
 | nil=>rfl
 | cons x r ih=>simp only [txP,List.flatMap_cons,List.length_append,List.length_cons,hf] at ih ⊢;omega
theorem txP_all (f:Nat→List UInt8):txP f chains=catL f 68:=by
 unfold txP chains catL
 rw [← List.flatMap_map (f:=fun j:Fin 68=>j.1) (g:=f)]
 congr 1
def IEn (w:World) (E:Nat) (seed:ByteArray) (A:World→Prop) (f:Nat→List UInt8) (pre:List (Fin 68)) (W:World):Prop :=
 (((∃ v,Boxed W E 174 v∧W.ownsRow w.heap.size 5 1 v (txP f pre).length (bv (txP f pre))∧True)∧A W)∧Boxed W (E + 1) 9 (.string seed))∧Below w.heap.size w W
theorem IEn_own (w:World) (E:Nat) (seed:ByteArray) (A:World→Prop) (hA:Firm A) (f:Nat→List UInt8) (B:Nat) (hB:w.heap.size≤B):OwnFrom B (IEn w E seed A f) :=
 OwnFrom.and (Go.Own.from (OwnAnd (OwnAnd (holdsRow_own w.heap.size _ _ _ 1 (fun pre=>(txP f pre).length) (fun pre=>bv (txP f pre)) (fun _ _=>True)) hA.own) (boxed_own _ _ _)) _) (ownFrom_below (Nat.le_refl _) hB)
theorem keepsFrom_of_below {B:Nat} {X Y:World} (h:Below X.heap.size X Y):KeepsFrom B X Y:=⟨h.size,fun k o hk h0 ho=>(h.block k (Array.getElem?_eq_some_iff.1 h0).1).trans h0⟩
theorem boxed_after {W Y:World} {B t:Nat} {v:Value} (h:Boxed W B t v) (hb:Below W.heap.size W Y):Boxed Y B t v:=(hb.block B h.lt).trans h
theorem IEn.step {w W W2 w1:World} {E:Nat} {seed:ByteArray} {A:World→Prop} (hA:Firm A) {f:Nat→List UInt8} {pre:List (Fin 68)} {x:Fin 68} {v v':Value} {D:Nat}
 (hE:w.heap.size≤E) (hc:Boxed W E 174 v) (hrow:Own W w.heap.size 5 v (txP f pre)) (ha:A W) (hs:Boxed W (E + 1) 9 (.string seed)) (hB:Below w.heap.size w W)
 (h2:Below W.heap.size W W2) (hg:W2.grownBy w1 v.ownBlock) (hown':Own w1 w.heap.size 5 v' (txP f (pre++[x]))) :
 KeepsFrom D W (w1.setCell ⟨E,0,none⟩ v')∧KpB w.heap.size (E + 1) W (w1.setCell ⟨E,0,none⟩ v')∧IEn w E seed A f (pre++[x]) (w1.setCell ⟨E,0,none⟩ v'):=by
 have hsz:=hB.size
 have r2:Own W2 w.heap.size 5 v (txP f pre):=hrow.kept h2 (Nat.le_refl _)
 have c2:=boxed_after hc h2
 have s2:=boxed_after hs h2
 have hrr:∀ r,v.ownBlock=some r→∃ c fz,W2.heap[r]?=some (.cells c 5 fz)∧w.heap.size≤r:=fun r e=>by
  rcases r2.2 with ⟨rfl,_⟩ | ⟨g,cap,cur,rfl,hb,hgb,_⟩
  · simp [Value.ownBlock] at e
  · obtain rfl:g=r:=by simpa [Value.ownBlock] using e
    exact ⟨_,_,hgb,hb⟩
 have c3:Boxed w1 E 174 v:=c2.kept hg (c2.not_row (by decide) r2)
 have s3:Boxed w1 (E + 1) 9 (.string seed):=s2.kept hg (s2.not_row (by decide) r2)
 have a3:A w1:=hA _ _ _ (hA.below ha h2) hg fun r e=>by obtain ⟨c,fz,h,_⟩:=hrr r e;exact ⟨_,h,.inr ⟨_,_,_,rfl,.inl rfl⟩⟩
 have a4:A (w1.setCell ⟨E,0,none⟩ v'):=hA _ _ _ a3 (grownBy_setCell' w1 E v') fun r e=>by cases e;exact ⟨_,c3,.inr ⟨_,_,_,rfl,.inr rfl⟩⟩
 have b4:Below w.heap.size W (w1.setCell ⟨E,0,none⟩ v'):=(((h2.mono hsz)).grown hg (Nat.le_trans hsz h2.size) fun k e=>by obtain ⟨_,_,_,h⟩:=hrr k e;exact h).setCell (p:=⟨E,0,none⟩) hE v'
 have s4:=s3.other (B':=E) (by omega) v'
 refine ⟨?_,⟨b4,?_⟩,⟨⟨⟨_,c3.set v',?_,trivial⟩,a4⟩,s4⟩,hB.trans b4⟩
 · refine (keepsFrom_of_below h2).trans (((KeepsOthers.of_grownBy hg fun j o ej hj=>?_).trans (KeepsOthers.setCell _ _ _)).from _)
   obtain ⟨c,fz,h,_⟩:=hrr j ej
   rw [h] at hj;cases hj;rfl
 · exact (show _=_ from s4).trans (show _=_ from hs).symm
 · exact World.ownsRow.kept hown' (grownBy_setCell' w1 E v') (.inr (c3.not_row (by decide) hown').symm)
end
section
open Go.RowKit Go.Shelf
attribute [local go_sem] Oper.semAt_some
theorem at4 (w:World) (o1 o2 o3 o4:Obj) (W:World) (hW:W=(((w.alloc o1).alloc o2).alloc o3).alloc o4) :
 W.heap[w.heap.size]?=some o1∧W.heap[w.heap.size + 1]?=some o2∧W.heap[w.heap.size + 1 + 1]?=some o3∧W.heap[w.heap.size + 1 + 1 + 1]?=some o4∧W.heap.size=w.heap.size + 4∧Below w.heap.size w W:=by
 subst hW
 refine ⟨?_,?_,?_,?_,?_,?_⟩
 all_goals first
  | exact ((((Below.refl _ w).alloc (Nat.le_refl _) _).alloc (by simp) _).alloc (by simp;omega) _).alloc (by simp;omega) _
  | (simp;done)
  | (simp only [World.alloc,Array.getElem?_push,Array.size_push];(repeat rw [if_neg (by omega)]);first | rfl|(rw [if_pos (by omega)])|(rw [if_pos rfl]))
theorem public_in (n:Nat) (hn:8≤n) (w:World) (seed:ByteArray) (hs:seed.size≤1048576) (hK:KT w) :
 CallsIn Fence.wide n Tryz.prog 171 #[.string seed] w fun e w'=>e=.returned (.agg (u8s (pubL seed.data.toList)).toArray)∧Below w.heap.size w w':=by
 have HI:=hidp (show (Tryz.prog.info? 58).map (·.size)=some (u8s z32).toArray.size from by kernel_rfl)
 obtain ⟨i0,hi,hz0,hz1,hz2⟩:=info_parts info5
 have HI5:=hidp hi;have HZ0:=hidp hz0;have HZ1:=hidp hz1;have HZ2:=hidp hz2
 clear hi hz0 hz1 hz2
 have HK:=hidp hK
 have hkp:=hK.pos
 clear hK
 obtain ⟨f,hf⟩:∃ f,(fun j=>walkL (startL seed.data.toList j) 3)=f:=⟨_,rfl⟩
 have HFL:=hidp (show ∀ j,(f j).length=16 from fun j=>by rw [← hf];exact walkL_len _ _ (startL_len _ _))
 have hpl:=hidp (show pubL seed.data.toList=shaL (4 :: catL f 68) from by rw [← hf];rfl)
 have c2:=hidp (show ∀ W j,KT W→Calls Tryz.prog 177 #[.string (mkS (startL seed.data.toList j)),.int .i64 3] W fun e w'=>e=.returned (.string (mkS (f j)))∧Below W.heap.size W w' from fun W j h=>by
  rw [← hf];exact walk_any W _ (by rw [startL_len];omega) 3 (by omega) h)
 have c3:=hidp (show ∀ W,KT W→Calls Tryz.prog 146 #[.string (mkS (4 :: catL f 68))] W fun e w'=>e=.returned (.agg (u8s (pubL seed.data.toList)).toArray)∧Below W.heap.size W w' from fun W h=>by
  have:=sum_any W (mkS (4 :: catL f 68)) (by rw [mkS_size,List.length_cons,catL_len f 68 HFL.out];omega) h
  rw [mkS_data] at this
  rw [hpl.out];exact this)
 clear hf
 obtain ⟨X,hX⟩:∃ X,(u8s (pubL seed.data.toList)).toArray=X:=⟨_,rfl⟩
 have HSX:=hidp (show (Tryz.prog.info? 58).map (·.size)=some X.size from by rw [← hX];exact hash_size (pubL_len _))
 have hone:=hidp (show X.all (·.oneCell')=true from by rw [← hX];exact u8s_one _)
 have hlen:=hidp (show (u8s z32).toArray.size=X.size from by rw [← hX];simp [u8s_length,pubL_len,z32_len])
 rw [hX] at c3 ⊢
 clear hX hpl
 have HZL:=hidp (show (#[Value.int .u8 0,Value.int .u8 0,Value.int .u8 0,Value.int .u8 0,Value.int .u8 0,Value.int .u8 0,Value.int .u8 0,Value.int .u8 0,Value.int .u8 0,Value.int .u8 0,Value.int .u8 0,Value.int .u8 0,Value.int .u8 0,Value.int .u8 0,Value.int .u8 0,Value.int .u8 0,Value.int .u8 0,Value.int .u8 0,Value.int .u8 0,Value.int .u8 0,Value.int .u8 0,Value.int .u8 0,Value.int .u8 0,Value.int .u8 0,Value.int .u8 0,Value.int .u8 0,Value.int .u8 0,Value.int .u8 0,Value.int .u8 0,Value.int .u8 0,Value.int .u8 0,Value.int .u8 0]:Array Value)=(u8s z32).toArray from rfl)
 obtain ⟨C,hmk,hown⟩:=mk1088 (w.alloc (.cells #[Value.int .u8 0,Value.int .u8 0,Value.int .u8 0,Value.int .u8 0,Value.int .u8 0,Value.int .u8 0,Value.int .u8 0,Value.int .u8 0,Value.int .u8 0,Value.int .u8 0,Value.int .u8 0,Value.int .u8 0,Value.int .u8 0,Value.int .u8 0,Value.int .u8 0,Value.int .u8 0,Value.int .u8 0,Value.int .u8 0,Value.int .u8 0,Value.int .u8 0,Value.int .u8 0,Value.int .u8 0,Value.int .u8 0,Value.int .u8 0,Value.int .u8 0,Value.int .u8 0,Value.int .u8 0,Value.int .u8 0,Value.int .u8 0,Value.int .u8 0,Value.int .u8 0,Value.int .u8 0] 58))
 have hHO:=hidp (hown w.heap.size (by simp))
 rw [heap_size_alloc] at hmk hHO
 clear hown
 refine callsIn_of_wp_marks Tryz.func171 rfl trivial ?_ rfl
 simp only [Tryz.ntmps171,List.size_toArray,List.length_cons,List.length_nil,Nat.reduceAdd,Nat.reduceSub,Array.replicate_succ,Array.replicate_zero,List.push_toArray,List.append_toArray,List.nil_append,List.cons_append]
 gi_wp2_with (refine ⟨trivial,fun _=>by omega,?_⟩;(refine (starts_in Fence.wide (n - 1) trivial rfl _ _).mono ?_);rintro e2 w2 ⟨rfl,rfl⟩)
 have HOO:=hidp fun o3 o4=>((hHO.out).alloc o3).alloc o4
 clear hmk hHO
 generalize hW0:((((w.alloc (.cells #[Value.int .u8 0,Value.int .u8 0,Value.int .u8 0,Value.int .u8 0,Value.int .u8 0,Value.int .u8 0,Value.int .u8 0,Value.int .u8 0,Value.int .u8 0,Value.int .u8 0,Value.int .u8 0,Value.int .u8 0,Value.int .u8 0,Value.int .u8 0,Value.int .u8 0,Value.int .u8 0,Value.int .u8 0,Value.int .u8 0,Value.int .u8 0,Value.int .u8 0,Value.int .u8 0,Value.int .u8 0,Value.int .u8 0,Value.int .u8 0,Value.int .u8 0,Value.int .u8 0,Value.int .u8 0,Value.int .u8 0,Value.int .u8 0,Value.int .u8 0,Value.int .u8 0,Value.int .u8 0] 58)).alloc (.cells C 5)).alloc (.cells #[.slice (some ⟨w.heap.size + 1,0,none⟩) 0 1088] 174)).alloc (.cells #[.string seed] 9))=W0
 have ho0:Own W0 w.heap.size 5 (.slice (some ⟨w.heap.size + 1,0,none⟩) 0 1088) []:=by rw [← hW0];exact HOO.out _ _
 obtain ⟨b0,b1,b2,b3,hz,hB0⟩:=at4 _ _ _ _ _ _ hW0.symm
 rw [HZL.out] at b0
 clear hW0 b1 HOO
 have HKW:=hidp (HK.out.below hB0 hkp)
 refine wpIn_rangeFunc_ownG (α:=Fin 68) rfl (by omega) (gf:=197) (lb:=#[.pointer (some ⟨w.heap.size + 1 + 1 + 1,0,none⟩)]) rfl trivial (enters_of Tryz.func197 (by kernel_rfl) rfl)
  (encs:=encS seed.data.toList) (Kp:=KpB w.heap.size (w.heap.size + 1 + 1 + 1)) (S:=fun ys=>ys=chains) (Sp:=fun pre=>pre <+: chains) (N:=chains.length) (w0:=W0)
  (starts_stops (n - 1) (by omega) _ _ seed hs W0 HKW.out hkp (by omega) (Boxed.cell b3))
  (fun h k=>h.trans k) (KpB.put (by omega) (by omega)) (Below.refl _ _) (fun _=>rfl)
  (IEn w (w.heap.size + 1 + 1) seed (fun W=>Arr W w.heap.size 58 (u8s z32)) f) (fun _ _ _=>False) (IEn_own _ _ _ _ (firm_arr _ _ _ (by decide) (by decide)) _ _ (by omega)) (fun c _ _ _ _ h _ _=>h)
  ⟨⟨⟨⟨_,b2,ho0,trivial⟩,b0⟩,b3⟩,hB0⟩
  (fun x=>{ tmps:=#[.string seed,undef,.pointer (some ⟨w.heap.size,0,none⟩),.pointer (some ⟨w.heap.size + 1 + 1,0,none⟩),undef,.string (mkS (startL seed.data.toList x.1)),.slice (some ⟨w.heap.size + 1,0,none⟩) 0 1088,.string seed,.func (.func 197) #[] #[.pointer (some ⟨w.heap.size + 1 + 1 + 1,0,none⟩)],.int .i64 (x.1:Nat),.string (mkS (startL seed.data.toList x.1)),undef,undef,undef,undef,undef,undef,undef,undef],defers:=[] })
  ?assign ?body ?done ?stop
 case assign =>
  intro l x W K hKK
  simp only [encS]
  have HKK:=hidp hKK
  clear hKK
  gi_wp2
  exact HKK.out
 case body =>
  rintro l pre x W hI hlt
  obtain ⟨⟨⟨⟨v,c,hrow,-⟩,ha⟩,hsb⟩,hB⟩:=hI
  rw [chains_len] at hlt
  have hsz:=hB.size
  have HC:=hidp c;have HR:=hidp (show Own W w.heap.size 5 v (txP f pre) from hrow);have HA:=hidp ha;have HSB:=hidp hsb;have HB:=hidp hB
  have d2:=c.cell;have f2:=c.frozen
  clear c hrow ha hsb hB b0 b2 b3 ho0 hB0
  have c2x:=hidp (fun W h=>c2.out W x.1 h)
  have hlf:=HFL.out x.1
  have hTl:=hidp (show (mkS (f x.1)).data.toList=f x.1 from rfl)
  have hpl:=txP_len f HFL.out pre
  have hsn:=hidp (txP_snoc f pre x)
  obtain ⟨T,hT⟩:∃ T,mkS (f x.1)=T:=⟨_,rfl⟩
  have hTs:T.size=16:=by rw [← hT,mkS_size,hlf]
  rw [hT] at c2x hTl
  clear hT
  have hKW:=hidp (HK.out.below HB.out hkp)
  gi_wp2_with fail
  refine wpIn_region_any (by kernel_rfl) ?_
  change wpAnyIn _ _ _ _ _ _ _ _ _ (World.drew _)
  have hdw:Below W.heap.size W W.drew:=(Below.refl _ W).drew
  have hKD:=hidp (hKW.out.below hdw (by omega))
  have HDW:=hidp hdw
  have HCD:=hidp (boxed_after HC.out hdw)
  have d3:=HCD.out.cell;have f3:=HCD.out.frozen
  clear hdw
  refine wpAnyIn_ready (rs:=[0,1]) (by kernel_rfl) (by simp) ?_
  refine AllReadyIn.cons rfl (fun K hK=>?_) (AllReadyIn.cons rfl (fun K hK=>?_) AllReadyIn.nil)
  · go_simp
    refine hK _ _ ?_
    clear hK K
    refine wpAnyIn_ready (rs:=[1]) (by kernel_rfl) (by simp) ?_
    refine AllReadyIn.cons rfl (fun K hK=>?_) AllReadyIn.nil
    go_simp
    refine hK _ _ ?_
    clear hK K
    refine wpAnyIn_ready (rs:=[2]) (by kernel_rfl) (by simp) ?_
    refine AllReadyIn.cons rfl (fun K hK=>?_) AllReadyIn.nil
    go_simp
    refine ⟨trivial,fun _=>by omega,CallsIn.inRound l ((callsIn_wide.2 (c2x.out _ hKD.out)).mono ?_)⟩
    rintro e1 w2 ⟨rfl,hb2⟩
    refine hK _ _ ?_
    clear hK K
    have hb2':=hidp (HDW.out.trans (hb2.mono HDW.out.size))
    have HCW:=hidp (boxed_after HC.out hb2'.out)
    have d4:=HCW.out.cell;have f4:=HCW.out.frozen
    clear hb2
    refine wpAnyIn_ready (rs:=[3]) (by kernel_rfl) (by simp) ?_
    refine AllReadyIn.cons rfl (fun K hK=>?_) AllReadyIn.nil
    refine if_wanted rfl ?_
    refine wpIn_appS (.tmp 11) (.tmp 13) 174 9 rfl w.heap.size 5 i0 Tryz.underlying174 Tryz.underlying9 HI5.out HZ0.out HZ1.out HZ2.out v (txP f pre) rfl (HR.out.kept hb2'.out (Nat.le_refl _)) T rfl ?_ ?_ ?_
    · rw [hpl,hTs];omega
    · exact Nat.le_trans hsz hb2'.out.size
    · intro v' w1 ho hg
      rw [hTl.out,← hsn.out] at ho
      have hfin:=hidp (IEn.step (E:=w.heap.size + 1 + 1) (seed:=seed) (x:=x) (D:=W0.heap.size) (firm_arr w.heap.size 58 (u8s z32) (by decide) (by decide)) (by omega) HC.out HR.out HA.out HSB.out HB.out hb2'.out hg ho)
      have r2:Own w2 w.heap.size 5 v (txP f pre):=HR.out.kept hb2'.out (Nat.le_refl _)
      have HC1:Boxed w1 (w.heap.size + 1 + 1) 174 v:=HCW.out.kept hg (HCW.out.not_row (by decide) r2)
      have d5:=HC1.cell;have f5:=HC1.frozen
      obtain ⟨g',cap',rfl⟩:=own_form ho (by rw [txP_len f HFL.out,List.length_append];simp)
      refine hK _ _ ?_
      clear hK K HC1 r2 ho hg d4 f4 d3 f3 d2 f2
      refine wpAnyIn_ready (rs:=[4]) (by kernel_rfl) (by simp) ?_
      refine AllReadyIn.cons rfl (fun K hK=>?_) AllReadyIn.nil
      go_simp
      refine hK _ _ ?_
      clear hK K
      refine wpAnyIn_done (by kernel_rfl) ?_ _
      gi_wp2
      exact hfin.out
  · go_simp
    refine hK _ _ ?_
    clear hK K
    refine wpAnyIn_ready (rs:=[0,2]) (by kernel_rfl) (by simp) ?_
    refine AllReadyIn.cons rfl (fun K hK=>?_) (AllReadyIn.cons rfl (fun K hK=>?_) AllReadyIn.nil)
    · go_simp
      refine hK _ _ ?_
      clear hK K
      refine wpAnyIn_ready (rs:=[2]) (by kernel_rfl) (by simp) ?_
      refine AllReadyIn.cons rfl (fun K hK=>?_) AllReadyIn.nil
      go_simp
      refine ⟨trivial,fun _=>by omega,CallsIn.inRound l ((callsIn_wide.2 (c2x.out _ hKD.out)).mono ?_)⟩
      rintro e1 w2 ⟨rfl,hb2⟩
      refine hK _ _ ?_
      clear hK K
      have hb2':=hidp (HDW.out.trans (hb2.mono HDW.out.size))
      have HCW:=hidp (boxed_after HC.out hb2'.out)
      have d4:=HCW.out.cell;have f4:=HCW.out.frozen
      clear hb2
      refine wpAnyIn_ready (rs:=[3]) (by kernel_rfl) (by simp) ?_
      refine AllReadyIn.cons rfl (fun K hK=>?_) AllReadyIn.nil
      refine if_wanted rfl ?_
      refine wpIn_appS (.tmp 11) (.tmp 13) 174 9 rfl w.heap.size 5 i0 Tryz.underlying174 Tryz.underlying9 HI5.out HZ0.out HZ1.out HZ2.out v (txP f pre) rfl (HR.out.kept hb2'.out (Nat.le_refl _)) T rfl ?_ ?_ ?_
      · rw [hpl,hTs];omega
      · exact Nat.le_trans hsz hb2'.out.size
      · intro v' w1 ho hg
        rw [hTl.out,← hsn.out] at ho
        have hfin:=hidp (IEn.step (E:=w.heap.size + 1 + 1) (seed:=seed) (x:=x) (D:=W0.heap.size) (firm_arr w.heap.size 58 (u8s z32) (by decide) (by decide)) (by omega) HC.out HR.out HA.out HSB.out HB.out hb2'.out hg ho)
        have r2:Own w2 w.heap.size 5 v (txP f pre):=HR.out.kept hb2'.out (Nat.le_refl _)
        have HC1:Boxed w1 (w.heap.size + 1 + 1) 174 v:=HCW.out.kept hg (HCW.out.not_row (by decide) r2)
        have d5:=HC1.cell;have f5:=HC1.frozen
        obtain ⟨g',cap',rfl⟩:=own_form ho (by rw [txP_len f HFL.out,List.length_append];simp)
        refine hK _ _ ?_
        clear hK K HC1 r2 ho hg d4 f4 d3 f3 d2 f2
        refine wpAnyIn_ready (rs:=[4]) (by kernel_rfl) (by simp) ?_
        refine AllReadyIn.cons rfl (fun K hK=>?_) AllReadyIn.nil
        go_simp
        refine hK _ _ ?_
        clear hK K
        refine wpAnyIn_done (by kernel_rfl) ?_ _
        gi_wp2
        exact hfin.out
    · go_simp
      refine ⟨trivial,fun _=>by omega,CallsIn.inRound l ((callsIn_wide.2 (c2x.out _ hKD.out)).mono ?_)⟩
      rintro e1 w2 ⟨rfl,hb2⟩
      refine hK _ _ ?_
      clear hK K
      have hb2':=hidp (HDW.out.trans (hb2.mono HDW.out.size))
      have HCW:=hidp (boxed_after HC.out hb2'.out)
      have d4:=HCW.out.cell;have f4:=HCW.out.frozen
      clear hb2
      refine wpAnyIn_ready (rs:=[0]) (by kernel_rfl) (by simp) ?_
      refine AllReadyIn.cons rfl (fun K hK=>?_) AllReadyIn.nil
      go_simp
      refine hK _ _ ?_
      clear hK K
      refine wpAnyIn_ready (rs:=[3]) (by kernel_rfl) (by simp) ?_
      refine AllReadyIn.cons rfl (fun K hK=>?_) AllReadyIn.nil
      refine if_wanted rfl ?_
      refine wpIn_appS (.tmp 11) (.tmp 13) 174 9 rfl w.heap.size 5 i0 Tryz.underlying174 Tryz.underlying9 HI5.out HZ0.out HZ1.out HZ2.out v (txP f pre) rfl (HR.out.kept hb2'.out (Nat.le_refl _)) T rfl ?_ ?_ ?_
      · rw [hpl,hTs];omega
      · exact Nat.le_trans hsz hb2'.out.size
      · intro v' w1 ho hg
        rw [hTl.out,← hsn.out] at ho
        have hfin:=hidp (IEn.step (E:=w.heap.size + 1 + 1) (seed:=seed) (x:=x) (D:=W0.heap.size) (firm_arr w.heap.size 58 (u8s z32) (by decide) (by decide)) (by omega) HC.out HR.out HA.out HSB.out HB.out hb2'.out hg ho)
        have r2:Own w2 w.heap.size 5 v (txP f pre):=HR.out.kept hb2'.out (Nat.le_refl _)
        have HC1:Boxed w1 (w.heap.size + 1 + 1) 174 v:=HCW.out.kept hg (HCW.out.not_row (by decide) r2)
        have d5:=HC1.cell;have f5:=HC1.frozen
        obtain ⟨g',cap',rfl⟩:=own_form ho (by rw [txP_len f HFL.out,List.length_append];simp)
        refine hK _ _ ?_
        clear hK K HC1 r2 ho hg d4 f4 d3 f3 d2 f2
        refine wpAnyIn_ready (rs:=[4]) (by kernel_rfl) (by simp) ?_
        refine AllReadyIn.cons rfl (fun K hK=>?_) AllReadyIn.nil
        go_simp
        refine hK _ _ ?_
        clear hK K
        refine wpAnyIn_done (by kernel_rfl) ?_ _
        gi_wp2
        exact hfin.out
 case done =>
  rintro D ys W hD hys hI hDD
  subst hys
  obtain ⟨⟨⟨⟨v,c,hrow,-⟩,ha⟩,hsb⟩,hB⟩:=hI
  have hsz:=hB.size
  have hal:=txP_all f
  rw [hal] at hrow
  have hcl:=catL_len f 68 HFL.out
  obtain ⟨g',cap',rfl⟩:=own_form (show Own W w.heap.size 5 v (catL f 68) from hrow) (by omega)
  have HO:Own W w.heap.size 5 (.slice (some ⟨g',0,none⟩) (catL f 68).length cap') (catL f 68):=hrow
  rw [hcl] at c HO
  have d2:=c.cell
  have hstr:=run_str_own (P:=Tryz.prog) (src:=174) (e:=5) (dst:=9) Tryz.underlying174 Tryz.underlying5 Tryz.underlying9 HO
  have happ:=hidp (show (⟨#[4]⟩:ByteArray)++mkS (catL f 68)=mkS (4 :: catL f 68) from mkS_append [4] _)
  obtain ⟨S,hS⟩:∃ S,mkS (catL f 68)=S:=⟨_,rfl⟩
  have hSs:S.size≤2000:=by rw [← hS,mkS_size,hcl];omega
  rw [hS] at happ hstr
  clear hS
  have HA:=hidp ha;have HB:=hidp hB;have HD:=hidp hDD
  clear ha hB hDD hrow hsb HO c b0 b2 b3 ho0 hB0 hal
  gi_wp2_with fail
  rw [happ.out]
  clear hstr
  refine ⟨trivial,fun _=>by omega,?_⟩
  refine (callsIn_wide.2 (c3.out _ (HK.out.below HB.out hkp))).mono ?_
  rintro e w3 ⟨rfl,hb3⟩
  have HB3:=hidp (HB.out.trans (hb3.mono hsz))
  have HA3:=hidp (HA.out.below hb3 HA.out.lt)
  have hDw:D<W.heap.size:=(Array.getElem?_eq_some_iff.1 HD.out).1
  have HD3:=hidp ((hb3.block D hDw).trans HD.out)
  have hs3:=hb3.size
  clear hb3 d2
  gi_wp2_with (refine wpListIn_store_row rfl 58 (.tmp 2) (.tmp 18) rfl w.heap.size X rfl rfl 58 _ HA3.out HSX.out hlen.out hone.out ?_)
  have hfin:(w3.setRow w.heap.size X).heap[w.heap.size]?=some (.cells X 58 (0,0)):=setRow_heap _ _ _ _ _ _ HA3.out
  have hdD:(w3.setRow w.heap.size X).heap[D]?=some (.deferred (some [])):=(setRow_other w3 w.heap.size D X (by omega)).trans HD3.out
  have hfin2:=(grownBy_putObj' (w3.setRow w.heap.size X) D (.deferred none)).block w.heap.size (by simp;omega) (fun e=>by cases e;omega)
  have hBF:=(below_setRow HB3.out (Nat.le_refl _) X).grown (grownBy_putObj' (w3.setRow w.heap.size X) D (.deferred none)) (by simp;omega) (fun k e=>by cases e;omega)
  refine ⟨by simp [Act.put],.inl ⟨_,_,rfl,run_takeDeferred hdD,?_⟩⟩
  refine ⟨_,results_cell_row (P:=Tryz.prog) (p:=2) (ty:=58) Tryz.results171 _ _ w.heap.size 58 X (0,0) _ rfl (hfin2.trans hfin) Tryz.underlying58 rfl HSX.out,rfl,hBF⟩
 case stop =>
  rintro D c pre W hD hsp hI hK
  exact hI.elim
theorem public_any (w:World) (seed:ByteArray) (hs:seed.size≤1048576) (hK:KT w) :
 Calls Tryz.prog 171 #[.string seed] w fun e w'=>e=.returned (.agg (u8s (pubL seed.data.toList)).toArray)∧Below w.heap.size w w' :=
 (callsIn_wide (n:=8)).1 (public_in 8 (Nat.le_refl _) w seed hs hK)
end
section
open Go.RowKit Go.Shelf
attribute [local go_sem] Oper.semAt_some
theorem wpOpIn_round {F:Fence} {n:Nat} {P:Program} {ops:Array Oper} {Q:Exit→Act→World→Prop} (l:Nat) (hro:F.round=none) {i:Nat} (hp:∀ o,ops[i]?=some o→∀ c,o.op≠.defer c) {K:Act→World→Prop} {a:Act} {w:World}
 (h:wpOpIn F n P ops Q i K a w):wpOpIn (F.inRound l) n P ops Q i K a w:=by
 unfold wpOpIn at h ⊢
 cases ho:ops[i]? with
 | none=>rw [ho] at h;exact h
 | some o =>
   rw [ho] at h
   dsimp only at h ⊢
   split
   · rename_i hw
     rw [if_pos hw] at h
     unfold Oper.wpIn at h ⊢
     rw [Oper.semAt_plain _ _ _ (hp o ho)] at h ⊢
     refine ⟨h.1,?_⟩
     have h2:=h.2
     generalize (execOp a.eval o).run P w=r at h2
     cases r with
     | ok x w'=>cases x <;> exact h2
     | halt x w'=>cases x <;> exact h2
   · rename_i hw
     rw [if_neg hw] at h
     exact h
theorem wpAnyIn_round {F:Fence} {n:Nat} {P:Program} {ops:Array Oper} {Q:Exit→Act→World→Prop} {md:Region.Mode} (l:Nat) (hro:F.round=none) (hp:∀ (i:Nat) o,ops[i]?=some o→∀ c,o.op≠.defer c) :
 ∀ (fuel:Nat) (listed:Array Bool) (a:Act) (w:World),wpAnyIn F n P md ops Q fuel listed a w→wpAnyIn (F.inRound l) n P md ops Q fuel listed a w
 | 0,_,_,_,h=>h
 | fuel + 1,listed,a,w,h=>⟨h.1,fun i hi=>wpOpIn_round l hro (hp i) (wpOpIn_mono (fun a w h=>wpAnyIn_round l hro hp fuel _ a w h) (h.2 i hi))⟩
def noDefer:Op→Bool
 | .defer _=>false
 | _=>true
theorem noDefer_spec {ops:Array Oper} (h:(ops.all fun o=>noDefer o.op)=true) (i:Nat) (o:Oper) (ho:ops[i]?=some o):∀ c,o.op≠.defer c:=by
 intro c e
 obtain ⟨hi,rfl⟩:=Array.getElem?_eq_some_iff.1 ho
 have:=(Array.all_eq_true.1 h) i hi
 rw [e] at this
 cases this
theorem firm_own (B e:Nat) (v:Value) (xs:List Value) (h1:e≠5) (h2:e≠174):Firm (fun W=>OwnV W B e v xs):=fun X Y row h hg hr=>by
 refine World.ownsRow.kept h hg ?_
 rcases h.2 with ⟨rfl,_⟩ | ⟨g,cap,cur,rfl,_,hgb,_⟩
 · exact .inl rfl
 · refine .inr fun e'=>?_
   obtain ⟨o,ho,hc | ⟨c,t',fz,rfl,hc⟩⟩:=hr g (by simpa [Value.ownBlock] using e'.symm)
   · rw [hgb] at ho;cases ho;cases hc
   · rw [hgb] at ho;cases ho;rcases hc with hc | hc
     · exact h1 hc
     · exact h2 hc
theorem sign_in (n:Nat) (hn:8≤n) (w:World) (seed text:ByteArray) (hs:seed.size≤1048576) (ht:text.size≤281474976710656) (hK:KT w) :
 CallsIn Fence.wide n Tryz.prog 141 #[.string seed,.string text] w fun e w'=>e=.returned (.string (mkS (signL seed.data.toList text.data.toList)))∧Below w.heap.size w w':=by
 obtain ⟨i0,hi,hz0,hz1,hz2⟩:=info_parts info5
 have HI5:=hidp hi;have HZ0:=hidp hz0;have HZ1:=hidp hz1;have HZ2:=hidp hz2
 clear hi hz0 hz1 hz2
 have HK:=hidp hK
 have hkp:=hK.pos
 clear hK
 obtain ⟨D,hD⟩:∃ D,digL text.data.toList=D:=⟨_,rfl⟩
 have HDL:=hidp (show D.length=68 from by rw [← hD];exact digL_len _)
 have HD4:=hidp (show ∀ j,D.getD j 0<4 from by rw [← hD];exact digL_getD_lt _)
 obtain ⟨f,hf⟩:∃ f,(fun j=>walkL (startL seed.data.toList j) (D.getD j 0))=f:=⟨_,rfl⟩
 have HFL:=hidp (show ∀ j,(f j).length=16 from fun j=>by rw [← hf];exact walkL_len _ _ (startL_len _ _))
 have hpl:=hidp (show signL seed.data.toList text.data.toList=catL f 68 from by rw [← hf,← hD];rfl)
 have c0:=hidp (show ∀ W,KT W→Calls Tryz.prog 175 #[.string text] W fun e w'=>∃ v,e=.returned v∧OwnV w' W.heap.size 3 v (iv D)∧Below W.heap.size W w' from fun W h=>by
  rw [← hD];exact digits_any W text ht h)
 have c2:=hidp (show ∀ W j,KT W→Calls Tryz.prog 177 #[.string (mkS (startL seed.data.toList j)),.int .i64 ((D.getD j 0:Nat):Int)] W fun e w'=>e=.returned (.string (mkS (f j)))∧Below W.heap.size W w' from fun W j h=>by
  rw [← hf];exact walk_any W _ (by rw [startL_len];omega) (D.getD j 0) (by have:=HD4.out j;omega) h)
 rw [hpl.out]
 clear hf hD hpl
 refine callsIn_of_wp_marks Tryz.func141 rfl trivial ?_ rfl
 simp only [Tryz.ntmps141,List.size_toArray,List.length_cons,List.length_nil,Nat.reduceAdd,Nat.reduceSub,Array.replicate_succ,Array.replicate_zero,List.push_toArray,List.append_toArray,List.nil_append,List.cons_append]
 gi_wp2_with fail
 refine ⟨trivial,fun _=>by omega,?_⟩
 refine (callsIn_wide.2 (c0.out _ HK.out)).mono ?_
 rintro e w1 ⟨v1,rfl,hv1,hb1⟩
 have HV1:=hidp hv1;have HB1:=hidp hb1
 have hs1:=hb1.size
 clear hv1 hb1
 obtain ⟨ad,cap,hv1e,hcells⟩:=HV1.out.vals
 rw [iv_length,HDL.out] at hv1e
 subst hv1e
 have HCE:=hidp hcells
 clear hcells
 obtain ⟨C,hmk,hown⟩:=mk1088 (w1.alloc (.cells #[.slice ad 68 cap] 188))
 have hHO:=hidp (hown w.heap.size (by simp;omega))
 rw [heap_size_alloc] at hmk hHO
 clear hown
 gi_wp2_with (refine ⟨trivial,fun _=>by omega,?_⟩;(refine (starts_in Fence.wide (n - 1) trivial rfl _ _).mono ?_);rintro e2 w2 ⟨rfl,rfl⟩)
 have HOO:=hidp fun o3 o4=>((hHO.out).alloc o3).alloc o4
 clear hmk hHO
 generalize hW0:((((w1.alloc (.cells #[.slice ad 68 cap] 188)).alloc (.cells C 5)).alloc (.cells #[.slice (some ⟨w1.heap.size + 1,0,none⟩) 0 1088] 174)).alloc (.cells #[.string seed] 9))=W0
 have ho0:Own W0 w.heap.size 5 (.slice (some ⟨w1.heap.size + 1,0,none⟩) 0 1088) []:=by rw [← hW0];exact HOO.out _ _
 obtain ⟨b0,b1,b2,b3,hz,hB0⟩:=at4 _ _ _ _ _ _ hW0.symm
 have hB0w:=HB1.out.trans (hB0.mono hs1)
 have hv0:OwnV W0 w.heap.size 3 (.slice ad 68 cap) (iv D):=HV1.out.kept hB0 (Nat.le_refl _)
 clear hW0 b1 HOO
 have HKW:=hidp (HK.out.below hB0w hkp)
 have HFA:=hidp ((firm_boxed w1.heap.size 188 (.slice ad 68 cap) (by decide) (by decide)).and (firm_own w.heap.size 3 (.slice ad 68 cap) (iv D) (by decide) (by decide)))
 refine wpIn_rangeFunc_ownG (α:=Fin 68) rfl (by omega) (gf:=197) (lb:=#[.pointer (some ⟨w1.heap.size + 1 + 1 + 1,0,none⟩)]) rfl trivial (enters_of Tryz.func197 (by kernel_rfl) rfl)
  (encs:=encS seed.data.toList) (Kp:=KpB w.heap.size (w1.heap.size + 1 + 1 + 1)) (S:=fun ys=>ys=chains) (Sp:=fun pre=>pre <+: chains) (N:=chains.length) (w0:=W0)
  (starts_stops (n - 1) (by omega) _ _ seed hs W0 HKW.out hkp (by omega) (Boxed.cell b3))
  (fun h k=>h.trans k) (KpB.put (by omega) (by omega)) (Below.refl _ _) (fun _=>rfl)
  (IEn w (w1.heap.size + 1 + 1) seed (fun W=>Boxed W w1.heap.size 188 (.slice ad 68 cap)∧OwnV W w.heap.size 3 (.slice ad 68 cap) (iv D)) f) (fun _ _ _=>False) (IEn_own _ _ _ _ HFA.out _ _ (by omega)) (fun c _ _ _ _ h _ _=>h)
  ⟨⟨⟨⟨_,b2,ho0,trivial⟩,⟨b0,hv0⟩⟩,b3⟩,hB0w⟩
  (fun x=>{ tmps:=#[.string seed,.string text,undef,undef,.string ⟨#[]⟩,.pointer (some ⟨w1.heap.size,0,none⟩),.pointer (some ⟨w1.heap.size + 1 + 1,0,none⟩),.int .i64 (x.1:Nat),.string (mkS (startL seed.data.toList x.1)),.string text,.slice ad 68 cap,.slice (some ⟨w1.heap.size + 1,0,none⟩) 0 1088,.string seed,.func (.func 197) #[] #[.pointer (some ⟨w1.heap.size + 1 + 1 + 1,0,none⟩)],.int .i64 (x.1:Nat),.string (mkS (startL seed.data.toList x.1)),undef,undef,undef,undef,undef,undef,undef,undef,undef,undef],defers:=[] })
  ?assign ?body ?done ?stop
 case assign =>
  intro l x W K hKK
  simp only [encS]
  have HKK:=hidp hKK
  clear hKK
  gi_wp2
  exact HKK.out
 case body =>
  rintro l pre x W hI hlt
  obtain ⟨⟨⟨⟨v,c,hrow,-⟩,ha⟩,hsb⟩,hB⟩:=hI
  rw [chains_len] at hlt
  have hsz:=hB.size
  have HC:=hidp c;have HR:=hidp (show Own W w.heap.size 5 v (txP f pre) from hrow);have HA:=hidp ha;have HSB:=hidp hsb;have HB:=hidp hB
  clear c hrow ha hsb hB b0 b2 b3 ho0 hB0 hv0 hB0w
  have c2x:=hidp (fun W h=>c2.out W x.1 h)
  have hlf:=HFL.out x.1
  have hTl:=hidp (show (mkS (f x.1)).data.toList=f x.1 from rfl)
  have hpl:=txP_len f HFL.out pre
  have hsn:=hidp (txP_snoc f pre x)
  obtain ⟨T,hT⟩:∃ T,mkS (f x.1)=T:=⟨_,rfl⟩
  have hTs:T.size=16:=by rw [← hT,mkS_size,hlf]
  rw [hT] at c2x hTl
  clear hT
  have hKW:=hidp (HK.out.below HB.out hkp)
  have hx1:x.1<68:=x.2
  have hi0:(0:Int)≤((x.1:Nat):Int):=by omega
  have hi1:((x.1:Nat):Int)<68:=by omega
  obtain ⟨a',cap',hve,hcells⟩:=OwnV.vals HA.out.2
  obtain ⟨bk,off,hab,hcell⟩:=hcells x.1 (by rw [iv_length,HDL.out];exact hx1)
  have haa:ad=some ⟨bk,off,none⟩:=by
   rw [iv_length,HDL.out] at hve
   injection hve with h1 h2 h3
   rw [h1,hab]
  subst haa
  have dcell:W.cell? ⟨bk,off + x.1,none⟩=some (.int .i64 ((D.getD x.1 0:Nat):Int)):=by
   rw [hcell];simp [iv,List.getD_eq_getElem?_getD,HDL.out,hx1]
  clear hcells hcell hve hab
  obtain ⟨d,hd⟩:∃ d,D.getD x.1 0=d:=⟨_,rfl⟩
  rw [hd] at dcell c2x
  clear hd
  gi_wp2_with fail
  refine wpIn_region_any (by kernel_rfl) ?_
  change wpAnyIn _ _ _ _ _ _ _ _ _ (World.drew _)
  have hdw:Below W.heap.size W W.drew:=(Below.refl _ W).drew
  have hKD:=hidp (hKW.out.below hdw (by omega))
  have HDW:=hidp hdw
  have HCD:=hidp (boxed_after HC.out hdw)
  have HAD:=hidp (boxed_after HA.out.1 hdw)
  have d2:=HAD.out.cell;have f2:=HAD.out.frozen
  have d3:=HCD.out.cell;have f3:=HCD.out.frozen
  have dc:W.drew.cell? ⟨bk,off + x.1,none⟩=some (.int .i64 (d:Int)):=dcell
  clear hdw dcell
  refine wpAnyIn_round l rfl (noDefer_spec (by kernel_rfl)) _ _ _ _ ?_
  refine wpAnyIn_take (i:=1) (v:=.string (mkS (startL seed.data.toList x.1))) rfl rfl (by kernel_rfl) (by kernel_rfl) (by kernel_rfl) (fun _ _ _ h=>h) ⟨Or.inl ⟨by rfl,?_⟩,fun _=>rfl⟩ ?_
  · intro w;go_simp
  refine wpAnyIn_take (i:=3) (v:=.int .i64 (x.1:Nat)) rfl rfl (by kernel_rfl) (by kernel_rfl) (by kernel_rfl) (fun _ _ _ h=>h) ⟨Or.inl ⟨by rfl,?_⟩,fun _=>rfl⟩ ?_
  · intro w;go_simp
  refine wpAnyIn_ready (rs:=[0,2]) (by kernel_rfl) (by simp) ?_
  refine AllReadyIn.cons rfl (fun K hK=>?_) (AllReadyIn.cons rfl (fun K hK=>?_) AllReadyIn.nil)
  · go_simp
    refine hK _ _ ?_
    clear hK K
    refine wpAnyIn_ready (rs:=[2]) (by kernel_rfl) (by simp) ?_
    refine AllReadyIn.cons rfl (fun K hK=>?_) AllReadyIn.nil
    go_simp
    refine hK _ _ ?_
    clear hK K
    refine wpAnyIn_take (i:=4) (v:=.pointer (some ⟨bk,off + x.1,none⟩)) rfl rfl (by kernel_rfl) (by kernel_rfl) (by kernel_rfl) (fun _ _ _ h=>h) ⟨Or.inl ⟨by rfl,?_⟩,fun _=>rfl⟩ ?_
    · intro w;go_simp
    refine wpAnyIn_ready (rs:=[5]) (by kernel_rfl) (by simp) ?_
    refine AllReadyIn.cons rfl (fun K hK=>?_) AllReadyIn.nil
    go_simp
    refine hK _ _ ?_
    clear hK K
    refine wpAnyIn_ready (rs:=[6]) (by kernel_rfl) (by simp) ?_
    refine AllReadyIn.cons rfl (fun K hK=>?_) AllReadyIn.nil
    go_simp
    refine ⟨trivial,fun _=>by omega,((callsIn_wide.2 (c2x.out _ hKD.out)).mono ?_)⟩
    rintro e1 w2 ⟨rfl,hb2⟩
    refine hK _ _ ?_
    clear hK K
    have hb2':=hidp (HDW.out.trans (hb2.mono HDW.out.size))
    have HCW:=hidp (boxed_after HC.out hb2'.out)
    have d4:=HCW.out.cell;have f4:=HCW.out.frozen
    clear hb2
    refine wpAnyIn_ready (rs:=[7]) (by kernel_rfl) (by simp) ?_
    refine AllReadyIn.cons rfl (fun K hK=>?_) AllReadyIn.nil
    refine if_wanted rfl ?_
    refine wpIn_appS (.tmp 16) (.tmp 22) 174 9 rfl w.heap.size 5 i0 Tryz.underlying174 Tryz.underlying9 HI5.out HZ0.out HZ1.out HZ2.out v (txP f pre) rfl (HR.out.kept hb2'.out (Nat.le_refl _)) T rfl ?_ ?_ ?_
    · rw [hpl,hTs];omega
    · exact Nat.le_trans hsz hb2'.out.size
    · intro v' w3 ho hg
      rw [hTl.out,← hsn.out] at ho
      have hfin:=hidp (IEn.step (E:=w1.heap.size + 1 + 1) (seed:=seed) (x:=x) (D:=W0.heap.size) HFA.out (by omega) HC.out HR.out HA.out HSB.out HB.out hb2'.out hg ho)
      have r2:Own w2 w.heap.size 5 v (txP f pre):=HR.out.kept hb2'.out (Nat.le_refl _)
      have HC1:Boxed w3 (w1.heap.size + 1 + 1) 174 v:=HCW.out.kept hg (HCW.out.not_row (by decide) r2)
      have d5:=HC1.cell;have f5:=HC1.frozen
      obtain ⟨g',cap',rfl⟩:=own_form ho (by rw [txP_len f HFL.out,List.length_append];simp)
      refine hK _ _ ?_
      clear hK K HC1 r2 ho hg d4 f4 d3 f3 d2 f2
      refine wpAnyIn_ready (rs:=[8]) (by kernel_rfl) (by simp) ?_
      refine AllReadyIn.cons rfl (fun K hK=>?_) AllReadyIn.nil
      go_simp
      refine hK _ _ ?_
      clear hK K
      refine wpAnyIn_done (by kernel_rfl) ?_ _
      gi_wp2
      exact hfin.out
  · go_simp
    refine hK _ _ ?_
    clear hK K
    refine wpAnyIn_take (i:=4) (v:=.pointer (some ⟨bk,off + x.1,none⟩)) rfl rfl (by kernel_rfl) (by kernel_rfl) (by kernel_rfl) (fun _ _ _ h=>h) ⟨Or.inl ⟨by rfl,?_⟩,fun _=>rfl⟩ ?_
    · intro w;go_simp
    refine wpAnyIn_ready (rs:=[0,5]) (by kernel_rfl) (by simp) ?_
    refine AllReadyIn.cons rfl (fun K hK=>?_) (AllReadyIn.cons rfl (fun K hK=>?_) AllReadyIn.nil)
    · go_simp
      refine hK _ _ ?_
      clear hK K
      refine wpAnyIn_ready (rs:=[5]) (by kernel_rfl) (by simp) ?_
      refine AllReadyIn.cons rfl (fun K hK=>?_) AllReadyIn.nil
      go_simp
      refine hK _ _ ?_
      clear hK K
      refine wpAnyIn_ready (rs:=[6]) (by kernel_rfl) (by simp) ?_
      refine AllReadyIn.cons rfl (fun K hK=>?_) AllReadyIn.nil
      go_simp
      refine ⟨trivial,fun _=>by omega,((callsIn_wide.2 (c2x.out _ hKD.out)).mono ?_)⟩
      rintro e1 w2 ⟨rfl,hb2⟩
      refine hK _ _ ?_
      clear hK K
      have hb2':=hidp (HDW.out.trans (hb2.mono HDW.out.size))
      have HCW:=hidp (boxed_after HC.out hb2'.out)
      have d4:=HCW.out.cell;have f4:=HCW.out.frozen
      clear hb2
      refine wpAnyIn_ready (rs:=[7]) (by kernel_rfl) (by simp) ?_
      refine AllReadyIn.cons rfl (fun K hK=>?_) AllReadyIn.nil
      refine if_wanted rfl ?_
      refine wpIn_appS (.tmp 16) (.tmp 22) 174 9 rfl w.heap.size 5 i0 Tryz.underlying174 Tryz.underlying9 HI5.out HZ0.out HZ1.out HZ2.out v (txP f pre) rfl (HR.out.kept hb2'.out (Nat.le_refl _)) T rfl ?_ ?_ ?_
      · rw [hpl,hTs];omega
      · exact Nat.le_trans hsz hb2'.out.size
      · intro v' w3 ho hg
        rw [hTl.out,← hsn.out] at ho
        have hfin:=hidp (IEn.step (E:=w1.heap.size + 1 + 1) (seed:=seed) (x:=x) (D:=W0.heap.size) HFA.out (by omega) HC.out HR.out HA.out HSB.out HB.out hb2'.out hg ho)
        have r2:Own w2 w.heap.size 5 v (txP f pre):=HR.out.kept hb2'.out (Nat.le_refl _)
        have HC1:Boxed w3 (w1.heap.size + 1 + 1) 174 v:=HCW.out.kept hg (HCW.out.not_row (by decide) r2)
        have d5:=HC1.cell;have f5:=HC1.frozen
        obtain ⟨g',cap',rfl⟩:=own_form ho (by rw [txP_len f HFL.out,List.length_append];simp)
        refine hK _ _ ?_
        clear hK K HC1 r2 ho hg d4 f4 d3 f3 d2 f2
        refine wpAnyIn_ready (rs:=[8]) (by kernel_rfl) (by simp) ?_
        refine AllReadyIn.cons rfl (fun K hK=>?_) AllReadyIn.nil
        go_simp
        refine hK _ _ ?_
        clear hK K
        refine wpAnyIn_done (by kernel_rfl) ?_ _
        gi_wp2
        exact hfin.out
    · go_simp
      refine hK _ _ ?_
      clear hK K
      refine wpAnyIn_ready (rs:=[0,6]) (by kernel_rfl) (by simp) ?_
      refine AllReadyIn.cons rfl (fun K hK=>?_) (AllReadyIn.cons rfl (fun K hK=>?_) AllReadyIn.nil)
      · go_simp
        refine hK _ _ ?_
        clear hK K
        refine wpAnyIn_ready (rs:=[6]) (by kernel_rfl) (by simp) ?_
        refine AllReadyIn.cons rfl (fun K hK=>?_) AllReadyIn.nil
        go_simp
        refine ⟨trivial,fun _=>by omega,((callsIn_wide.2 (c2x.out _ hKD.out)).mono ?_)⟩
        rintro e1 w2 ⟨rfl,hb2⟩
        refine hK _ _ ?_
        clear hK K
        have hb2':=hidp (HDW.out.trans (hb2.mono HDW.out.size))
        have HCW:=hidp (boxed_after HC.out hb2'.out)
        have d4:=HCW.out.cell;have f4:=HCW.out.frozen
        clear hb2
        refine wpAnyIn_ready (rs:=[7]) (by kernel_rfl) (by simp) ?_
        refine AllReadyIn.cons rfl (fun K hK=>?_) AllReadyIn.nil
        refine if_wanted rfl ?_
        refine wpIn_appS (.tmp 16) (.tmp 22) 174 9 rfl w.heap.size 5 i0 Tryz.underlying174 Tryz.underlying9 HI5.out HZ0.out HZ1.out HZ2.out v (txP f pre) rfl (HR.out.kept hb2'.out (Nat.le_refl _)) T rfl ?_ ?_ ?_
        · rw [hpl,hTs];omega
        · exact Nat.le_trans hsz hb2'.out.size
        · intro v' w3 ho hg
          rw [hTl.out,← hsn.out] at ho
          have hfin:=hidp (IEn.step (E:=w1.heap.size + 1 + 1) (seed:=seed) (x:=x) (D:=W0.heap.size) HFA.out (by omega) HC.out HR.out HA.out HSB.out HB.out hb2'.out hg ho)
          have r2:Own w2 w.heap.size 5 v (txP f pre):=HR.out.kept hb2'.out (Nat.le_refl _)
          have HC1:Boxed w3 (w1.heap.size + 1 + 1) 174 v:=HCW.out.kept hg (HCW.out.not_row (by decide) r2)
          have d5:=HC1.cell;have f5:=HC1.frozen
          obtain ⟨g',cap',rfl⟩:=own_form ho (by rw [txP_len f HFL.out,List.length_append];simp)
          refine hK _ _ ?_
          clear hK K HC1 r2 ho hg d4 f4 d3 f3 d2 f2
          refine wpAnyIn_ready (rs:=[8]) (by kernel_rfl) (by simp) ?_
          refine AllReadyIn.cons rfl (fun K hK=>?_) AllReadyIn.nil
          go_simp
          refine hK _ _ ?_
          clear hK K
          refine wpAnyIn_done (by kernel_rfl) ?_ _
          gi_wp2
          exact hfin.out
      · go_simp
        refine ⟨trivial,fun _=>by omega,((callsIn_wide.2 (c2x.out _ hKD.out)).mono ?_)⟩
        rintro e1 w2 ⟨rfl,hb2⟩
        refine hK _ _ ?_
        clear hK K
        have hb2':=hidp (HDW.out.trans (hb2.mono HDW.out.size))
        have HCW:=hidp (boxed_after HC.out hb2'.out)
        have d4:=HCW.out.cell;have f4:=HCW.out.frozen
        clear hb2
        refine wpAnyIn_ready (rs:=[0]) (by kernel_rfl) (by simp) ?_
        refine AllReadyIn.cons rfl (fun K hK=>?_) AllReadyIn.nil
        go_simp
        refine hK _ _ ?_
        clear hK K
        refine wpAnyIn_ready (rs:=[7]) (by kernel_rfl) (by simp) ?_
        refine AllReadyIn.cons rfl (fun K hK=>?_) AllReadyIn.nil
        refine if_wanted rfl ?_
        refine wpIn_appS (.tmp 16) (.tmp 22) 174 9 rfl w.heap.size 5 i0 Tryz.underlying174 Tryz.underlying9 HI5.out HZ0.out HZ1.out HZ2.out v (txP f pre) rfl (HR.out.kept hb2'.out (Nat.le_refl _)) T rfl ?_ ?_ ?_
        · rw [hpl,hTs];omega
        · exact Nat.le_trans hsz hb2'.out.size
        · intro v' w3 ho hg
          rw [hTl.out,← hsn.out] at ho
          have hfin:=hidp (IEn.step (E:=w1.heap.size + 1 + 1) (seed:=seed) (x:=x) (D:=W0.heap.size) HFA.out (by omega) HC.out HR.out HA.out HSB.out HB.out hb2'.out hg ho)
          have r2:Own w2 w.heap.size 5 v (txP f pre):=HR.out.kept hb2'.out (Nat.le_refl _)
          have HC1:Boxed w3 (w1.heap.size + 1 + 1) 174 v:=HCW.out.kept hg (HCW.out.not_row (by decide) r2)
          have d5:=HC1.cell;have f5:=HC1.frozen
          obtain ⟨g',cap',rfl⟩:=own_form ho (by rw [txP_len f HFL.out,List.length_append];simp)
          refine hK _ _ ?_
          clear hK K HC1 r2 ho hg d4 f4 d3 f3 d2 f2
          refine wpAnyIn_ready (rs:=[8]) (by kernel_rfl) (by simp) ?_
          refine AllReadyIn.cons rfl (fun K hK=>?_) AllReadyIn.nil
          go_simp
          refine hK _ _ ?_
          clear hK K
          refine wpAnyIn_done (by kernel_rfl) ?_ _
          gi_wp2
          exact hfin.out
 case done =>
  rintro Dd ys W hD hys hI hDD
  subst hys
  obtain ⟨⟨⟨⟨v,c,hrow,-⟩,ha⟩,hsb⟩,hB⟩:=hI
  have hsz:=hB.size
  have hal:=txP_all f
  rw [hal] at hrow
  have hcl:=catL_len f 68 HFL.out
  obtain ⟨g',cap',rfl⟩:=own_form (show Own W w.heap.size 5 v (catL f 68) from hrow) (by omega)
  have HO:Own W w.heap.size 5 (.slice (some ⟨g',0,none⟩) (catL f 68).length cap') (catL f 68):=hrow
  rw [hcl] at c HO
  have d2:=c.cell
  have hstr:=run_str_own (P:=Tryz.prog) (src:=174) (e:=5) (dst:=9) Tryz.underlying174 Tryz.underlying5 Tryz.underlying9 HO
  have HBF:=hidp (hB.grown (grownBy_putObj' W Dd (.deferred none)) hB.size (fun k e=>by cases e;omega))
  have HD:=hidp hDD
  clear ha hB hDD hrow hsb HO c b0 b2 b3 ho0 hB0 hB0w hv0 hal
  gi_wp2_with fail
  refine ⟨by simp,.inl ⟨_,_,rfl,run_takeDeferred HD.out,?_⟩⟩
  refine ⟨_,by simp [results,Tryz.results141,go_sem];rfl,?_⟩
  exact ⟨rfl,HBF.out⟩
 case stop =>
  rintro D c pre W hD hsp hI hK
  exact hI.elim
theorem sign_any (w:World) (seed text:ByteArray) (hs:seed.size≤1048576) (ht:text.size≤281474976710656) (hK:KT w) :
 Calls Tryz.prog 141 #[.string seed,.string text] w fun e w'=>e=.returned (.string (mkS (signL seed.data.toList text.data.toList)))∧Below w.heap.size w w' :=
 (callsIn_wide (n:=8)).1 (sign_in 8 (Nat.le_refl _) w seed text hs ht hK)
end
section
open Go.RowKit
theorem recV_yes (t sig:List UInt8) (h:sig.length=1088):recV t sig=recL t sig:=by unfold recV;simp [h]
theorem recE_yes (sig:List UInt8) (h:sig.length=1088):recE sig=0:=by unfold recE;simp [h]
end
section
open Go.RowKit
end
end Go.Proofs.YtokakgjcegmabaaGreatDoor
