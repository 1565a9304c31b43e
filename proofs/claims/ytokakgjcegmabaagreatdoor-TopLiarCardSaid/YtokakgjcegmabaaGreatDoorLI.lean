import Derived.Test.YtokakgjcegmabaaGreatDoorLH
import Derived.Laws.MakeOwn
import Derived.RangeFuncNested
import Derived.RangeFuncBound
import Derived.RangeFuncCalls
import Derived.RangeFuncLeaves
import Derived.Shelf.Abstract
import Derived.Shelf.RegionOpen
import Derived.WalkKit
import Derived.OwnWalkIn
import Derived.TacticsInMore
import Derived.LoopNIn
import Derived.LoopIn
set_option linter.unusedVariables false
set_option linter.unusedSimpArgs false
set_option maxHeartbeats 64000000
set_option maxRecDepth 100000
namespace Go.Proofs.YtokakgjcegmabaaGreatDoor
section
open Go.RowKit
end
section
open Go.RowKit
theorem zeros_cat (n:Nat):cat32 (List.replicate n z32)=List.replicate (n * 32) (Value.int .u8 0):=by
 induction n with
 | zero=>rfl
 | succ n ih =>
   rw [List.replicate_succ,show cat32 (z32 :: List.replicate n z32)=u8s z32++cat32 (List.replicate n z32) from rfl,ih,show u8s z32=List.replicate 32 (Value.int .u8 0) from by simp [u8s,z32_eq],List.replicate_append_replicate]
   congr 1;omega
theorem made_rep (N k:Nat) (v:Value) (hN:0<N):madeCells (List.replicate N v).toArray k=(List.replicate k v).toArray:=by
 apply Array.ext (by simp [madeCells])
 intro i h1 h2
 simp [madeCells,Nat.mod_lt,hN]
theorem made_zero (n:Nat):madeCells (u8s z32).toArray (n * 32)=(cat32 (List.replicate n z32)).toArray:=by
 have hz:u8s z32=List.replicate 32 (Value.int .u8 0):=by simp [u8s,z32_eq]
 rw [zeros_cat,hz,made_rep 32 _ _ (by omega)]
theorem All32.rep (n:Nat):All32 (List.replicate n z32):=fun x hx=>by rw [(List.mem_replicate.1 hx).2];rfl
theorem cat32_set {hs:List (List UInt8)} (h:All32 hs) (i:Nat) (hi:i<hs.length) (z:List UInt8):cat32 (hs.set i z)=(cat32 hs).take (32 * i)++u8s z++(cat32 hs).drop (32 * i + 32):=by
 have e:hs=hs.take i++(hs[i] :: hs.drop (i + 1)):=by rw [← List.drop_eq_getElem_cons hi,List.take_append_drop]
 have hl:(cat32 (hs.take i)).length=32 * i:=by rw [cat32_len (h.take i),List.length_take,Nat.min_eq_left (by omega)]
 have hx:(u8s hs[i]).length=32:=by rw [u8s_length];exact h.get i hi
 have e2:hs.set i z=hs.take i++(z :: hs.drop (i + 1)):=by
  rw [List.set_eq_take_append_cons_drop,if_pos hi]
 have e3:cat32 hs=cat32 (hs.take i)++(u8s hs[i]++cat32 (hs.drop (i + 1))):=by
  conv=>lhs;rw [e]
  rw [cat32_app];rfl
 have t1:(cat32 hs).take (32 * i)=cat32 (hs.take i):=by rw [e3];exact List.take_left' hl
 have t2:(cat32 hs).drop (32 * i + 32)=cat32 (hs.drop (i + 1)):=by rw [e3,← List.append_assoc];exact List.drop_left' (by rw [List.length_append,hl,hx])
 rw [e2,cat32_app,t1,t2,List.append_assoc]
 rfl
theorem setCells_arr (b t:Nat):∀ (vs:List Value) (o:Nat) (w:World) (xs:List Value),Arr w b t xs→o + vs.length≤xs.length→Arr (w.setCells b o vs) b t (xs.take o++vs++xs.drop (o + vs.length))∧Stp b w (w.setCells b o vs)
 | [],o,w,xs,h,hl=>⟨by simpa [World.setCells] using h,rfl,fun _ _=>rfl,fun N _=>Below.refl N w⟩
 | v :: vs, o, w, xs, h, hl => by
   simp only [List.length_cons] at hl
   obtain ⟨h1,h2⟩:=setCells_arr b t vs (o + 1) (w.setCell ⟨b,o,none⟩ v) (xs.set o v) (h.set o v) (by simp;omega)
   have e1:(xs.set o v).take (o + 1)=xs.take o++[v]:=by
    rw [List.take_set,List.take_add_one,List.getElem?_eq_getElem (by omega),List.set_append_right _ _ (by rw [List.length_take];omega),List.length_take,Nat.min_eq_left (by omega),Nat.sub_self];rfl
   have e2:(xs.set o v).drop (o + 1 + vs.length)=xs.drop (o + 1 + vs.length):=by rw [List.drop_set,if_pos (by omega)]
   rw [e1,e2] at h1
   refine ⟨?_,?_⟩
   · rw [List.length_cons,show o + (vs.length + 1)=o + 1 + vs.length from by omega]
     have:xs.take o++v :: vs++xs.drop (o + 1 + vs.length)=xs.take o++[v]++vs++xs.drop (o + 1 + vs.length):=by simp
     rw [this];exact h1
   · have s1:Stp b w (w.setCell ⟨b,o,none⟩ v):=⟨by simp,fun c hc=>Below.heap_setCell w ⟨b,o,none⟩ v c hc,fun N hN=>(Below.refl N w).setCell (p:=⟨b,o,none⟩) hN v⟩
     exact ⟨h2.size.trans s1.size,fun c hc=>(h2.other c hc).trans (s1.other c hc),fun N hN=>(s1.below N hN).trans (h2.below N hN)⟩
section
variable {ops:Array Oper} {rest:List Oper} {o:Oper} {a:Act} {w:World} {Q:Exit→Act→World→Prop}
theorem wpL_mk (hgd:o.guard=none) (x:Operand) (ho:o.op=.makeSlice 37 x x) (n:Nat) (hx:a.eval x=.int .i64 (n:Int)) (hn:n≤4294967296)
 (h:∀ b W,NewAt w W b 58 (cat32 (List.replicate n z32))→wpList Tryz.prog ops Q rest (a.put o.dst (.slice (some ⟨b,0,none⟩) n n)) W):wpList Tryz.prog ops Q (o :: rest) a w:=by
 obtain ⟨i0,hi,hz0,hz1,hz2⟩:=info_parts infoHash
 refine wpList_plain hgd fun K hK=>?_
 have:=hK _ _ (h w.heap.size (w.alloc (.cells (cat32 (List.replicate n z32)).toArray 58)) (NewAt.mk' _ _ _))
 have hr:=run_make (P:=Tryz.prog) w 37 58 i0 _ hashes_row hi hz0 .i64 .i64 (n:Int) (n:Int) (by omega) (Int.le_refl _) (by rw [hz2];omega) (by omega)
 rw [hz1,Int.toNat_natCast,show (Value.agg (u8s z32).toArray).cells=(u8s z32).toArray from rfl,made_zero] at hr
 unfold Oper.wp execOp
 simp only [ho,hx,Sem.run_bind,hr,Result.andThen_ok]
 exact this
theorem wpL_putAt (hgd:o.guard=none) (x y:Operand) (ho:o.op=.store 58 x y) (b i:Nat) (l:List UInt8) (hs:List (List UInt8)) (hx:a.eval x=.pointer (some ⟨b,0 + 32 * i,none⟩)) (hy:a.eval y=.agg (u8s l).toArray) (hl:l.length=32) (h32:All32 hs) (hi:i<hs.length)
 (hg:Arr w b 58 (cat32 hs)) (h:∀ W,Arr W b 58 (cat32 (hs.set i l))→Stp b w W→wpList Tryz.prog ops Q rest (a.put o.dst undef) W):wpList Tryz.prog ops Q (o :: rest) a w:=by
 have hle:0 + 32 * i + (u8s l).length≤(cat32 hs).length:=by rw [u8s_length,hl,cat32_len h32];omega
 obtain ⟨h1,h2⟩:=setCells_arr b 58 (u8s l) (0 + 32 * i) w (cat32 hs) hg hle
 refine wpList_store_mid hgd 58 x y ho b (0 + 32 * i) (u8s l).toArray hx hy ?_ (hash_size hl) (u8s_one _) (h _ ?_ h2)
 · intro j hj
   have hj:j<(u8s l).length:=by simpa using hj
   refine ⟨?_,hg.frozen _⟩
   rw [hg.cell (0 + 32 * i + j) (by omega)];rfl
 · rw [cat32_set h32 i hi]
   rw [u8s_length,hl] at h1
   simpa using h1
end
end
section
open Go.RowKit Go.Shelf
def ItK (lv:Obj→Prop) (m:Nat) (W W':World):Prop:=Below m W W'∧W.heap.size≤W'.heap.size∧∀ (k:Nat) (o:Obj),W.heap[k]?=some o→¬ lv o→W'.heap[k]?=some o
def KpK (lv:Obj→Prop) (n₀ b:Nat) (W W':World):Prop:=Below n₀ W W'∧W.heap.size≤W'.heap.size∧∀ (k:Nat) (o:Obj),W.heap[k]?=some o→o.isCells=true→(lv o∨k=b)→W'.heap[k]?=some o
def CelK (m:Nat) (W W':World):Prop:=Below m W W'∧W.heap.size≤W'.heap.size∧∀ (k:Nat) (o:Obj),W.heap[k]?=some o→o.isCells=true→W'.heap[k]?=some o
theorem CelK.kp {lv:Obj→Prop} {m n₀ b:Nat} {X Y Z:World} (h:CelK m X Y) (hm:n₀≤m) (k:KpK lv n₀ b Y Z):KpK lv n₀ b X Z :=
 ⟨(h.1.mono hm).trans k.1,Nat.le_trans h.2.1 k.2.1,fun i o hi hc hl=>k.2.2 i o (h.2.2 i o hi hc) hc hl⟩
theorem KpK.cel {lv:Obj→Prop} {m n₀ b:Nat} {X Y Z:World} (h:KpK lv n₀ b X Y) (k:CelK m Y Z) (hm:n₀≤m):KpK lv n₀ b X Z :=
 ⟨h.1.trans (k.1.mono hm),Nat.le_trans h.2.1 k.2.1,fun i o hi hc hl=>k.2.2 i o (h.2.2 i o hi hc hl) hc⟩
theorem CelK.put {m l:Nat} {W:World} {o:Obj} (o':Obj) (hl:m≤l) (h:W.heap[l]?=some o) (hc:o.isCells=false):CelK m W (W.putObj l o') :=
 ⟨(Below.refl m W).grown (grownBy_putObj' W l o') (by have := (Array.getElem?_eq_some_iff.1 h).1;omega) (fun k e => by cases e;exact hl), by simp, fun k o2 hk hc2 => by
   have:k≠l:=fun e=>by subst e;rw [h] at hk;cases hk;rw [hc] at hc2;cases hc2
   exact (World.putObj_heap_other this).trans hk⟩
theorem CelK.of_below {m:Nat} {W W':World} (h:Below W.heap.size W W') (hm:m≤W.heap.size):CelK m W W' :=
 ⟨h.mono hm,h.size,fun k o hk _=>(h.block k (Array.getElem?_eq_some_iff.1 hk).1).trans hk⟩
theorem CelK.trans {m:Nat} {X Y Z:World} (h:CelK m X Y) (k:CelK m Y Z):CelK m X Z:=⟨h.1.trans k.1,Nat.le_trans h.2.1 k.2.1,fun i o hi hc=>k.2.2 i o (h.2.2 i o hi hc) hc⟩
def SeqV {α:Type} (F:Fence) (n:Nat) (P:Program) (g:Nat) (lb:Array Value) (encs:α→Array Value) (blk:α→Nat) (V:List α→α→Nat→World→Prop) (lv:Obj→Prop) (n₀:Nat) (S:List α→Prop) (w:World):Prop :=
 ∀ (l : Nat) (J : List α → World → Prop) (W : World), Below w.heap.size w W →
   (∀ pre x W0 W1,J pre W0→ItK lv w.heap.size W0 W1→V pre x W0.heap.size W1→YieldAt F (n - 1) P l (encs x) W1 fun e W'=>e=.returned (.bool true)∧J (pre++[x]) W'∧KpK lv n₀ (blk x) W1 W') →
   J [] W →
   CallsIn F n P g (#[.func (.yield l) #[] #[]]++lb) W fun e W'=>(∃ v,e=.returned v)∧∃ xs W0,S xs∧J xs W0∧ItK lv w.heap.size W0 W'
def goesOn (R:World→Prop):Exit→Act→World→Prop
 | .normal,_,W=>R W
 | _,_,_=>False
variable {F:Fence} {n:Nat} {P:Program}
theorem wpIn_rangeFunc_V {α:Type} {g:Operand} {ps:Array Tmp} {assign body:Code} {Q:Exit→Act→World→Prop} {a:Act} {w:World}
 (hro:F.round=none) (h1:1≤n) {gf:Nat} {lb:Array Value} (hg:a.eval g=.func (.func gf) #[] lb) (hFg:F.fn gf) (eg:∀ args w,(callFunc gf args).run P w=.ok (.enter gf args) w)
 {encs:α→Array Value} {blk:α→Nat} {V:List α→α→Nat→World→Prop} {lv:Obj→Prop} {n₀:Nat} {S:List α→Prop} (hseq:SeqV F (n - 1) P gf lb encs blk V lv n₀ S w) (hn₀:n₀≤w.heap.size)
 (hlv:∀ o,lv o→o.isCells=true) (hps:∀ x,(encs x).size=ps.size)
 (I:List α→World→Prop) (hI:OwnFrom w.heap.size I) (h0:I [] w) (Ax:α→Act→World→Prop) (hAx:∀ x a' W (l:Nat) (o o':Obj),W.heap[l]?=some o→o.isCells=false→Ax x a' W→Ax x a' (W.putObj l o'))
 (hassign:∀ (l:Nat) (x:α) (W:World) (K:Act→World→Prop),(∀ a' W',Below W.heap.size W W'→Ax x a' W'→K a' W') →
   assign.wpIn (F.inRound l) (n - 1 - 1) P (Exit.then K (fun _ _ _=>False)) { tmps:=(ps.zip (encs x)).foldl (fun t (p,v)=>t.setIfInBounds p v) a.tmps,defers:=[] } W)
 (hbody:∀ (l:Nat) (pre:List α) (x:α) (W0 W1:World) (a':Act) (W:World),I pre W0→ItK lv w.heap.size W0 W1→V pre x W0.heap.size W1→CelK w.heap.size W1 W→Ax x a' W →
   body.wpIn (F.inRound l) (n - 1 - 1) P (goesOn fun W'=>KeepsFrom w.heap.size W W'∧KpK lv n₀ (blk x) W W'∧I (pre++[x]) W') a' W)
 (hdone:∀ (D:Nat) (xs:List α) (W0 W W':World),w.heap.size≤D→S xs→I xs W0→ItK lv w.heap.size W0 W→CelK w.heap.size W W'→W'.heap[D]?=some (.deferred (some []))→Q .normal { a with defers:={ target:=.collected D,args:=#[] } :: a.defers } W') :
 (Code.rangeFunc g ps assign body).wpIn F n P Q a w:=by
 refine wpIn_rangeFunc ?_
 intro fn hfn
 rw [hro]
 obtain ⟨rec,hrec⟩:∃ rec:LoopState→Option Code→Loop,rec=fun st pe=>{ state:=st,pending:=pe,fn,tmps:=a.tmps,params:=ps,assign,body,defers:=w.heap.size }:=⟨_,rfl⟩
 obtain ⟨W1,hW1⟩:∃ W1,(w.alloc (.deferred (some []))).alloc (.loop (rec .ready none))=W1:=⟨_,rfl⟩
 have hL1:W1.heap[w.heap.size + 1]?=some (.loop (rec .ready none)):=by
  rw [← hW1];have:=World.alloc_heap_new (w.alloc (.deferred (some []))) (.loop (rec .ready none));rwa [World.size_alloc] at this
 have hK1:W1.heap[w.heap.size]?=some (.deferred (some [])):=by
  rw [← hW1];exact (Below.heap_alloc _ _ _ (by simp)).trans (World.alloc_heap_new w _)
 have hI1:I [] W1:=by rw [← hW1];exact hI.alloc _ (hI.alloc _ h0)
 have hb1:Below w.heap.size w W1:=by
  rw [← hW1];exact (((Below.refl _ w).alloc (Nat.le_refl _) _).alloc (by simp) _)
 have nlv:∀ o:Obj,o.isCells=false→¬ lv o:=fun o h h'=>by rw [hlv o h'] at h;cases h
 refine ⟨w.heap.size + 1,[{ target:=.collected w.heap.size,args:=#[] }],W1,{ target:=.fn (.func gf) lb,args:=#[.func (.yield (w.heap.size + 1)) #[] #[]] },W1,gf,
  #[.func (.yield (w.heap.size + 1)) #[] #[]]++lb,W1,?_,?_,?_,?_,fun _=>h1,?_⟩
 · rw [← hW1,hrec];exact run_enterLoop_outer _ _ _ _ _
 · simp only [resolve,hg]
   simp [go_sem]
 · intro f' hf';simp [Target.leads] at hf';subst hf';exact hFg
 · simp [invoke,go_sem,eg]
 · refine (hseq (w.heap.size + 1)
    (fun pre W=>I pre W∧W.heap[w.heap.size + 1]?=some (.loop (rec .ready none))∧W.heap[w.heap.size]?=some (.deferred (some [])))
    W1 hb1 ?_ ⟨hI1,hL1,hK1⟩).mono ?_
   · rintro pre x W0 W ⟨hi,hl0,hk0⟩ hit hv
     have hl:=hit.2.2 _ _ hl0 (nlv _ rfl)
     have hk:=hit.2.2 _ _ hk0 (nlv _ rfl)
     have hy:=run_yield (P:=P) (args:=encs x) hl (by rw [hrec];exact hps x)
     rw [hrec] at hy
     refine ⟨fn,_,assign,body,hy,roundIn_of_wpIn hfn (hassign _ x W _ ?_)⟩
     clear hy
     intro a' Wa hba hax
     have hla:Wa.heap[w.heap.size + 1]?=some (.loop (rec .ready none)):=(hba.block _ (Array.getElem?_eq_some_iff.1 hl).1).trans hl
     have hka:Wa.heap[w.heap.size]?=some (.deferred (some [])):=(hba.block _ (Array.getElem?_eq_some_iff.1 hk).1).trans hk
     have hlt:w.heap.size + 1<Wa.heap.size:=(Array.getElem?_eq_some_iff.1 hla).1
     have hms:w.heap.size≤W.heap.size:=Nat.le_of_lt (Array.getElem?_eq_some_iff.1 hk).1
     refine ⟨_,run_beginRound hla (by rw [hrec]),?_⟩
     have hc2:CelK w.heap.size Wa (Wa.putObj (w.heap.size + 1) (.loop { rec .ready none with state:=.busy })):=CelK.put _ (by omega) hla rfl
     have hl2:(Wa.putObj (w.heap.size + 1) (.loop { rec .ready none with state:=.busy })).heap[w.heap.size + 1]?=some (.loop { rec .ready none with state:=.busy }):=World.putObj_heap_same hlt
     have hk2:(Wa.putObj (w.heap.size + 1) (.loop { rec .ready none with state:=.busy })).heap[w.heap.size]?=some (.deferred (some [])):=(World.putObj_heap_other (by omega)).trans hka
     have hc1:CelK w.heap.size W (Wa.putObj (w.heap.size + 1) (.loop { rec .ready none with state:=.busy })):=(CelK.of_below hba hms).trans hc2
     refine wpIn_mono (hbody _ pre x W0 W a' _ hi hit hv hc1 (hAx x a' _ _ _ _ hla rfl hax)) ?_
     rintro e a3 W3 hp
     cases e with
     | normal =>
       obtain ⟨hk3,hkp3,hi3⟩:=hp
       have hl3:=hk3.same _ _ (by omega) hl2 rfl
       have hr:=run_endRound (P:=P) none hl3
       rw [hrec] at hr hl3
       refine ⟨_,_,hr,rfl,⟨hI.putObj _ hi3 (by omega) hl3 rfl,?_,?_⟩,?_⟩
       · rw [hrec];exact World.putObj_heap_same (Array.getElem?_eq_some_iff.1 hl3).1
       · exact (World.putObj_heap_other (by omega)).trans (hk3.same _ _ (Nat.le_refl _) hk2 rfl)
       · exact (hc1.kp hn₀ hkp3).cel (CelK.put _ (by omega) hl3 rfl) hn₀
     | _=>exact hp.elim
   · rintro e W2 ⟨⟨v,rfl⟩,xs,W0,hS,⟨hi,hl0,hk0⟩,hit⟩
     have hl:=hit.2.2 _ _ hl0 (nlv _ rfl)
     have hk:=hit.2.2 _ _ hk0 (nlv _ rfl)
     refine ⟨none,_,by have:=run_endLoop (P:=P) hl (by rw [hrec];simp);rw [hrec] at this;exact this,hdone _ xs W0 W2 _ (Nat.le_refl _) hS hi hit (CelK.put _ (by omega) hl rfl) ((World.putObj_heap_other (by omega)).trans hk)⟩
end
section
open Go.RowKit
theorem infoLvl:(Tryz.prog.info? 227).map (fun i=>(i.zero,i.size,i.bytes))=some (some (.agg #[.slice none 0 0,.nilFunc]),2,32):=by kernel_rfl
theorem lvl_row:∃ fs,Tryz.prog.underlying 227=some (.struct fs):=⟨_,Tryz.underlying227⟩
theorem zero_lvl (w:World):(zeroValue 227).run Tryz.prog w=.ok (.agg #[.slice none 0 0,.nilFunc]) w:=by
 obtain ⟨i0,hi,hz0,hz1,hz2⟩:=info_parts infoLvl
 simp [zeroValue,typeInfo,hi,hz0]
theorem size_lvl:(Tryz.prog.info? 227).map (·.size)=some 2:=by
 obtain ⟨i0,hi,hz0,hz1,hz2⟩:=info_parts infoLvl
 simp [hi,hz1]
def lvV (v:Value):List Value:=[v,.func (.func 170) #[] #[]]
section
variable {ops:Array Oper} {rest:List Oper} {o:Oper} {a:Act} {w:World} {Q:Exit→Act→World→Prop}
theorem wpT_box (T:TypeId) (hgd:o.guard=none) (x:Operand) (ho:o.op=.box T x) (xs:List Value) (hx:a.eval x=.agg xs.toArray)
 (h:∀ b W,NewAt w W b T xs→wpList Tryz.prog ops Q rest (a.put o.dst (.pointer (some ⟨b,0,none⟩))) W):wpList Tryz.prog ops Q (o :: rest) a w:=by
 refine wpList_plain hgd fun K hK=>?_
 have:=hK _ _ (h w.heap.size (w.alloc (.cells xs.toArray T)) (NewAt.mk' _ _ _))
 unfold Oper.wp execOp
 simp only [ho,Instr.box,Sem.run_bind,Result.andThen_ok,hx]
 simp [newVar,newRow,Value.cells]
 exact this
theorem wpT_new (T:TypeId) (hgd:o.guard=none) (ho:o.op=.alloc T) (xs:List Value) (hz:∀ w,(zeroValue T).run Tryz.prog w=.ok (.agg xs.toArray) w)
 (h:∀ b W,NewAt w W b T xs→wpList Tryz.prog ops Q rest (a.put o.dst (.pointer (some ⟨b,0,none⟩))) W):wpList Tryz.prog ops Q (o :: rest) a w:=by
 refine wpList_plain hgd fun K hK=>?_
 have:=hK _ _ (h w.heap.size (w.alloc (.cells xs.toArray T)) (NewAt.mk' _ _ _))
 unfold Oper.wp execOp
 simp only [ho,Instr.alloc,Sem.run_bind,Result.andThen_ok,hz w]
 simp [newVar,newRow,Value.cells]
 exact this
theorem wpT_put (T:TypeId) (hgd:o.guard=none) (x y:Operand) (ho:o.op=.store T x y) (b:Nat) (xs:List Value) (hx:a.eval x=.pointer (some ⟨b,0,none⟩)) (hy:a.eval y=.agg xs.toArray) (old:List Value) (hold:old.length=xs.length) (hT:(Tryz.prog.info? T).map (·.size)=some xs.length) (h1:∀ v ∈ xs,v.oneCell'=true)
 (hg:Arr w b T old) (h:∀ W,Arr W b T xs→Stp b w W→wpList Tryz.prog ops Q rest (a.put o.dst undef) W):wpList Tryz.prog ops Q (o :: rest) a w :=
 wpList_store_row hgd T x y ho b xs.toArray hx hy T _ hg (by simpa using hT) (by simpa using hold) (all_oneCell_toArray h1) (h _ (Arr.row hg _) (Stp.setRow _ _ _))
end
theorem lvV_one (a:Option Addr) (n c:Nat):∀ v ∈ lvV (.slice a n c),v.oneCell'=true:=by
 intro v hv
 simp only [lvV,List.mem_cons,List.not_mem_nil,or_false] at hv
 rcases hv with rfl | rfl <;> rfl
theorem row_set (ps:List (List UInt8)) (M i:Nat) (hM:ps.length=M) (hi:i<M):(ps.take i++List.replicate (M - i) z32).set i ps[i]=ps.take (i + 1)++List.replicate (M - (i + 1)) z32:=by
 rw [List.set_append_right _ _ (by rw [List.length_take];omega),List.length_take,Nat.min_eq_left (by omega),Nat.sub_self,show M - i=(M - (i + 1)) + 1 from by omega,List.replicate_succ,List.set_cons_zero,List.take_add_one,List.getElem?_eq_getElem (by omega),List.append_assoc]
 rfl
theorem parents_any (w:World) (v:Value) (hs:List (List UInt8)) (hH:HsAt w v hs) (M:Nat) (hN:hs.length=M + M) (hM:M≤64) (hp:0<M) (hK:KT w) :
 Calls Tryz.prog 194 #[.agg (lvV v).toArray] w fun e w'=>∃ b,e=.returned (.agg (lvV (.slice (some ⟨b,0,none⟩) M M)).toArray)∧w.heap.size≤b∧b<w'.heap.size∧w'.rangeAt b 0 (cat32 (pairL hs))∧Below w.heap.size w w':=by
 obtain ⟨B,off,c,rfl,hc,hB,hr⟩:=hH.get (by omega)
 have HK:=hidp hK;have HR:=hidp hr;have H32:=hidp hH.1
 have hkp:=hK.pos
 have hpl:=hidp (show (pairL hs).length=M from by rw [pairL_len];omega)
 have hp32:=hidp (pairL_32 hs)
 have hget:=hidp (fun i (h:2 * i + 1<hs.length)=>pairL_get hs i h)
 have hN':=hidp hN
 rw [hN]
 obtain ⟨N,hNN⟩:∃ N,M + M=N:=⟨_,rfl⟩
 rw [hNN] at hN' ⊢
 have hNM:=hidp hNN
 have hq1:((N:Int)).tdiv 2=(M:Int):=by rw [Int.tdiv_eq_ediv_of_nonneg (by omega)];omega
 have hq2:((N:Int)) / 2=(M:Int):=by omega
 have hwM:IntKind.i64.wrap (M:Int)=(M:Int):=by rw [IntKind.wrap_i64];omega
 clear hH hK hr hN hNN hc
 go_enter Tryz.func194,Tryz.ntmps194
 go_wp2_with (first
  | (refine wpT_box 227 rfl (.tmp 0) rfl (lvV _) rfl ?_;intro b1 w1 n1)
  | (refine wpT_new 227 rfl rfl _ zero_lvl ?_;intro b2 w2 n2
     have hx0:=(n2.old n1.arr).cell 0 (by simp [lvV])
     simp only [lvV,List.getElem_cons_zero] at hx0)
  | (refine wpL_mk rfl (.tmp 8) rfl M rfl (by omega) ?_;intro b3 w3 n3))
 have hB3:=hidp ((n1.below.trans (n2.below.mono n1.below.size)).trans (n3.below.mono (Nat.le_trans n1.below.size n2.below.size)))
 have hA1:=hidp (n3.old (n2.old n1.arr))
 have hA2:=hidp (n3.old n2.arr)
 have hA3:=hidp n3.arr
 have h3w:=hidp (show w.heap.size≤b3 from Nat.le_trans (Nat.le_trans n1.below.size n2.below.size) n3.le)
 have h2w:=hidp (show w.heap.size≤b2 from Nat.le_trans n1.below.size n2.le)
 have h13:=hidp (show b1≠b3 from by have:=(n2.old n1.arr).lt;have:=n3.at_;omega)
 have h23:=hidp (show b2≠b3 from by have:=n2.lt;have:=n3.at_;omega)
 clear n1 n2 n3 hx0
 go_wp2
 go_loopw [12] (fun t12 wr=>∃ i:Nat,t12=.int .i64 (i:Int)∧i≤M∧Arr wr b3 58 (cat32 ((pairL hs).take i++List.replicate (M - i) z32))∧Arr wr b1 227 (lvV (.slice (some ⟨B,off,none⟩) N c))∧Arr wr b2 227 [.slice none 0 0,.nilFunc]∧Below w.heap.size w wr) (fun t12 _=>M - (intOf t12).toNat)
 case atStart=>exact ⟨0,rfl,by omega,by simpa using hA3.out,hA1.out,hA2.out,hB3.out⟩
 case round =>
  obtain ⟨i,rfl,hi,hc,ha1,ha2,hbw⟩:=hrel
  have HC:=hidp hc;have HA1:=hidp ha1;have HA2:=hidp ha2;have HBW:=hidp hbw
  clear hc ha1 ha2 hbw hA1 hA2 hA3 hB3
  by_cases hlt:i<M
  · have ti:((i:Int)<(M:Int)):=by omega
    have hj:2 * i + 1<hs.length:=by rw [hN'.out];have:=hNM.out;omega
    have hz:=hget.out i hj
    have hx1:hs.getD (2 * i) z32=hs[2 * i]:=by rw [List.getD_eq_getElem?_getD,List.getElem?_eq_getElem (by omega)];rfl
    have hy1:hs.getD (2 * i + 1) z32=hs[2 * i + 1]:=by rw [List.getD_eq_getElem?_getD,List.getElem?_eq_getElem hj];rfl
    have hp1:(pairL hs).getD i z32=(pairL hs)[i]'(by rw [hpl.out];exact hlt):=by rw [List.getD_eq_getElem?_getD,List.getElem?_eq_getElem (by rw [hpl.out];exact hlt)];rfl
    rw [hx1,hy1,hp1] at hz
    have hxl:=H32.out.get (2 * i) (by omega)
    have hyl:=H32.out.get (2 * i + 1) hj
    have rx:=range_nth HR.out H32.out (2 * i) (by omega)
    have ry:=range_nth HR.out H32.out (2 * i + 1) hj
    have hrs:=row_set (pairL hs) M i hpl.out hlt
    rw [hz] at hrs
    have hIJ:2 * i + 1<N:=by rw [← hN'.out];exact hj
    obtain ⟨x,hx⟩:∃ x,hs[2 * i]=x:=⟨_,rfl⟩
    obtain ⟨y,hy⟩:∃ x,hs[2 * i + 1]=x:=⟨_,rfl⟩
    rw [hx] at hxl rx hrs
    rw [hy] at hyl ry hrs
    have hJ0:(2:Int) * (i:Int)=((2 * i:Nat):Int):=by omega
    have hwJ:IntKind.i64.wrap ((2 * i:Nat):Int)=((2 * i:Nat):Int):=by rw [IntKind.wrap_i64];omega
    have hwJ0:IntKind.i64.wrap ((2:Int) * (i:Int))=((2 * i:Nat):Int):=by rw [hJ0,hwJ]
    have hK1:((2 * i:Nat):Int) + 1=((2 * i + 1:Nat):Int):=by omega
    have hwK:IntKind.i64.wrap ((2 * i + 1:Nat):Int)=((2 * i + 1:Nat):Int):=by rw [IntKind.wrap_i64];omega
    obtain ⟨K1,hKe⟩:∃ k,2 * i + 1=k:=⟨_,rfl⟩
    rw [hKe] at hK1 hwK ry hIJ
    obtain ⟨J,hJe⟩:∃ k,2 * i=k:=⟨_,rfl⟩
    have hJN:=hidp (show J<N from by omega)
    have hKN:=hidp hIJ
    rw [hJe] at hJ0 hwJ hwJ0 hK1 rx
    have ca:=hidp (show ∀ v,Cls wr.heap.size wr v→Calls Tryz.prog 170 #[.agg (u8s x).toArray,.agg (u8s y).toArray] v fun e w'=>e=.returned (.agg (u8s (abvL x y)).toArray)∧Cls wr.heap.size wr w' from fun v hv =>
     (above_any v x y hxl hyl (hv.kt (HK.out.below HBW.out hkp) (Nat.lt_of_lt_of_le hkp HBW.out.size))).mono fun e w' ⟨h1,h2⟩=>⟨h1,hv.step (Nat.le_refl _) h2⟩)
    have hzl:=abvL_len x y
    obtain ⟨z,hze⟩:∃ z,abvL x y=z:=⟨_,rfl⟩
    rw [hze] at ca hzl hrs
    have r1:=hidp (show ∀ v,Cls wr.heap.size wr v→v.rangeAt B (off + 32 * J) (u8s x) from fun v hv=>rangeAt_below (rangeAt_below rx HBW.out hB) hv (Nat.lt_of_lt_of_le hB HBW.out.size))
    have r2:=hidp (show ∀ v,Cls wr.heap.size wr v→v.rangeAt B (off + 32 * K1) (u8s y) from fun v hv=>rangeAt_below (rangeAt_below ry HBW.out hB) hv (Nat.lt_of_lt_of_le hB HBW.out.size))
    have hx0:=hidp (show ∀ v,Cls wr.heap.size wr v→v.cell? ⟨b1,0,none⟩=some (.slice (some ⟨B,off,none⟩) N c) from fun v hv=>(HA1.out.below hv HA1.out.lt).cell 0 (by simp [lvV]))
    have hx9:=hidp (show ∀ v,Cls wr.heap.size wr v→v.cell? ⟨b1,1,none⟩=some (.func (.func 170) #[] #[]) from fun v hv=>(HA1.out.below hv HA1.out.lt).cell 1 (by simp [lvV]))
    have HRS:=hidp hrs
    clear hx hy hz hx1 hy1 hp1 hrs hze hj rx ry hJe hKe hIJ
    go_wp2
    refine wp_region_then (C:=Cls wr.heap.size wr) 19 (by kernel_rfl) (by kernel_rfl) (Cls.start _ _) ?_
    simp only [List.take,List.drop]
    repeat (first
     | (refine q_idx ?_ (.tmp 20) (.tmp 22) rfl B off _ _ J rfl rfl hJN.out ?_
        · rfl
        simp only [aR])
     | (refine q_idx ?_ (.tmp 26) (.tmp 29) rfl B off _ _ K1 rfl rfl hKN.out ?_
        · rfl
        simp only [aR])
     | (refine q_idx ?_ (.tmp 15) (.tmp 16) rfl b3 0 _ _ i rfl rfl hlt ?_
        · rfl
        simp only [aR])
     | (refine q_mid ?_ (.tmp 23) rfl B (off + 32 * J) x rfl hxl r1.out ?_
        · rfl
        simp only [aR])
     | (refine q_mid ?_ (.tmp 30) rfl B (off + 32 * K1) y rfl hyl r2.out ?_
        · rfl
        simp only [aR])
     | (refine q_call ?_ 170 _ ?_ ca.out ?_
        · rfl
        · intro w;go_simp;done
        simp only [aR])
     | (apply q_val
        · rfl
        · intro w hw;have hx0:=hx0.out w hw;have hx9:=hx9.out w hw;go_simp;first | done | with_reducible rfl | rfl
        simp only [aR]))
    refine wpQuiet_nil ?_
    intro w4 hC
    have hC4:=hidp (show Below wr.heap.size wr w4 from hC)
    have hR4:=hidp (HC.out.below hC4.out HC.out.lt)
    have hA14:=hidp (HA1.out.below hC4.out HA1.out.lt)
    have hA24:=hidp (HA2.out.below hC4.out HA2.out.lt)
    have hB4:=hidp (HBW.out.trans (hC4.out.mono HBW.out.size))
    have hrl:=hidp (show All32 ((pairL hs).take i++List.replicate (M - i) z32) from (hp32.out.take i).app (All32.rep _))
    have hil:=hidp (show i<((pairL hs).take i++List.replicate (M - i) z32).length from by rw [List.length_append,List.length_take,List.length_replicate,hpl.out];omega)
    clear hC r1 r2 hx0 hx9 ca
    go_wp2_with (refine wpL_putAt rfl (.tmp 33) (.tmp 32) rfl b3 i z _ rfl rfl hzl hrl.out hil.out hR4.out ?_;intro w5 ha5 hp5
                 have ha5:=hidp ha5)
    exact ⟨⟨i + 1,by go_num,by omega,by rw [← HRS.out];exact ha5.out,hp5.arr h13.out hA14.out,hp5.arr h23.out hA24.out,hp5.below' hB4.out h3w.out⟩,by simp [intOf];omega⟩
  · obtain rfl:i=M:=by omega
    have hfin:=hidp (show Arr wr b3 58 (cat32 (pairL hs)) from by
     have:=HC.out
     rw [List.take_of_length_le (by rw [hpl.out];exact Nat.le_refl _),Nat.sub_self] at this
     simpa using this)
    have hx9:=HA1.out.cell 1 (by simp [lvV])
    simp only [lvV,List.getElem_cons_succ,List.getElem_cons_zero] at hx9
    go_wp2_with (first
     | (refine wpT_put 227 rfl (.tmp 2) (.tmp 38) rfl b2 (lvV (.slice (some ⟨b3,0,none⟩) i i)) rfl rfl [.slice none 0 0,.nilFunc] rfl size_lvl (lvV_one _ _ _) HA2.out ?_;intro w6 ha6 hp6))
    obtain ⟨fs,hfs⟩:=lvl_row
    refine bodyPost_ret (results_cell_row (P:=Tryz.prog) Tryz.results194 _ _ b2 227 _ (0,0) _ rfl ha6 hfs rfl (by rw [size_lvl];rfl)) rfl ?_
    refine ⟨b3,rfl,h3w.out,?_,?_,hp6.below' HBW.out h2w.out⟩
    · rw [hp6.size];exact hfin.out.lt
    · exact (hp6.arr h23.out.symm hfin.out).range
end
section
open Go.RowKit Go.Shelf
attribute [local go_sem] Oper.semAt_some
section
variable {F:Fence} {n:Nat} {P:Program} {ops:Array Oper} {rest:List Oper} {o:Oper} {a:Act} {w:World} {Q:Exit→Act→World→Prop}
theorem wpIn_value (hgd:o.guard=none) (hn:∀ c,o.op≠.defer c) (hab:∀ f,o.about P w a.eval=some f→F.fn f) (v:Value) (W:World) (hr:(execOp a.eval o).run P w=.ok (.value v) W) (h:wpListIn F n P ops Q rest (a.put o.dst v) W):wpListIn F n P ops Q (o :: rest) a w:=by
 refine wpListIn_plain hgd fun K hK=>?_
 unfold Oper.wpIn
 refine ⟨hab,?_⟩
 rw [Oper.semAt_plain F _ _ hn,hr]
 exact hK _ _ h
theorem wpIn_skip (hgd:o.guard=none) (hn:∀ c,o.op≠.defer c) (hab:∀ f,o.about P w a.eval=some f→F.fn f) (W:World) (hr:(execOp a.eval o).run P w=.ok .skip W) (h:wpListIn F n P ops Q rest (a.put o.dst undef) W):wpListIn F n P ops Q (o :: rest) a w:=by
 refine wpListIn_plain hgd fun K hK=>?_
 unfold Oper.wpIn
 refine ⟨hab,?_⟩
 rw [Oper.semAt_plain F _ _ hn,hr]
 exact hK _ _ h
end
section
variable {F:Fence} {n:Nat} {ops:Array Oper} {rest:List Oper} {o:Oper} {a:Act} {w:World} {Q:Exit→Act→World→Prop}
theorem fT_new (T:TypeId) (hgd:o.guard=none) (ho:o.op=.alloc T) (xs:List Value) (hz:∀ w,(zeroValue T).run Tryz.prog w=.ok (.agg xs.toArray) w)
 (h:∀ b W,NewAt w W b T xs→wpListIn F n Tryz.prog ops Q rest (a.put o.dst (.pointer (some ⟨b,0,none⟩))) W):wpListIn F n Tryz.prog ops Q (o :: rest) a w:=by
 refine wpIn_value hgd (by rw [ho];intro c hc;cases hc) (by simp [Oper.about,ho]) _ _ ?_ (h w.heap.size (w.alloc (.cells xs.toArray T)) (NewAt.mk' _ _ _))
 unfold execOp
 simp only [ho,Instr.alloc,Sem.run_bind,Result.andThen_ok,hz w]
 simp [newVar,newRow,Value.cells]
theorem fT_put (T:TypeId) (hgd:o.guard=none) (x y:Operand) (ho:o.op=.store T x y) (b:Nat) (xs:List Value) (hx:a.eval x=.pointer (some ⟨b,0,none⟩)) (hy:a.eval y=.agg xs.toArray) (old:List Value) (hold:old.length=xs.length) (hT:(Tryz.prog.info? T).map (·.size)=some xs.length) (h1:∀ v ∈ xs,v.oneCell'=true)
 (hg:Arr w b T old) (h:∀ W,Arr W b T xs→Stp b w W→wpListIn F n Tryz.prog ops Q rest (a.put o.dst undef) W):wpListIn F n Tryz.prog ops Q (o :: rest) a w:=by
 refine wpIn_skip hgd (by rw [ho];intro c hc;cases hc) (by simp [Oper.about,ho]) _ ?_ (h _ (Arr.row hg xs) (Stp.setRow _ _ _))
 unfold execOp
 simp only [ho,hx,hy,Instr.storeAt,Instr.sureAddr,Sem.run_bind,Sem.run_pure,Result.andThen_ok,run_storeVar_row w b T T old.toArray xs.toArray hg (by simpa using hT) (by simpa using hold) (all_oneCell_toArray h1)]
theorem fT_get (T:TypeId) (hgd:o.guard=none) (x:Operand) (ho:o.op=.load T x) (b:Nat) (xs:List Value) (hx:a.eval x=.pointer (some ⟨b,0,none⟩)) (d:TypeDesc) (hd:Tryz.prog.underlying T=some d) (hr:d.isRow=true) (hT:(Tryz.prog.info? T).map (·.size)=some xs.length) (hg:Arr w b T xs)
 (h:wpListIn F n Tryz.prog ops Q rest (a.put o.dst (.agg xs.toArray)) w):wpListIn F n Tryz.prog ops Q (o :: rest) a w:=by
 refine wpIn_value hgd (by rw [ho];intro c hc;cases hc) (by simp [Oper.about,ho]) _ _ ?_ h
 unfold execOp
 simp only [ho,hx,Sem.run_bind,run_loadAt_mid w b 0 T xs d hg.range hd hr hT,Result.andThen_ok,Sem.run_pure]
end
structure LvX where
 b:Nat
 o:Nat
 c:Nat
 hs:List (List UInt8)
def LvX.v (x:LvX):Value:=.slice (some ⟨x.b,x.o,none⟩) x.hs.length x.c
theorem LvX.one (x:LvX):∀ v ∈ lvV x.v,v.oneCell'=true:=lvV_one _ _ _
def encX (x:LvX):Array Value:=#[.agg (lvV x.v).toArray]
structure VX (n₀:Nat) (x:LvX) (k:Nat) (W:World):Prop where
 le:x.hs.length≤x.c
 range:W.rangeAt x.b x.o (cat32 x.hs)
 all:All32 x.hs
 pos:0<x.hs.length
 most:x.hs.length≤128
 lt:x.b<W.heap.size
 own:x.b<n₀∨k≤x.b
theorem VX.hs {n₀ k:Nat} {x:LvX} {W:World} (h:VX n₀ x k W):HsAt W x.v x.hs:=by
 exact ⟨h.all,.inr ⟨x.b,x.o,x.c,rfl,h.le,h.lt,h.range⟩⟩
theorem VX.kept {n₀ k k':Nat} {x:LvX} {W W':World} (h:VX n₀ x k W) (hb:W'.heap[x.b]?=W.heap[x.b]?) (hs:W.heap.size≤W'.heap.size) (hk:k'≤k):VX n₀ x k' W':=by
 refine ⟨h.le,fun j v hv=>?_,h.all,h.pos,h.most,Nat.lt_of_lt_of_le h.lt hs,h.own.imp id (Nat.le_trans hk)⟩
 rw [World.cell?_of_block (show W'.heap[(⟨x.b,x.o + j,none⟩:Addr).block]?=_ from hb)]
 exact h.range j v hv
theorem VX.cells {n₀ k:Nat} {x:LvX} {W:World} (h:VX n₀ x k W):∃ o:Obj,W.heap[x.b]?=some o∧o.isCells=true:=by
 have hl:=cat32_len h.all
 have hp:=h.pos
 have h0:0<(cat32 x.hs).length:=by omega
 have:=h.range 0 _ (List.getElem?_eq_getElem h0)
 exact cells_of_cell this
def isLv (o:Obj):Prop:=∃ cs fz,o=.cells cs 227 fz
theorem isLv_cells (o:Obj) (h:isLv o):o.isCells=true:=by obtain ⟨cs,fz,rfl⟩:=h;rfl
theorem levels_any (w:World) (v:Value) :
 Calls Tryz.prog 169 #[.agg (lvV v).toArray] w fun e W=>∃ b,e=.returned (.func (.func 193) #[] #[.pointer (some ⟨b,0,none⟩)])∧NewAt w W b 227 (lvV v):=by
 go_enter Tryz.func169,Tryz.ntmps169
 go_wp2_with (refine wpT_box 227 rfl (.tmp 0) rfl (lvV _) rfl ?_;intro b1 w1 n1)
 go_ret
 exact ⟨_,rfl,n1⟩
def upToT (j:Nat) (hs:List (List UInt8)) (xs:List LvX):Prop:=xs.map (·.hs)=(List.range j).map fun i=>lvl i hs
theorem upTo_snoc {j:Nat} {hs:List (List UInt8)} {xs:List LvX} {x:LvX} (h:upToT j hs xs) (hx:x.hs=lvl j hs):upToT (j + 1) hs (xs++[x]):=by
 unfold upToT at h ⊢
 rw [List.map_append,h,List.range_succ,List.map_append]
 simp [hx]
theorem ItK.refl (lv:Obj→Prop) (m:Nat) (W:World):ItK lv m W W:=⟨Below.refl m W,Nat.le_refl _,fun _ _ h _=>h⟩
theorem ItK.grow {lv:Obj→Prop} {m:Nat} {W W':World} (h:Below W.heap.size W W') (hm:m≤W.heap.size):ItK lv m W W':=⟨h.mono hm,h.size,fun k o hk _=>(h.block k (Array.getElem?_eq_some_iff.1 hk).1).trans hk⟩
theorem ItK.put {lv:Obj→Prop} {m b t:Nat} {xs:List Value} {W0 W W':World} (h:ItK lv m W0 W) (k:Stp b W W') (hb:m≤b) (ha:Arr W b t xs) (hl:lv (.cells xs.toArray t (0,0))):ItK lv m W0 W' :=
 ⟨h.1.trans (k.below m hb),Nat.le_trans h.2.1 k.sz,fun i o hi hno=>by
   have h1:=h.2.2 i o hi hno
   by_cases e:i=b
   · subst e;rw [show W.heap[i]?=_ from ha] at h1;cases h1;exact absurd hl hno
   · exact (k.other i e).trans h1⟩
theorem upToT.len {j:Nat} {hs:List (List UInt8)} {xs:List LvX} (h:upToT j hs xs):xs.length=j:=by
 have:=congrArg List.length h
 simpa using this
def VP (n₀ K:Nat) (hs:List (List UInt8)) (pre:List LvX) (x:LvX) (k:Nat) (W:World):Prop:=VX n₀ x k W∧pre.length≤K∧x.hs=lvl pre.length hs
def rowLen (s:Nat) (W:World):Nat:=match W.cell? ⟨s,0,none⟩ with
 | some (.slice _ n _)=>n
 | _=>0
theorem levels_seq (n:Nat) (hn:8≤n) (n₀ B1 K:Nat) (hK7:K≤7) (x0:LvX) (hl0:x0.hs.length=2 ^ K) (w:World) (hB1:Arr w B1 227 (lvV x0.v)) (hV:VX n₀ x0 w.heap.size w) (hx0:x0.b<n₀) (hn₀:n₀≤w.heap.size) (hp0:2<n₀) (hKT:KT w) :
 SeqV Fence.wide n Tryz.prog 193 #[.pointer (some ⟨B1,0,none⟩)] encX (·.b) (VP n₀ K x0.hs) isLv n₀ (fun xs=>upToT (K + 1) x0.hs xs) w:=by
 intro l J W hW hY h0
 refine callsIn_of_wp Tryz.func193 rfl trivial ?_ rfl
 simp only [Tryz.ntmps193,List.size_toArray,List.length_cons,List.length_nil,Nat.reduceAdd,Nat.reduceSub,Array.replicate_succ,Array.replicate_zero,List.push_toArray,List.append_toArray,List.nil_append,List.cons_append]
 have HY:=hidp hY
 have hA1:=hidp (hB1.below hW hB1.lt)
 have hmW:=hW.size
 obtain ⟨fs,hfs⟩:=lvl_row
 have HFS:=hidp hfs
 obtain ⟨va,vn,vc,hve⟩:∃ a n c,x0.v=.slice a n c:=⟨_,_,_,rfl⟩
 clear hY hfs
 gi_wp2_with (first
  | (refine fT_get 227 rfl (.tmp 1) rfl B1 (lvV x0.v) rfl _ HFS.out rfl size_lvl hA1.out ?_)
  | (refine fT_new 227 rfl rfl _ zero_lvl ?_;intro s w1 n1)
  | (refine fT_put 227 rfl (.tmp 3) (.tmp 4) rfl s (lvV x0.v) rfl rfl [.slice none 0 0,.nilFunc] rfl size_lvl (by rw [hve];exact lvV_one _ _ _) n1.arr ?_;intro w2 ha2 hp2))
 have hs0:=hidp (show w.heap.size≤s from Nat.le_trans hmW n1.le)
 have hB2:=n1.put hp2
 have hI2:=hidp (show ItK isLv w.heap.size W w2 from ItK.grow hB2 hmW)
 have hV2:=hidp (show VX n₀ x0 W.heap.size w2 from by
  have:=hV.kept (W':=w2) (k':=w.heap.size) (by
   have h1:x0.b<w.heap.size:=hV.lt
   exact (hB2.block _ (by omega)).trans (hW.block _ h1)) (Nat.le_trans hmW hB2.size) (Nat.le_refl _)
  exact ⟨this.le,this.range,this.all,this.pos,this.most,this.lt,.inl hx0⟩)
 have hK2:=hidp (hKT.below (hW.trans (hB2.mono hmW)) hKT.pos)
 have hb02:=hidp (show Below n₀ w w2 from (hW.mono hn₀).trans (hB2.mono (by omega)))
 have HA2:=hidp ha2
 have H0:=hidp h0
 have HSN:=hidp hl0
 clear n1 hp2 hB2 ha2 h0 hV
 gi_loopw [7] (fun t7 wr=>∃ (j:Nat) (pre:List LvX) (W0:World) (x:LvX),j≤K∧upToT j x0.hs pre∧J pre W0∧ItK isLv w.heap.size W0 wr∧x.hs=lvl j x0.hs∧VX n₀ x W0.heap.size wr∧Arr wr s 227 (lvV x.v)∧Below n₀ w wr) (fun _ wr=>rowLen s wr)
 case atStart=>exact ⟨0,[],W,x0,by omega,rfl,H0.out,hI2.out,(lvl_zero _).symm,hV2.out,HA2.out,hb02.out⟩
 case round =>
  obtain ⟨j,pre,W0,x,hj,hup,hJ,hit,hxs,hv,ha,hb⟩:=hrel
  clear hI2 hV2 hK2 hb02 HA2 H0
  obtain ⟨fn,tmps,assign,body,hy,hR⟩:=HY.out pre x W0 wr hJ hit ⟨hv,by rw [hup.len];exact hj,by rw [hup.len];exact hxs⟩
  obtain ⟨xb,xo,xc,xhs⟩:=x
  dsimp only [LvX.v] at hxs ha
  have hlj:=lvl_len j K x0.hs HSN.out hj
  have hxl:xhs.length=2 ^ (K - j):=by rw [← hlj];exact congrArg List.length hxs
  have HV:=hidp hv;have HA:=hidp ha;have HB:=hidp hb;have HIT:=hidp hit;have HUP:=hidp hup;have HXS:=hidp hxs
  simp only [encX,LvX.v] at hy hR
  have HXL:=hidp hxl
  clear hv ha hb hit hup hJ hxl hlj hxs
  gi_wp2_with (refine fT_get 227 rfl (.tmp 3) rfl s (lvV (.slice (some ⟨xb,xo,none⟩) xhs.length xc)) rfl _ HFS.out rfl size_lvl HA.out ?_)
  refine ⟨fun _=>by omega,hR.mono ?_⟩
  rintro e1 W3 ⟨rfl,hJ3,hk3⟩
  have hA3:Arr W3 s 227 (lvV (.slice (some ⟨xb,xo,none⟩) xhs.length xc)):=hk3.2.2 s _ HA.out rfl (.inl ⟨_,_,rfl⟩)
  have hV3:VX n₀ ⟨xb,xo,xc,xhs⟩ W0.heap.size W3:=by
   obtain ⟨o,ho,hoc⟩:=HV.out.cells
   exact HV.out.kept ((hk3.2.2 _ _ ho hoc (.inr rfl)).trans ho.symm) hk3.2.1 (Nat.le_refl _)
  have hb3:=HB.out.trans hk3.1
  have hx0:=hA3.cell 0 (by simp [lvV])
  have hxw:=HA.out.cell 0 (by simp [lvV])
  simp only [lvV,List.getElem_cons_zero] at hx0 hxw
  have hrl:=hidp (show rowLen s wr=xhs.length from by unfold rowLen;rw [hxw])
  have HA3:=hidp hA3;have HV3:=hidp hV3;have HB3:=hidp hb3;have HJ3:=hidp hJ3
  have HUP3:=hidp (upTo_snoc (x:=⟨xb,xo,xc,xhs⟩) HUP.out HXS.out)
  have hms:=hidp (show w.heap.size≤W3.heap.size from Nat.le_trans (Nat.le_trans hs0.out (Nat.le_of_lt HA.out.lt)) hk3.2.1)
  have hKT3:=hidp (hKT.below hb3 hp0)
  clear hk3 hA3 hV3 hb3 hR hy hxw hJ3
  have hxl:=HXL.out
  by_cases hlt:j<K
  · have hM2:xhs.length=2 ^ (K - j - 1) + 2 ^ (K - j - 1):=by rw [hxl,← two_pow_succ,show K - j - 1 + 1=K - j from by omega]
    have hMp:0<2 ^ (K - j - 1):=Nat.pow_pos (by omega)
    have hM64:2 ^ (K - j - 1)≤64:=by
     have:=Nat.pow_le_pow_right (n:=2) (show 0<2 by omega) (show K - j - 1≤6 by omega)
     simpa using this
    obtain ⟨M,hMe⟩:∃ M,2 ^ (K - j - 1)=M:=⟨_,rfl⟩
    rw [hMe] at hM2 hMp hM64
    have cp:=hidp (parents_any W3 (.slice (some ⟨xb,xo,none⟩) xhs.length xc) xhs HV3.out.hs M hM2 hM64 hMp hKT3.out)
    have hpl:=hidp (show (pairL xhs).length=M from by rw [pairL_len];omega)
    have hrl2:=hidp (show M<xhs.length from by omega)
    have hnx:=hidp (show pairL xhs=lvl (j + 1) x0.hs from by rw [lvl_succ];exact congrArg pairL HXS.out)
    obtain ⟨L,hL⟩:∃ L,xhs.length=L:=⟨_,rfl⟩
    rw [hL] at hx0 hM2 hrl hrl2
    have hL2:=hidp hL
    have t1:decide ((L:Int) > 1)=true:=by simp;omega
    rw [hL] at HA3 cp ⊢
    have HML:=hidp (show M≤128∧0<M from ⟨by omega,hMp⟩)
    clear hMe hxl hL hM2 hMp hM64
    gi_wp2_with (refine fT_get 227 rfl (.tmp 3) rfl s (lvV (.slice (some ⟨xb,xo,none⟩) L xc)) rfl _ HFS.out rfl size_lvl HA3.out ?_)
    refine ⟨trivial,fun _=>by omega,?_⟩
    refine (callsIn_wide.2 cp.out).mono ?_
    rintro e4 W4 ⟨b',rfl,hb1,hb2,hr4,hbw⟩
    have hA4:=hidp (HA3.out.below hbw HA3.out.lt)
    have HR4:=hidp hr4
    have HBW:=hidp hbw
    have hb1:=hidp hb1;have hb2:=hidp hb2
    have hsb:=hidp (show s≠b' from by have:=HA3.out.lt;have:=hb1.out;omega)
    clear hr4 hbw hx0
    gi_wp2_with (refine fT_put 227 rfl (.tmp 3) (.tmp 15) rfl s (lvV (.slice (some ⟨b',0,none⟩) M M)) rfl rfl (lvV (.slice (some ⟨xb,xo,none⟩) L xc)) rfl size_lvl (lvV_one _ _ _) hA4.out ?_;intro W5 ha5 hp5)
    have hx5:=ha5.cell 0 (by simp [lvV])
    simp only [lvV,List.getElem_cons_zero] at hx5
    refine ⟨⟨_,_,_,_,_,_,_,_,_,_,_,⟨j + 1,_,W3,⟨b',0,M,pairL xhs⟩,hlt,HUP3.out,HJ3.out,?_,hnx.out,?_,?_,?_⟩,rfl⟩,?_⟩
    · exact (ItK.grow HBW.out hms.out).put hp5 hs0.out hA4.out ⟨_,_,rfl⟩
    · refine ⟨by rw [hpl.out];exact Nat.le_refl _,?_,pairL_32 _,by rw [hpl.out];exact HML.out.2,by rw [hpl.out];exact HML.out.1,by rw [hp5.size];exact hb2.out,.inr hb1.out⟩
      intro i v hv
      rw [World.cell?_of_block (show W5.heap[(⟨b',0 + i,none⟩:Addr).block]?=_ from hp5.other b' (Ne.symm hsb.out))]
      exact HR4.out i v hv
    · unfold LvX.v;dsimp only;rw [hpl.out];exact ha5
    · exact HB3.out.trans ((HBW.out.mono (by have:=hms.out;omega)).trans (hp5.below n₀ (by have:=hs0.out;omega)))
    · rw [hrl.out];unfold rowLen;rw [hx5];exact hrl2.out
  · obtain rfl:j=K:=by omega
    rw [Nat.sub_self,Nat.pow_zero] at hxl
    rw [hxl] at hx0
    gi_wp2
    go_end0
    exact ⟨⟨_,rfl⟩,_,W3,HUP3.out,HJ3.out,ItK.refl _ _ _⟩
end
section
open Go.RowKit Go.Shelf
attribute [local go_sem] Oper.semAt_some
theorem arr_own {β:Type} (B t:Nat) (f:β→List Value):Go.Own (fun (s:β) W=>Arr W B t (f s)):=fun s X Y row hs hg hr =>
 (hg.block B hs.lt (fun e=>by
   obtain ⟨o,ho,hc⟩:=hr B e.symm
   rw [show X.heap[B]?=_ from hs] at ho;cases ho;cases hc)).trans hs
section
variable {F:Fence} {n:Nat} {ops:Array Oper} {rest:List Oper} {o:Oper} {a:Act} {w:World} {Q:Exit→Act→World→Prop}
theorem fL_idx (hgd:o.guard=none) (x y:Operand) (ho:o.op=.indexAddr 37 x y) (B off n' c i:Nat) (hx:a.eval x=.slice (some ⟨B,off,none⟩) n' c) (hy:a.eval y=.int .i64 (i:Int)) (hi:i<n')
 (h:wpListIn F n Tryz.prog ops Q rest (a.put o.dst (.pointer (some ⟨B,off + 32 * i,none⟩))) w):wpListIn F n Tryz.prog ops Q (o :: rest) a w:=by
 refine wpIn_value hgd (by rw [ho];intro c hc;cases hc) (by simp [Oper.about,ho]) _ _ ?_ h
 unfold execOp
 simp only [ho,hx,hy,Sem.run_bind,run_idx B off n' c i hi,Result.andThen_ok,Sem.run_pure]
theorem fL_at (hgd:o.guard=none) (x:Operand) (ho:o.op=.load 58 x) (b off:Nat) (l:List UInt8) (hx:a.eval x=.pointer (some ⟨b,off,none⟩)) (hl:l.length=32) (hg:w.rangeAt b off (u8s l))
 (h:wpListIn F n Tryz.prog ops Q rest (a.put o.dst (.agg (u8s l).toArray)) w):wpListIn F n Tryz.prog ops Q (o :: rest) a w:=by
 refine wpIn_value hgd (by rw [ho];intro c hc;cases hc) (by simp [Oper.about,ho]) _ _ ?_ h
 unfold execOp
 simp only [ho,hx,Sem.run_bind,run_loadAt_mid w b off 58 (u8s l) _ hg hash_row rfl (by have:=hash_size hl;simpa using this),Result.andThen_ok,Sem.run_pure]
theorem fL_put (hgd:o.guard=none) (x y:Operand) (ho:o.op=.store 58 x y) (b:Nat) (l old:List UInt8) (hx:a.eval x=.pointer (some ⟨b,0,none⟩)) (hy:a.eval y=.agg (u8s l).toArray) (hl:l.length=32) (hold:old.length=32) (hg:Arr w b 58 (u8s old))
 (h:∀ W,Arr W b 58 (u8s l)→Stp b w W→wpListIn F n Tryz.prog ops Q rest (a.put o.dst undef) W):wpListIn F n Tryz.prog ops Q (o :: rest) a w :=
 fT_put 58 hgd x y ho b (u8s l) hx hy (u8s old) (by rw [u8s_length,u8s_length,hl,hold]) (by have:=hash_size hl;simpa using this) (fun v hv=>(Array.all_eq_true_iff_forall_mem.1 (u8s_one l)) v (by simpa using hv)) hg h
theorem fL_get (hgd:o.guard=none) (x:Operand) (ho:o.op=.load 58 x) (b:Nat) (l:List UInt8) (hx:a.eval x=.pointer (some ⟨b,0,none⟩)) (hl:l.length=32) (hg:Arr w b 58 (u8s l))
 (h:wpListIn F n Tryz.prog ops Q rest (a.put o.dst (.agg (u8s l).toArray)) w):wpListIn F n Tryz.prog ops Q (o :: rest) a w :=
 fL_at hgd x ho b 0 l hx hl hg.range h
end
theorem KeepsFrom.stp {m b t:Nat} {xs:List Value} {W W':World} (h:Stp b W W') (ha:Arr W b t xs):KeepsFrom m W W' :=
 ⟨h.sz,fun k o _ hk ho=>(h.other k (fun e=>by subst e;rw [show W.heap[k]?=_ from ha] at hk;cases hk;cases ho)).trans hk⟩
theorem KpK.stp {n₀ xb b:Nat} {xs:List Value} {W W':World} (h:Stp b W W') (ha:Arr W b 58 xs) (hb:n₀≤b) (hx:xb≠b):KpK isLv n₀ xb W W' :=
 ⟨h.below _ hb,h.sz,fun k o hk ho hl=>(h.other k (fun e=>by
   subst e
   rcases hl with ⟨cs,fz,rfl⟩ | rfl
   · rw [show W.heap[k]?=_ from ha] at hk;cases hk
   · exact hx rfl)).trans hk⟩
theorem permF (n:Nat) (w:World) (k:Nat) (hk:k≤4611686018427387904) :
 CallsIn Fence.wide n Tryz.prog 168 #[.int .i64 (k:Int)] w fun e w'=>e=.returned (.bool (fitN k))∧w=w':=callsIn_wide.2 (perm_any w k hk)
def lastOf (pre:List LvX):List UInt8:=match pre.getLast? with
 | none=>z32
 | some x=>x.hs.getD 0 z32
theorem lastOf_snoc (pre:List LvX) (x:LvX):lastOf (pre++[x])=x.hs.getD 0 z32:=by simp [lastOf]
theorem root_in (n:Nat) (hn:12≤n) (w:World) (v:Value) (hs:List (List UInt8)) (hH:HsAt w v hs) (hf:fitN hs.length=true) (hKT:KT w) :
 CallsIn Fence.wide n Tryz.prog 129 #[v] w fun e w'=>e=.returned (.tuple #[.agg (u8s (refR (hiN hs.length) hs)).toArray,.int .i64 0])∧Below w.heap.size w w':=by
 obtain ⟨hl0,hK7⟩:=fit_hi hf
 obtain ⟨B,off,c,rfl,hc,hB,hr⟩:=hH.get (by rw [hl0];exact Nat.pow_pos (by omega))
 have hl128:hs.length≤128:=by
  have:=Nat.pow_le_pow_right (n:=2) (show 0<2 by omega) hK7
  rw [← hl0] at this;simpa using this
 have cpm:=hidp (fun n W=>permF n W hs.length (by omega))
 rw [hf] at cpm
 have HH:=hidp hH;have HR:=hidp hr;have HC:=hidp hc
 have HL0:=hidp hl0;have HL1:=hidp hl128;have HF:=hidp hf;have HK:=hidp hKT
 have hkp:=hKT.pos
 obtain ⟨L,hL⟩:∃ L,hs.length=L:=⟨_,rfl⟩
 rw [hL] at cpm ⊢
 have HL:=hidp hL
 clear hH hr hc hl0 hl128 hf hKT hL
 refine callsIn_of_wp_marks Tryz.func129 rfl trivial ?_ rfl
 simp only [Tryz.ntmps129,List.size_toArray,List.length_cons,List.length_nil,Nat.reduceAdd,Nat.reduceSub,Array.replicate_succ,Array.replicate_zero,List.push_toArray,List.append_toArray,List.nil_append,List.cons_append]
 gi_wp2_with (refine fT_new 58 rfl rfl (u8s z32) zero_hash ?_;intro b2 w2 n2)
 refine ⟨trivial,fun _=>by omega,?_⟩
 refine (cpm.out _ _).mono ?_
 rintro e w3 ⟨rfl,rfl⟩
 gi_wp2_with (refine fT_new 58 rfl rfl (u8s z32) zero_hash ?_;intro b4 w4 n4)
 refine ⟨trivial,fun _=>by omega,?_⟩
 refine (callsIn_wide.2 (levels_any _ _)).mono ?_
 rintro e w5 ⟨b5,rfl,n5⟩
 gi_wp2
 have hB5:=n2.below.trans ((n4.below.mono n2.below.size).trans (n5.below.mono (Nat.le_trans n2.below.size n4.below.size)))
 have hA2:Arr w5 b2 58 (u8s z32):=n5.old (n4.old n2.arr)
 have hA4:Arr w5 b4 58 (u8s z32):=n5.old n4.arr
 have hn2:=n2.le
 have hn4:=Nat.le_trans n2.below.size n4.le
 have hb24:b2≠b4:=by have:=n2.lt;have:=n4.at_;omega
 have hV5:VX w.heap.size ⟨B,off,c,hs⟩ w5.heap.size w5 :=
  ⟨HC.out,rangeAt_below HR.out hB5 hB,HH.out.1,by show 0<hs.length;rw [HL0.out];exact Nat.pow_pos (by omega),HL1.out,Nat.lt_of_lt_of_le hB hB5.size,.inl hB⟩
 have hseq:=levels_seq (n - 1) (by omega) w.heap.size b5 (hiN hs.length) hK7 ⟨B,off,c,hs⟩ HL0.out w5 (by have:=n5.arr;unfold LvX.v;dsimp only;rw [HL.out];exact this) hV5 hB hB5.size hkp (HK.out.below hB5 hkp)
 have hlt5:=hA4.lt
 have hlt52:=hA2.lt
 refine wpIn_rangeFunc_V (α:=LvX) rfl (by omega) (gf:=193) (lb:=#[.pointer (some ⟨b5,0,none⟩)]) rfl trivial (enters_of Tryz.func193 (by kernel_rfl) rfl)
  hseq hB5.size isLv_cells (fun _=>rfl)
  (fun pre W=>((Arr W b2 58 (u8s z32)∧Arr W b4 58 (u8s (lastOf pre)))∧Below w.heap.size w W)∧(lastOf pre).length=32)
  (OwnFrom.and (OwnFrom.and (Go.Own.from (OwnAnd (arr_own _ _ _) (arr_own _ _ _)) _) (ownFrom_below (Nat.le_refl _) hB5.size)) (ownFrom_pure _ _))
  ⟨⟨⟨hA2,hA4⟩,hB5⟩,rfl⟩
  (fun x a' W=>∃ bx,Arr W bx 227 (lvV x.v)∧a'={ tmps:=#[.slice (some ⟨B,off,none⟩) L c,undef,.pointer (some ⟨b2,0,none⟩),.int .i64 0,.pointer (some ⟨b4,0,none⟩),.pointer (some ⟨bx,0,none⟩),.slice (some ⟨B,off,none⟩) L c,.int .i64 (L:Int),.bool true,.bool false,undef,.slice (some ⟨B,off,none⟩) L c,.agg #[.slice (some ⟨B,off,none⟩) L c,.func (.func 170) #[] #[]],.func (.func 193) #[] #[.pointer (some ⟨b5,0,none⟩)],.agg (lvV x.v).toArray,undef,undef,undef,undef,undef],defers:=[] })
  (fun x a' W l o o' ho hc ⟨bx,hax,e⟩=>⟨bx,(World.putObj_heap_other (fun e2=>by subst e2;rw [show W.heap[bx]?=_ from hax] at ho;cases ho;cases hc)).trans hax,e⟩)
  ?assign ?body ?done
 case assign =>
  intro l x W K hK
  have HKK:=hidp hK
  clear hK
  simp only [encX,List.zip_toArray,List.zip_cons_cons,List.zip_nil_right,List.foldl_toArray,List.foldl_toArray',List.foldl_cons,List.foldl_nil,List.setIfInBounds_toArray,List.set_cons_succ,List.set_cons_zero]
  gi_wp2_with (first
   | (refine fT_new 227 rfl rfl _ zero_lvl ?_;intro bx wx nx)
   | (refine fT_put 227 rfl (.tmp 5) (.tmp 14) rfl bx (lvV x.v) rfl rfl [.slice none 0 0,.nilFunc] rfl size_lvl x.one nx.arr ?_;intro wy hay hpy))
  exact HKK.out _ _ (nx.put hpy) ⟨bx,hay,rfl⟩
 case body =>
  rintro l pre x W0 W1 a' W ⟨⟨⟨h2,h4⟩,hb⟩,hlo⟩ hit ⟨hv,-⟩ hcel ⟨bx,hax,rfl⟩
  have nlv:∀ (xs:List Value),¬ isLv (.cells xs.toArray 58 (0,0)):=by rintro xs ⟨cs,fz,e⟩;cases e
  have g2:Arr W b2 58 (u8s z32):=hcel.2.2 _ _ (hit.2.2 _ _ h2 (nlv _)) rfl
  have g4:Arr W b4 58 (u8s (lastOf pre)):=hcel.2.2 _ _ (hit.2.2 _ _ h4 (nlv _)) rfl
  have gb:Below w.heap.size w W:=hb.trans ((hit.1.mono hB5.size).trans (hcel.1.mono hB5.size))
  have hx4:x.b≠b4:=by
   have:=h4.lt
   rcases hv.own with h | h <;> omega
  have gv:VX w.heap.size x W0.heap.size W:=by
   obtain ⟨o,ho,hoc⟩:=hv.cells
   exact hv.kept ((hcel.2.2 _ _ ho hoc).trans ho.symm) hcel.2.1 (Nat.le_refl _)
  have hx0:=hax.cell 0 (by simp [lvV])
  simp only [lvV,LvX.v,List.getElem_cons_zero] at hx0
  have hxl:=gv.all.get 0 gv.pos
  have hrx:=range_nth gv.range gv.all 0 gv.pos
  have hxe:lastOf (pre++[x])=x.hs[0]'gv.pos:=by rw [lastOf_snoc,List.getD_eq_getElem?_getD,List.getElem?_eq_getElem gv.pos];rfl
  have hps:=hidp gv.pos
  obtain ⟨y,hy⟩:∃ y,x.hs[0]'gv.pos=y:=⟨_,rfl⟩
  rw [hy] at hxl hrx hxe
  have HXE:=hidp hxe;have HRX:=hidp hrx;have G2:=hidp g2;have G4:=hidp g4;have GB:=hidp gb
  clear hy hxe hrx g2 g4 gb gv h2 h4 hb hit hv hcel hseq hV5 hA2 hA4 hB5
  gi_wp2_with (first
   | (refine fL_idx rfl (.tmp 16) (.const (.int .i64 0)) rfl x.b x.o _ _ 0 rfl rfl hps.out ?_)
   | (refine fL_at rfl (.tmp 17) rfl x.b (x.o + 32 * 0) y rfl hxl HRX.out ?_)
   | (refine fL_put rfl (.tmp 4) (.tmp 18) rfl b4 y (lastOf pre) rfl rfl hxl hlo G4.out ?_;intro w9 ha9 hp9))
  exact ⟨KeepsFrom.stp hp9 G4.out,KpK.stp hp9 G4.out hn4 hx4,⟨⟨hp9.arr hb24 G2.out,by rw [HXE.out];exact ha9⟩,hp9.below' GB.out hn4⟩,by rw [HXE.out];exact hxl⟩
 case done =>
  rintro D xs W0 W W' hD hS ⟨⟨⟨h2,h4⟩,hb⟩,-⟩ hit hcel hDD
  have nlv:∀ (xs:List Value),¬ isLv (.cells xs.toArray 58 (0,0)):=by rintro xs ⟨cs,fz,e⟩;cases e
  have g2:Arr W' b2 58 (u8s z32):=hcel.2.2 _ _ (hit.2.2 _ _ h2 (nlv _)) rfl
  have g4:Arr W' b4 58 (u8s (lastOf xs)):=hcel.2.2 _ _ (hit.2.2 _ _ h4 (nlv _)) rfl
  have gb:Below w.heap.size w W':=hb.trans ((hit.1.mono hB5.size).trans (hcel.1.mono hB5.size))
  have hlast:lastOf xs=refR (hiN hs.length) hs:=by
   have hS:xs.map (·.hs)=(List.range (hiN hs.length + 1)).map fun i=>lvl i hs:=hS
   have h1:=congrArg List.getLast? hS
   rw [List.range_succ,List.map_append,List.getLast?_map] at h1
   simp only [List.map_cons,List.map_nil,List.getLast?_concat] at h1
   unfold lastOf
   cases hg:xs.getLast? with
   | none=>rw [hg] at h1;cases h1
   | some x =>
     rw [hg] at h1
     simp only [Option.map_some,Option.some.injEq] at h1
     show x.hs.getD 0 z32=_
     rw [h1,lvl_root _ _ HL0.out];rfl
  have hzl:=refR_len _ _ HH.out.1 HL0.out
  obtain ⟨z,hz⟩:∃ z,refR (hiN hs.length) hs=z:=⟨_,rfl⟩
  rw [hlast,hz] at g4
  rw [hz] at hzl
  have HZ:=hidp hz;have G2:=hidp g2;have G4:=hidp g4;have GB:=hidp gb;have HD:=hidp hDD
  clear hz g2 g4 gb hlast h2 h4 hb hit hcel hseq hV5 hA2 hA4 hS hDD
  gi_wp2_with (first
   | (refine fL_get rfl (.tmp 4) rfl b4 z rfl hzl G4.out ?_)
   | (refine fL_put rfl (.tmp 2) (.tmp 19) rfl b2 z z32 rfl rfl hzl rfl G2.out ?_;intro w9 ha9 hp9))
  have hdD:w9.heap[D]?=some (.deferred (some [])):=(hp9.other D (by omega)).trans HD.out
  have hfin:(w9.putObj D (.deferred none)).heap[b2]?=some (.cells (u8s z).toArray 58 (0,0)):=(World.putObj_heap_other (by omega)).trans ha9
  have hBF:=(hp9.below' GB.out hn2).trans ((Below.refl w.heap.size w9).grown (grownBy_putObj' w9 D (.deferred none)) (by have:=GB.out.size;have:=hp9.sz;omega) (fun k e=>by cases e;omega))
  refine ⟨by simp [Act.put],.inl ⟨_,_,rfl,run_takeDeferred hdD,?_⟩⟩
  refine ⟨_,results_row_tmp (P:=Tryz.prog) (p:=2) (u:=3) (ty:=58) Tryz.results129 _ _ b2 58 (u8s z).toArray (0,0) _ rfl hfin hash_row rfl (hash_size hzl) _ rfl,?_,hBF⟩
  rw [← HL.out,HZ.out];rfl
theorem root_any (w:World) (v:Value) (hs:List (List UInt8)) (hH:HsAt w v hs) (hl:hs.length≤4611686018427387904) (hKT:KT w) :
 Calls Tryz.prog 129 #[v] w fun e w'=>e=.returned (.tuple #[.agg (u8s (rootV hs)).toArray,.int .i64 ((rootE hs.length:Nat):Int)])∧Below w.heap.size w w':=by
 by_cases hf:fitN hs.length=true
 · have hv:rootV hs=refR (hiN hs.length) hs:=if_pos hf
   have he:rootE hs.length=0:=if_pos hf
   rw [hv,he]
   exact (callsIn_wide (n:=12)).1 (root_in 12 (Nat.le_refl _) w v hs hH hf hKT)
 · have hf:fitN hs.length=false:=by simpa using hf
   have hv:rootV hs=z32:=if_neg (by simp [hf])
   have he:rootE hs.length=1:=if_neg (by simp [hf])
   rw [hv,he]
   have c0:=hidp (fun W=>perm_any W hs.length hl)
   rw [hf] at c0
   obtain ⟨a,c,rfl⟩:=hH.form
   go_enter Tryz.func129,Tryz.ntmps129
   go_wp2_with (first
    | (refine wpL_new rfl rfl ?_;intro b0 w0 n0)
    | (go_at_call 168;refine (c0.out _).mono ?_;rintro e w1 ⟨rfl,rfl⟩)
    | (refine wpL_zero rfl rfl ?_)
    | (refine wpL_put rfl (.tmp 2) (.tmp 10) rfl b0 z32 rfl rfl rfl (u8s z32) rfl n0.arr ?_;intro w9 ha9 hp9))
   refine bodyPost_ret (results_row_tmp (P:=Tryz.prog) (p:=2) (u:=3) (ty:=58) Tryz.results129 _ _ b0 58 (u8s z32).toArray (0,0) _ rfl ha9 hash_row rfl (hash_size rfl) _ rfl) rfl ?_
   exact ⟨rfl,hp9.below' n0.below n0.le⟩
end
end Go.Proofs.YtokakgjcegmabaaGreatDoor
