import Derived.Test.YtokakgjcegmabaaGreatDoorLK
import Derived.Test.YtokakgjcegmabaaGreatDoorLJ
import Derived.Great.BuildSlice
import Derived.Maps.AppendAt
import Derived.Deep.MidRow
import Derived.Laws.IdiomCopy
import Derived.Lib.AppendZerosOnto
import Derived.Lib.Overlaps
import Derived.Laws.Externs
import Derived.Shelf.RegionOpenPlain
import Derived.Lib.SliceRun
import Derived.Test.YtokakgjcegmabaaGreatDoorLM
set_option linter.unusedVariables false
set_option linter.unusedSimpArgs false
set_option maxHeartbeats 64000000
set_option maxRecDepth 100000
namespace Go.Proofs.YtokakgjcegmabaaGreatDoor.RwK
open Go.RowKit
structure RowTy (P:Program) (ST T k by_:Nat) (z:List Value):Prop where
 kp:0<k
 km:k≤64
 bm:by_≤65536
 zl:z.length=k
 us:P.underlying ST=some (.slice T)
 el:P.elem ST=T
 ut:∃ fs,P.underlying T=some (.struct fs)
 info:(P.info? T).map (fun i=>(i.zero,i.size,i.bytes))=some (some (.agg z.toArray),k,by_)
variable {P:Program} {ST T k by_:Nat} {z:List Value}
theorem RowTy.isz (R:RowTy P ST T k by_ z):(P.info? T).map (·.size)=some k:=by
 obtain ⟨i0,hi,hz0,hz1,hz2⟩:=info_parts R.info
 rw [hi];simp [hz1]
theorem RowTy.size (R:RowTy P ST T k by_ z) {xs:List Value} (h:xs.length=k):(P.info? T).map (·.size)=some xs.toArray.size:=by rw [R.isz];simp [h]
theorem RowTy.sz (R:RowTy P ST T k by_ z) (w:World):(sizeOf T).run P w=.ok k w:=by
 obtain ⟨i0,hi,hz0,hz1,hz2⟩:=info_parts R.info
 simp [sizeOf,typeInfo,hi,hz1]
theorem RowTy.zero (R:RowTy P ST T k by_ z) (w:World):(zeroValue T).run P w=.ok (.agg z.toArray) w:=by
 obtain ⟨i0,hi,hz0,hz1,hz2⟩:=info_parts R.info
 simp [zeroValue,typeInfo,hi,hz0]
theorem addr_addR (b o k:Nat):(⟨b,o,none⟩:Addr).add k=⟨b,o + k,none⟩:=by unfold Addr.add;split <;> simp_all
def AllK (k:Nat) (es:List (List Value)):Prop:=∀ e ∈ es,e.length=k
def One1 (es:List (List Value)):Prop:=∀ e ∈ es,∀ v ∈ e,v.oneCell'=true
theorem AllK.take {es:List (List Value)} (h:AllK k es) (n:Nat):AllK k (es.take n):=fun x hx=>h x (List.mem_of_mem_take hx)
theorem flat_len {es:List (List Value)} (h:AllK k es):es.flatten.length=k * es.length:=by
 induction es with
 | nil=>rfl
 | cons a r ih =>
   rw [List.flatten_cons,List.length_append,ih (fun x hx=>h x (by simp [hx])),h a (by simp),List.length_cons,Nat.mul_add];omega
theorem rAt_app {w:World} {b o:Nat} {xs ys:List Value}:w.rangeAt b o (xs++ys)↔w.rangeAt b o xs∧w.rangeAt b (o + xs.length) ys:=by
 constructor
 · intro h
   refine ⟨fun j v hv=>h j v ?_,fun j v hv=>?_⟩
   · rw [List.getElem?_append_left (List.getElem?_eq_some_iff.1 hv).1];exact hv
   · have:=h (xs.length + j) v (by rw [List.getElem?_append_right (by omega)];simpa using hv)
     rw [Nat.add_assoc];exact this
 · rintro ⟨h1,h2⟩ j v hv
   by_cases hj:j<xs.length
   · rw [List.getElem?_append_left hj] at hv;exact h1 j v hv
   · rw [List.getElem?_append_right (by omega)] at hv
     have:=h2 (j - xs.length) v hv
     rw [show o + xs.length + (j - xs.length)=o + j from by omega] at this;exact this
theorem rAt_drop {w:World} {b o:Nat} {es:List (List Value)} (h:w.rangeAt b o es.flatten) (hk:AllK k es) (n:Nat) (hn:n≤es.length):w.rangeAt b (o + k * n) (es.drop n).flatten:=by
 rw [← List.take_append_drop n es,List.flatten_append,rAt_app,flat_len (hk.take n),List.length_take,Nat.min_eq_left hn] at h;exact h.2
theorem rAt_nth {w:World} {b o:Nat} {es:List (List Value)} (h:w.rangeAt b o es.flatten) (hk:AllK k es) (i:Nat) (hi:i<es.length):w.rangeAt b (o + k * i) es[i]:=by
 have h2:=rAt_drop h hk i (by omega)
 rw [List.drop_eq_getElem_cons hi,List.flatten_cons,rAt_app] at h2
 exact h2.1
def RsAt (k:Nat) (w:World) (v:Value) (es:List (List Value)):Prop :=
 AllK k es∧((v=.slice none 0 0∧es=[])∨∃ B o c,v=.slice (some ⟨B,o,none⟩) es.length c∧es.length≤c∧B<w.heap.size∧w.rangeAt B o es.flatten)
theorem RsAt.below {w w':World} {v:Value} {es:List (List Value)} (h:RsAt k w v es) {B:Nat} (hb:Below B w w') (hB:w.heap.size≤B) (hs:w.heap.size≤w'.heap.size):RsAt k w' v es:=by
 refine ⟨h.1,h.2.imp id ?_⟩
 rintro ⟨b,o,c,rfl,hc,hlt,hr⟩
 exact ⟨b,o,c,rfl,hc,by omega,rangeAt_below hr hb (by omega)⟩
theorem RsAt.to {w w':World} {v:Value} {es:List (List Value)} (h:RsAt k w v es) (hb:Below w.heap.size w w'):RsAt k w' v es:=h.below hb (Nat.le_refl _) hb.size
theorem RsAt.form {w:World} {v:Value} {es:List (List Value)} (h:RsAt k w v es):∃ a c,v=.slice a es.length c:=by
 rcases h.2 with ⟨rfl,rfl⟩ | ⟨B,o,c,rfl,_⟩
 · exact ⟨none,0,rfl⟩
 · exact ⟨_,c,rfl⟩
theorem RsAt.get {w:World} {v:Value} {es:List (List Value)} (h:RsAt k w v es) (hp:0<es.length):∃ B o c,v=.slice (some ⟨B,o,none⟩) es.length c∧es.length≤c∧B<w.heap.size∧w.rangeAt B o es.flatten:=by
 rcases h.2 with ⟨rfl,rfl⟩ | h
 · simp at hp
 · exact h
def OwnR (T k:Nat) (w:World) (B:Nat) (v:Value) (es:List (List Value)):Prop:=AllK k es∧w.ownsRow B T k v es.length es.flatten
section
variable {ops:Array Oper} {rest:List Oper} {o:Oper} {a:Act} {w:World} {Q:Exit→Act→World→Prop}
theorem wpL_newR (R:RowTy P ST T k by_ z) (hgd:o.guard=none) (ho:o.op=.alloc T)
 (h:∀ b W,NewAt w W b T z→wpList P ops Q rest (a.put o.dst (.pointer (some ⟨b,0,none⟩))) W):wpList P ops Q (o :: rest) a w:=by
 refine wpList_plain hgd fun K hK=>?_
 have:=hK _ _ (h w.heap.size (w.alloc (.cells z.toArray T)) (NewAt.mk' _ _ _))
 unfold Oper.wp execOp
 simp only [ho,Instr.alloc,Sem.run_bind,Result.andThen_ok,R.zero w]
 simp [newVar,newRow,Value.cells]
 exact this
theorem wpL_boxR (T:TypeId) (hgd:o.guard=none) (x:Operand) (ho:o.op=.box T x) (xs:List Value) (hx:a.eval x=.agg xs.toArray)
 (h:∀ b W,NewAt w W b T xs→wpList P ops Q rest (a.put o.dst (.pointer (some ⟨b,0,none⟩))) W):wpList P ops Q (o :: rest) a w:=by
 refine wpList_plain hgd fun K hK=>?_
 have:=hK _ _ (h w.heap.size (w.alloc (.cells xs.toArray T)) (NewAt.mk' _ _ _))
 unfold Oper.wp execOp
 simp only [ho,Instr.box,Sem.run_bind,Result.andThen_ok,hx]
 simp [newVar,newRow,Value.cells]
 exact this
theorem wpL_putR (R:RowTy P ST T k by_ z) (hgd:o.guard=none) (x y:Operand) (ho:o.op=.store T x y) (b:Nat) (xs:List Value) (hx:a.eval x=.pointer (some ⟨b,0,none⟩)) (hy:a.eval y=.agg xs.toArray) (hl:xs.length=k)
 (h1:∀ v ∈ xs,v.oneCell'=true) (ys:List Value) (hl2:ys.length=k) (hg:Arr w b T ys)
 (h:∀ W,Arr W b T xs→Stp b w W→wpList P ops Q rest (a.put o.dst undef) W):wpList P ops Q (o :: rest) a w :=
 wpList_store_row hgd T x y ho b xs.toArray hx hy T _ hg (R.size hl) (by simp [hl,hl2]) (by rw [Array.all_eq_true];intro i hi;exact h1 _ (by simp)) (h _ (Arr.row hg _) (Stp.setRow _ _ _))
theorem wpL_atR (R:RowTy P ST T k by_ z) (hgd:o.guard=none) (x:Operand) (ho:o.op=.load T x) (b off:Nat) (xs:List Value) (hx:a.eval x=.pointer (some ⟨b,off,none⟩)) (hl:xs.length=k) (hg:w.rangeAt b off xs)
 (h:wpList P ops Q rest (a.put o.dst (.agg xs.toArray)) w):wpList P ops Q (o :: rest) a w:=by
 obtain ⟨fs,hu⟩:=R.ut
 exact wpList_load_mid hgd T x ho b off hx xs _ hg hu rfl (by have:=R.size hl;simpa using this) h
theorem run_idxR (R:RowTy P ST T k by_ z) (B off n c i:Nat) (hi:i<n) (w:World):(Instr.indexAt ST (.slice (some ⟨B,off,none⟩) n c) (.int .i64 (i:Int))).run P w=.ok (.pointer (some ⟨B,off + k * i,none⟩)) w:=by
 rw [run_indexAt_slice (P:=P) w ST ⟨B,off,none⟩ n c .i64 (i:Int) (by rw [R.el];exact R.us),if_pos (by omega),R.el,R.sz]
 simp [Result.andThen,addr_addR,Nat.mul_comm]
theorem wpL_idxR (R:RowTy P ST T k by_ z) (hgd:o.guard=none) (x y:Operand) (ho:o.op=.indexAddr ST x y) (B off n c i:Nat) (hx:a.eval x=.slice (some ⟨B,off,none⟩) n c) (hy:a.eval y=.int .i64 (i:Int)) (hi:i<n)
 (h:wpList P ops Q rest (a.put o.dst (.pointer (some ⟨B,off + k * i,none⟩))) w):wpList P ops Q (o :: rest) a w:=by
 refine wpList_plain hgd fun K hK=>?_
 have:=hK _ _ h
 unfold Oper.wp execOp
 simp only [ho,hx,hy,Sem.run_bind,run_idxR R B off n c i hi,Result.andThen_ok]
 exact this
end
section
variable {ops:Array Oper} {rest:List Oper} {o:Oper} {a:Act} {w:World} {Q:Exit→Act→World→Prop}
end
section
variable {ops:Array Oper} {rest:List Oper} {o:Oper} {a:Act} {w:World} {Q:Exit→Act→World→Prop}
end
section
variable {ops:Array Oper} {Q:Exit→Act→World→Prop} {S:World→Prop} {j:Nat} {o:Oper} {s:Scr} {a:Act} {w:World} {K:Act→World→Prop}
theorem s_idxR (R:RowTy P ST T k by_ z) (ho:ops[j]?=some o) (hw:Region.wanted o (yielded ops a.tmps)=true) (x y:Operand) (hop:o.op=.indexAddr ST x y) (B off n c i:Nat) (hx:a.eval x=.slice (some ⟨B,off,none⟩) n c) (hy:a.eval y=.int .i64 (i:Int)) (hi:i<n)
 (h:wpScr P ops Q s S (a.put o.dst (.pointer (some ⟨B,off + k * i,none⟩))) w):wpScr P ops Q (.take j s) S a w :=
 s_val ho hw (fun w hS=>by
  unfold execOp
  simp only [hop,hx,hy,Sem.run_bind,run_idxR R B off n c i hi,Result.andThen_ok];rfl) h
theorem s_getR (R:RowTy P ST T k by_ z) (ho:ops[j]?=some o) (hw:Region.wanted o (yielded ops a.tmps)=true) (x:Operand) (hop:o.op=.load T x) (b:Nat) (xs:List Value) (hx:a.eval x=.pointer (some ⟨b,0,none⟩)) (hl:xs.length=k) (hg:∀ w,S w→Arr w b T xs)
 (h:wpScr P ops Q s S (a.put o.dst (.agg xs.toArray)) w):wpScr P ops Q (.take j s) S a w:=by
 obtain ⟨fs,hu⟩:=R.ut
 exact s_val ho hw (fun w hS=>by
  unfold execOp
  simp only [hop,hx,Instr.loadAt,Instr.sureAddr,Sem.run_bind,Sem.run_pure,Result.andThen_ok,run_loadVar_row (P:=P) w b T T _ (0,0) _ (hg w hS) hu rfl (R.size hl)]) h
theorem s_skip (ho:ops[j]?=some o) (hw:Region.wanted o (yielded ops a.tmps)=false) (h:wpScr P ops Q s S (a.put o.dst undef) w):wpScr P ops Q (.take j s) S a w :=
 ⟨o,undef,ho,.inr ⟨hw,rfl⟩,h⟩
end
end Go.Proofs.YtokakgjcegmabaaGreatDoor.RwK
namespace Go.Proofs.YtokakgjcegmabaaGreatDoor
section
open Go.RowKit RwK
structure Gr where
 s:Int
 f:Int
 t:Int
 h:Int
 r:List UInt8
def Gr.row (g:Gr):List Value:=[.int .i64 g.s,.int .i64 g.f,.int .i64 g.t,.int .i64 g.h]++u8s g.r
def Gr.ok (g:Gr):Prop:=g.r.length=32
theorem Gr.len {g:Gr} (h:g.ok):g.row.length=36:=by unfold Gr.row;rw [List.length_append,u8s_length,h];rfl
theorem Gr.one (g:Gr):∀ v ∈ g.row,v.oneCell'=true:=by
 intro v hv
 unfold Gr.row at hv
 rcases List.mem_append.1 hv with h | h
 · simp at h;rcases h with rfl | rfl | rfl | rfl <;> rfl
 · obtain ⟨b,_,rfl⟩:=List.mem_map.1 h;rfl
def zG:List Value:=[.int .i64 0,.int .i64 0,.int .i64 0,.int .i64 0]++u8s z32
theorem tyG:RowTy Tryz.prog 27 61 36 64 zG:=by
 refine ⟨by decide,by decide,by decide,rfl,by kernel_rfl,by kernel_rfl,⟨_,Tryz.underlying61⟩,by kernel_rfl⟩
def rows (gs:List Gr):List (List Value):=gs.map Gr.row
end
section
open Go.RowKit RwK
theorem gr_cells {w:World} {b t:Nat} {g:Gr} (h:Arr w b t g.row):w.cell? ⟨b,0,none⟩=some (.int .i64 g.s)∧w.cell? ⟨b,1,none⟩=some (.int .i64 g.f)∧w.cell? ⟨b,2,none⟩=some (.int .i64 g.t)∧w.cell? ⟨b,3,none⟩=some (.int .i64 g.h) :=
 ⟨h.cell 0 (by simp [Gr.row]),h.cell 1 (by simp [Gr.row]),h.cell 2 (by simp [Gr.row]),h.cell 3 (by simp [Gr.row])⟩
theorem gr_hash {w:World} {b o:Nat} {g:Gr} (h:w.rangeAt b o g.row):w.rangeAt b (o + 4) (u8s g.r):=by
 unfold Gr.row at h
 exact (rAt_app.1 h).2
def vG (g:Gr):Bool:=decide (0≤g.s) && decide (g.s≤63) && decide (0≤g.f) && decide (g.f≤g.t) && decide (g.t≤1099511627776) && decide (0≤g.h) && decide (g.h≤7)
def fol (g a:Gr):Bool:=if g.s=a.s then decide (a.t<g.f) else decide (a.s<g.s)
theorem gvalid_any (w:World) (g:Gr) :
 Calls Tryz.prog 143 #[.agg g.row.toArray] w fun e w'=>e=.returned (.bool (vG g))∧Below w.heap.size w w':=by
 by_cases c0:0≤g.s
 · have d0:decide (0≤g.s)=true:=decide_eq_true c0
   by_cases c1:g.s≤63
   · have d1:decide (g.s≤63)=true:=decide_eq_true c1
     by_cases c2:0≤g.f
     · have d2:decide (0≤g.f)=true:=decide_eq_true c2
       by_cases c3:g.f≤g.t
       · have d3:decide (g.f≤g.t)=true:=decide_eq_true c3
         by_cases c4:g.t≤1099511627776
         · have d4:decide (g.t≤1099511627776)=true:=decide_eq_true c4
           by_cases c5:0≤g.h
           · have d5:decide (0≤g.h)=true:=decide_eq_true c5
             by_cases c6:g.h≤7
             · have d6:decide (g.h≤7)=true:=decide_eq_true c6
               have HF:=hidp (show vG g=true from by unfold vG;simp [*])
               go_enter Tryz.func143,Tryz.ntmps143
               go_wp2_with (refine wpL_boxR 61 rfl _ rfl g.row rfl ?_;intro b1 w1 n1;have HB:=hidp n1.below;obtain ⟨x0,x1,x2,x3⟩:=gr_cells n1.arr;clear n1)
               go_ret
               exact ⟨by rw [HF.out];rfl,HB.out⟩
             · have d6:decide (g.h≤7)=false:=decide_eq_false c6
               have HF:=hidp (show vG g=false from by unfold vG;simp [*])
               go_enter Tryz.func143,Tryz.ntmps143
               go_wp2_with (refine wpL_boxR 61 rfl _ rfl g.row rfl ?_;intro b1 w1 n1;have HB:=hidp n1.below;obtain ⟨x0,x1,x2,x3⟩:=gr_cells n1.arr;clear n1)
               go_ret
               exact ⟨by rw [HF.out];rfl,HB.out⟩
           · have d5:decide (0≤g.h)=false:=decide_eq_false c5
             have HF:=hidp (show vG g=false from by unfold vG;simp [*])
             go_enter Tryz.func143,Tryz.ntmps143
             go_wp2_with (refine wpL_boxR 61 rfl _ rfl g.row rfl ?_;intro b1 w1 n1;have HB:=hidp n1.below;obtain ⟨x0,x1,x2,x3⟩:=gr_cells n1.arr;clear n1)
             go_ret
             exact ⟨by rw [HF.out];rfl,HB.out⟩
         · have d4:decide (g.t≤1099511627776)=false:=decide_eq_false c4
           have HF:=hidp (show vG g=false from by unfold vG;simp [*])
           go_enter Tryz.func143,Tryz.ntmps143
           go_wp2_with (refine wpL_boxR 61 rfl _ rfl g.row rfl ?_;intro b1 w1 n1;have HB:=hidp n1.below;obtain ⟨x0,x1,x2,x3⟩:=gr_cells n1.arr;clear n1)
           go_ret
           exact ⟨by rw [HF.out];rfl,HB.out⟩
       · have d3:decide (g.f≤g.t)=false:=decide_eq_false c3
         have HF:=hidp (show vG g=false from by unfold vG;simp [*])
         go_enter Tryz.func143,Tryz.ntmps143
         go_wp2_with (refine wpL_boxR 61 rfl _ rfl g.row rfl ?_;intro b1 w1 n1;have HB:=hidp n1.below;obtain ⟨x0,x1,x2,x3⟩:=gr_cells n1.arr;clear n1)
         go_ret
         exact ⟨by rw [HF.out];rfl,HB.out⟩
     · have d2:decide (0≤g.f)=false:=decide_eq_false c2
       have HF:=hidp (show vG g=false from by unfold vG;simp [*])
       go_enter Tryz.func143,Tryz.ntmps143
       go_wp2_with (refine wpL_boxR 61 rfl _ rfl g.row rfl ?_;intro b1 w1 n1;have HB:=hidp n1.below;obtain ⟨x0,x1,x2,x3⟩:=gr_cells n1.arr;clear n1)
       go_ret
       exact ⟨by rw [HF.out];rfl,HB.out⟩
   · have d1:decide (g.s≤63)=false:=decide_eq_false c1
     have HF:=hidp (show vG g=false from by unfold vG;simp [*])
     go_enter Tryz.func143,Tryz.ntmps143
     go_wp2_with (refine wpL_boxR 61 rfl _ rfl g.row rfl ?_;intro b1 w1 n1;have HB:=hidp n1.below;obtain ⟨x0,x1,x2,x3⟩:=gr_cells n1.arr;clear n1)
     go_ret
     exact ⟨by rw [HF.out];rfl,HB.out⟩
 · have d0:decide (0≤g.s)=false:=decide_eq_false c0
   have HF:=hidp (show vG g=false from by unfold vG;simp [*])
   go_enter Tryz.func143,Tryz.ntmps143
   go_wp2_with (refine wpL_boxR 61 rfl _ rfl g.row rfl ?_;intro b1 w1 n1;have HB:=hidp n1.below;obtain ⟨x0,x1,x2,x3⟩:=gr_cells n1.arr;clear n1)
   go_ret
   exact ⟨by rw [HF.out];rfl,HB.out⟩
theorem follows_any (w:World) (g a:Gr) :
 Calls Tryz.prog 144 #[.agg g.row.toArray,.agg a.row.toArray] w fun e w'=>e=.returned (.bool (fol g a))∧Below w.heap.size w w':=by
 by_cases h:g.s=a.s
 · have e0:(g.s != a.s)=false:=by simp [h]
   have e00:(g.s == a.s)=true:=by simp [h]
   have HF:=hidp (show fol g a=decide (a.t<g.f) from if_pos h)
   obtain ⟨D,hD⟩:∃ D,decide (a.t<g.f)=D:=⟨_,rfl⟩
   rw [hD] at HF
   have hD2:decide (g.f > a.t)=D:=hD
   clear h
   go_enter Tryz.func144,Tryz.ntmps144
   go_wp2_with (first|(refine wpL_boxR 61 rfl (.tmp 0) rfl g.row rfl ?_;intro b1 w1 n1)|(refine wpL_boxR 61 rfl (.tmp 1) rfl a.row rfl ?_;intro b2 w2 n2;have HB:=hidp (n1.below.trans (n2.below.mono n1.below.size));obtain ⟨x0,x1,x2,x3⟩:=gr_cells (n2.old n1.arr);obtain ⟨y0,y1,y2,y3⟩:=gr_cells n2.arr;clear n1 n2))
   go_ret
   exact ⟨by rw [HF.out];rfl,HB.out⟩
 · have e0:(g.s != a.s)=true:=by simpa using h
   have e00:(g.s == a.s)=false:=by simpa using h
   have HF:=hidp (show fol g a=decide (a.s<g.s) from if_neg h)
   obtain ⟨D,hD⟩:∃ D,decide (a.s<g.s)=D:=⟨_,rfl⟩
   rw [hD] at HF
   have hD2:decide (g.s > a.s)=D:=hD
   go_enter Tryz.func144,Tryz.ntmps144
   go_wp2_with (first|(refine wpL_boxR 61 rfl (.tmp 0) rfl g.row rfl ?_;intro b1 w1 n1)|(refine wpL_boxR 61 rfl (.tmp 1) rfl a.row rfl ?_;intro b2 w2 n2;have HB:=hidp (n1.below.trans (n2.below.mono n1.below.size));obtain ⟨x0,x1,x2,x3⟩:=gr_cells (n2.old n1.arr);obtain ⟨y0,y1,y2,y3⟩:=gr_cells n2.arr;clear n1 n2))
   go_ret
   exact ⟨by rw [HF.out];rfl,HB.out⟩
end
section
open Go.RowKit RwK
section
variable {ops:Array Oper} {Q:Exit→Act→World→Prop} {S:World→Prop} {j:Nat} {o:Oper} {s:Scr} {a:Act} {w:World}
theorem s_atG (ho:ops[j]?=some o) (hw:Region.wanted o (yielded ops a.tmps)=true) (x:Operand) (hop:o.op=.load 61 x) (b off:Nat) (g:Gr) (hx:a.eval x=.pointer (some ⟨b,off,none⟩)) (hl:g.ok) (hg:∀ w,S w→w.rangeAt b off g.row)
 (h:wpScr Tryz.prog ops Q s S (a.put o.dst (.agg g.row.toArray)) w):wpScr Tryz.prog ops Q (.take j s) S a w:=by
 obtain ⟨fs,hu⟩:=tyG.ut
 exact s_val ho hw (fun w hS=>by
  unfold execOp
  have:=run_loadAt_mid (P:=Tryz.prog) w b off 61 g.row _ (hg w hS) hu rfl (by have:=tyG.isz;rw [Gr.len hl];exact this)
  simp only [hop,hx,this,Sem.run_bind,Sem.run_pure,Result.andThen_ok]) h
end
def gz:Gr:=⟨0,0,0,0,z32⟩
def okAt (gs:List Gr) (j:Nat):Bool:=vG (gs.getD j gz) && (decide (j=0) || fol (gs.getD j gz) (gs.getD (j - 1) gz))
def okTo (gs:List Gr) (n:Nat):Bool:=(List.range n).all (okAt gs)
def okB (gs:List Gr):Bool:=decide (gs.length≤256) && okTo gs gs.length
def ckB (gs:List Gr):Int:=if okB gs=true then 0 else 2
theorem okTo_succ (gs:List Gr) (n:Nat):okTo gs (n + 1)=(okTo gs n && okAt gs n):=by simp [okTo,List.range_succ]
theorem okTo_le {gs:List Gr} {n:Nat}:∀ {m:Nat},n≤m→okTo gs m=true→okTo gs n=true
 | 0, h, hm => by obtain rfl : n = 0 := by omega
                  exact hm
 | m + 1, h, hm => by
   rcases (by omega:n=m + 1∨n≤m) with rfl | h
   · exact hm
   · rw [okTo_succ,Bool.and_eq_true] at hm
     exact okTo_le h hm.1
theorem ckB_bad {gs:List Gr} {i:Nat} (hi:i<gs.length) (h:okAt gs i=false):ckB gs=2:=by
 refine if_neg fun hb=>?_
 unfold okB at hb
 rw [Bool.and_eq_true] at hb
 have:=okTo_le (n:=i + 1) (by omega) hb.2
 rw [okTo_succ,h] at this;simp at this
def GsAt (w:World) (v:Value) (gs:List Gr):Prop:=RsAt 36 w v (rows gs)∧∀ g ∈ gs,g.ok
theorem rows_len (gs:List Gr):(rows gs).length=gs.length:=by simp [rows]
theorem rows_all {gs:List Gr} (h:∀ g ∈ gs,g.ok):AllK 36 (rows gs):=by
 intro e he
 simp only [rows,List.mem_map] at he
 obtain ⟨g,hg,rfl⟩:=he
 exact Gr.len (h g hg)
theorem GsAt.to {w w':World} {v:Value} {gs:List Gr} (h:GsAt w v gs) (hb:Below w.heap.size w w'):GsAt w' v gs:=⟨h.1.to hb,h.2⟩
theorem GsAt.form {w:World} {v:Value} {gs:List Gr} (h:GsAt w v gs):∃ a c,v=.slice a gs.length c:=by
 have:=h.1.form;rw [rows_len] at this;exact this
theorem GsAt.get {w:World} {v:Value} {gs:List Gr} (h:GsAt w v gs) (hp:0<gs.length):∃ B o c,v=.slice (some ⟨B,o,none⟩) gs.length c∧gs.length≤c∧B<w.heap.size∧∀ i,(hi:i<gs.length)→w.rangeAt B (o + 36 * i) (gs[i]).row:=by
 obtain ⟨B,o,c,e,h1,h2,h3⟩:=h.1.get (by rw [rows_len];exact hp)
 rw [rows_len] at e h1
 refine ⟨B,o,c,e,h1,h2,fun i hi=>?_⟩
 have:=rAt_nth h3 h.1.1 i (by rw [rows_len];exact hi)
 simpa [rows] using this
theorem getD_at {gs:List Gr} {i:Nat} (h:i<gs.length):gs.getD i gz=gs[i]:=by rw [List.getD_eq_getElem?_getD,List.getElem?_eq_getElem h];rfl
theorem bcheck_any (w:World) (v:Value) (gs:List Gr) (hv:GsAt w v gs) :
 Calls Tryz.prog 94 #[v] w fun e w'=>e=.returned (.int .i64 (ckB gs))∧Below w.heap.size w w':=by
 have HV:=hidp hv;clear hv
 obtain ⟨av,cv0,rfl⟩:=HV.out.form
 have HOKS:=hidp HV.out.2
 obtain ⟨n,hn⟩:∃ n,gs.length=n:=⟨_,rfl⟩
 have HN:=hidp hn
 rw [hn] at HV ⊢
 clear hn
 by_cases h256:256<n
 · have e0:decide ((n:Int) > 256)=true:=by simp;omega
   have HF:=hidp (show ckB gs=2 from if_neg fun h=>by unfold okB at h;rw [Bool.and_eq_true,decide_eq_true_eq,HN.out] at h;omega)
   go_enter Tryz.func94,Tryz.ntmps94
   go_wp2_with fail
   go_ret
   exact ⟨by rw [HF.out];rfl,Below.refl _ _⟩
 · have e0:decide ((n:Int) > 256)=false:=by simp;omega
   have n0:¬ 256<n:=h256
   go_enter Tryz.func94,Tryz.ntmps94
   go_wp2_with fail
   go_loopw [10] (fun t10 wr=>∃ i:Nat,t10=.int .i64 (i:Int)∧i≤n∧okTo gs i=true∧Below w.heap.size w wr) (fun t10 _=>n - (intOf t10).toNat)
   case atStart=>exact ⟨0,rfl,by omega,rfl,Below.refl _ _⟩
   case round =>
    obtain ⟨i,rfl,hi,hok,hb⟩:=hrel
    have HOK:=hidp hok;have HB:=hidp hb
    clear hok hb
    by_cases hlt:i<n
    · have e1:decide ((i:Int)<(n:Int))=true:=by simp;omega
      have hgl:i<gs.length:=by rw [HN.out];exact hlt
      obtain ⟨BK,off,c,e2,hc,hBK0,hR0⟩:=HV.out.get (by rw [HN.out];omega)
      rw [HN.out] at e2
      simp only [Value.slice.injEq] at e2
      obtain ⟨rfl,-,rfl⟩:=e2
      have hBK:=hidp (show BK<wr.heap.size from Nat.lt_of_lt_of_le hBK0 HB.out.size)
      have HR:=hidp (show ∀ i,(hi:i<gs.length)→wr.rangeAt BK (off + 36 * i) (gs[i]).row from fun i hi=>rangeAt_below (hR0 i hi) HB.out hBK0)
      obtain ⟨g,hge⟩:∃ g,gs[i]=g:=⟨_,rfl⟩
      have HRI:=hidp (show wr.rangeAt BK (off + 36 * i) g.row from by rw [← hge];exact HR.out i hgl)
      have hgok:=hidp (show g.ok from by rw [← hge];exact HOKS.out _ (List.getElem_mem hgl))
      have hAt:okAt gs i=(vG g && (decide (i=0) || fol g (gs.getD (i - 1) gz))):=by unfold okAt;rw [getD_at hgl,hge]
      have HAT:=hidp hAt
      have hwi:i≠0→IntKind.i64.wrap ((i:Int) - 1)=((i - 1:Nat):Int):=fun h=>by rw [IntKind.wrap_i64];omega
      clear hAt hR0 hBK0 hge hc
      have cv:=hidp (fun W=>gvalid_any W g)
      cases hv:vG g with
      | false =>
        rw [hv] at cv
        have HF:=hidp (show ckB gs=2 from ckB_bad hgl (by rw [HAT.out,hv];rfl))
        clear hv
        go_wp2_with (first|(refine wpL_idxR tyG rfl (.tmp 8) (.tmp 10) rfl BK off n _ i rfl rfl hlt ?_)|(refine wpL_atR tyG rfl (.tmp 13) rfl BK (off + 36 * i) g.row rfl (Gr.len hgok.out) HRI.out ?_)|(refine wpL_newR tyG rfl rfl ?_;intro p4 wq1 n1;have HB1:=hidp (HB.out.trans (n1.below.mono HB.out.size));have hbw:=hidp (Nat.le_trans HB.out.size n1.le);have HR1:=hidp (fun i hi=>rangeAt_below (HR.out i hi) n1.below hBK.out);have hBb:=hidp (show BK<p4 from by have:=n1.at_;have:=hBK.out;omega))|(refine wpL_putR tyG rfl (.tmp 4) (.tmp 14) rfl p4 g.row rfl rfl (Gr.len hgok.out) (Gr.one g) zG rfl n1.arr ?_;intro wq2 ha hp;have HA2:=hidp ha;have HB2:=hidp (hp.below' HB1.out hbw.out);have HR2:=hidp (fun i hi=>rangeAt_below (HR1.out i hi) (hp.below p4 (Nat.le_refl _)) hBb.out);clear ha hp n1 HB1 HR1))
        obtain ⟨U,hU⟩:∃ U,({ wq2 with drawn:=wq2.drawn + 1 }:World)=U:=⟨_,rfl⟩
        have bU:Below wq2.heap.size wq2 U:=by rw [← hU];exact (Below.refl _ _).drew
        have hbz:=hidp HA2.out.lt
        have HA3:=hidp (HA2.out.below bU HA2.out.lt);have HB3:=hidp (HB2.out.trans (bU.mono HB2.out.size));have HR3:=hidp (fun i hi=>rangeAt_below (HR2.out i hi) bU (by have:=hBb.out;have:=hbz.out;omega))
        clear bU HA2 HB2 HR2
        refine wp_region_noPanic ?_
        refine wp_region_scr (S:=fun W=>Arr W p4 61 g.row) (.take 0 (.one 1 (.take 2 (.take 3 (.take 4 (.take 5 (.take 6 (.take 7 (.take 8 (.take 9 (.take 10 (.take 11 (.take 12 (.take 13 (.take 14 (.take 15 (.take 16 .done))))))))))))))))) (by kernel_rfl) (by kernel_rfl) (fun _ _ _ _ _ h=>h) (by simp [Scr.depth]) (by kernel_rfl) (by rw [hU];exact HA3.out) ?_
        simp only [hU]
        clear hU
        refine s_getR tyG rfl rfl (.tmp 4) rfl p4 g.row rfl (Gr.len hgok.out) (fun w h=>h) ?_
        simp only [aS]
        apply o_call (f:=143) (args:=#[.agg g.row.toArray]) (v:=.bool false) (hc:=cv.out _)
        case ho=>rfl
        case hw=>rfl
        case hop=>go_simp;first | done | rfl
        rintro X4 hb
        refine ⟨HA3.out.below hb HA3.out.lt,?_⟩
        have HA4:=hidp (HA3.out.below hb HA3.out.lt);have HB4:=hidp (HB3.out.trans (hb.mono HB3.out.size))
        clear hb
        iterate 2
         simp only [aS]
         apply s_val
         case ho=>rfl
         case hw=>rfl
         case hv=>intro w hw;go_simp;first | done | with_reducible rfl | rfl
        iterate 12
         simp only [aS]
         refine s_skip rfl rfl ?_
        simp only [aS]
        apply s_val
        case ho=>rfl
        case hw=>rfl
        case hv=>intro w hw;go_simp;first | done | with_reducible rfl | rfl
        simp only [aS]
        refine NoPanic.normal ?_
        have HBZ:=HB4
        go_wp2_with fail
        go_ret
        exact ⟨by rw [HF.out];rfl,HBZ.out⟩
      | true =>
        rw [hv] at cv
        by_cases hz:i=0
        · have ei:decide ((i:Int) > 0)=false:=by simp;omega
          have HOK2:=hidp (show okTo gs (i + 1)=true from by rw [okTo_succ,HOK.out,HAT.out,hv,decide_eq_true hz];rfl)
          clear hv
          go_wp2_with (first|(refine wpL_idxR tyG rfl (.tmp 8) (.tmp 10) rfl BK off n _ i rfl rfl hlt ?_)|(refine wpL_atR tyG rfl (.tmp 13) rfl BK (off + 36 * i) g.row rfl (Gr.len hgok.out) HRI.out ?_)|(refine wpL_newR tyG rfl rfl ?_;intro p4 wq1 n1;have HB1:=hidp (HB.out.trans (n1.below.mono HB.out.size));have hbw:=hidp (Nat.le_trans HB.out.size n1.le);have HR1:=hidp (fun i hi=>rangeAt_below (HR.out i hi) n1.below hBK.out);have hBb:=hidp (show BK<p4 from by have:=n1.at_;have:=hBK.out;omega))|(refine wpL_putR tyG rfl (.tmp 4) (.tmp 14) rfl p4 g.row rfl rfl (Gr.len hgok.out) (Gr.one g) zG rfl n1.arr ?_;intro wq2 ha hp;have HA2:=hidp ha;have HB2:=hidp (hp.below' HB1.out hbw.out);have HR2:=hidp (fun i hi=>rangeAt_below (HR1.out i hi) (hp.below p4 (Nat.le_refl _)) hBb.out);clear ha hp n1 HB1 HR1))
          obtain ⟨U,hU⟩:∃ U,({ wq2 with drawn:=wq2.drawn + 1 }:World)=U:=⟨_,rfl⟩
          have bU:Below wq2.heap.size wq2 U:=by rw [← hU];exact (Below.refl _ _).drew
          have hbz:=hidp HA2.out.lt
          have HA3:=hidp (HA2.out.below bU HA2.out.lt);have HB3:=hidp (HB2.out.trans (bU.mono HB2.out.size));have HR3:=hidp (fun i hi=>rangeAt_below (HR2.out i hi) bU (by have:=hBb.out;have:=hbz.out;omega))
          clear bU HA2 HB2 HR2
          refine wp_region_noPanic ?_
          refine wp_region_scr (S:=fun W=>Arr W p4 61 g.row) (.take 0 (.one 1 (.take 2 (.take 3 (.take 4 (.take 5 (.take 6 (.take 7 (.take 8 (.take 9 (.take 10 (.take 11 (.take 12 (.take 13 (.take 14 (.take 15 (.take 16 .done))))))))))))))))) (by kernel_rfl) (by kernel_rfl) (fun _ _ _ _ _ h=>h) (by simp [Scr.depth]) (by kernel_rfl) (by rw [hU];exact HA3.out) ?_
          simp only [hU]
          clear hU
          refine s_getR tyG rfl rfl (.tmp 4) rfl p4 g.row rfl (Gr.len hgok.out) (fun w h=>h) ?_
          simp only [aS]
          apply o_call (f:=143) (args:=#[.agg g.row.toArray]) (v:=.bool true) (hc:=cv.out _)
          case ho=>rfl
          case hw=>rfl
          case hop=>go_simp;first | done | rfl
          rintro X4 hb
          refine ⟨HA3.out.below hb HA3.out.lt,?_⟩
          have HA4:=hidp (HA3.out.below hb HA3.out.lt);have HB4:=hidp (HB3.out.trans (hb.mono HB3.out.size))
          clear hb
          iterate 3
           simp only [aS]
           apply s_val
           case ho=>rfl
           case hw=>rfl
           case hv=>intro w hw;go_simp;first | done | with_reducible rfl | rfl
          simp only [aS]
          apply s_val
          case ho=>rfl
          case hw=>rfl
          case hv=>intro w hw;have q:=ei;go_simp;first | done | with_reducible rfl | rfl
          simp only [aS]
          apply s_val
          case ho=>rfl
          case hw=>rfl
          case hv=>intro w hw;go_simp;first | done | with_reducible rfl | rfl
          iterate 8
           simp only [aS]
           refine s_skip rfl rfl ?_
          iterate 2
           simp only [aS]
           apply s_val
           case ho=>rfl
           case hw=>rfl
           case hv=>intro w hw;go_simp;first | done | with_reducible rfl | rfl
          simp only [aS]
          refine NoPanic.normal ?_
          have HBZ:=HB4
          have HRZ:=hidp (fun i hi=>rangeAt_below (HR.out i hi) (Below.refl _ _) hBK.out)
          go_wp2_with fail
          exact ⟨⟨i + 1,by go_num,by omega,HOK2.out,HBZ.out⟩,by simp [intOf];omega⟩
        · have hi0:0<i:=by omega
          have ei:decide ((i:Int) > 0)=true:=by simp;omega
          have hwi:=hwi hz
          have hpl:i - 1<gs.length:=by omega
          obtain ⟨p,hpe0⟩:∃ p,gs[i - 1]=p:=⟨_,rfl⟩
          have hpe:=hidp hpe0
          have hpok:=hidp (show p.ok from by rw [← hpe0];exact HOKS.out _ (List.getElem_mem hpl))
          have hpd:gs.getD (i - 1) gz=p:=by rw [getD_at hpl];exact hpe0
          clear hpe0
          have cf:=hidp (fun W=>follows_any W g p)
          cases hf:fol g p with
          | false =>
            rw [hf] at cf
            have HF:=hidp (show ckB gs=2 from ckB_bad hgl (by rw [HAT.out,hv,hpd,hf,decide_eq_false hz];rfl))
            clear hv hf
            go_wp2_with (first|(refine wpL_idxR tyG rfl (.tmp 8) (.tmp 10) rfl BK off n _ i rfl rfl hlt ?_)|(refine wpL_atR tyG rfl (.tmp 13) rfl BK (off + 36 * i) g.row rfl (Gr.len hgok.out) HRI.out ?_)|(refine wpL_newR tyG rfl rfl ?_;intro p4 wq1 n1;have HB1:=hidp (HB.out.trans (n1.below.mono HB.out.size));have hbw:=hidp (Nat.le_trans HB.out.size n1.le);have HR1:=hidp (fun i hi=>rangeAt_below (HR.out i hi) n1.below hBK.out);have hBb:=hidp (show BK<p4 from by have:=n1.at_;have:=hBK.out;omega))|(refine wpL_putR tyG rfl (.tmp 4) (.tmp 14) rfl p4 g.row rfl rfl (Gr.len hgok.out) (Gr.one g) zG rfl n1.arr ?_;intro wq2 ha hp;have HA2:=hidp ha;have HB2:=hidp (hp.below' HB1.out hbw.out);have HR2:=hidp (fun i hi=>rangeAt_below (HR1.out i hi) (hp.below p4 (Nat.le_refl _)) hBb.out);clear ha hp n1 HB1 HR1))
            obtain ⟨U,hU⟩:∃ U,({ wq2 with drawn:=wq2.drawn + 1 }:World)=U:=⟨_,rfl⟩
            have bU:Below wq2.heap.size wq2 U:=by rw [← hU];exact (Below.refl _ _).drew
            have hbz:=hidp HA2.out.lt
            have HA3:=hidp (HA2.out.below bU HA2.out.lt);have HB3:=hidp (HB2.out.trans (bU.mono HB2.out.size));have HR3:=hidp (fun i hi=>rangeAt_below (HR2.out i hi) bU (by have:=hBb.out;have:=hbz.out;omega))
            clear bU HA2 HB2 HR2
            have HP3:=hidp (show U.rangeAt BK (off + 36 * (i - 1)) p.row from by rw [← hpe.out];exact HR3.out (i - 1) (by omega))
            refine wp_region_noPanic ?_
            refine wp_region_scr (S:=fun W=>Arr W p4 61 g.row∧W.rangeAt BK (off + 36 * (i - 1)) p.row) (.take 0 (.one 1 (.take 2 (.take 3 (.take 4 (.take 5 (.take 6 (.take 7 (.take 8 (.take 9 (.take 10 (.take 11 (.take 12 (.one 13 (.take 14 (.take 15 (.take 16 .done))))))))))))))))) (by kernel_rfl) (by kernel_rfl) (fun _ _ _ _ _ h=>h) (by simp [Scr.depth]) (by kernel_rfl) (by rw [hU];exact ⟨HA3.out,HP3.out⟩) ?_
            simp only [hU]
            clear hU
            refine s_getR tyG rfl rfl (.tmp 4) rfl p4 g.row rfl (Gr.len hgok.out) (fun w h=>h.1) ?_
            simp only [aS]
            apply o_call (f:=143) (args:=#[.agg g.row.toArray]) (v:=.bool true) (hc:=cv.out _)
            case ho=>rfl
            case hw=>rfl
            case hop=>go_simp;first | done | rfl
            rintro X4 hb
            refine ⟨⟨HA3.out.below hb HA3.out.lt,rangeAt_below HP3.out hb (by have:=hBb.out;have:=HA3.out.lt;omega)⟩,?_⟩
            have HA4:=hidp (HA3.out.below hb HA3.out.lt);have HB4:=hidp (HB3.out.trans (hb.mono HB3.out.size));have HP4:=hidp (rangeAt_below HP3.out hb (by have:=hBb.out;have:=HA3.out.lt;omega))
            clear hb
            iterate 3
             simp only [aS]
             apply s_val
             case ho=>rfl
             case hw=>rfl
             case hv=>intro w hw;go_simp;first | done | with_reducible rfl | rfl
            simp only [aS]
            apply s_val
            case ho=>rfl
            case hw=>rfl
            case hv=>intro w hw;have q:=ei;go_simp;first | done | with_reducible rfl | rfl
            simp only [aS]
            apply s_val
            case ho=>rfl
            case hw=>rfl
            case hv=>intro w hw;go_simp;first | done | with_reducible rfl | rfl
            simp only [aS]
            refine s_getR tyG rfl rfl (.tmp 4) rfl p4 g.row rfl (Gr.len hgok.out) (fun w h=>h.1) ?_
            iterate 2
             simp only [aS]
             apply s_val
             case ho=>rfl
             case hw=>rfl
             case hv=>intro w hw;go_simp;first | done | with_reducible rfl | rfl
            simp only [aS]
            apply s_val (v:=.int .i64 ((i - 1:Nat):Int))
            case ho=>rfl
            case hw=>rfl
            case hv=>intro w hw;have q:=hwi;go_simp;first | done | with_reducible rfl | rfl
            simp only [aS]
            refine s_idxR tyG rfl rfl (.tmp 23) (.tmp 25) rfl BK off n _ (i - 1) rfl rfl (by omega) ?_
            simp only [aS]
            refine s_atG rfl rfl (.tmp 26) rfl BK (off + 36 * (i - 1)) p rfl hpok.out (fun w h=>h.2) ?_
            simp only [aS]
            apply o_call (f:=144) (args:=#[.agg g.row.toArray,.agg p.row.toArray]) (v:=.bool false) (hc:=cf.out _)
            case ho=>rfl
            case hw=>rfl
            case hop=>go_simp;first | done | rfl
            rintro X5 hb
            refine ⟨⟨HA4.out.below hb HA4.out.lt,rangeAt_below HP4.out hb (by have:=hBb.out;have:=HA4.out.lt;omega)⟩,?_⟩
            have HA5:=hidp (HA4.out.below hb HA4.out.lt);have HB5:=hidp (HB4.out.trans (hb.mono HB4.out.size));have HP5:=hidp (rangeAt_below HP4.out hb (by have:=hBb.out;have:=HA4.out.lt;omega))
            clear hb
            iterate 3
             simp only [aS]
             apply s_val
             case ho=>rfl
             case hw=>rfl
             case hv=>intro w hw;go_simp;first | done | with_reducible rfl | rfl
            simp only [aS]
            refine NoPanic.normal ?_
            have HBZ:=HB5
            go_wp2_with fail
            go_ret
            exact ⟨by rw [HF.out];rfl,HBZ.out⟩
          | true =>
            rw [hf] at cf
            have HOK2:=hidp (show okTo gs (i + 1)=true from by rw [okTo_succ,HOK.out,HAT.out,hv,hpd,hf];simp)
            clear hv hf
            go_wp2_with (first|(refine wpL_idxR tyG rfl (.tmp 8) (.tmp 10) rfl BK off n _ i rfl rfl hlt ?_)|(refine wpL_atR tyG rfl (.tmp 13) rfl BK (off + 36 * i) g.row rfl (Gr.len hgok.out) HRI.out ?_)|(refine wpL_newR tyG rfl rfl ?_;intro p4 wq1 n1;have HB1:=hidp (HB.out.trans (n1.below.mono HB.out.size));have hbw:=hidp (Nat.le_trans HB.out.size n1.le);have HR1:=hidp (fun i hi=>rangeAt_below (HR.out i hi) n1.below hBK.out);have hBb:=hidp (show BK<p4 from by have:=n1.at_;have:=hBK.out;omega))|(refine wpL_putR tyG rfl (.tmp 4) (.tmp 14) rfl p4 g.row rfl rfl (Gr.len hgok.out) (Gr.one g) zG rfl n1.arr ?_;intro wq2 ha hp;have HA2:=hidp ha;have HB2:=hidp (hp.below' HB1.out hbw.out);have HR2:=hidp (fun i hi=>rangeAt_below (HR1.out i hi) (hp.below p4 (Nat.le_refl _)) hBb.out);clear ha hp n1 HB1 HR1))
            obtain ⟨U,hU⟩:∃ U,({ wq2 with drawn:=wq2.drawn + 1 }:World)=U:=⟨_,rfl⟩
            have bU:Below wq2.heap.size wq2 U:=by rw [← hU];exact (Below.refl _ _).drew
            have hbz:=hidp HA2.out.lt
            have HA3:=hidp (HA2.out.below bU HA2.out.lt);have HB3:=hidp (HB2.out.trans (bU.mono HB2.out.size));have HR3:=hidp (fun i hi=>rangeAt_below (HR2.out i hi) bU (by have:=hBb.out;have:=hbz.out;omega))
            clear bU HA2 HB2 HR2
            have HP3:=hidp (show U.rangeAt BK (off + 36 * (i - 1)) p.row from by rw [← hpe.out];exact HR3.out (i - 1) (by omega))
            refine wp_region_noPanic ?_
            refine wp_region_scr (S:=fun W=>Arr W p4 61 g.row∧W.rangeAt BK (off + 36 * (i - 1)) p.row) (.take 0 (.one 1 (.take 2 (.take 3 (.take 4 (.take 5 (.take 6 (.take 7 (.take 8 (.take 9 (.take 10 (.take 11 (.take 12 (.one 13 (.take 14 (.take 15 (.take 16 .done))))))))))))))))) (by kernel_rfl) (by kernel_rfl) (fun _ _ _ _ _ h=>h) (by simp [Scr.depth]) (by kernel_rfl) (by rw [hU];exact ⟨HA3.out,HP3.out⟩) ?_
            simp only [hU]
            clear hU
            refine s_getR tyG rfl rfl (.tmp 4) rfl p4 g.row rfl (Gr.len hgok.out) (fun w h=>h.1) ?_
            simp only [aS]
            apply o_call (f:=143) (args:=#[.agg g.row.toArray]) (v:=.bool true) (hc:=cv.out _)
            case ho=>rfl
            case hw=>rfl
            case hop=>go_simp;first | done | rfl
            rintro X4 hb
            refine ⟨⟨HA3.out.below hb HA3.out.lt,rangeAt_below HP3.out hb (by have:=hBb.out;have:=HA3.out.lt;omega)⟩,?_⟩
            have HA4:=hidp (HA3.out.below hb HA3.out.lt);have HB4:=hidp (HB3.out.trans (hb.mono HB3.out.size));have HP4:=hidp (rangeAt_below HP3.out hb (by have:=hBb.out;have:=HA3.out.lt;omega))
            clear hb
            iterate 3
             simp only [aS]
             apply s_val
             case ho=>rfl
             case hw=>rfl
             case hv=>intro w hw;go_simp;first | done | with_reducible rfl | rfl
            simp only [aS]
            apply s_val
            case ho=>rfl
            case hw=>rfl
            case hv=>intro w hw;have q:=ei;go_simp;first | done | with_reducible rfl | rfl
            simp only [aS]
            apply s_val
            case ho=>rfl
            case hw=>rfl
            case hv=>intro w hw;go_simp;first | done | with_reducible rfl | rfl
            simp only [aS]
            refine s_getR tyG rfl rfl (.tmp 4) rfl p4 g.row rfl (Gr.len hgok.out) (fun w h=>h.1) ?_
            iterate 2
             simp only [aS]
             apply s_val
             case ho=>rfl
             case hw=>rfl
             case hv=>intro w hw;go_simp;first | done | with_reducible rfl | rfl
            simp only [aS]
            apply s_val (v:=.int .i64 ((i - 1:Nat):Int))
            case ho=>rfl
            case hw=>rfl
            case hv=>intro w hw;have q:=hwi;go_simp;first | done | with_reducible rfl | rfl
            simp only [aS]
            refine s_idxR tyG rfl rfl (.tmp 23) (.tmp 25) rfl BK off n _ (i - 1) rfl rfl (by omega) ?_
            simp only [aS]
            refine s_atG rfl rfl (.tmp 26) rfl BK (off + 36 * (i - 1)) p rfl hpok.out (fun w h=>h.2) ?_
            simp only [aS]
            apply o_call (f:=144) (args:=#[.agg g.row.toArray,.agg p.row.toArray]) (v:=.bool true) (hc:=cf.out _)
            case ho=>rfl
            case hw=>rfl
            case hop=>go_simp;first | done | rfl
            rintro X5 hb
            refine ⟨⟨HA4.out.below hb HA4.out.lt,rangeAt_below HP4.out hb (by have:=hBb.out;have:=HA4.out.lt;omega)⟩,?_⟩
            have HA5:=hidp (HA4.out.below hb HA4.out.lt);have HB5:=hidp (HB4.out.trans (hb.mono HB4.out.size));have HP5:=hidp (rangeAt_below HP4.out hb (by have:=hBb.out;have:=HA4.out.lt;omega))
            clear hb
            iterate 3
             simp only [aS]
             apply s_val
             case ho=>rfl
             case hw=>rfl
             case hv=>intro w hw;go_simp;first | done | with_reducible rfl | rfl
            simp only [aS]
            refine NoPanic.normal ?_
            have HBZ:=HB5
            have HRZ:=hidp (fun i hi=>rangeAt_below (HR.out i hi) (Below.refl _ _) hBK.out)
            go_wp2_with fail
            exact ⟨⟨i + 1,by go_num,by omega,HOK2.out,HBZ.out⟩,by simp [intOf];omega⟩
    · have e1:decide ((i:Int)<(n:Int))=false:=by simp;omega
      have hin:i=n:=by omega
      have HF:=hidp (show ckB gs=0 from if_pos (by unfold okB;rw [Bool.and_eq_true,decide_eq_true_eq,HN.out];exact ⟨by omega,by rw [← hin];exact HOK.out⟩))
      go_wp2_with fail
      go_ret
      exact ⟨by rw [HF.out];rfl,HB.out⟩
end
section
open Go.RowKit RwK
end
section
open Go.RowKit RwK
def posP (p:Gr→Bool) (gs:List Gr):Int:=if gs.findIdx p<gs.length then (gs.findIdx p:Int) else -1
theorem pos_hit {p:Gr→Bool} {gs:List Gr} {i:Nat} (h:i<gs.length) (h1:p gs[i]=true) (h2:∀ j,j<i→(hj:j<gs.length)→p gs[j]=false):posP p gs=i:=by
 have:gs.findIdx p=i:=(List.findIdx_eq h).2 ⟨h1,fun j hj=>h2 j hj (by omega)⟩
 unfold posP;rw [this,if_pos h]
theorem pos_miss {p:Gr→Bool} {gs:List Gr} (h2:∀ j,(hj:j<gs.length)→p gs[j]=false):posP p gs=-1:=by
 refine if_neg fun h=>?_
 have h1:=List.findIdx_getElem (w:=h)
 rw [h2 _ h] at h1
 cases h1
theorem indexFunc_any (w:World) (v:Value) (gs:List Gr) (hv:GsAt w v gs) (hnn:gs.length≤4611686018427387904) (p:Gr→Bool) (g:Nat) (lb:Array Value) (eg:∀ args w,(callFunc g args).run Tryz.prog w=.ok (.enter g args) w)
 (hp:∀ (W:World) (x:Gr),x.ok→Below w.heap.size w W→Calls Tryz.prog g (#[.agg x.row.toArray]++lb) W fun e w'=>e=.returned (.bool (p x))∧Below W.heap.size W w') :
 Calls Tryz.prog 149 #[v,.func (.func g) #[] lb] w fun e w'=>e=.returned (.int .i64 (posP p gs))∧Below w.heap.size w w':=by
 have HV:=hidp hv;clear hv
 have HP:=hidp hp;clear hp
 obtain ⟨av,cv0,rfl⟩:=HV.out.form
 obtain ⟨n,hn⟩:∃ n,gs.length=n:=⟨_,rfl⟩
 have HN:=hidp hn
 rw [hn] at HV hnn ⊢
 clear hn
 go_enter Tryz.func149,Tryz.ntmps149
 go_wp2_with fail
 go_loopw [8] (fun t8 wr=>∃ i:Nat,t8=.int .i64 (i:Int)∧i≤n∧Hid (∀ j,j<i→(hj:j<gs.length)→p gs[j]=false)∧Below w.heap.size w wr) (fun t8 _=>n - (intOf t8).toNat)
 case atStart=>exact ⟨0,rfl,by omega,hidp (fun j h=>absurd h (Nat.not_lt_zero _)),Below.refl _ _⟩
 case round =>
  obtain ⟨i,rfl,hi,HOK,hb⟩:=hrel
  have HB:=hidp hb
  clear hb
  by_cases hlt:i<n
  · have e1:decide ((i:Int)<(n:Int))=true:=by simp;omega
    have hgl:i<gs.length:=by rw [HN.out];exact hlt
    obtain ⟨BK,off,c,e2,hc,hBK0,hR0⟩:=HV.out.get (by rw [HN.out];omega)
    rw [HN.out] at e2
    simp only [Value.slice.injEq] at e2
    obtain ⟨rfl,-,rfl⟩:=e2
    obtain ⟨x,hge⟩:∃ x,gs[i]=x:=⟨_,rfl⟩
    have HRI:=hidp (show wr.rangeAt BK (off + 36 * i) x.row from by rw [← hge];exact rangeAt_below (hR0 i hgl) HB.out hBK0)
    have hxok:=hidp (show x.ok from by rw [← hge];exact HV.out.2 _ (List.getElem_mem hgl))
    have hcall:=HP.out wr x hxok.out HB.out
    clear hR0 hBK0 hc
    cases hq:p x with
    | true =>
      rw [hq] at hcall
      have HF:=hidp (show posP p gs=i from pos_hit hgl (by rw [hge];exact hq) HOK.out)
      clear hge hq
      go_wp2_with (first|(refine wpL_idxR tyG rfl (.tmp 12) (.tmp 13) rfl BK off n _ i rfl rfl hlt ?_)|(refine wpL_atR tyG rfl (.tmp 14) rfl BK (off + 36 * i) x.row rfl (Gr.len hxok.out) HRI.out ?_)|(go_at_fn g;refine hcall.mono ?_;rintro e w' ⟨rfl,hb'⟩))
      go_ret
      exact ⟨by rw [HF.out];rfl,HB.out.trans (hb'.mono HB.out.size)⟩
    | false =>
      rw [hq] at hcall
      have HOK2:=hidp (show ∀ j,j<i + 1→(hj:j<gs.length)→p gs[j]=false from fun j h hj=>by
       rcases (by omega:j<i∨j=i) with h | rfl
       · exact HOK.out j h hj
       · rw [hge];exact hq)
      clear hge hq
      go_wp2_with (first|(refine wpL_idxR tyG rfl (.tmp 12) (.tmp 13) rfl BK off n _ i rfl rfl hlt ?_)|(refine wpL_atR tyG rfl (.tmp 14) rfl BK (off + 36 * i) x.row rfl (Gr.len hxok.out) HRI.out ?_)|(go_at_fn g;refine hcall.mono ?_;rintro e w' ⟨rfl,hb'⟩))
      exact ⟨⟨i + 1,by go_num,by omega,HOK2,HB.out.trans (hb'.mono HB.out.size)⟩,by simp [intOf];omega⟩
  · have e1:decide ((i:Int)<(n:Int))=false:=by simp;omega
    have hin:i=n:=by omega
    have HF:=hidp (show posP p gs=-1 from pos_miss fun j hj=>HOK.out j (by rw [hin,← HN.out];exact hj) hj)
    go_wp2_with fail
    go_ret
    exact ⟨by rw [HF.out];rfl,HB.out⟩
def fdG (s t:Int) (x:Gr):Bool:=decide (x.s=s) && decide (x.f≤t) && decide (t≤x.t)
theorem pred3 (w:World) (b4 b5:Nat) (s t:Int) (h4:w.cell? ⟨b4,0,none⟩=some (.int .i64 s)) (h5:w.cell? ⟨b5,0,none⟩=some (.int .i64 t)) (W:World) (x:Gr) (hx:x.ok) (hb:Below w.heap.size w W) :
 Calls Tryz.prog 150 (#[.agg x.row.toArray]++#[.pointer (some ⟨b4,0,none⟩),.pointer (some ⟨b5,0,none⟩)]) W fun e w'=>e=.returned (.bool (fdG s t x))∧Below W.heap.size W w':=by
 have l4:b4<w.heap.size:=by have:=World.block_lt_of_cell? w _ h4;simpa using this
 have l5:b5<w.heap.size:=by have:=World.block_lt_of_cell? w _ h5;simpa using this
 have H4:=hidp ((hb.cell (p:=⟨b4,0,none⟩) l4).trans h4);have H5:=hidp ((hb.cell (p:=⟨b5,0,none⟩) l5).trans h5)
 have HL4:=hidp (Nat.lt_of_lt_of_le l4 hb.size);have HL5:=hidp (Nat.lt_of_lt_of_le l5 hb.size)
 clear h4 h5 l4 l5 hb
 show Calls Tryz.prog 150 #[.agg x.row.toArray,.pointer (some ⟨b4,0,none⟩),.pointer (some ⟨b5,0,none⟩)] W _
 by_cases c0:x.s=s
 · have d0:(x.s == s)=true:=by simp [c0]
   by_cases c1:x.f≤t
   · have d1:decide (x.f≤t)=true:=decide_eq_true c1
     by_cases c2:t≤x.t
     · have d2:decide (t≤x.t)=true:=decide_eq_true c2
       have HF:=hidp (show fdG s t x=true from by unfold fdG;simp [*])
       go_enter Tryz.func150,Tryz.ntmps150
       go_wp2_with (refine wpL_boxR 61 rfl (.tmp 0) rfl x.row rfl ?_;intro b3 w2 n2;have HB2:=hidp n2.below;obtain ⟨x0,x1,x2,x3⟩:=gr_cells n2.arr;have g1:=(n2.below.cell (p:=⟨b4,0,none⟩) (HL4.out)).trans H4.out;have g2:=(n2.below.cell (p:=⟨b5,0,none⟩) (HL5.out)).trans H5.out;clear n2)
       go_ret
       exact ⟨by rw [HF.out];rfl,HB2.out⟩
     · have d2:decide (t≤x.t)=false:=decide_eq_false c2
       have HF:=hidp (show fdG s t x=false from by unfold fdG;simp [*])
       go_enter Tryz.func150,Tryz.ntmps150
       go_wp2_with (refine wpL_boxR 61 rfl (.tmp 0) rfl x.row rfl ?_;intro b3 w2 n2;have HB2:=hidp n2.below;obtain ⟨x0,x1,x2,x3⟩:=gr_cells n2.arr;have g1:=(n2.below.cell (p:=⟨b4,0,none⟩) (HL4.out)).trans H4.out;have g2:=(n2.below.cell (p:=⟨b5,0,none⟩) (HL5.out)).trans H5.out;clear n2)
       go_ret
       exact ⟨by rw [HF.out];rfl,HB2.out⟩
   · have d1:decide (x.f≤t)=false:=decide_eq_false c1
     have HF:=hidp (show fdG s t x=false from by unfold fdG;simp [*])
     go_enter Tryz.func150,Tryz.ntmps150
     go_wp2_with (refine wpL_boxR 61 rfl (.tmp 0) rfl x.row rfl ?_;intro b3 w2 n2;have HB2:=hidp n2.below;obtain ⟨x0,x1,x2,x3⟩:=gr_cells n2.arr;have g1:=(n2.below.cell (p:=⟨b4,0,none⟩) (HL4.out)).trans H4.out;have g2:=(n2.below.cell (p:=⟨b5,0,none⟩) (HL5.out)).trans H5.out;clear n2)
     go_ret
     exact ⟨by rw [HF.out];rfl,HB2.out⟩
 · have d0:(x.s == s)=false:=by simpa using c0
   have HF:=hidp (show fdG s t x=false from by unfold fdG;simp [*])
   go_enter Tryz.func150,Tryz.ntmps150
   go_wp2_with (refine wpL_boxR 61 rfl (.tmp 0) rfl x.row rfl ?_;intro b3 w2 n2;have HB2:=hidp n2.below;obtain ⟨x0,x1,x2,x3⟩:=gr_cells n2.arr;have g1:=(n2.below.cell (p:=⟨b4,0,none⟩) (HL4.out)).trans H4.out;have g2:=(n2.below.cell (p:=⟨b5,0,none⟩) (HL5.out)).trans H5.out;clear n2)
   go_ret
   exact ⟨by rw [HF.out];rfl,HB2.out⟩
section
variable {P:Program} {ST T k by_:Nat} {z:List Value} {ops:Array Oper} {rest:List Oper} {o:Oper} {a:Act} {w:World} {Q:Exit→Act→World→Prop}
end
end
section
open Go.RowKit RwK
theorem gz_ok:gz.ok:=rfl
theorem build_gr (w:World):(Instr.build 61 #[]).run Tryz.prog w=.ok (.agg zG.toArray) w:=by
 have hz:=tyG.zero w
 have hu:=Tryz.underlying61
 unfold Instr.build
 simp [Sem.run_bind,hz,run_underlying hu,Instr.fill,Value.cells]
section
variable {ops:Array Oper} {rest:List Oper} {o:Oper} {a:Act} {w:World} {Q:Exit→Act→World→Prop}
theorem wpL_zeroG (hgd:o.guard=none) (ho:o.op=.build 61 #[])
 (h:wpList Tryz.prog ops Q rest (a.put o.dst (.agg zG.toArray)) w):wpList Tryz.prog ops Q (o :: rest) a w:=by
 refine wpList_plain hgd fun K hK=>?_
 have:=hK _ _ h
 unfold Oper.wp execOp
 simp only [ho,List.map_toArray,List.map_nil,Array.map_empty,Sem.run_bind,build_gr,Result.andThen_ok]
 exact this
end
def fiV (gs:List Gr) (s t:Int):Gr:=if okB gs=true then (if gs.findIdx (fdG s t)<gs.length then gs.getD (gs.findIdx (fdG s t)) gz else gz) else gz
def fiE (gs:List Gr) (s t:Int):Int:=if okB gs=true then (if gs.findIdx (fdG s t)<gs.length then 0 else 3) else 2
theorem fiV_ok {gs:List Gr} (h:∀ g ∈ gs,g.ok) (s t:Int):(fiV gs s t).ok:=by
 unfold fiV
 split
 · split
   · rename_i _ h1;rw [getD_at h1];exact h _ (List.getElem_mem h1)
   · exact gz_ok
 · exact gz_ok
section
variable {ops:Array Oper} {rest:List Oper} {o:Oper} {a:Act} {w:World} {Q:Exit→Act→World→Prop}
theorem wpL_boxI (T:TypeId) (hgd:o.guard=none) (x:Operand) (ho:o.op=.box T x) (v:Value) (hx:a.eval x=v) (hv:v.cells=#[v])
 (h:∀ b W,NewAt w W b T [v]→wpList Tryz.prog ops Q rest (a.put o.dst (.pointer (some ⟨b,0,none⟩))) W):wpList Tryz.prog ops Q (o :: rest) a w:=by
 refine wpList_plain hgd fun K hK=>?_
 have:=hK _ _ (h w.heap.size (w.alloc (.cells #[v] T)) (NewAt.mk' w T [v]))
 unfold Oper.wp execOp
 simp only [ho,Instr.box,Sem.run_bind,Result.andThen_ok,hx]
 simp [newVar,newRow,hv]
 exact this
end
theorem bfind_any (w:World) (v:Value) (gs:List Gr) (hv:GsAt w v gs) (s t:Int) :
 Calls Tryz.prog 109 #[v,.int .i64 s,.int .i64 t] w fun e w'=>e=.returned (.tuple #[.agg (fiV gs s t).row.toArray,.int .i64 (fiE gs s t)])∧Below w.heap.size w w':=by
 have HV:=hidp hv;clear hv
 have ck:=hidp (fun W v (h:GsAt W v gs)=>bcheck_any W v gs h)
 obtain ⟨av,cv,rfl⟩:=HV.out.form
 cases hok:okB gs with
 | false =>
   have hc:ckB gs=2:=by unfold ckB;rw [hok];rfl
   have HF:=hidp (show (fiV gs s t).row=zG from by unfold fiV;rw [hok];rfl)
   have HE:=hidp (show fiE gs s t=2 from by unfold fiE;rw [hok];rfl)
   rw [hc] at ck
   clear hc hok
   go_enter Tryz.func109,Tryz.ntmps109
   go_wp2_with (first
    | (refine wpL_boxI 3 rfl (.tmp 1) rfl (.int .i64 s) rfl rfl ?_;intro p4 w4 n4)
    | (refine wpL_boxI 2 rfl (.tmp 2) rfl (.int .i64 t) rfl rfl ?_;intro p5 w5 n5;have H4a:=hidp (n5.old n4.arr);have H5a:=hidp n5.arr;have HB5:=hidp (n4.below.trans (n5.below.mono n4.below.size));clear n4 n5)
    | (refine wpL_newR tyG rfl rfl ?_;intro b6 w6 n6;have H4:=hidp (n6.old H4a.out);have H5:=hidp (n6.old H5a.out);have HB:=hidp (HB5.out.trans (n6.below.mono HB5.out.size));have HR:=hidp n6.arr;have h6w:=hidp (Nat.le_trans HB5.out.size n6.le);clear n6 H4a H5a HB5))
   refine (ck.out _ _ (HV.out.to HB.out)).mono ?_
   rintro e w7 ⟨rfl,hb7⟩
   have HB7:=hidp (HB.out.trans (hb7.mono HB.out.size));have HR7:=hidp (HR.out.below hb7 HR.out.lt);have H47:=hidp (H4.out.below hb7 H4.out.lt);have H57:=hidp (H5.out.below hb7 H5.out.lt)
   clear hb7 HB HR H4 H5
   go_wp2_with (first|(refine wpL_zeroG rfl rfl ?_)|(refine wpL_putR tyG rfl (.tmp 6) (.tmp 14) rfl b6 zG rfl rfl rfl (fun u hu=>gz.one u hu) zG rfl HR7.out ?_;intro w9 ha9 hp9))
   have HBZ:=hidp (hp9.below' HB7.out h6w.out)
   obtain ⟨fs,hu⟩:=tyG.ut
   refine bodyPost_ret (results_row_tmp (P:=Tryz.prog) (p:=6) (u:=7) (ty:=61) Tryz.results109 _ _ b6 61 zG.toArray (0,0) _ rfl ha9 hu rfl (tyG.size rfl) _ rfl) rfl ⟨by rw [HF.out,HE.out];rfl,HBZ.out⟩
 | true =>
   have hc:ckB gs=0:=by unfold ckB;rw [hok];rfl
   have hn:gs.length≤256:=by unfold okB at hok;rw [Bool.and_eq_true,decide_eq_true_eq] at hok;exact hok.1
   rw [hc] at ck
   have ci:=hidp (fun W v (h:GsAt W v gs) p4 p5 (h4:W.cell? ⟨p4,0,none⟩=some (.int .i64 s)) (h5:W.cell? ⟨p5,0,none⟩=some (.int .i64 t))=>indexFunc_any W v gs h (by omega) (fdG s t) 150 #[.pointer (some ⟨p4,0,none⟩),.pointer (some ⟨p5,0,none⟩)] (enters_of Tryz.func150 (by kernel_rfl) rfl) (fun W' x hx hb=>pred3 W p4 p5 s t h4 h5 W' x hx hb))
   obtain ⟨n,hnn⟩:∃ n,gs.length=n:=⟨_,rfl⟩
   have HN:=hidp hnn
   rw [hnn] at HV hn ⊢
   by_cases hf:gs.findIdx (fdG s t)<gs.length
   · obtain ⟨i,hi⟩:∃ i,gs.findIdx (fdG s t)=i:=⟨_,rfl⟩
     have hil:i<gs.length:=by rw [← hi];exact hf
     obtain ⟨g,hg⟩:∃ g,gs[i]=g:=⟨_,rfl⟩
     have HF:=hidp (show fiV gs s t=g from by unfold fiV;rw [hok,if_pos rfl,if_pos hf,hi,getD_at hil,hg])
     have HE:=hidp (show fiE gs s t=0 from by unfold fiE;rw [hok,if_pos rfl,if_pos hf])
     have hp:posP (fdG s t) gs=i:=by unfold posP;rw [if_pos hf,hi]
     have hgok:=hidp (show g.ok from by rw [← hg];exact HV.out.2 _ (List.getElem_mem hil))
     obtain ⟨BK,off,c,e2,hcc,hBK0,hR0⟩:=HV.out.get (by omega)
     rw [hnn] at e2
     simp only [Value.slice.injEq] at e2
     obtain ⟨rfl,-,rfl⟩:=e2
     have HR0:=hidp (show w.rangeAt BK (off + 36 * i) g.row from by rw [← hg];exact hR0 i hil)
     have hlt:i<n:=by omega
     have eneg:decide ((i:Int)<0)=false:=by simp
     have eneg2:¬ (i:Int)<0:=by omega
     rw [hp] at ci
     clear hc hok hf hi hg hp hR0 hil hcc hnn
     go_enter Tryz.func109,Tryz.ntmps109
     go_wp2_with (first
      | (refine wpL_boxI 3 rfl (.tmp 1) rfl (.int .i64 s) rfl rfl ?_;intro p4 w4 n4)
      | (refine wpL_boxI 2 rfl (.tmp 2) rfl (.int .i64 t) rfl rfl ?_;intro p5 w5 n5;have H4a:=hidp (n5.old n4.arr);have H5a:=hidp n5.arr;have HB5:=hidp (n4.below.trans (n5.below.mono n4.below.size));clear n4 n5)
      | (refine wpL_newR tyG rfl rfl ?_;intro b6 w6 n6;have H4:=hidp (n6.old H4a.out);have H5:=hidp (n6.old H5a.out);have HB:=hidp (HB5.out.trans (n6.below.mono HB5.out.size));have HR:=hidp n6.arr;have h6w:=hidp (Nat.le_trans HB5.out.size n6.le);clear n6 H4a H5a HB5))
     refine (ck.out _ _ (HV.out.to HB.out)).mono ?_
     rintro e w7 ⟨rfl,hb7⟩
     have HB7:=hidp (HB.out.trans (hb7.mono HB.out.size));have HR7:=hidp (HR.out.below hb7 HR.out.lt);have H47:=hidp (H4.out.below hb7 H4.out.lt);have H57:=hidp (H5.out.below hb7 H5.out.lt)
     clear hb7 HB HR H4 H5
     go_wp2_with fail
     refine (ci.out _ _ (HV.out.to HB7.out) p4 p5 (H47.out.cell 0 (by simp)) (H57.out.cell 0 (by simp))).mono ?_
     rintro e w8 ⟨rfl,hb8⟩
     have HB8:=hidp (HB7.out.trans (hb8.mono HB7.out.size));have HR8:=hidp (HR7.out.below hb8 HR7.out.lt)
     have HR9:=hidp (rangeAt_below HR0.out HB8.out hBK0)
     clear hb8 HB7 HR7 H47 H57
     go_wp2_with (first|(refine wpL_idxR tyG rfl (.tmp 22) (.tmp 23) rfl BK off n _ i rfl rfl hlt ?_)|(refine wpL_atR tyG rfl (.tmp 24) rfl BK (off + 36 * i) g.row rfl (Gr.len hgok.out) HR9.out ?_)|(refine wpL_putR tyG rfl (.tmp 6) (.tmp 25) rfl b6 g.row rfl rfl (Gr.len hgok.out) (Gr.one g) zG rfl HR8.out ?_;intro w9 ha9 hp9))
     have HBZ:=hidp (hp9.below' HB8.out h6w.out)
     obtain ⟨fs,hu⟩:=tyG.ut
     refine bodyPost_ret (results_row_tmp (P:=Tryz.prog) (p:=6) (u:=7) (ty:=61) Tryz.results109 _ _ b6 61 g.row.toArray (0,0) _ rfl ha9 hu rfl (tyG.size (Gr.len hgok.out)) _ rfl) rfl ⟨by rw [HF.out,HE.out];rfl,HBZ.out⟩
   · have HF:=hidp (show (fiV gs s t).row=zG from by unfold fiV;rw [hok,if_pos rfl,if_neg hf];rfl)
     have HE:=hidp (show fiE gs s t=3 from by unfold fiE;rw [hok,if_pos rfl,if_neg hf])
     have hp:posP (fdG s t) gs=-1:=if_neg hf
     rw [hp] at ci
     clear hc hok hf hp hnn
     go_enter Tryz.func109,Tryz.ntmps109
     go_wp2_with (first
      | (refine wpL_boxI 3 rfl (.tmp 1) rfl (.int .i64 s) rfl rfl ?_;intro p4 w4 n4)
      | (refine wpL_boxI 2 rfl (.tmp 2) rfl (.int .i64 t) rfl rfl ?_;intro p5 w5 n5;have H4a:=hidp (n5.old n4.arr);have H5a:=hidp n5.arr;have HB5:=hidp (n4.below.trans (n5.below.mono n4.below.size));clear n4 n5)
      | (refine wpL_newR tyG rfl rfl ?_;intro b6 w6 n6;have H4:=hidp (n6.old H4a.out);have H5:=hidp (n6.old H5a.out);have HB:=hidp (HB5.out.trans (n6.below.mono HB5.out.size));have HR:=hidp n6.arr;have h6w:=hidp (Nat.le_trans HB5.out.size n6.le);clear n6 H4a H5a HB5))
     refine (ck.out _ _ (HV.out.to HB.out)).mono ?_
     rintro e w7 ⟨rfl,hb7⟩
     have HB7:=hidp (HB.out.trans (hb7.mono HB.out.size));have HR7:=hidp (HR.out.below hb7 HR.out.lt);have H47:=hidp (H4.out.below hb7 H4.out.lt);have H57:=hidp (H5.out.below hb7 H5.out.lt)
     clear hb7 HB HR H4 H5
     go_wp2_with fail
     refine (ci.out _ _ (HV.out.to HB7.out) p4 p5 (H47.out.cell 0 (by simp)) (H57.out.cell 0 (by simp))).mono ?_
     rintro e w8 ⟨rfl,hb8⟩
     have HB8:=hidp (HB7.out.trans (hb8.mono HB7.out.size));have HR8:=hidp (HR7.out.below hb8 HR7.out.lt)
     clear hb8 HB7 HR7 H47 H57
     go_wp2_with (first|(refine wpL_zeroG rfl rfl ?_)|(refine wpL_putR tyG rfl (.tmp 6) (.tmp 21) rfl b6 zG rfl rfl rfl (fun u hu=>gz.one u hu) zG rfl HR8.out ?_;intro w9 ha9 hp9))
     have HBZ:=hidp (hp9.below' HB8.out h6w.out)
     obtain ⟨fs,hu⟩:=tyG.ut
     refine bodyPost_ret (results_row_tmp (P:=Tryz.prog) (p:=6) (u:=7) (ty:=61) Tryz.results109 _ _ b6 61 zG.toArray (0,0) _ rfl ha9 hu rfl (tyG.size rfl) _ rfl) rfl ⟨by rw [HF.out,HE.out];rfl,HBZ.out⟩
def bvE (gs:List Gr) (s t:Int) (x g:ByteArray):Int:=if fiE gs s t=0 then vfE (fiV gs s t).r (fiV gs s t).h x g else fiE gs s t
theorem bverify_any (w:World) (v:Value) (gs:List Gr) (hv:GsAt w v gs) (s t:Int) (x g:ByteArray) (hx:x.size≤281474976710656) (hg:g.size≤281474976710656) (hK:KT w) :
 Calls Tryz.prog 57 #[v,.int .i64 s,.int .i64 t,.string x,.string g] w fun e w'=>e=.returned (.int .i64 (bvE gs s t x g))∧Below w.heap.size w w':=by
 have HK:=hidp hK;have hkp:=hK.pos;clear hK
 have cf:=bfind_any w v gs hv s t
 have hok:=hidp (fiV_ok hv.2 s t)
 have hbv:bvE gs s t x g=if fiE gs s t=0 then vfE (fiV gs s t).r (fiV gs s t).h x g else fiE gs s t:=rfl
 obtain ⟨E,hE⟩:∃ E,fiE gs s t=E:=⟨_,rfl⟩
 obtain ⟨G,hG⟩:∃ E,fiV gs s t=E:=⟨_,rfl⟩
 rw [hE,hG] at cf hbv
 rw [hG] at hok
 obtain ⟨R,hR⟩:∃ R,bvE gs s t x g=R:=⟨_,rfl⟩
 rw [hR] at hbv ⊢
 clear hE hG hR hv
 by_cases h0:E=0
 · rw [if_pos h0] at hbv
   have cv:=hidp (fun W (k:KT W)=>verify_any W G.r hok.out G.h x g hx hg k)
   rw [← hbv] at cv
   subst h0
   go_enter Tryz.func57,Tryz.ntmps57
   go_wp2_with fail
   refine cf.mono ?_
   rintro e w1 ⟨rfl,hb1⟩
   have HB1:=hidp hb1;clear hb1 cf hbv
   go_wp2_with (first|(refine wpL_newR tyG rfl rfl ?_;intro b2 w2 n2;have HB2:=hidp (HB1.out.trans (n2.below.mono HB1.out.size));have h2w:=hidp (Nat.le_trans HB1.out.size n2.le))|(refine wpL_putR tyG rfl (.tmp 11) (.tmp 18) rfl b2 G.row rfl rfl (Gr.len hok.out) (Gr.one G) zG rfl n2.arr ?_;intro w3 ha hp;have HA:=hidp ha;have HB3:=hidp (hp.below' HB2.out h2w.out);clear ha hp n2;obtain ⟨x0,x1,x2,x3⟩:=gr_cells HA.out;have HH:=hidp (gr_hash HA.out.range))|(refine wpL_at rfl (.tmp 23) rfl b2 4 G.r rfl hok.out (by simpa using HH.out) ?_))
   clear x0 x1 x2 x3
   refine (cv.out _ (HK.out.below HB3.out hkp)).mono ?_
   rintro e w4 ⟨rfl,hb4⟩
   have HB4:=hidp (HB3.out.trans (hb4.mono HB3.out.size));clear hb4
   go_wp2_with fail
   go_ret
   exact ⟨rfl,HB4.out⟩
 · rw [if_neg h0] at hbv
   subst hbv
   have e0:(R != 0)=true:=by simpa using h0
   have e1:(R == 0)=false:=by simpa using h0
   go_enter Tryz.func57,Tryz.ntmps57
   go_wp2_with fail
   refine cf.mono ?_
   rintro e w1 ⟨rfl,hb1⟩
   have HB1:=hidp hb1;clear hb1 cf
   go_wp2_with (first|(refine wpL_newR tyG rfl rfl ?_;intro b2 w2 n2;have HB2:=hidp (HB1.out.trans (n2.below.mono HB1.out.size));have h2w:=hidp (Nat.le_trans HB1.out.size n2.le))|(refine wpL_putR tyG rfl (.tmp 11) (.tmp 18) rfl b2 G.row rfl rfl (Gr.len hok.out) (Gr.one G) zG rfl n2.arr ?_;intro w3 ha hp;have HB3:=hidp (hp.below' HB2.out h2w.out);clear ha hp n2))
   go_ret
   exact ⟨rfl,HB3.out⟩
end
section
open Go.RowKit RwK
theorem eqin_hd (d:Nat) (W:World) (a b:List UInt8) (ha:a.length=32) (hb:b.length=32) :
 (Op.equalIn (d + 2) 58 (.agg (u8s a).toArray) (.agg (u8s b).toArray)).run Tryz.prog W=.ok (decide (a=b)) W:=by
 obtain ⟨i0,hi,hz0,hz1,hz2⟩:=info_parts info5
 have hu:Tryz.prog.underlying 58=some (.array 32 5):=by kernel_rfl
 have hu8:Tryz.prog.underlying 5=some (.int .u8):=Tryz.underlying5
 have hsz:∀ W,(sizeOf 5).run Tryz.prog W=.ok 1 W:=by intro W;simp [sizeOf,typeInfo,hi,hz1]
 have hpart:∀ (l:List UInt8) (i:Nat) (W:World),l.length=32→i<32→(part 5 (u8s l).toArray (i * 1)).run Tryz.prog W=.ok (.int .u8 ((l.getD i 0).toNat:Int)) W:=by
  intro l i W hl hlt
  simp [part,sizeOf,typeInfo,hi,hz0,hz1,hz2,hl,hlt,u8s,List.getD_eq_getElem?_getD]
 have hdec:decide (a=b)=(List.range' 0 32).all (fun i=>a.getD i 0 == b.getD i 0):=by
  rw [Bool.eq_iff_iff,decide_eq_true_iff,List.all_eq_true]
  constructor
  · rintro rfl i _;simp
  · intro h
    apply List.ext_getElem (by omega)
    intro i h1 h2
    have:=h i (by simp [List.mem_range'];omega)
    simpa [List.getD_eq_getElem?_getD,h1,h2] using this
 rw [hdec]
 unfold Op.equalIn
 simp only [Sem.run_bind,run_underlying hu,Result.andThen_ok,hsz]
 rw [Std.Legacy.Range.forIn_eq_forIn_range']
 have hall:∀ i ∈ List.range' 0 32,i<32:=by intro i h;simp [List.mem_range'] at h;omega
 show ((Sem.run Tryz.prog (forIn (List.range' 0 32) _ _) W).andThen _)=_
 generalize List.range' 0 32=is at hall ⊢
 induction is generalizing W with
 | nil=>simp
 | cons i is ih =>
   have hi32:=hall i (by simp)
   have ih:=ih W (fun j hj=>hall j (by simp [hj]))
   simp only [List.forIn_cons,Sem.run_bind,hpart a i _ ha hi32,hpart b i _ hb hi32,Result.andThen_ok,run_equalIn_int _ _ _ _ _ _ _ hu8,Sem.run_ite,List.all_cons]
   have hbeq:(((a.getD i 0).toNat:Int) == ((b.getD i 0).toNat:Int))=(a.getD i 0 == b.getD i 0):=by
    rw [Bool.eq_iff_iff,beq_iff_eq,beq_iff_eq,← UInt8.toNat_inj];omega
   rw [hbeq]
   cases a.getD i 0 == b.getD i 0
   · simp
   · simpa using ih
end
end Go.Proofs.YtokakgjcegmabaaGreatDoor
