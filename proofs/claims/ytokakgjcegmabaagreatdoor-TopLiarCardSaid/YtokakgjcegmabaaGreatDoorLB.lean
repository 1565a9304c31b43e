import Derived.Test.YtokakgjcegmabaaGreatDoorRows
import Derived.Test.YtokakgjcegmabaaGreatDoorLA
import Derived.WalkKit
import Derived.WalkSpells
import Derived.WalkLawsBesides
import Derived.Handy
import Derived.Lib.UnsafeStr
import Derived.Lib.BufferWrite
import Derived.BigQuiet
import Derived.Deep.QuietTactic
import Derived.RangeFuncNested
import Derived.RangeFuncBound
import Derived.RangeFuncCalls
import Derived.RangeFuncLeaves
import Derived.RangeFuncBox
import Derived.Shelf.Abstract
import Derived.Shelf.RegionOpen
import Derived.OwnWalkIn
import Derived.TacticsInMore
import Derived.LoopNIn
import Derived.LoopIn
import Derived.Maps.AppendAt
set_option linter.unusedVariables false
set_option linter.unusedSimpArgs false
set_option maxHeartbeats 64000000
set_option maxRecDepth 100000
namespace Go.Proofs.YtokakgjcegmabaaGreatDoor
section
open Go.RowKit
theorem info5o:(Tryz.prog.info? 5).map (fun i=>(i.zero,i.size,i.bytes))=some (some (.int .u8 0),1,1):=by kernel_rfl
theorem addNum_own (w:World) (B:Nat) (v:Value) (xs:List UInt8) (n:Nat) (hn:n<18446744073709551616) (hx:xs.length + 10≤140737488351232)
 (hown:Own w B 5 v xs) (hB:B≤w.heap.size) :
 Calls Tryz.prog 121 #[v,.int .u64 n] w fun e w'=>∃ v',e=.returned v'∧Own w' B 5 v' (xs++encN n)∧Below B w w':=by
 obtain ⟨i0,hi,hz0,hz1,hz2⟩:=info_parts info5o
 go_enter Tryz.func121,Tryz.ntmps121
 go_wp2
 go_loopw [0,1] (fun t0 t1 wr=>∃ (m:Nat) (ys:List UInt8),t1=.int .u64 m∧m≤n∧Own wr B 5 t0 ys∧ys++encN m=xs++encN n∧Below B w wr)
  (fun _ t1 _=>(intOf t1).toNat)
 case atStart=>exact ⟨n,xs,rfl,Nat.le_refl _,hown,rfl,Below.refl _ _⟩
 case round =>
  obtain ⟨m,ys,rfl,hm,ho,heq,hbl⟩:=hrel
  have HE:=hidp heq;clear heq
  have hyl:ys.length + (encN m).length=xs.length + (encN n).length:=by have:=congrArg List.length HE.out;simpa using this
  have hsz:=hbl.size
  by_cases h128:128≤m
  · have hcb:=hidp (cont_byte m (by omega))
    have hl1:=hidp (congrArg List.length (encN_ge h128))
    have hroom:ys.length + 1≤140737488351232:=by have:=hl1.out;simp at this;have:=encN_len64 n hn;omega
    go_wp2_with ((at_builtin;(refine wpList_app1 rfl (.tmp 7) (.tmp 12) 174 rfl B 5 i0 Tryz.underlying174 hi hz0 hz1 hz2 _ ys rfl (ho.alloc _) ⟨wr.heap.size,0,none⟩ _ _ (contB m) rfl (cell_new1 _ _ _) hcb.out hroom ?_ ?_)))
    · rw [heap_size_alloc];omega
    · intro v' w1 ho1 hb1
      have hb2:=hbl.trans (((Below.refl B wr).alloc (by omega) _).trans hb1)
      clear hb1
      go_wp2
      refine ⟨⟨m / 128,ys++[contB m],by go_num,by omega,ho1,snoc_encN m ys _ h128 HE.out,hb2⟩,by simp [intOf];omega⟩
  · have hlb:=hidp (last_byte m (by omega))
    have hroom:ys.length + 1≤140737488351232:=by have:=encN_pos m;have:=encN_len64 n hn;omega
    go_wp2_with ((at_builtin;(refine wpList_app1 rfl (.tmp 16) (.tmp 19) 174 rfl B 5 i0 Tryz.underlying174 hi hz0 hz1 hz2 _ ys rfl (ho.alloc _) ⟨wr.heap.size,0,none⟩ _ _ (lastB m) rfl (cell_new1 _ _ _) hlb.out hroom ?_ ?_)))
    · rw [heap_size_alloc];omega
    · intro v' w1 ho1 hb1
      have hb2:=hbl.trans (((Below.refl B wr).alloc (by omega) _).trans hb1)
      have ho2:Own w1 B 5 v' (xs++encN n):=by rw [← last_encN m ys _ (by omega) HE.out];exact ho1
      clear hb1 ho1
      go_wp2
      go_ret
      exact ⟨_,rfl,ho2,hb2⟩
end
section
open Go.RowKit
def numS (n:Nat):ByteArray:=if n≤281474976710656 then mkS (encN n) else ByteArray.empty
def numE (n:Nat):Int:=if n≤281474976710656 then 0 else 1
theorem numS_yes {n:Nat} (h:n≤281474976710656):numS n=mkS (encN n):=by unfold numS;rw [if_pos h]
theorem numE_yes {n:Nat} (h:n≤281474976710656):numE n=0:=by unfold numE;rw [if_pos h]
theorem numS_no {n:Nat} (h:¬ n≤281474976710656):numS n=ByteArray.empty:=by unfold numS;rw [if_neg h]
theorem numE_no {n:Nat} (h:¬ n≤281474976710656):numE n=1:=by unfold numE;rw [if_neg h]
theorem num_any (w:World) (n:Nat) (hn:n<18446744073709551616) :
 Calls Tryz.prog 66 #[.int .u64 n] w fun e w'=>e=.returned (.tuple #[.string (numS n),.int .i64 (numE n)])∧Below w.heap.size w w':=by
 by_cases h:n≤281474976710656
 · rw [numS_yes h,numE_yes h]
   go_enter Tryz.func66,Tryz.ntmps66
   go_wp2_with fail
   refine (addNum_own w w.heap.size (.slice none 0 0) [] n hn (by simp) (Own.nil _ _ _) (Nat.le_refl _)).mono ?_
   rintro e w1 ⟨v',rfl,ho,hb⟩
   have hc:=run_str_own Tryz.underlying174 Tryz.underlying5 Tryz.underlying9 ho
   clear ho
   go_wp2
   go_ret2
   exact ⟨rfl,hb⟩
 · rw [numS_no h,numE_no h]
   go_enter Tryz.func66,Tryz.ntmps66
   go_wp2
   go_ret2
   exact ⟨rfl,Below.refl _ _⟩
end
section
open Go.RowKit
def tup3 (r:Nat × Nat × Nat):Value:=.tuple #[.int .u64 r.1,.int .i64 r.2.1,.int .i64 r.2.2]
set_option maxRecDepth 20000 in
theorem getNum_any (w:World) (s:ByteArray) (hs:s.size≤281474976710656) :
 Calls Tryz.prog 166 #[.string s] w fun e w'=>e=.returned (tup3 (gn s.data.toList))∧w=w':=by
 obtain ⟨r,hr⟩:∃ r,r=gn s.data.toList:=⟨_,rfl⟩
 rw [← hr]
 go_enter Tryz.func166,Tryz.ntmps166
 go_wp2
 go_loop [5,8] (fun t5 t8=>∃ (i acc:Nat),t8=.int .i64 i∧i≤7∧i≤s.size∧t5=.int .u64 acc∧acc<128 ^ i∧gnAux (7 - i) i acc (s.data.toList.drop i)=r)
  (fun _ t8=>7 - (intOf t8).toNat)
 case atStart=>exact ⟨0,0,rfl,by omega,by omega,rfl,by simp,by rw [hr];rfl⟩
 case round =>
  obtain ⟨i,acc,rfl,hi,his,rfl,hacc,heq⟩:=hrel
  have HA:=hidp hacc;clear hacc
  by_cases h7:i<7
  · by_cases hl:i<s.size
    · have e1:=hidp (drop_byte s i hl)
      obtain ⟨bn,hbn⟩:∃ bn,(s[i]'hl).toNat=bn:=⟨_,rfl⟩
      have hb:bn<256:=by rw [← hbn];exact UInt8.toNat_lt _
      obtain ⟨k,hk⟩:∃ k,7 - i=k + 1:=⟨6 - i,by omega⟩
      obtain ⟨acc',hacc'⟩:∃ a,acc + bn % 128 * 128 ^ i=a:=⟨_,rfl⟩
      have hst:gnAux (7 - i) i acc (s.data.toList.drop i)=if 128≤bn then gnAux k (i + 1) acc' (s.data.toList.drop (i + 1)) else if 0<i∧bn=0∨281474976710656<acc' then (0,0,6) else (acc',i + 1,0):=by
       rw [e1.out,hk,gnAux,hbn,hacc']
      have HE:=hidp (heq.symm.trans hst);have HR:=hidp hr;clear heq hr hst
      have hor:bits .or .u64 (acc:Int) (IntKind.u64.wrap (IntKind.u64.wrap (bits .and .u8 (bn:Int) 127) * 2 ^ (7 * i)))=(acc':Int):=by rw [← hacc'];exact or_step acc bn i hb h7 HA.out
      have HL:=hidp (hacc' ▸ acc_lt acc bn i HA.out)
      have HK:=hidp hk
      clear hacc' hk
      by_cases hbig:128≤bn
      · have hc:=and128_yes bn hb hbig
        have HF:=hidp (HE.out.trans (if_pos hbig));clear HE
        go_wp2
        exact ⟨⟨i + 1,acc',by go_num,by omega,by omega,rfl,HL.out,by rw [HF.out,show 7 - (i + 1)=k from by have:=HK.out;omega]⟩,by simp [intOf];omega⟩
      · have hc:=and128_no bn (by omega)
        have HF:=hidp (HE.out.trans (if_neg hbig));clear HE
        by_cases hi0:0<i
        · by_cases hb0:bn=0
          · have hz:((bn:Int) == 0)=true:=by simp [hb0]
            have HG:=hidp (HF.out.trans (if_pos (.inl ⟨hi0,hb0⟩)));clear HF
            have Hb:=hidp hb0;clear hb0
            go_wp2
            go_ret3
            exact ⟨by rw [HG.out];rfl,rfl⟩
          · have hz:((bn:Int) == 0)=false:=by simp;omega
            by_cases hov:281474976710656<acc'
            · have HG:=hidp (HF.out.trans (if_pos (.inr hov)));clear HF
              go_wp2
              go_ret3
              exact ⟨by rw [HG.out];rfl,rfl⟩
            · have HG:=hidp (HF.out.trans (if_neg (by omega)));clear HF
              go_wp2
              go_ret3
              exact ⟨by rw [HG.out];rfl,rfl⟩
        · by_cases hov:281474976710656<acc'
          · have HG:=hidp (HF.out.trans (if_pos (.inr hov)));clear HF
            go_wp2
            go_ret3
            exact ⟨by rw [HG.out];rfl,rfl⟩
          · have HG:=hidp (HF.out.trans (if_neg (by omega)));clear HF
            go_wp2
            go_ret3
            exact ⟨by rw [HG.out];rfl,rfl⟩
    · obtain ⟨k,hk⟩:∃ k,7 - i=k + 1:=⟨6 - i,by omega⟩
      rw [drop_end s i (by omega),hk,gnAux] at heq
      have HE:=hidp heq;have HR:=hidp hr;clear heq hr hk
      have hq':((i:Int) == (s.size:Int))=true:=by simp;omega
      go_wp2
      go_ret3
      exact ⟨by rw [← HE.out];rfl,rfl⟩
  · have:i=7:=by omega
    subst this
    have HE:=hidp heq;have HR:=hidp hr;clear heq hr
    go_wp2
    go_ret3
    exact ⟨by rw [← HE.out];rfl,rfl⟩
end
section
open Go.RowKit
theorem toList_no {a b:ByteArray} (h:a≠b):(a.toList == b.toList)=false:=by
 rw [beq_eq_false_iff_ne,ByteArray.toList_eq,ByteArray.toList_eq]
 intro e;exact h (ByteArray.ext (Array.toList_inj.1 e))
end
section
open Go.RowKit
set_option maxRecDepth 20000 in
theorem clone0 (s:ByteArray) (w:World) (hlim:s.size≤140737488351232) :
 Calls Tryz.prog 123 #[.string s] w fun e w'=>e=.returned (.string s)∧Below w.heap.size w w':=by
 by_cases h0:s.size=0
 · obtain rfl:s=⟨#[]⟩:=ByteArray.ext (Array.eq_empty_of_size_eq_zero h0)
   go_enter Tryz.func123,Tryz.ntmps123
   go_wp2
   go_ret
   exact ⟨rfl,Below.refl _ _⟩
 · obtain ⟨i0,hi,hz0,hz1,hz2⟩:=info_parts info5o
   have hsz:s.data.toList.length=s.size:=by simp
   have hne:s.data.toList≠[]:=fun e=>h0 (by rw [← hsz,e];rfl)
   obtain ⟨M,hM⟩:∃ M,M=madeCells (Value.int .u8 0).cells (((s.size:Nat):Int).toNat * i0.size):=⟨_,rfl⟩
   have hMs:M.size=s.size:=by rw [hM,size_madeCells,hz1];simp
   have hmk:∀ W:World,(Instr.makeSlice 174 (.int .i64 (s.size:Int)) (.int .i64 (s.size:Int))).run Tryz.prog W=.ok (.slice (some ⟨W.heap.size,0,none⟩) s.size s.size) (W.alloc (.cells M 5)):=fun W=>by
    have h:=run_make (P:=Tryz.prog) W 174 5 i0 (.int .u8 0) Tryz.underlying174 hi hz0 .i64 .i64 (s.size:Int) (s.size:Int) (by omega) (by omega) (by rw [hz2];omega) (by omega)
    rw [← hM] at h
    simpa using h
   clear hM
   have hcp:=Lib.run_copy_row_string (P:=Tryz.prog) (w.alloc (.cells M 5)) 174 9 3 5 w.heap.size 0 s.size s.size s M 5 Tryz.underlying174 (by rw [hi];simp [hz1]) (heap_alloc_new w _) (Nat.le_refl _) (by omega)
   obtain ⟨Y,hY⟩:∃ Y,Y=(M.toList.take 0++Lib.byteCells s.data.toList++M.toList.drop (0 + s.size)).toArray:=⟨_,rfl⟩
   rw [← hY] at hcp
   have hYl:Y.toList=Lib.byteCells s.data.toList:=by
    rw [hY,List.toList_toArray,List.take_zero,List.nil_append,List.drop_of_length_le (by rw [Array.length_toList];omega),List.append_nil]
   have hYs:Y.size=s.size:=by rw [← Array.length_toList,hYl,Lib.byteCells_length,hsz]
   have hgY:((w.alloc (.cells M 5)).setRow w.heap.size Y).heap[w.heap.size]?=some (.cells Y 5 (0,0)):=setRow_heap _ _ M _ 5 (0,0) (heap_alloc_new w _)
   have hUS:=Lib.run_unsafeString_row (P:=Tryz.prog) ((w.alloc (.cells M 5)).setRow w.heap.size Y) 216 3 9 5 Tryz.underlying216 (by simp [Program.cellsOf,hi,hz1]) w.heap.size Y.size (by unfold World.shape?;rw [hgY]) s.data.toList hne (by omega) (by omega)
    (fun j x hx=>Lib.cells_of_row hgY Y.size j _ (by rw [List.take_of_length_le (by rw [Array.length_toList];exact Nat.le_refl _),hYl];simp [Lib.byteCells,hx]))
   rw [hsz] at hUS
   clear hY
   go_enter Tryz.func123,Tryz.ntmps123
   go_wp2
   go_ret
   have hb1:Below w.heap.size w (w.alloc (.cells M 5)):=(Below.refl _ w).alloc (Nat.le_refl _) _
   have hb2:Below w.heap.size (w.alloc (.cells M 5)) ((w.alloc (.cells M 5)).setRow w.heap.size Y):=⟨rfl,rfl,rfl,by simp,fun k hk=>setRow_other _ _ _ _ (by omega)⟩
   exact ⟨rfl,Lib.below_freeze (hb1.trans hb2) (p:=⟨w.heap.size,0,none⟩) (Nat.le_refl _) _⟩
theorem clone (s:ByteArray) (w:World) (hlim:s.size≤140737488351232) :
 Calls Tryz.prog 69 #[.string s] w fun e w'=>e=.returned (.string s)∧Below w.heap.size w w':=by
 go_enter Tryz.func69,Tryz.ntmps69
 go_wp2_with (go_at_call 123;(refine (clone0 _ _ hlim).mono ?_);rintro e w1 ⟨rfl,hb1⟩)
 go_ret
 exact ⟨rfl,hb1⟩
def encT (t:ByteArray):List UInt8:=encN t.size++t.data.toList
set_option maxRecDepth 20000 in
theorem addText_own (w:World) (B:Nat) (v:Value) (xs:List UInt8) (t:ByteArray) (hx:xs.length + 10 + t.size≤140737488351232)
 (hown:Own w B 5 v xs) (hB:B≤w.heap.size) :
 Calls Tryz.prog 122 #[v,.string t] w fun e w'=>∃ v',e=.returned v'∧Own w' B 5 v' (xs++encT t)∧Below B w w':=by
 obtain ⟨i0,hi,hz0,hz1,hz2⟩:=info_parts info5o
 have hl:=encN_len64 t.size (by omega)
 have hN:=hidp (addNum_own w B v xs t.size (by omega) (by omega) hown hB)
 go_enter Tryz.func122,Tryz.ntmps122
 go_wp2_with fail
 refine hN.out.mono ?_
 rintro e w1 ⟨v1,rfl,ho,hb⟩
 have hs1:=hb.size
 have hlen:(xs++encN t.size).length + t.size≤140737488351232:=by simp;omega
 go_wp2_with (at_builtin;(refine Lib.wpList_append_own_string _ rfl (.tmp 9) (.tmp 10) 174 9 rfl B 5 i0 Tryz.underlying174 Tryz.underlying9 hi hz0 hz1 hz2 _ _ _ rfl ho t rfl ?_ ?_ ?_ ?_))
 · unfold maxLen;omega
 · omega
 · omega
 · intro v' w2 ho2 hg2 _
   have ho3:Own w2 B 5 v' (xs++encT t):=by
    have e1:(xs++encT t).length=xs.length + (encN t.size).length + t.size:=by simp [encT];omega
    have e2:bv (xs++encT t)=bv (xs++encN t.size)++Lib.strCells t:=by unfold encT;rw [← List.append_assoc,bv_append];rfl
    unfold Own;rw [e1,e2];exact ho2
   have hb2:Below B w w2:=hb.trans ((Below.refl B w1).grown hg2 (by omega) fun k hk=>(World.ownsRow.lt ho k hk).1)
   clear ho2 hg2 ho hb
   go_wp2
   go_ret
   exact ⟨_,rfl,ho3,hb2⟩
end
section
open Go.RowKit
def StrsAt (w:World) (v:Value) (ss:List ByteArray):Prop :=
 ∃ a cap,v=.slice a ss.length cap∧∀ k (h:k<ss.length),∃ b off,a=some ⟨b,off,none⟩∧w.cell? ⟨b,off + k,none⟩=some (.string ss[k])
def encTs (ss:List ByteArray):List UInt8:=ss.flatMap encT
def encL (ss:List ByteArray):List UInt8:=encN ss.length++encTs ss
def okL (ss:List ByteArray):Prop:=ss.length≤256∧∀ s ∈ ss,s.size≤8192
instance (ss:List ByteArray):Decidable (okL ss):=by unfold okL;exact inferInstance
def listS (ss:List ByteArray):ByteArray:=if okL ss then mkS (encL ss) else ByteArray.empty
def listE (ss:List ByteArray):Int:=if okL ss then 0 else 7
theorem listS_yes {ss:List ByteArray} (h:okL ss):listS ss=mkS (encL ss):=by unfold listS;rw [if_pos h]
theorem listE_yes {ss:List ByteArray} (h:okL ss):listE ss=0:=by unfold listE;rw [if_pos h]
theorem listS_no {ss:List ByteArray} (h:¬ okL ss):listS ss=ByteArray.empty:=by unfold listS;rw [if_neg h]
theorem listE_no {ss:List ByteArray} (h:¬ okL ss):listE ss=7:=by unfold listE;rw [if_neg h]
theorem encT_len (t:ByteArray) (h:t.size≤8192):(encT t).length≤8202:=by
 unfold encT;have:=encN_len64 t.size (by omega);simp;omega
theorem encTs_len (ss:List ByteArray) (h:∀ s ∈ ss,s.size≤8192):(encTs ss).length≤8202 * ss.length:=by
 induction ss with
 | nil=>simp [encTs]
 | cons s ss ih =>
   have h1:=encT_len s (h s (by simp))
   have h2:=ih fun x hx=>h x (by simp [hx])
   simp only [encTs,List.flatMap_cons,List.length_append,List.length_cons] at *
   omega
theorem encTs_take (ss:List ByteArray) (k:Nat) (h:k<ss.length):encTs (ss.take (k + 1))=encTs (ss.take k)++encT ss[k]:=by
 unfold encTs
 rw [List.take_succ_eq_append_getElem h,List.flatMap_append];simp
theorem encTs_take_len (ss:List ByteArray) (k:Nat) (hk:k≤ss.length) (h:okL ss):(encTs (ss.take k)).length≤8202 * 256:=by
 have:=encTs_len (ss.take k) fun s hs=>h.2 s (List.mem_of_mem_take hs)
 have h1:(ss.take k).length≤256:=by have:=h.1;simp;omega
 omega
set_option maxRecDepth 20000 in
theorem list_any (w:World) (v:Value) (ss:List ByteArray) (hat:StrsAt w v ss) (hn:ss.length≤140737488351232) (hs:∀ s ∈ ss,s.size≤140737488351232) :
 Calls Tryz.prog 67 #[v] w fun e w'=>e=.returned (.tuple #[.string (listS ss),.int .i64 (listE ss)])∧Below w.heap.size w w':=by
 obtain ⟨a,cap,rfl,hc⟩:=hat
 obtain ⟨n,hnn⟩:∃ n,ss.length=n:=⟨_,rfl⟩
 rw [hnn] at hn ⊢
 have HC:=hidp hc;clear hc
 have HNN:=hidp hnn;clear hnn
 have HS:=hidp hs;clear hs
 by_cases h256:n≤256
 · obtain ⟨S,hS⟩:∃ S,S=listS ss:=⟨_,rfl⟩
   obtain ⟨E,hE⟩:∃ E,E=listE ss:=⟨_,rfl⟩
   rw [← hS,← hE]
   have HSS:=hidp hS;have HEE:=hidp hE;clear hS hE
   go_enter Tryz.func67,Tryz.ntmps67
   go_wp2
   go_loop [14] (fun t14=>∃ k:Nat,t14=.int .i64 k∧k≤n∧∀ j (h:j<ss.length),j<k→ss[j].size≤8192) (fun t14=>n - (intOf t14).toNat)
   case atStart=>exact ⟨0,rfl,by omega,by intro j _ h;omega⟩
   case round =>
    obtain ⟨k,rfl,hk,hall⟩:=hrel
    have HALL:=hidp hall;clear hall
    by_cases hlt:k<n
    · have hlt':k<ss.length:=by have:=HNN.out;omega
      obtain ⟨b,off,rfl,hcell⟩:=HC.out k hlt'
      obtain ⟨s,hs⟩:∃ s,ss[k]=s:=⟨_,rfl⟩
      have hsl:s.size≤140737488351232:=by rw [← hs];exact HS.out _ (List.getElem_mem hlt')
      rw [hs] at hcell
      have H2:=hidp hs;clear hs
      by_cases hbig:s.size≤8192
      · go_wp2
        refine ⟨⟨k + 1,by go_num,by omega,fun j h hj=>?_⟩,by simp [intOf];omega⟩
        by_cases hjk:j=k
        · subst hjk;have:=H2.out;rw [this];exact hbig
        · exact HALL.out j h (by omega)
      · have hno:=hidp (show ¬ okL ss from fun h=>hbig (by rw [← H2.out];exact h.2 _ (List.getElem_mem hlt')))
        go_wp2
        go_ret2
        exact ⟨by rw [HSS.out,HEE.out,listS_no hno.out,listE_no hno.out];rfl,Below.refl _ _⟩
    · have hok:=hidp (show okL ss from ⟨by have:=HNN.out;omega,fun s hs=>by
       obtain ⟨j,hj,rfl⟩:=List.getElem_of_mem hs
       exact HALL.out j hj (by have:=HNN.out;omega)⟩)
      have hl:=encN_len64 n (by omega)
      go_wp2_with fail
      refine (addNum_own w w.heap.size (.slice none 0 0) [] n (by omega) (by simp) (Own.nil _ _ _) (Nat.le_refl _)).mono ?_
      rintro e w1 ⟨v1,rfl,ho1,hb1⟩
      go_wp2
      go_loopw [6,28] (fun t6 t28 wr=>∃ k:Nat,t28=.int .i64 k∧k≤n∧Own wr w.heap.size 5 t6 (encN n++encTs (ss.take k))∧Below w.heap.size w wr) (fun _ t28 _=>n - (intOf t28).toNat)
      case atStart=>exact ⟨0,rfl,by omega,by simpa [encTs] using ho1,hb1⟩
      case round =>
       obtain ⟨k,rfl,hk,ho,hb⟩:=hrel
       have hbs:=hb.size
       by_cases hlt:k<n
       · have hlt':k<ss.length:=by have:=HNN.out;omega
         obtain ⟨b,off,rfl,hcell⟩:=HC.out k hlt'
         have hcell2:=(hb.cell (p:=⟨b,off + k,none⟩) (by have:=World.block_lt_of_cell? w _ hcell;simpa using this)).trans hcell
         clear hcell
         have hst:=hidp (encTs_take ss k hlt')
         have hsm:ss[k].size≤8192:=hok.out.2 _ (List.getElem_mem hlt')
         obtain ⟨s,hs⟩:∃ s,ss[k]=s:=⟨_,rfl⟩
         rw [hs] at hcell2 hsm
         have hst:=hidp (hs ▸ hst.out)
         clear hs
         have hroom:(encN n++encTs (ss.take k)).length + 10 + s.size≤140737488351232:=by
          have:=encTs_take_len ss k (by omega) hok.out
          simp;omega
         have HA:=hidp (addText_own wr w.heap.size _ _ s hroom ho hbs)
         go_wp2_with (go_at_call 122;(refine HA.out.mono ?_);rintro e w2 ⟨v2,rfl,ho2,hb2⟩)
         refine ⟨⟨k + 1,by go_num,by omega,by rw [hst.out,← List.append_assoc];exact ho2,hb.trans hb2⟩,by simp [intOf];omega⟩
       · have hko:k=n:=by omega
         have hful:=hidp (show encN n++encTs (ss.take k)=encL ss from by unfold encL;rw [List.take_of_length_le (by have:=HNN.out;omega),HNN.out])
         have ho3:Own wr w.heap.size 5 _ (encL ss):=hful.out ▸ ho
         have hcv:=run_str_own Tryz.underlying174 Tryz.underlying5 Tryz.underlying9 ho3
         clear ho ho3 hko ho1
         go_wp2
         go_ret2
         exact ⟨by rw [HSS.out,HEE.out,listS_yes hok.out,listE_yes hok.out];rfl,hb⟩
 · have hno:=hidp (show ¬ okL ss from fun h=>h256 (by have:=HNN.out;have:=h.1;omega))
   rw [listS_no hno.out,listE_no hno.out]
   go_enter Tryz.func67,Tryz.ntmps67
   go_wp2
   go_ret2
   exact ⟨rfl,Below.refl _ _⟩
end
section
open Go.RowKit
theorem gnAux_bd (k i acc:Nat) (l:List UInt8):(gnAux k i acc l).1≤281474976710656∧(gnAux k i acc l).2.1≤i + k∧(gnAux k i acc l).2.1≤i + l.length∧(gnAux k i acc l).2.2≤6:=by
 induction k generalizing i acc l with
 | zero=>simp [gnAux]
 | succ k ih =>
   cases l with
   | nil=>simp [gnAux]
   | cons b r =>
     rw [gnAux]
     split
     · obtain ⟨h1,h2,h3,h4⟩:=ih (i + 1) (acc + b.toNat % 128 * 128 ^ i) r
       refine ⟨h1,by omega,by simp;omega,h4⟩
     · split
       · simp
       · rename_i h;refine ⟨by simp only;omega,by simp only;omega,by simp,by simp⟩
theorem gn_bd (l:List UInt8):(gn l).1≤281474976710656∧(gn l).2.1≤7∧(gn l).2.1≤l.length∧(gn l).2.2≤6:=by
 have:=gnAux_bd 7 0 0 l;simpa [gn] using this
def gt (s:ByteArray):ByteArray × Nat × Nat :=
 let r:=gn s.data.toList
 if r.2.2≠0 then (ByteArray.empty,0,r.2.2) else if 8192<r.1 then (ByteArray.empty,0,7) else if s.size<r.2.1 + r.1 then (ByteArray.empty,0,5) else (s.extract r.2.1 (r.2.1 + r.1),r.2.1 + r.1,0)
def tupT (r:ByteArray × Nat × Nat):Value:=.tuple #[.string r.1,.int .i64 r.2.1,.int .i64 r.2.2]
theorem errB {e:Nat} (h:e≠0):(((e:Nat):Int) != 0)=true:=by simp;omega
theorem errB0 {e:Nat} (h:e=0):(((e:Nat):Int) != 0)=false:=by simp;omega
set_option maxRecDepth 20000 in
theorem getText_any (w:World) (s:ByteArray) (hs:s.size≤281474976710656) :
 Calls Tryz.prog 192 #[.string s] w fun e w'=>e=.returned (tupT (gt s))∧Below w.heap.size w w':=by
 have hG:=getNum_any w s hs
 have hbd:=gn_bd s.data.toList
 unfold gt
 obtain ⟨⟨n,k,e⟩,hr⟩:∃ r,r=gn s.data.toList:=⟨_,rfl⟩
 rw [← hr] at hG hbd ⊢
 clear hr
 obtain ⟨h1,h2,h3,h4⟩:=hbd
 have h3:k≤s.size:=by simpa using h3
 simp only [tup3] at hG h1 h2 h4 ⊢
 have HG:=hidp hG;clear hG
 by_cases he:e=0
 · have heb:=errB0 he
   by_cases h8:8192<n
   · rw [if_neg (by simpa using he),if_pos h8]
     have H0:=hidp he;clear he
     go_enter Tryz.func192,Tryz.ntmps192
     go_wp2_with (go_at_call 166;(refine HG.out.mono ?_);rintro e1 w1 ⟨rfl,rfl⟩)
     go_ret3
     exact ⟨rfl,Below.refl _ _⟩
   · by_cases hsz:s.size<k + n
     · rw [if_neg (by simpa using he),if_neg h8,if_pos hsz]
       have H0:=hidp he;clear he
       go_enter Tryz.func192,Tryz.ntmps192
       go_wp2_with (go_at_call 166;(refine HG.out.mono ?_);rintro e1 w1 ⟨rfl,rfl⟩)
       go_ret3
       exact ⟨rfl,Below.refl _ _⟩
     · rw [if_neg (by simpa using he),if_neg h8,if_neg hsz]
       have H0:=hidp he;clear he
       have hcl:=hidp fun w=>clone (s.extract k (k + n)) w (by simp;omega)
       have hx:((k:Int) + (n:Int)).toNat=k + n:=by omega
       go_enter Tryz.func192,Tryz.ntmps192
       go_wp2_with (first|(go_at_call 166;(refine HG.out.mono ?_);rintro e1 w1 ⟨rfl,rfl⟩)|(go_at_call 69;(refine (hcl.out _).mono ?_);rintro e2 w2 ⟨rfl,hb2⟩))
       go_ret3
       exact ⟨rfl,hb2⟩
 · have heb:=errB he
   rw [if_pos he]
   have H0:=hidp he;clear he
   go_enter Tryz.func192,Tryz.ntmps192
   go_wp2_with (go_at_call 166;(refine HG.out.mono ?_);rintro e1 w1 ⟨rfl,rfl⟩)
   go_ret3
   exact ⟨rfl,Below.refl _ _⟩
end
section
open Go.RowKit
def OwnV (w:World) (B e:Nat) (v:Value) (l:List Value):Prop:=w.ownsRow B e 1 v l.length l
theorem OwnV.kept {w w':World} {B C e:Nat} {v:Value} {l:List Value} (h:OwnV w B e v l) (hb:Below C w w') (hC:w.heap.size≤C):OwnV w' B e v l:=by
 refine ⟨h.1,?_⟩
 rcases h.2 with hn | ⟨g,cap,cur,rfl,hb',hgg,rest⟩
 · exact .inl hn
 · refine .inr ⟨g,cap,cur,rfl,hb',?_,rest⟩
   rw [hb.block g (by have:=(Array.getElem?_eq_some_iff.1 hgg).1;omega)]
   exact hgg
theorem OwnV.alloc {w:World} {B e:Nat} {v:Value} {l:List Value} (h:OwnV w B e v l) (o:Obj):OwnV (w.alloc o) B e v l:=World.ownsRow.alloc h o
def strV (ss:List ByteArray):List Value:=ss.map .string
theorem strV_snoc (ss:List ByteArray) (s:ByteArray):strV ss++[.string s]=strV (ss++[s]):=by simp [strV]
theorem strV_length (ss:List ByteArray):(strV ss).length=ss.length:=by simp [strV]
theorem OwnV.strs {w:World} {B e:Nat} {v:Value} {ss:List ByteArray} (h:OwnV w B e v (strV ss)):StrsAt w v ss:=by
 have h':=h
 rcases h'.2 with ⟨rfl,hn⟩ | ⟨g,cap,cur,rfl,_⟩
 · have:ss=[]:=List.eq_nil_of_length_eq_zero (by simpa [strV] using hn)
   subst this
   exact ⟨none,0,rfl,fun k hk=>by simp at hk⟩
 · refine ⟨some ⟨g,0,none⟩,cap,by rw [strV_length],fun k hk=>⟨g,0,rfl,?_⟩⟩
   have:=World.ownsRow.cells h (g:=g) rfl k (.string ss[k]) (by simp [strV,hk])
   have e:(⟨g,0,none⟩:Addr).add k=⟨g,0 + k,none⟩:=by unfold Addr.add;split <;> simp_all
   rw [e] at this;exact this
def glGo (s:ByteArray):Nat→Nat→List ByteArray→List ByteArray × Nat × Nat
 | 0,p,xs=>(xs,p,0)
 | k + 1, p, xs =>
   if (gt (s.extract p s.size)).2.2≠0 then ([],0,(gt (s.extract p s.size)).2.2)
   else glGo s k (p + (gt (s.extract p s.size)).2.1) (xs++[(gt (s.extract p s.size)).1])
def gl (s:ByteArray):List ByteArray × Nat × Nat :=
 let r:=gn s.data.toList
 if r.2.2≠0 then ([],0,r.2.2) else if 256<r.1 then ([],0,7) else glGo s r.1 r.2.1 []
theorem gt_bd (s:ByteArray):(gt s).2.1≤s.size∧(gt s).2.2≤7∧(gt s).1.size≤8192:=by
 unfold gt
 have hb:=gn_bd s.data.toList
 simp only
 split
 · simp;omega
 · split
   · simp
   · split
     · simp
     · simp;omega
theorem info9:(Tryz.prog.info? 9).map (fun i=>(i.zero,i.size,i.bytes))=some (some (.string ByteArray.empty),1,16):=by kernel_rfl
end
section
open Go.RowKit
theorem glGo_bd (s:ByteArray) (k p:Nat) (xs:List ByteArray) (hp:p≤s.size) (hx:∀ t ∈ xs,t.size≤8192) :
 (glGo s k p xs).2.1≤s.size∧(glGo s k p xs).2.2≤7∧(glGo s k p xs).1.length≤xs.length + k∧∀ t ∈ (glGo s k p xs).1,t.size≤8192:=by
 induction k generalizing p xs with
 | zero=>simp only [glGo];exact ⟨hp,by omega,by omega,hx⟩
 | succ k ih =>
   have hb:=gt_bd (s.extract p s.size)
   rw [glGo]
   split
   · simp only;exact ⟨by omega,hb.2.1,by simp,by simp⟩
   · have:=ih (p + (gt (s.extract p s.size)).2.1) (xs++[(gt (s.extract p s.size)).1]) (by have:=hb.1;simp at this;omega) (by
      intro t ht
      rcases List.mem_append.1 ht with h | h
      · exact hx t h
      · simp at h;subst h;exact hb.2.2)
     refine ⟨this.1,this.2.1,?_,this.2.2.2⟩
     have h2:=this.2.2.1;simp at h2;omega
theorem gl_bd (s:ByteArray):(gl s).2.1≤s.size∧(gl s).2.2≤7∧(gl s).1.length≤256∧∀ t ∈ (gl s).1,t.size≤8192:=by
 unfold gl
 have hb:=gn_bd s.data.toList
 simp only
 split
 · simp;omega
 · split
   · simp
   · have:=glGo_bd s (gn s.data.toList).1 (gn s.data.toList).2.1 [] (by have:=hb.2.2.1;simpa using this) (by simp)
     refine ⟨this.1,this.2.1,?_,this.2.2.2⟩
     have h2:=this.2.2.1;simp at h2;omega
def al (s:ByteArray):List ByteArray × Nat :=
 if (gl s).2.2≠0 then ([],(gl s).2.2) else if (gl s).2.1<s.size then ([],6) else ((gl s).1,0)
theorem strsNil (w:World):StrsAt w (.slice none 0 0) []:=⟨none,0,rfl,fun k hk=>by simp at hk⟩
end
section
open Go.RowKit Go.Shelf
attribute [local go_sem] Oper.semAt_some
abbrev Pc:={ x:ByteArray × Nat × Nat // x.1.size≤8192∧x.2.1≤8199∧x.2.2≤7 }
def encP (x:Pc):Array Value:=#[.agg #[.string x.1.1,.int .i64 x.1.2.1,.int .i64 x.1.2.2]]
theorem gt_bd2 (s:ByteArray):(gt s).1.size≤8192∧(gt s).2.1≤8199∧(gt s).2.2≤7:=by
 refine ⟨(gt_bd s).2.2,?_,(gt_bd s).2.1⟩
 unfold gt
 have hb:=gn_bd s.data.toList
 simp only
 repeat' split
 all_goals simp
 omega
def gtP (s:ByteArray):Pc:=⟨gt s,gt_bd2 s⟩
def pcs:Nat→ByteArray→List Pc
 | 0,_=>[]
 | k + 1,s=>gtP s :: (if (gt s).2.2≠0 then [] else pcs k (s.extract (gt s).2.1 s.size))
theorem grown_of_below {w w':World} (h:Below w.heap.size w w'):w.grownBy w' none:=⟨h.os,h.tape,h.output,h.size,fun k hk _=>h.block k hk⟩
theorem pieces_in (F:Fence) (n:Nat) (h27:F.fn 167) (hro:F.round=none) (s:ByteArray) (m:Nat) (w:World) :
 CallsIn F n Tryz.prog 167 #[.string s,.int .i64 m] w fun e w'=>e=.returned (.func (.func 191) #[] #[.pointer (some ⟨w.heap.size,0,none⟩),.pointer (some ⟨w.heap.size + 1,0,none⟩)]) ∧
  w'=(w.alloc (.cells #[.string s] 9)).alloc (.cells #[.int .i64 m] 3):=by
 refine callsIn_of_wp Tryz.func167 rfl h27 ?_ hro
 simp only [Tryz.ntmps167,List.size_toArray,List.length_cons,List.length_nil,Nat.reduceAdd,Nat.reduceSub,Array.replicate_succ,Array.replicate_zero,List.push_toArray,List.append_toArray,List.nil_append,List.cons_append]
 gi_wp2
 go_ret
 exact ⟨rfl,rfl⟩
set_option maxRecDepth 100000 in
theorem pieces1_in (n:Nat) (hn:2≤n) (l Bs Bm:Nat) (s0:ByteArray) (hs0:s0.size≤281474976710656) (m:Nat) (hm:m≤256) (J Jx:List Pc→World→Prop) (W:World) (hJ:AbidesFrom W.heap.size J)
 (hY:∀ pre x W1,J pre W1→pre.length<(pcs m s0).length→YieldAt Fence.wide (n - 1) Tryz.prog l (encP x) W1 fun e W' =>
   (e=.returned (.bool true)∧J (pre++[x]) W'∧True)∨(e=.returned (.bool false)∧Jx (pre++[x]) W'))
 (hBs:W.cell? ⟨Bs,0,none⟩=some (.string s0)) (hBm:W.cell? ⟨Bm,0,none⟩=some (.int .i64 m)) (h0:J [] W) :
 CallsIn Fence.wide n Tryz.prog 191 #[.func (.yield l) #[] #[],.pointer (some ⟨Bs,0,none⟩),.pointer (some ⟨Bm,0,none⟩)] W fun e W'=>(∃ v,e=.returned v) ∧
  ((∃ ys,ys=pcs m s0∧J ys W')∨(∃ pre,pre <+: pcs m s0∧Jx pre W')):=by
 refine callsIn_of_wp Tryz.func191 rfl trivial ?_ rfl
 simp only [Tryz.ntmps191,List.size_toArray,List.length_cons,List.length_nil,Nat.reduceAdd,Nat.reduceSub,Array.replicate_succ,Array.replicate_zero,List.push_toArray,List.append_toArray,List.nil_append,List.cons_append]
 have HY:=hidp hY;clear hY
 gi_wp2
 gi_loopw [4,10] (fun t4 t10 wr=>∃ (i:Nat) (rest:ByteArray) (pre:List Pc),t10=.int .i64 i∧i≤m∧t4=.string rest∧rest.size≤281474976710656∧pcs m s0=pre++pcs (m - i) rest∧J pre wr∧0≤wr.heap.size)
  (fun _ t10 _=>m - (intOf t10).toNat)
 case atStart=>exact ⟨0,s0,[],rfl,by omega,rfl,hs0,rfl,h0,Nat.zero_le _⟩
 case round =>
  obtain ⟨i,rest,pre,rfl,hi,rfl,hrs,hpc,hJs,hws⟩:=hrel
  have HPC:=hidp hpc;clear hpc
  by_cases hlt:i<m
  · obtain ⟨j,hj⟩:∃ j,m - i=j + 1:=⟨m - i - 1,by omega⟩
    have hp2:=HPC.out
    rw [hj,pcs] at hp2
    have HP2:=hidp hp2;clear hp2
    have HJ:=hidp hj;clear hj
    have hG:=hidp (fun w=>getText_any w rest hrs)
    have hbd:=gt_bd2 rest
    have hbd2:=gt_bd rest
    obtain ⟨x,hx⟩:∃ x,x=gtP rest:=⟨_,rfl⟩
    have hxv:x.1=gt rest:=by rw [hx];rfl
    obtain ⟨⟨⟨t,q,e⟩,hxx⟩,hxe⟩:∃ y:Pc,y=x:=⟨_,rfl⟩
    rw [← hxe] at hxv hx
    simp only at hxv
    have hG2:=hidp (show ∀ w,Calls Tryz.prog 192 #[.string rest] w fun e1 w'=>e1=.returned (.tuple #[.string t,.int .i64 q,.int .i64 e])∧Below w.heap.size w w' from fun w=>by have:=hG.out w;rw [← hxv] at this;exact this)
    clear hG
    rw [← hxv] at hbd hbd2
    have HX:=hidp hx;have HXV:=hidp hxv;clear hx hxv
    simp only at hbd hbd2
    obtain ⟨hb1,hb2,hb3⟩:=hbd
    obtain ⟨hc1,-,-⟩:=hbd2
    have HXE:=hidp hxe;clear hxe
    gi_wp2_with fail
    refine ⟨trivial,fun _=>by omega,?_⟩
    refine (callsIn_wide.2 (hG2.out _)).mono ?_
    rintro e1 w2 ⟨rfl,hb2⟩
    have hJ2:=hJ pre wr w2 none hJs (grown_of_below hb2) (fun r e=>by cases e)
    obtain ⟨fn,tmps,assign,body,hy,hR⟩:=HY.out pre ⟨(t,q,e),hxx⟩ w2 hJ2 (by rw [HP2.out];simp)
    simp only [encP] at hy hR
    gi_wp2
    refine ⟨fun _=>by omega,hR.mono ?_⟩
    rintro e1 W3 (⟨rfl,hJ3,-⟩ | ⟨rfl,hJx3⟩)
    · by_cases he:e=0
      · have heb:=errB0 he
        have hp3:=hidp (show pcs m s0=(pre++[⟨(t,q,e),hxx⟩])++pcs j (rest.extract q rest.size) from by
         rw [HP2.out,← HXV.out,if_neg (by simpa using he),← HX.out];simp)
        have H0:=hidp he;clear he
        have hx1:(rest.extract q rest.size).size≤281474976710656:=by simp;omega
        gi_wp2
        refine ⟨⟨i + 1,_,pre++[⟨(t,q,e),hxx⟩],by go_num,by omega,rfl,hx1,by rw [show m - (i + 1)=j from by have:=HJ.out;omega];exact hp3.out,hJ3,Nat.zero_le _⟩,by simp [intOf];omega⟩
      · have heb:=errB he
        have hp3:=hidp (show pcs m s0=pre++[⟨(t,q,e),hxx⟩] from by
         rw [HP2.out,← HXV.out,if_pos he,← HX.out])
        have H0:=hidp he;clear he
        gi_wp2
        refine bodyPost_ret (results_none rfl _ _ _) rfl ?_
        exact ⟨⟨_,rfl⟩,.inl ⟨_,hp3.out.symm,hJ3⟩⟩
    · have hp3:=hidp (show (pre++[⟨(t,q,e),hxx⟩]) <+: pcs m s0 from by
       rw [HP2.out,← HX.out];exact ⟨_,by simp;rfl⟩)
      gi_wp2
      refine bodyPost_ret (results_none rfl _ _ _) rfl ?_
      exact ⟨⟨_,rfl⟩,.inr ⟨_,hp3.out,hJx3⟩⟩
  · have hji:=hidp (show pcs m s0=pre from by rw [HPC.out,show m - i=0 from by omega];simp [pcs])
    gi_wp2
    go_end0
    exact ⟨⟨_,rfl⟩,.inl ⟨_,hji.out.symm,hJs⟩⟩
end
section
open Go.RowKit Go.Shelf
attribute [local go_sem] Oper.semAt_some
def fe:List Pc→Nat
 | []=>0
 | x :: r=>if x.1.2.2≠0 then x.1.2.2 else fe r
def txs (l:List Pc):List ByteArray:=l.map fun x=>x.1.1
def szs:List Pc→Nat
 | []=>0
 | x :: r=>x.1.2.1 + szs r
theorem fe_snoc (l:List Pc) (x:Pc) (h:fe l=0):fe (l++[x])=x.1.2.2:=by
 induction l with
 | nil=>by_cases hx:x.1.2.2=0 <;> simp [fe,hx]
 | cons y r ih =>
   by_cases hy:y.1.2.2=0
   · simp only [List.cons_append,fe,hy,ne_eq,not_true_eq_false,if_false] at h ⊢;exact ih h
   · simp only [fe,ne_eq,hy,not_false_eq_true,if_true] at h
theorem fe_append (l m:List Pc) (h:fe l≠0):fe (l++m)=fe l:=by
 induction l with
 | nil=>simp [fe] at h
 | cons y r ih =>
   by_cases hy:y.1.2.2=0
   · simp only [List.cons_append,fe,hy,ne_eq,not_true_eq_false,if_false] at h ⊢;exact ih h
   · simp only [List.cons_append,fe,ne_eq,hy,not_false_eq_true,if_true]
theorem szs_snoc (l:List Pc) (x:Pc):szs (l++[x])=szs l + x.1.2.1:=by
 induction l with
 | nil=>simp [szs]
 | cons y r ih=>simp only [List.cons_append,szs,ih];omega
theorem txs_snoc (l:List Pc) (x:Pc):txs (l++[x])=txs l++[x.1.1]:=by simp [txs]
theorem szs_bd (l:List Pc):szs l≤8199 * l.length:=by
 induction l with
 | nil=>simp [szs]
 | cons y r ih=>have:=y.2.2.1;simp only [szs,List.length_cons];omega
theorem pcs_len (k:Nat) (s:ByteArray):(pcs k s).length≤k:=by
 induction k generalizing s with
 | zero=>simp [pcs]
 | succ k ih =>
   rw [pcs,List.length_cons]
   split
   · simp
   · have:=ih (s.extract (gt s).2.1 s.size);omega
theorem ext_ext (s:ByteArray) (p q:Nat) (h:p + q≤s.size):(s.extract p s.size).extract q (s.extract p s.size).size=s.extract (p + q) s.size:=by
 apply ByteArray.ext
 simp only [ByteArray.data_extract,Array.extract_extract,ByteArray.size_extract]
 congr 1
 omega
theorem glGo_pcs (s:ByteArray) (k p:Nat) (xs:List ByteArray) (hp:p≤s.size) :
 glGo s k p xs=if fe (pcs k (s.extract p s.size))≠0 then ([],0,fe (pcs k (s.extract p s.size))) else (xs++txs (pcs k (s.extract p s.size)),p + szs (pcs k (s.extract p s.size)),0):=by
 induction k generalizing p xs with
 | zero=>simp [glGo,pcs,fe,txs,szs]
 | succ k ih =>
   rw [glGo,pcs]
   have hb:=(gt_bd (s.extract p s.size)).1
   have hq:p + (gt (s.extract p s.size)).2.1≤s.size:=by simp at hb;omega
   by_cases he:(gt (s.extract p s.size)).2.2=0
   · have hg:(gtP (s.extract p s.size)).1=gt (s.extract p s.size):=rfl
     have hc:¬ ((gt (s.extract p s.size)).2.2≠0):=by simpa using he
     rw [if_neg hc,if_neg hc,ih _ _ hq,ext_ext s p _ hq]
     simp only [fe,hg,he,ne_eq,not_true_eq_false,if_false,szs]
     have e1:txs (gtP (s.extract p s.size) :: pcs k (s.extract (p + (gt (s.extract p s.size)).2.1) s.size))=(gt (s.extract p s.size)).1 :: txs (pcs k (s.extract (p + (gt (s.extract p s.size)).2.1) s.size)):=rfl
     rw [e1]
     split
     · rfl
     · simp [Nat.add_assoc]
   · have hg:(gtP (s.extract p s.size)).1=gt (s.extract p s.size):=rfl
     rw [if_pos he,if_pos he]
     simp only [fe,hg,ne_eq,he,not_false_eq_true,if_true]
theorem gl_yes (s:ByteArray) (n k:Nat) (h:gn s.data.toList=(n,k,0)) (hn:n≤256) (hk:k≤s.size) (hf:fe (pcs n (s.extract k s.size))=0) :
 gl s=(txs (pcs n (s.extract k s.size)),k + szs (pcs n (s.extract k s.size)),0):=by
 unfold gl;rw [h];simp only [ne_eq,not_true_eq_false,if_false]
 rw [if_neg (by omega),glGo_pcs s n k [] hk,if_neg (by simpa using hf)];simp
theorem gl_err (s:ByteArray) (n k:Nat) (h:gn s.data.toList=(n,k,0)) (hn:n≤256) (hk:k≤s.size) (pre:List Pc) (hp:pre <+: pcs n (s.extract k s.size)) (hf:fe pre≠0) :
 gl s=([],0,fe pre):=by
 have hf2:fe (pcs n (s.extract k s.size))=fe pre:=by
  obtain ⟨t,ht⟩:=hp;rw [← ht];exact fe_append _ _ hf
 unfold gl;rw [h];simp only [ne_eq,not_true_eq_false,if_false]
 rw [if_neg (by omega),glGo_pcs s n k [] hk,if_pos (by rw [hf2];exact hf),hf2]
theorem OwnAnd {β:Type} {I I':β→World→Prop} (h:Go.Own I) (h':Go.Own I'):Go.Own (fun s W=>I s W∧I' s W):=fun s W W' row hs hg hr=>⟨h s W W' row hs.1 hg hr,h' s W W' row hs.2 hg hr⟩
theorem OwnPure {β:Type} (p:β→Prop):Go.Own (fun s (_:World)=>p s):=fun _ _ _ _ hs _ _=>hs
theorem not_row_cells {W:World} {B:Nat} {t e:TypeId} {c:Array Value} {fz:Nat × Nat} (h:W.heap[B]?=some (.cells c t fz)) (hte:t≠e) {base size k:Nat} {v:Value} {xs:List Value} (hr:W.ownsRow base e size v k xs):some B≠v.ownBlock:=by
 rcases hr.2 with ⟨rfl,_⟩ | ⟨g,cap,cur,rfl,_,hgb,_⟩
 · simp [Value.ownBlock]
 · intro e'
   obtain rfl:B=g:=by simpa [Value.ownBlock] using e'
   rw [h] at hgb;cases hgb;exact hte rfl
theorem OwnSize {β:Type} (m:Nat):Go.Own (fun (_:β) (W:World)=>m≤W.heap.size):=fun _ _ _ _ hs hg _=>Nat.le_trans hs hg.size
def IGL (w:World) (m0 p:Nat) (pre:List Pc) (W:World):Prop :=
 (((((∃ v, Boxed W (w.heap.size + 1 + 1 + 1 + 1 + 1) 75 v ∧ W.ownsRow w.heap.size 9 1 v (strV (txs pre)).length (strV (txs pre)) ∧ True) ∧ Boxed W (w.heap.size + 1 + 1 + 1) 3 (.int .i64 ((p + szs pre : Nat) : Int))) ∧
   (Boxed W w.heap.size 75 (.slice none 0 0)∧Boxed W (w.heap.size + 1) 3 (.int .i64 0)))∧(Boxed W (w.heap.size + 1 + 1) 29 (.int .i64 0)∧fe pre=0))∧m0≤W.heap.size)∧Below w.heap.size w W
def IxGL (w:World) (c:Code) (pre:List Pc) (W:World):Prop :=
 (((c=.ret∧fe pre≠0)∧(Boxed W w.heap.size 75 (.slice none 0 0)∧Boxed W (w.heap.size + 1) 3 (.int .i64 0)))∧Boxed W (w.heap.size + 1 + 1) 29 (.int .i64 ((fe pre:Nat):Int)))∧Below w.heap.size w W
theorem IGL_own (w:World) (m0 p B:Nat) (hB:w.heap.size≤B):OwnFrom B (IGL w m0 p) :=
 OwnFrom.and (Go.Own.from (OwnAnd (OwnAnd (OwnAnd (OwnAnd (holdsRow_own w.heap.size _ _ _ 1 (fun pre=>(strV (txs pre)).length) (fun pre=>strV (txs pre)) (fun _ _=>True)) (boxed_own _ _ _)) (OwnAnd (boxed_own _ _ _) (boxed_own _ _ _))) (OwnAnd (boxed_own _ _ _) (OwnPure fun pre=>fe pre=0))) (OwnSize m0)) _) (ownFrom_below (Nat.le_refl _) hB)
theorem IxGL_own (w:World) (c:Code) (B:Nat) (hB:w.heap.size≤B):OwnFrom B (IxGL w c) :=
 OwnFrom.and (Go.Own.from (OwnAnd (OwnAnd (OwnPure fun pre=>c=.ret∧fe pre≠0) (OwnAnd (boxed_own _ _ _) (boxed_own _ _ _))) (boxed_own _ _ _)) _) (ownFrom_below (Nat.le_refl _) hB)
theorem at8 (w:World) (o1 o2 o3 o4 o5 o6 o7 o8:Obj) (W:World) (hW:W=(((((((w.alloc o1).alloc o2).alloc o3).alloc o4).alloc o5).alloc o6).alloc o7).alloc o8) :
 W.heap[w.heap.size]?=some o1∧W.heap[w.heap.size + 1]?=some o2∧W.heap[w.heap.size + 1 + 1]?=some o3∧W.heap[w.heap.size + 1 + 1 + 1]?=some o4∧W.heap[w.heap.size + 1 + 1 + 1 + 1]?=some o5 ∧
 W.heap[w.heap.size + 1 + 1 + 1 + 1 + 1]?=some o6∧W.heap[w.heap.size + 1 + 1 + 1 + 1 + 1 + 1]?=some o7∧W.heap[w.heap.size + 1 + 1 + 1 + 1 + 1 + 1 + 1]?=some o8∧W.heap.size=w.heap.size + 8∧Below w.heap.size w W:=by
 subst hW
 refine ⟨?_,?_,?_,?_,?_,?_,?_,?_,?_,?_⟩
 all_goals first
  | exact ((((((((Below.refl _ w).alloc (Nat.le_refl _) _).alloc (by simp) _).alloc (by simp;omega) _).alloc (by simp;omega) _).alloc (by simp;omega) _).alloc (by simp;omega) _).alloc (by simp;omega) _).alloc (by simp;omega) _
  | (simp;done)
  | (simp only [World.alloc,Array.getElem?_push,Array.size_push];(repeat rw [if_neg (by omega)]);first | rfl|(rw [if_pos (by omega)])|(rw [if_pos rfl]))
set_option maxRecDepth 100000 in
theorem getList_in (n:Nat) (hn:6≤n) (w:World) (s:ByteArray) (hs:s.size≤281474976710656) :
 CallsIn Fence.wide n Tryz.prog 126 #[.string s] w fun e w'=>∃ v,e=.returned (.tuple #[v,.int .i64 (gl s).2.1,.int .i64 (gl s).2.2])∧StrsAt w' v (gl s).1∧Below w.heap.size w w':=by
 obtain ⟨i0,hi,hz0,hz1,hz2⟩:=info_parts info9
 have hG:=hidp (fun w=>getNum_any w s hs)
 have hbd:=gn_bd s.data.toList
 obtain ⟨R,hR⟩:∃ R,R=gl s:=⟨_,rfl⟩
 rw [← hR]
 obtain ⟨⟨k,p,e⟩,hr⟩:∃ r,r=gn s.data.toList:=⟨_,rfl⟩
 have HG:=hidp (show ∀ w,Calls Tryz.prog 166 #[.string s] w fun e1 w'=>e1=.returned (.tuple #[.int .u64 k,.int .i64 p,.int .i64 e])∧w=w' from fun w=>by have:=hG.out w;rw [← hr] at this;exact this)
 rw [← hr] at hbd
 clear hG
 obtain ⟨h1,h2,h3,h4⟩:=hbd
 simp only at h1 h2 h3 h4
 have h3:p≤s.size:=by simpa using h3
 have HR:=hidp hR;have Hr:=hidp hr;clear hR hr
 refine callsIn_of_wp_marks Tryz.func126 rfl trivial ?_ rfl
 simp only [Tryz.ntmps126,List.size_toArray,List.length_cons,List.length_nil,Nat.reduceAdd,Nat.reduceSub,Array.replicate_succ,Array.replicate_zero,List.push_toArray,List.append_toArray,List.nil_append,List.cons_append]
 gi_wp2_with fail
 refine ⟨trivial,fun _=>by omega,?_⟩
 refine (callsIn_wide.2 (HG.out _)).mono ?_
 rintro e1 w1 ⟨rfl,rfl⟩
 by_cases he:e=0
 · have heb:=errB0 he
   by_cases h256:256<k
   · have hfin:=hidp (show gl s=([],0,7) from by
      unfold gl;rw [← Hr.out];simp only;rw [if_neg (by simpa using he),if_pos h256])
     have H0:=hidp he;clear he
     gi_wp2
     refine ⟨_,by simp [results,Tryz.results126,go_sem];rfl,?_⟩
     refine ⟨_,by rw [HR.out,hfin.out];rfl,by rw [HR.out,hfin.out];exact strsNil _,?_⟩
     exact ((((Below.refl _ w).alloc (Nat.le_refl _) _).alloc (by simp) _).alloc (by simp;omega) _).alloc (by simp;omega) _
   · obtain ⟨M,hM⟩:∃ M,M=madeCells (Value.string ByteArray.empty).cells ((k:Int).toNat * i0.size):=⟨_,rfl⟩
     have hMs:M.size=k:=by rw [hM,size_madeCells,hz1];simp
     have hmk:∀ W:World,(Instr.makeSlice 75 (.int .i64 0) (.int .u64 (k:Int))).run Tryz.prog W=.ok (.slice (some ⟨W.heap.size,0,none⟩) 0 k) (W.alloc (.cells M 9)):=fun W=>by
      have h:=run_make (P:=Tryz.prog) W 75 9 i0 (.string ByteArray.empty) Tryz.underlying75 hi hz0 .i64 .u64 0 (k:Int) (by omega) (by omega) (by rw [hz2];omega) (by omega)
      rw [← hM] at h
      simpa using h
     have hMM:=hidp hM;clear hM
     have H0:=hidp he;clear he
     have hpt:((p:Int)).toNat=p:=by omega
     gi_wp2_with (refine ⟨trivial,fun _=>by omega,?_⟩;(refine (pieces_in Fence.wide (n - 1) trivial rfl _ _ _).mono ?_);rintro e2 w2 ⟨rfl,rfl⟩)
     generalize hW0:((((((((w.alloc (.cells #[.slice none 0 0] 75)).alloc (.cells #[.int .i64 0] 3)).alloc (.cells #[.int .i64 0] 29)).alloc (.cells #[.int .i64 (p:Int)] 3)).alloc (.cells M 9)).alloc (.cells #[.slice (some ⟨w.heap.size + 1 + 1 + 1 + 1,0,none⟩) 0 k] 75)).alloc (.cells #[.string (s.extract p s.size)] 9)).alloc (.cells #[.int .i64 (k:Int)] 3))=W0
     obtain ⟨b0,b1,b2,b3,b4,b5,b6,b7,hz,hB0⟩:=at8 _ _ _ _ _ _ _ _ _ _ hW0.symm
     clear hW0
     have hOwn0:OwnV W0 w.heap.size 9 (.slice (some ⟨w.heap.size + 1 + 1 + 1 + 1,0,none⟩) 0 k) (strV (txs [])) :=
      ⟨rfl,.inr ⟨w.heap.size + 1 + 1 + 1 + 1,k,M,rfl,by omega,b4,by simp [strV,txs],by unfold maxLen;omega,by rw [hMs];simp,by simp [strV,txs]⟩⟩
     have hs6:W0.cell? ⟨w.heap.size + 1 + 1 + 1 + 1 + 1 + 1,0,none⟩=some (.string (s.extract p s.size)):=Boxed.cell b6
     have hs7:W0.cell? ⟨w.heap.size + 1 + 1 + 1 + 1 + 1 + 1 + 1,0,none⟩=some (.int .i64 (k:Int)):=Boxed.cell b7
     refine wpIn_rangeFunc_ownH (α:=Pc) rfl (by omega) (gf:=191) (lb:=#[.pointer (some ⟨w.heap.size + 1 + 1 + 1 + 1 + 1 + 1,0,none⟩),.pointer (some ⟨w.heap.size + 1 + 1 + 1 + 1 + 1 + 1 + 1,0,none⟩)]) rfl trivial (enters_of Tryz.func191 (by kernel_rfl) rfl)
      (encs:=encP) (Kp:=fun _ _=>True) (S:=fun ys=>ys=pcs k (s.extract p s.size)) (Sp:=fun pre=>pre <+: pcs k (s.extract p s.size)) (N:=(pcs k (s.extract p s.size)).length) (w0:=W0)
      (fun l J Jx W hW hJ _ hY h0=>pieces1_in (n - 1) (by omega) l _ _ (s.extract p s.size) (by simp;omega) k (by omega) J Jx W hJ hY ((hW.cell (p:=⟨w.heap.size + 1 + 1 + 1 + 1 + 1 + 1,0,none⟩) (by simp;omega)).trans hs6) ((hW.cell (p:=⟨w.heap.size + 1 + 1 + 1 + 1 + 1 + 1 + 1,0,none⟩) (by simp;omega)).trans hs7) h0)
      (fun _ _=>trivial) (fun _ _ _ _ _ _ _ _=>trivial) (Below.refl _ _) (fun _=>rfl)
      (IGL w W0.heap.size p) (IxGL w) (IGL_own w _ _ _ (by omega)) (fun c=>IxGL_own w c _ (by omega))
      ⟨⟨⟨⟨⟨⟨_,b5,hOwn0,trivial⟩,b3⟩,⟨b0,b1⟩⟩,⟨b2,rfl⟩⟩,Nat.le_refl _⟩,hB0⟩
      (fun x a' W=>∃ Bx,W0.heap.size≤Bx∧W.heap[Bx]?=some (.cells #[.string x.1.1,.int .i64 x.1.2.1,.int .i64 x.1.2.2] 221 (0,0))∧a'={ tmps:=#[.string s,undef,.pointer (some ⟨w.heap.size,0,none⟩),.pointer (some ⟨w.heap.size + 1,0,none⟩),.pointer (some ⟨w.heap.size + 1 + 1,0,none⟩),.int .u64 k,.pointer (some ⟨w.heap.size + 1 + 1 + 1,0,none⟩),.int .i64 e,.pointer (some ⟨w.heap.size + 1 + 1 + 1 + 1 + 1,0,none⟩),.pointer (some ⟨Bx,0,none⟩),.tuple #[.int .u64 k,.int .i64 p,.int .i64 e],.string s,.tuple #[.int .u64 k,.int .i64 p,.int .i64 e],.int .u64 k,.int .i64 p,.int .i64 e,.int .i64 e,.bool false,undef,.int .u64 k,.bool (decide (256<(k:Int))),.int .u64 k,.slice (some ⟨w.heap.size + 1 + 1 + 1 + 1,0,none⟩) 0 k,.string s,.int .i64 p,.string (s.extract p s.size),.int .u64 k,.int .i64 k,.func (.func 191) #[] #[.pointer (some ⟨w.heap.size + 1 + 1 + 1 + 1 + 1 + 1,0,none⟩),.pointer (some ⟨w.heap.size + 1 + 1 + 1 + 1 + 1 + 1 + 1,0,none⟩)],.agg #[.string x.1.1,.int .i64 x.1.2.1,.int .i64 x.1.2.2],undef,undef,undef,undef,undef,undef,undef,undef,undef,undef,undef,undef,undef,undef,undef,undef],defers:=[] })
      (fun x a' s X Y row hs hg hr=>by
        obtain ⟨Bx,h1,h2,h3⟩:=hs
        exact ⟨Bx,h1,(hg.block Bx (Array.getElem?_eq_some_iff.1 h2).1 (fun e=>by obtain ⟨_,o,ho,hc⟩:=hr Bx e.symm;rw [h2] at ho;cases ho;cases hc)).trans h2,h3⟩)
      ?assign ?body ?done ?stop
     case assign =>
      rintro l pre x W K hI hK
      simp only [encP]
      obtain ⟨⟨⟨⟨⟨⟨v,c5,hrow,-⟩,c3⟩,⟨c0,c1⟩⟩,⟨c2,hfe⟩⟩,hm0⟩,hB⟩:=hI
      have hsz:=hB.size
      clear b0 b1 b2 b3 b4 b5 b6 b7 hs6 hs7
      have HK:=hidp hK;clear hK
      have HC:=hidp (And.intro c5 (And.intro c3 (And.intro c0 (And.intro c1 (And.intro c2 hfe)))));clear c5 c3 c0 c1 c2 hfe
      gi_wp2
      obtain ⟨c5,c3,c0,c1,c2,hfe⟩:=HC.out
      exact HK.out _ _ ((KeepsOthers.alloc _ _).from _) trivial ⟨⟨⟨⟨⟨⟨v,c5.alloc _,hrow.alloc _,trivial⟩,c3.alloc _⟩,⟨c0.alloc _,c1.alloc _⟩⟩,⟨c2.alloc _,hfe⟩⟩,by simp;omega⟩,hB.alloc hsz _⟩ ⟨W.heap.size,hm0,heap_alloc_new W _,rfl⟩
     case body =>
      rintro l pre x a' W hl ⟨r,hr⟩ hI ⟨Bx,hBx,hbx,rfl⟩ hlt
      obtain ⟨⟨t,q,e2⟩,hxx⟩:=x
      obtain ⟨⟨⟨⟨⟨⟨v,c5,hrow,-⟩,c3⟩,⟨c0,c1⟩⟩,⟨c2,hfe⟩⟩,hm0⟩,hB⟩:=hI
      have hsz:=hB.size
      clear b0 b1 b2 b3 b4 b5 b6 b7 hs6 hs7
      simp only at hbx
      have x0:W.cell? ⟨Bx,0,none⟩=some (.string t):=by simp [World.cell?,hbx]
      have x1:W.cell? ⟨Bx,1,none⟩=some (.int .i64 q):=by simp [World.cell?,hbx]
      have x2:W.cell? ⟨Bx,2,none⟩=some (.int .i64 e2):=by simp [World.cell?,hbx]
      have HBX:=hidp hbx;clear hbx
      have Hr:=hidp hr;clear hr
      have d0:=c0.cell;have d1:=c1.cell;have d2:=c2.cell;have d3:=c3.cell;have d5:=c5.cell
      have f0:=c0.frozen;have f1:=c1.frozen;have f2:=c2.frozen;have f3:=c3.frozen;have f5:=c5.frozen
      have hxx':=hidp hxx
      simp only at hxx
      obtain ⟨hx1,hx2,hx3⟩:=hxx
      have HC:=hidp (And.intro c5 (And.intro c3 (And.intro c0 (And.intro c1 (And.intro c2 hfe)))));clear c5 c3 c0 c1 c2 hfe
      have hfe1:=fe_snoc pre ⟨(t,q,e2),hxx'.out⟩ HC.out.2.2.2.2.2
      have HF:=hidp hfe1;clear hfe1
      by_cases he2:e2=0
      · have heb2:=errB0 he2
        have H02:=hidp he2;clear he2
        have hpl:=pcs_len k (s.extract p s.size)
        have hszs:=szs_bd pre
        have hlx:(strV (txs pre)).length=pre.length:=by simp [strV,txs]
        have hsq:((p + szs pre:Nat):Int) + (q:Int)=((p + szs (pre++[⟨(t,q,e2),hxx'.out⟩]):Nat):Int):=by rw [szs_snoc];simp;omega
        have HSQ:=hidp hsq;clear hsq
        have hb3:p + szs pre≤281474976710656:=by omega
        have HLX:=hidp hlx
        gi_wp2_with (gi_at_builtin;(refine wpListIn_append_own _ rfl (.tmp 35) (.tmp 38) 75 rfl w.heap.size 9 i0 _ 1 16 Tryz.underlying75 hi hz0 hz1 hz2 rfl (by decide) _ _ _ rfl (hrow.alloc _) ⟨W.heap.size,0,none⟩ 1 1 [.string t] rfl rfl (cell_one_new _ _ _) (by simp [Value.oneCell']) ?_ ?_ ?_ ?_))
        · unfold maxLen;omega
        · omega
        · omega
        · intro v' w1 hown' hgrow hne
          obtain ⟨g',cap',rfl⟩:=ownsRow_succ hown'
          obtain ⟨c5,c3,c0,c1,c2,hfe⟩:=HC.out
          obtain ⟨g5a,g5b,hr2,hk2,hb2⟩:=c5.appended (by decide) hrow hsz (by omega) hown' hgrow
          have k3:Boxed w1 _ _ _:=(c3.alloc _).kept hgrow (c3.not_row (by decide) hrow)
          have k0:Boxed w1 _ _ _:=(c0.alloc _).kept hgrow (c0.not_row (by decide) hrow)
          have k1:Boxed w1 _ _ _:=(c1.alloc _).kept hgrow (c1.not_row (by decide) hrow)
          have k2:Boxed w1 _ _ _:=(c2.alloc _).kept hgrow (c2.not_row (by decide) hrow)
          have hbl:=(Array.getElem?_eq_some_iff.1 HBX.out).1
          have kx:w1.heap[Bx]?=some (.cells #[.string t,.int .i64 q,.int .i64 e2] 221):=(hgrow.block Bx (by simp;omega) (not_row_cells HBX.out (by decide) hrow)).trans ((Below.heap_alloc W _ Bx hbl).trans HBX.out)
          have y1:w1.cell? ⟨Bx,1,none⟩=some (.int .i64 q):=by simp [World.cell?,kx]
          have z3:=k3.cell;have zf3:=k3.frozen;have z5:=g5a.cell;have zf5:=g5a.frozen
          have hbn:¬ Bx=w.heap.size + 1 + 1 + 1 + 1 + 1:=by omega
          have e9:=hidp (show (p:Int) + ((szs pre:Nat):Int) + (q:Int)=((p + szs (pre++[⟨(t,q,e2),hxx'.out⟩]):Nat):Int) from by rw [← HSQ.out];simp)
          have hsn:=hidp (strV_snoc (txs pre) t)
          have HEND:=hidp (show IGL w W0.heap.size p (pre++[⟨(t,q,e2),hxx'.out⟩]) ((w1.setCell ⟨w.heap.size + 1 + 1 + 1 + 1 + 1,0,none⟩ (.slice (some ⟨g',0,none⟩) (pre.length + 1) cap')).setCell ⟨w.heap.size + 1 + 1 + 1,0,none⟩ (.int .i64 ((p + szs (pre++[⟨(t,q,e2),hxx'.out⟩]):Nat):Int))) from by
           refine ⟨⟨⟨⟨⟨⟨_,g5b.other (by omega) _,?_,trivial⟩,(k3.other (by omega) _).set _⟩,⟨(k0.other (by omega) _).other (by omega) _,(k1.other (by omega) _).other (by omega) _⟩⟩,⟨(k2.other (by omega) _).other (by omega) _,by rw [HF.out];exact H02.out⟩⟩,?_⟩,?_⟩
           · rw [txs_snoc,← hsn.out,List.length_append,HLX.out]
             exact hr2.kept (grownBy_setCell' _ _ _) (.inr ((k3.other (by omega) _).not_row (by decide) hr2).symm)
           · have:=hb2.size;simp [World.setCell] at this ⊢;omega
           · exact (hB.trans hb2).setCell (p:=⟨w.heap.size + 1 + 1 + 1,0,none⟩) (by simp;omega) _)
          have HK2:=hidp (hk2.trans (KeepsOthers.setCell _ ⟨w.heap.size + 1 + 1 + 1,0,none⟩ (.int .i64 ((p + szs (pre++[⟨(t,q,e2),hxx'.out⟩]):Nat):Int))))
          clear hown' hgrow hr2 hk2 hb2 g5a g5b k0 k1 k2 k3 kx hrow c5 c3 c0 c1 c2 hfe hsn
          gi_wp2
          rw [e9.out]
          exact ⟨HK2.out.from _,trivial,HEND.out⟩
      · have heb2:=errB he2
        have H02:=hidp he2;clear he2
        have HE:Hid (ownPostG W0.heap.size (fun _ _=>True) (IGL w W0.heap.size p) (IxGL w) (pre++[⟨(t,q,e2),hxx'.out⟩]) W Exit.ret { tmps:=#[],defers:=[] } ((((W.setCell ⟨w.heap.size,0,none⟩ (.slice none 0 0)).setCell ⟨w.heap.size + 1,0,none⟩ (.int .i64 0)).setCell ⟨w.heap.size + 1 + 1,0,none⟩ (.int .i64 e2)).drew)):=by
         obtain ⟨c5,c3,c0,c1,c2,hfe⟩:=HC.out
         refine hidp ⟨?_,?_⟩
         · exact ((((KeepsOthers.setCell _ _ _).trans (KeepsOthers.setCell _ _ _)).trans (KeepsOthers.setCell _ _ _)).trans (KeepsOthers.drew _)).from _
         · refine ⟨⟨⟨⟨rfl,by rw [HF.out];exact H02.out⟩,⟨((c0.set _).other (by omega) _).other (by omega) _,((c1.other (by omega) _).set _).other (by omega) _⟩⟩,?_⟩,(((hB.setCell (p:=⟨w.heap.size,0,none⟩) (Nat.le_refl _) _).setCell (p:=⟨w.heap.size + 1,0,none⟩) (by simp) _).setCell (p:=⟨w.heap.size + 1 + 1,0,none⟩) (by simp;omega) _).drew⟩
           rw [HF.out];exact ((c2.other (by omega) _).other (by omega) _).set _
        gi_wp2
        gi_region
        all_goals gi_wp2
        all_goals exact HE.out
     case done =>
      rintro D ys W hD hys hI hK
      obtain ⟨⟨⟨⟨⟨⟨v,c5,hrow,-⟩,c3⟩,⟨c0,c1⟩⟩,⟨c2,hfe⟩⟩,hm0⟩,hB⟩:=hI
      subst hys
      have hfin:=gl_yes s k p (by rw [← Hr.out,H0.out]) (by omega) h3 hfe
      have hdd:=(Array.getElem?_eq_some_iff.1 hK).1
      obtain ⟨sz,hsze⟩:∃ z,p + szs (pcs k (s.extract p s.size))=z:=⟨_,rfl⟩
      rw [hsze] at c3 hfin
      clear hsze
      have hfin:=hidp hfin
      have hsz:=hB.size
      clear b0 b1 b2 b3 b4 b5 b6 b7 hs6 hs7
      have d0:=c0.cell;have d1:=c1.cell;have d2:=c2.cell;have d3:=c3.cell;have d5:=c5.cell
      have f0:=c0.frozen;have f1:=c1.frozen;have f2:=c2.frozen
      have hvv:∃ a n c,v=.slice a n c:=by
       rcases hrow.2 with ⟨rfl,_⟩ | ⟨g,cap,cur,rfl,_⟩
       · exact ⟨_,_,_,rfl⟩
       · exact ⟨_,_,_,rfl⟩
      obtain ⟨va,vn,vc,rfl⟩:=hvv
      have hend:∀ X:World,X=(((W.setCell ⟨w.heap.size,0,none⟩ (.slice va vn vc)).setCell ⟨w.heap.size + 1,0,none⟩ (.int .i64 (sz:Int))).setCell ⟨w.heap.size + 1 + 1,0,none⟩ (.int .i64 0)).drew →
       X.heap[D]?=some (.deferred (some []))∧(X.putObj D (.deferred none)).cell? ⟨w.heap.size,0,none⟩=some (.slice va vn vc)∧(X.putObj D (.deferred none)).cell? ⟨w.heap.size + 1,0,none⟩=some (.int .i64 (sz:Int)) ∧
       (X.putObj D (.deferred none)).cell? ⟨w.heap.size + 1 + 1,0,none⟩=some (.int .i64 0)∧StrsAt (X.putObj D (.deferred none)) (.slice va vn vc) (txs (pcs k (s.extract p s.size)))∧Below w.heap.size w (X.putObj D (.deferred none)):=by
       intro X hX
       have q0:Boxed X w.heap.size 75 (.slice va vn vc):=by rw [hX];exact ((c0.set _).other (by omega) _).other (by omega) _
       have q1:Boxed X (w.heap.size + 1) 3 (.int .i64 (sz:Int)):=by rw [hX];exact ((c1.other (by omega) _).set _).other (by omega) _
       have q2:Boxed X (w.heap.size + 1 + 1) 29 (.int .i64 0):=by rw [hX];exact ((c2.other (by omega) _).other (by omega) _).set _
       have qD:X.heap[D]?=some (.deferred (some [])):=by rw [hX];exact (((KeepsOthers.setCell _ _ _).trans (KeepsOthers.setCell _ _ _)).trans (KeepsOthers.setCell _ _ _)).same D _ hK rfl
       have a0:Boxed (W.setCell ⟨w.heap.size,0,none⟩ (.slice va vn vc)) (w.heap.size + 1) 3 (.int .i64 0):=c1.other (by omega) _
       have a1:Boxed ((W.setCell ⟨w.heap.size,0,none⟩ (.slice va vn vc)).setCell ⟨w.heap.size + 1,0,none⟩ (.int .i64 (sz:Int))) (w.heap.size + 1 + 1) 29 (.int .i64 0):=(c2.other (by omega) _).other (by omega) _
       have r0:=hrow.kept (grownBy_setCell' W w.heap.size (.slice va vn vc)) (.inr (c0.not_row (by decide) hrow).symm)
       have r1:=r0.kept (grownBy_setCell' _ (w.heap.size + 1) (.int .i64 (sz:Int))) (.inr (a0.not_row (by decide) r0).symm)
       have r2:=r1.kept (grownBy_setCell' _ (w.heap.size + 1 + 1) (.int .i64 0)) (.inr (a1.not_row (by decide) r1).symm)
       have r3:X.ownsRow w.heap.size 9 1 (.slice va vn vc) (strV (txs (pcs k (s.extract p s.size)))).length (strV (txs (pcs k (s.extract p s.size)))):=by rw [hX];exact r2
       have hBX:Below w.heap.size w X:=by rw [hX];exact (((hB.setCell (p:=⟨w.heap.size,0,none⟩) (Nat.le_refl _) _).setCell (p:=⟨w.heap.size + 1,0,none⟩) (by simp) _).setCell (p:=⟨w.heap.size + 1 + 1,0,none⟩) (by simp;omega) _).drew
       have hDX:=(Array.getElem?_eq_some_iff.1 qD).1
       refine ⟨qD,(q0.kept (grownBy_putObj' _ _ _) (fun e=>by cases e;omega)).cell,(q1.kept (grownBy_putObj' _ _ _) (fun e=>by cases e;omega)).cell,(q2.kept (grownBy_putObj' _ _ _) (fun e=>by cases e;omega)).cell,?_,hBX.grown (grownBy_putObj' _ _ _) hBX.size (fun k e=>by cases e;omega)⟩
       exact OwnV.strs (B:=w.heap.size) (e:=9) (ownsRow_putObj r3 _ qD rfl)
      have HEND:=hidp hend
      clear hend hK hrow c0 c1 c2 c3 c5 hfe
      gi_wp2
      gi_region
      gi_wp2
      obtain ⟨eD,e0,e1,e2,eS,eB⟩:=HEND.out _ rfl
      refine ⟨by simp,.inl ⟨_,_,rfl,run_takeDeferred eD,?_⟩⟩
      refine ⟨_,by simp [results,Tryz.results126,go_sem,e0,e1,e2];rfl,?_⟩
      exact ⟨_,by rw [HR.out,hfin.out];rfl,by rw [HR.out,hfin.out];exact eS,eB⟩
     case stop =>
      rintro D c pre W hD hsp hI hK
      obtain ⟨⟨⟨⟨rfl,hfe⟩,⟨c0,c1⟩⟩,c2⟩,hB⟩:=hI
      have hfin:=hidp (gl_err s k p (by rw [← Hr.out,H0.out]) (by omega) h3 pre hsp hfe)
      have hdd:=(Array.getElem?_eq_some_iff.1 hK).1
      have e0:=(c0.kept (grownBy_putObj' W D (.deferred none)) (fun e=>by cases e;omega)).cell
      have e1:=(c1.kept (grownBy_putObj' W D (.deferred none)) (fun e=>by cases e;omega)).cell
      have e2:=(c2.kept (grownBy_putObj' W D (.deferred none)) (fun e=>by cases e;omega)).cell
      have eB:=hB.grown (grownBy_putObj' W D (.deferred none)) hB.size (fun k e=>by cases e;omega)
      clear b0 b1 b2 b3 b4 b5 b6 b7 hs6 hs7 c0 c1 c2
      gi_wp2
      refine ⟨by simp,.inl ⟨_,_,rfl,run_takeDeferred hK,?_⟩⟩
      refine ⟨_,by simp [results,Tryz.results126,go_sem,e0,e1,e2];rfl,?_⟩
      exact ⟨_,by rw [HR.out,hfin.out];rfl,by rw [HR.out,hfin.out];exact strsNil _,eB⟩
 · have heb:=errB he
   have hfin:=hidp (show gl s=([],0,e) from by
    unfold gl;rw [← Hr.out];simp only;rw [if_pos he])
   have H0:=hidp he;clear he
   gi_wp2
   refine ⟨_,by simp [results,Tryz.results126,go_sem];rfl,?_⟩
   refine ⟨_,by rw [HR.out,hfin.out];rfl,by rw [HR.out,hfin.out];exact strsNil _,?_⟩
   exact ((((Below.refl _ w).alloc (Nat.le_refl _) _).alloc (by simp) _).alloc (by simp;omega) _).alloc (by simp;omega) _
end
section
open Go.RowKit
theorem getList_any (w:World) (s:ByteArray) (hs:s.size≤281474976710656) :
 Calls Tryz.prog 126 #[.string s] w fun e w'=>∃ v,e=.returned (.tuple #[v,.int .i64 (gl s).2.1,.int .i64 (gl s).2.2])∧StrsAt w' v (gl s).1∧Below w.heap.size w w' :=
 callsIn_wide.1 (getList_in 6 (by omega) w s hs)
set_option maxRecDepth 20000 in
theorem all_any (w:World) (s:ByteArray) (hs:s.size≤281474976710656) :
 Calls Tryz.prog 74 #[.string s] w fun e w'=>∃ v,e=.returned (.tuple #[v,.int .i64 (al s).2])∧StrsAt w' v (al s).1∧Below w.heap.size w w':=by
 have hG:=getList_any w s hs
 have hbd:=gl_bd s
 unfold al
 obtain ⟨⟨L,k,e⟩,hr⟩:∃ r,r=gl s:=⟨_,rfl⟩
 rw [← hr] at hG hbd ⊢
 clear hr
 simp only at hG hbd ⊢
 obtain ⟨h1,h2,h3,h4⟩:=hbd
 have HG:=hidp hG;have H4:=hidp h4;clear hG h4
 by_cases he:e=0
 · have heb:=errB0 he
   rw [if_neg (by simpa using he)]
   have H0:=hidp he;clear he
   by_cases hsz:k<s.size
   · rw [if_pos hsz]
     go_enter Tryz.func74,Tryz.ntmps74
     go_wp2_with (go_at_call 126;(refine HG.out.mono ?_);rintro e1 w1 ⟨v1,rfl,hst,hb1⟩)
     go_ret2
     exact ⟨_,rfl,strsNil _,hb1⟩
   · rw [if_neg hsz]
     go_enter Tryz.func74,Tryz.ntmps74
     go_wp2_with (go_at_call 126;(refine HG.out.mono ?_);rintro e1 w1 ⟨v1,rfl,hst,hb1⟩;have HST:=hidp hst;clear hst)
     go_ret2
     exact ⟨_,rfl,HST.out,hb1⟩
 · have heb:=errB he
   rw [if_pos he]
   have H0:=hidp he;clear he
   go_enter Tryz.func74,Tryz.ntmps74
   go_wp2_with (go_at_call 126;(refine HG.out.mono ?_);rintro e1 w1 ⟨v1,rfl,hst,hb1⟩)
   go_ret2
   exact ⟨_,rfl,strsNil _,hb1⟩
end
section
open Go.RowKit
theorem cont_toNat (n:Nat):(contB n).toNat=n % 128 + 128:=by unfold contB;rw [u8n _ (by omega)]
theorem last_toNat (n:Nat) (h:n<128):(lastB n).toNat=n:=by unfold lastB;rw [u8n _ (by omega)]
theorem gnAux_back (k i acc n:Nat) (r:List UInt8) (hk:(encN n).length≤k) (hmax:acc + n * 128 ^ i≤281474976710656) (h0:0<i→n≠0) :
 gnAux k i acc (encN n++r)=(acc + n * 128 ^ i,i + (encN n).length,0):=by
 induction k generalizing i acc n with
 | zero=>have:=encN_pos n;omega
 | succ k ih =>
   by_cases h:n<128
   · rw [encN_lt h]
     simp only [List.cons_append,List.nil_append,gnAux,last_toNat n h,List.length_cons,List.length_nil]
     rw [if_neg (by omega),show n % 128=n from by omega,if_neg (by omega)]
   · rw [encN_ge (by omega)] at hk ⊢
     have hlen:(encN (n / 128)).length≤k:=by simpa using hk
     have e:acc + (n % 128 + 128) % 128 * 128 ^ i + n / 128 * 128 ^ (i + 1)=acc + n * 128 ^ i:=by
      rw [Nat.pow_succ,show (n % 128 + 128) % 128=n % 128 from by omega]
      have:n / 128 * (128 ^ i * 128)=(n / 128 * 128) * 128 ^ i:=by rw [Nat.mul_comm (128 ^ i),← Nat.mul_assoc]
      rw [this,Nat.add_assoc,← Nat.add_mul]
      congr 2
      omega
     simp only [List.cons_append,gnAux,cont_toNat,List.length_cons]
     rw [if_pos (by omega),ih (i + 1) _ (n / 128) hlen (by rw [e];exact hmax) (by omega),e]
     congr 2
     omega
theorem gn_back (n:Nat) (r:List UInt8) (h:n≤281474976710656):gn (encN n++r)=(n,(encN n).length,0):=by
 have := gnAux_back 7 0 0 n r (encN_len 6 n (by have : (128 : Nat) ^ (6 + 1) = 562949953421312 := by decide
                                                omega)) (by simpa using h) (by omega)
 unfold gn;rw [this];simp
theorem gnAux_again (k i acc:Nat) (l:List UInt8) (n j:Nat) (h:gnAux k i acc l=(n,j,0)) :
 ∃ p b,i<j∧j - i≤l.length∧l.take (j - i)=p++[b]∧n=acc + valN (p++[b]) * 128 ^ i∧(∀ x ∈ p,128≤x.toNat)∧b.toNat<128∧(0<i∨p≠[]→b.toNat≠0)∧n≤281474976710656:=by
 induction k generalizing i acc l with
 | zero=>simp [gnAux] at h
 | succ k ih =>
   cases l with
   | nil=>simp [gnAux] at h
   | cons c r =>
     rw [gnAux] at h
     split at h
     · rename_i hc
       obtain ⟨p,b,h1,h2,h3,h4,h5,h6,h7,h8⟩:=ih (i + 1) _ r h
       refine ⟨c :: p,b,by omega,by simp;omega,?_,?_,?_,h6,fun _=>h7 (.inl (by omega)),h8⟩
       · rw [show j - i=(j - (i + 1)) + 1 from by omega,List.take_succ_cons,h3];rfl
       · rw [h4]
         show _=acc + (c.toNat % 128 + 128 * valN (p++[b])) * 128 ^ i
         rw [Nat.pow_succ,Nat.add_mul,← Nat.add_assoc]
         congr 1
         rw [Nat.mul_comm (128 ^ i),← Nat.mul_assoc,Nat.mul_comm (valN _)]
       · intro x hx
         rcases List.mem_cons.1 hx with rfl | hx
         · exact hc
         · exact h5 x hx
     · split at h
       · simp at h
       · rename_i hc hn
         simp only [Prod.mk.injEq,and_true] at h
         obtain ⟨rfl,rfl⟩:=h
         refine ⟨[],c,by omega,by simp,by rw [show i + 1 - i=1 from by omega];rfl,by simp [valN],by simp,by omega,fun h=>?_,by omega⟩
         have:0<i:=by simpa using h
         omega
theorem gn_again (l:List UInt8) (n j:Nat) (h:gn l=(n,j,0)):encN n=l.take j∧n≤281474976710656∧j≤l.length:=by
 obtain ⟨p,b,h1,h2,h3,h4,h5,h6,h7,h8⟩:=gnAux_again 7 0 0 l n j h
 refine ⟨?_,h8,by simpa using h2⟩
 have e:n=valN (p++[b]):=by simpa using h4
 rw [e,enc_val p b h5 h6 (by by_cases hp:p=[];exact .inl hp;exact .inr (h7 (.inr hp))),← h3];simp
theorem ba_ext {a b:ByteArray} (h:a.data.toList=b.data.toList):a=b:=ByteArray.ext (Array.toList_inj.1 h)
theorem extract_toList (s:ByteArray) (a b:Nat):(s.extract a b).data.toList=(s.data.toList.drop a).take (b - a):=by
 simp [ByteArray.data_extract,List.extract]
theorem size_toList (s:ByteArray):s.data.toList.length=s.size:=by simp
theorem ext_drop (s:ByteArray) (p:Nat):s.extract p s.size=mkS (s.data.toList.drop p):=by
 apply ba_ext
 rw [extract_toList,mkS_data,List.take_of_length_le (by simp)]
theorem gt_back (t:ByteArray) (ht:t.size≤8192) (r:List UInt8):gt (mkS (encT t++r))=(t,(encT t).length,0):=by
 have hg:gn (mkS (encT t++r)).data.toList=(t.size,(encN t.size).length,0):=by
  rw [mkS_data];unfold encT;rw [List.append_assoc];exact gn_back _ _ (by omega)
 have hl:(encT t).length=(encN t.size).length + t.size:=by unfold encT;simp
 unfold gt
 rw [hg]
 simp only [ne_eq,not_true_eq_false,if_false]
 rw [if_neg (by omega),if_neg (by rw [mkS_size];simp;omega)]
 refine Prod.ext ?_ (Prod.ext ?_ rfl)
 · simp only
   apply ba_ext
   rw [extract_toList,mkS_data]
   unfold encT
   rw [List.append_assoc,List.drop_left,show (encN t.size).length + t.size - (encN t.size).length=t.data.toList.length from by rw [size_toList];omega,List.take_left]
 · simp only;exact hl.symm
theorem gt_again (s t:ByteArray) (j:Nat) (h:gt s=(t,j,0)):encT t=s.data.toList.take j∧t.size≤8192∧j≤s.size:=by
 obtain ⟨⟨n,k,e⟩,hr⟩:∃ r,gn s.data.toList=r:=⟨_,rfl⟩
 unfold gt at h
 rw [hr] at h
 simp only at h
 by_cases he:e=0
 · rw [if_neg (by simpa using he)] at h
   split at h
   · simp at h
   · split at h
     · simp at h
     · rename_i h1 h2
       simp only [Prod.mk.injEq,and_true] at h
       obtain ⟨ht,hj⟩:=h
       subst he
       obtain ⟨g1,g2,g3⟩:=gn_again _ _ _ hr
       have hts:t.size=n:=by rw [← ht];simp;omega
       refine ⟨?_,by omega,by omega⟩
       unfold encT
       rw [hts,g1,← ht,extract_toList,← hj,show k + n - k=n from by omega,← List.take_add]
 · rw [if_pos he] at h;simp at h;omega
theorem glGo_back (s:ByteArray) (k p:Nat) (xs rest:List ByteArray) (r:List UInt8) (hk:rest.length=k) (hz:∀ t ∈ rest,t.size≤8192) (hd:s.data.toList.drop p=encTs rest++r) :
 glGo s k p xs=(xs++rest,p + (encTs rest).length,0):=by
 induction k generalizing p xs rest with
 | zero =>
   have:rest=[]:=List.eq_nil_of_length_eq_zero hk
   subst this;simp [glGo,encTs]
 | succ k ih =>
   cases rest with
   | nil=>simp at hk
   | cons t rest =>
     have e1:encTs (t :: rest)=encT t++encTs rest:=by simp [encTs]
     have hg:gt (s.extract p s.size)=(t,(encT t).length,0):=by
      rw [ext_drop,hd,e1,List.append_assoc];exact gt_back t (hz t (by simp)) _
     rw [glGo,hg]
     simp only [ne_eq,not_true_eq_false,if_false]
     rw [ih (p + (encT t).length) _ rest (by simpa using hk) (fun x hx=>hz x (by simp [hx])) (by rw [← List.drop_drop,hd,e1,List.append_assoc,List.drop_left])]
     simp [e1,Nat.add_assoc]
theorem gl_back (ss:List ByteArray) (h:okL ss) (r:List UInt8):gl (mkS (encL ss++r))=(ss,(encL ss).length,0):=by
 have hg:gn (mkS (encL ss++r)).data.toList=(ss.length,(encN ss.length).length,0):=by
  rw [mkS_data];unfold encL;rw [List.append_assoc];exact gn_back _ _ (by have:=h.1;omega)
 unfold gl
 rw [hg]
 simp only [ne_eq,not_true_eq_false,if_false]
 rw [if_neg (by have:=h.1;omega),glGo_back _ ss.length _ [] ss r rfl h.2 (by rw [mkS_data];unfold encL;rw [List.append_assoc,List.drop_left])]
 simp [encL]
theorem glGo_again (s:ByteArray) (k p:Nat) (xs L:List ByteArray) (j:Nat) (hp:p≤s.size) (h:glGo s k p xs=(L,j,0)) :
 ∃ rest,L=xs++rest∧rest.length=k∧p≤j∧j≤s.size∧encTs rest=(s.data.toList.drop p).take (j - p)∧∀ t ∈ rest,t.size≤8192:=by
 induction k generalizing p xs with
 | zero=>simp only [glGo,Prod.mk.injEq,and_true] at h;obtain ⟨rfl,rfl⟩:=h;exact ⟨[],by simp,rfl,Nat.le_refl _,hp,by simp [encTs],by simp⟩
 | succ k ih =>
   rw [glGo] at h
   obtain ⟨⟨t,q,e⟩,hr⟩:∃ r,gt (s.extract p s.size)=r:=⟨_,rfl⟩
   rw [hr] at h
   simp only at h
   by_cases he:e=0
   · rw [if_neg (by simpa using he)] at h
     subst he
     obtain ⟨g1,g2,g3⟩:=gt_again _ _ _ hr
     have g3':p + q≤s.size:=by simp at g3;omega
     obtain ⟨rest,h1,h2,h3,h4,h5,h6⟩:=ih (p + q) (xs++[t]) g3' h
     refine ⟨t :: rest,by rw [h1];simp,by simp [h2],by omega,h4,?_,fun x hx=>by rcases List.mem_cons.1 hx with rfl | hx;exact g2;exact h6 x hx⟩
     have e1:encTs (t :: rest)=encT t++encTs rest:=by simp [encTs]
     rw [ext_drop,mkS_data] at g1
     rw [e1,g1,h5,← List.drop_drop,show j - p=q + (j - (p + q)) from by omega,List.take_add]
   · rw [if_pos he] at h;simp at h;omega
theorem gl_again (s:ByteArray) (L:List ByteArray) (j:Nat) (h:gl s=(L,j,0)):encL L=s.data.toList.take j∧okL L∧j≤s.size:=by
 obtain ⟨⟨n,k,e⟩,hr⟩:∃ r,gn s.data.toList=r:=⟨_,rfl⟩
 unfold gl at h
 rw [hr] at h
 simp only at h
 by_cases he:e=0
 · rw [if_neg (by simpa using he)] at h
   split at h
   · simp at h
   · rename_i h1
     subst he
     obtain ⟨g1,g2,g3⟩:=gn_again _ _ _ hr
     obtain ⟨rest,h1',h2,h3,h4,h5,h6⟩:=glGo_again s n k [] L j (by simpa using g3) h
     have hL:L=rest:=by simpa using h1'
     subst hL
     refine ⟨?_,⟨by omega,h6⟩,h4⟩
     unfold encL
     rw [h2,g1,h5,← List.take_add,show k + (j - k)=j from by omega]
 · rw [if_pos he] at h;simp at h;omega
end
end Go.Proofs.YtokakgjcegmabaaGreatDoor
