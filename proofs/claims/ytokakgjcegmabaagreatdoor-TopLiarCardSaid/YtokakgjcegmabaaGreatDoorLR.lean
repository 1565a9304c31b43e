import Derived.Test.YtokakgjcegmabaaGreatDoorLQ
import Derived.Test.YtokakgjcegmabaaGreatDoorLM
import Derived.Test.YtokakgjcegmabaaGreatDoorLN
import Derived.Deep.Cut
set_option linter.unusedVariables false
set_option linter.unusedSimpArgs false
set_option maxHeartbeats 64000000
set_option maxRecDepth 100000
namespace Go.Proofs.YtokakgjcegmabaaGreatDoor.Ho
open Go.RowKit
open List (getElem_toArray getElem_cons_zero getElem_cons_succ setIfInBounds_toArray set_cons_zero set_cons_succ)
structure Rg (b:Nat) (w W:World):Prop where
 size:w.heap.size≤W.heap.size
 below:∀ N,N≤b→Below N w W
 other:∀ c,c≠b→c<w.heap.size→W.heap[c]?=w.heap[c]?
theorem Rg.of_below {b:Nat} {w W:World} (h:Below w.heap.size w W) (hb:b<w.heap.size):Rg b w W :=
 ⟨h.size,fun N hN=>h.mono (by omega),fun c _ hc=>h.block c hc⟩
theorem Rg.of_stp {b:Nat} {w U W:World} (h:Below w.heap.size w U) (st:Stp b U W) (hb:b<w.heap.size):Rg b w W :=
 ⟨by rw [st.size];exact h.size,fun N hN=>(h.mono (by omega)).trans (st.below N hN),fun c hc hl=>(st.other c hc).trans (h.block c hl)⟩
theorem Rg.trans {b:Nat} {w U W:World} (h:Rg b w U) (k:Rg b U W):Rg b w W :=
 ⟨Nat.le_trans h.size k.size,fun N hN=>(h.below N hN).trans (k.below N hN),fun c hc hl=>(k.other c hc (Nat.lt_of_lt_of_le hl h.size)).trans (h.other c hc hl)⟩
theorem Rg.fin {b:Nat} {w U W:World} (h:Rg b w U) (k:Below w.heap.size U W) (hb:b<w.heap.size):Rg b w W :=
 ⟨Nat.le_trans h.size k.size,fun N hN=>(h.below N hN).trans (k.mono (by omega)),fun c hc hl=>(k.block c hl).trans (h.other c hc hl)⟩
theorem reb {N b:Nat} {w0 w W:World} {L:List Mm.Bx} (h:Mm.M N w0 w L) (k:Rg b w W) (hb:b<N):Mm.M N W W L :=
 ⟨Below.refl _ _,Nat.le_trans h.le k.size,h.ge,h.inc,fun x hx=>(k.other x.b (by have:=h.ge x hx;omega) (h.has x hx).lt).trans (h.has x hx)⟩
theorem rgAt {N b T:Nat} {w0 w W:World} {L:List Mm.Bx} {xs ys:List Value} (h:Mm.M N w0 w L) (i:Nat) (hi:L[i]?=some ⟨b,T,ys⟩) (k:Rg b w W) (ha:Arr W b T xs):Mm.M N w0 W (L.set i ⟨b,T,xs⟩):=by
 have h1:Mm.M N w0 w L:=h
 obtain ⟨hl,e1⟩:=List.getElem?_eq_some_iff.1 hi
 have hge:=h.ge _ (List.mem_of_getElem? hi)
 have mem:∀ x ∈ L.set i ⟨b,T,xs⟩,x=⟨b,T,xs⟩∨∃ j,L[j]?=some x∧j≠i:=by
  intro x hx
  obtain ⟨j,hj,rfl⟩:=List.getElem_of_mem hx
  by_cases e:j=i
  · subst e;left;simp
  · right;refine ⟨j,?_,e⟩
    rw [List.getElem_set_ne (by omega)]
    exact List.getElem?_eq_getElem _
 refine ⟨h.below.trans (k.below N hge),Nat.le_trans h.le k.size,fun x hx=>?_,?_,fun x hx=>?_⟩
 · rcases mem x hx with rfl | ⟨j,hj,_⟩
   · exact hge
   · exact h.ge x (List.mem_of_getElem? hj)
 · have hp:=h.inc
   rw [List.pairwise_iff_getElem] at hp ⊢
   have hb:∀ j (hj:j<(L.set i ⟨b,T,xs⟩).length),((L.set i ⟨b,T,xs⟩)[j]).b=(L[j]'(by simpa using hj)).b:=by
    intro j hj
    by_cases e:j=i
    · subst e;simp [e1]
    · rw [List.getElem_set_ne (by omega)]
   intro j q hj hq hlt
   rw [hb j hj,hb q hq]
   exact hp j q _ _ hlt
 · rcases mem x hx with rfl | ⟨j,hj,hne⟩
   · exact ha
   · exact (k.other x.b (Mm.M.ne h.inc hi hj hne) (h.has x (List.mem_of_getElem? hj)).lt).trans (h.has x (List.mem_of_getElem? hj))
def ringR (S:ByteArray) (h m:Nat):List Value:=[.string S,.int .i64 (h:Int),.int .i64 (m:Int)]
end Go.Proofs.YtokakgjcegmabaaGreatDoor.Ho
namespace Go.Proofs.YtokakgjcegmabaaGreatDoor.Ho
open Go.RowKit
open List (getElem_toArray getElem_cons_zero getElem_cons_succ setIfInBounds_toArray set_cons_zero set_cons_succ)
theorem okB_one {g:Gr} (h:vG g=true):okB [g]=true:=by
 unfold okB okTo
 simp [Go.Proofs.YtokakgjcegmabaaGreatDoor.okAt,h]
theorem fi_one {g:Gr} (h:vG g=true) (s t:Int):fiE [g] s t=(if fdG s t g=true then 0 else 3)∧(fdG s t g=true→fiV [g] s t=g):=by
 have e:[g].findIdx (fdG s t)=if fdG s t g=true then 0 else 1:=by
  rw [List.findIdx_cons];cases fdG s t g <;> simp
 refine ⟨?_,fun hd=>?_⟩
 · unfold fiE
   rw [okB_one h,if_pos rfl,e]
   split <;> simp
 · unfold fiV
   rw [okB_one h,if_pos rfl,e,if_pos hd];rfl
theorem gs_one {W:World} {b:Nat} {g:Gr} (hg:g.ok) (ha:Arr W b 61 g.row):GsAt W (.slice (some ⟨b,0,none⟩) 1 1) [g] :=
 ⟨⟨rows_all (by intro x hx;simp at hx;subst hx;exact hg),.inr ⟨b,0,1,rfl,Nat.le_refl _,ha.lt,by have:=ha.range;simpa [rows] using this⟩⟩,by intro x hx;simp at hx;subst hx;exact hg⟩
theorem rwG:Rw.RowTy Tryz.prog 27 61 36 64 zG:=by
 refine ⟨by decide,by decide,by decide,rfl,by kernel_rfl,by kernel_rfl,⟨_,Tryz.underlying61⟩,by kernel_rfl⟩
theorem fill_step (place:Nat→Option (Nat × Nat)) (cs:List Value) (i off size:Nat) (v:Value) (rest:List (Nat × Value)) (hp:place i=some (off,size)) (hs:v.cells.size=size) (hl:off + size≤cs.length) :
 Instr.fill place cs.toArray ((i,v) :: rest)=Instr.fill place (cs.take off++v.cells.toList++cs.drop (off + size)).toArray rest:=by
 conv=>lhs;unfold Instr.fill
 rw [hp]
 dsimp only
 rw [if_neg (by simp [hs];omega)]
 congr 1
 have e:=Rw.foldSetR v.cells.toList 0 off cs.toArray (by simp [hs];omega)
 rw [← Array.toList_inj,← Array.foldl_toList]
 simp only [Nat.add_zero,Array.length_toList,hs] at e
 simpa using e
theorem places_gr (w:World):∃ fs,Tryz.prog.underlying 61=some (.struct fs)∧((fs.mapM fun f=>do pure (f.offset,← sizeOf f.type)):Sem (Array (Nat × Nat))).run Tryz.prog w=.ok #[(0,1),(1,1),(2,1),(3,1),(4,32)] w :=
 ⟨_,Tryz.underlying61,by kernel_rfl⟩
theorem run_bldG (w:World) (s t h:Int) (r:List UInt8) (hok:r.length=32):(Instr.build 61 #[(0,.int .i64 s),(2,.int .i64 t),(3,.int .i64 h),(4,.agg (u8s r).toArray)]).run Tryz.prog w=.ok (.agg (Gr.row ⟨s,0,t,h,r⟩).toArray) w:=by
 obtain ⟨fs,hu,hp⟩:=places_gr w
 have hl:(u8s r).length=32:=by rw [u8s_length];exact hok
 have hz:zG.length=36:=rfl
 have hf:Instr.fill ((#[(0,1),(1,1),(2,1),(3,1),(4,32)]:Array (Nat × Nat))[·]?) zG.toArray [(0,.int .i64 s),(2,.int .i64 t),(3,.int .i64 h),(4,.agg (u8s r).toArray)]=some (Gr.row ⟨s,0,t,h,r⟩).toArray:=by
  rw [fill_step _ _ 0 0 1 _ _ rfl rfl (by omega),fill_step _ _ 2 2 1 _ _ rfl rfl (by simp [Value.cells,hz]),fill_step _ _ 3 3 1 _ _ rfl rfl (by simp [Value.cells,hz]),fill_step _ _ 4 4 32 _ _ rfl (by simpa [Value.cells] using hl) (by simp [Value.cells,hz])]
  unfold Instr.fill
  congr 1
  have e:zG=.int .i64 0 :: .int .i64 0 :: .int .i64 0 :: .int .i64 0 :: u8s z32:=rfl
  rw [e]
  simp [Value.cells,Gr.row,show (u8s z32).drop 32=[] from rfl]
 unfold Instr.build
 simp only [Sem.run_bind,rwG.zero w,Result.andThen_ok,run_underlying hu,hp,Value.cells,hf]
 rfl
section
variable {ops:Array Oper} {rest:List Oper} {o:Oper} {a:Act} {w:World} {Q:Exit→Act→World→Prop}
end
end Go.Proofs.YtokakgjcegmabaaGreatDoor.Ho
