import Derived.Test.YtokakgjcegmabaaGreatDoorLC
import Derived.Test.YtokakgjcegmabaaGreatDoorLD
set_option linter.unusedVariables false
set_option linter.unusedSimpArgs false
set_option maxHeartbeats 64000000
set_option maxRecDepth 100000
namespace Go.Proofs.YtokakgjcegmabaaGreatDoor.En
open Go.RowKit
structure En where
 r:ByteArray
 e:Int
 i:Int
 p:List UInt8
 v:ByteArray
 g:ByteArray
def En.row (x:En):List Value:=[.string x.r,.int .i64 x.e,.int .i64 x.i]++u8s x.p++[.string x.v,.string x.g]
structure En.ok (x:En):Prop where
 r:x.r.size≤140737488351232
 p:x.p.length=32
 v:x.v.size≤140737488351232
 g:x.g.size≤140737488351232
def z32e:List UInt8:=List.replicate 32 0
def zEn:En:=⟨⟨#[]⟩,0,0,z32e,⟨#[]⟩,⟨#[]⟩⟩
theorem En.len {x:En} (h:x.p.length=32):x.row.length=37:=by unfold En.row;simp [u8s_length,h]
theorem En.one (x:En):∀ u ∈ x.row,u.oneCell'=true:=by
 intro u hu
 unfold En.row at hu
 simp only [List.mem_append,List.mem_cons,List.not_mem_nil,or_false] at hu
 rcases hu with ((rfl | rfl | rfl) | hu)|(rfl | rfl)
 · rfl
 · rfl
 · rfl
 · exact (List.all_eq_true.1 (by have:=u8s_one x.p;rwa [List.all_toArray] at this)) u hu
 · rfl
 · rfl
theorem En.get0 (x:En):x.row[0]?=some (.string x.r):=rfl
theorem En.get1 (x:En):x.row[1]?=some (.int .i64 x.e):=rfl
theorem En.get2 (x:En):x.row[2]?=some (.int .i64 x.i):=rfl
theorem En.get35 {x:En} (h:x.p.length=32):x.row[35]?=some (.string x.v):=by
 unfold En.row
 rw [List.getElem?_append_right (by simp [u8s_length,h])];simp [u8s_length,h]
theorem En.get36 {x:En} (h:x.p.length=32):x.row[36]?=some (.string x.g):=by
 unfold En.row
 rw [List.getElem?_append_right (by simp [u8s_length,h])];simp [u8s_length,h]
theorem En.set35 {x:En} (h:x.p.length=32) (s:ByteArray):x.row.set 35 (.string s)=(⟨x.r,x.e,x.i,x.p,s,x.g⟩:En).row:=by
 unfold En.row
 rw [List.append_assoc,List.set_append];simp [u8s_length,h,List.set_append]
theorem En.set36 {x:En} (h:x.p.length=32) (s:ByteArray):x.row.set 36 (.string s)=(⟨x.r,x.e,x.i,x.p,x.v,s⟩:En).row:=by
 unfold En.row
 rw [List.append_assoc,List.set_append];simp [u8s_length,h,List.set_append]
def wEntry:ByteArray:=⟨#[101,110,116,114,121]⟩
def cnt (n:Int):Bool:=decide (0≤n∧n≤4096)
def eOk (x:En):Bool:=(who 2 x.r).isSome && cnt x.e && cnt x.i && decide (x.v.size≤8192) && decide (x.g.size≤8192)
def eE (x:En):Int:=if eOk x=true then 0 else 2
def eL (x:En):List ByteArray:=[wEntry,x.r,mkS (encN x.e.toNat),mkS (encN x.i.toNat),mkS x.p,x.v]
def eT (x:En):ByteArray:=if eOk x=true then mkS (encL (eL x)) else ByteArray.empty
def num4 (s:ByteArray):Option Nat:=match numOf s with
 | some n=>if n≤4096 then some n else none
 | none=>none
def erL:List ByteArray→Option En
 | [a, b, c, d, e, f] => if a = wEntry ∧ e.size = 32 then (match num4 c, num4 d with
   | some w,some x=>if eOk ⟨b,w,x,e.data.toList,f,⟨#[]⟩⟩=true then some ⟨b,w,x,e.data.toList,f,⟨#[]⟩⟩ else none
   | _,_=>none) else none
 | _=>none
def er (t:ByteArray):Option En:=if (al t).2=0 then erL (al t).1 else none
def wSigE (x:En) (g:ByteArray):En:=⟨x.r,x.e,x.i,x.p,x.v,g⟩
theorem eE_yes {x:En} (h:eOk x=true):eE x=0:=by unfold eE;rw [if_pos h]
theorem eE_no {x:En} (h:eOk x=false):eE x=2:=by unfold eE;rw [h];rfl
theorem eT_yes {x:En} (h:eOk x=true):eT x=mkS (encL (eL x)):=by unfold eT;rw [if_pos h]
theorem eT_no {x:En} (h:eOk x=false):eT x=ByteArray.empty:=by unfold eT;rw [h];rfl
theorem eOk_parts {x:En} (h:eOk x=true):(∃ n,who 2 x.r=some n)∧(0≤x.e∧x.e≤4096)∧(0≤x.i∧x.i≤4096)∧x.v.size≤8192∧x.g.size≤8192:=by
 unfold eOk cnt at h
 simp only [Bool.and_eq_true,decide_eq_true_eq] at h
 obtain ⟨⟨⟨⟨h1,h2⟩,h3⟩,h4⟩,h5⟩:=h
 exact ⟨Option.isSome_iff_exists.1 h1,h2,h3,h4,h5⟩
theorem eOk_mk {x:En} (h1:(who 2 x.r).isSome=true) (h2:0≤x.e∧x.e≤4096) (h3:0≤x.i∧x.i≤4096) (h4:x.v.size≤8192) (h5:x.g.size≤8192):eOk x=true:=by
 unfold eOk cnt
 simp only [Bool.and_eq_true,decide_eq_true_eq]
 exact ⟨⟨⟨⟨h1,h2⟩,h3⟩,h4⟩,h5⟩
theorem e4_len {n:Int} (h0:0≤n) (h:n≤4096):(encN n.toNat).length≤10:=encN_len64 _ (by omega)
theorem eL_ok {x:En} (h:eOk x=true) (hp:x.p.length=32):okL (eL x):=by
 obtain ⟨⟨n,h1⟩,h2,h3,h4,h5⟩:=eOk_parts h
 refine ⟨by simp [eL],fun s hs=>?_⟩
 have g1:=who_size h1;have e1:=e4_len h2.1 h2.2;have e2:=e4_len h3.1 h3.2
 simp only [eL,List.mem_cons,List.not_mem_nil,or_false] at hs
 rcases hs with rfl | rfl | rfl | rfl | rfl | rfl
 · show (wEntry).size≤8192;decide
 · omega
 · rw [mkS_size];omega
 · rw [mkS_size];omega
 · rw [mkS_size];omega
 · omega
theorem num4_back {n:Nat} (h:n≤4096):num4 (mkS (encN n))=some n:=by
 unfold num4;rw [numOf_back n (by omega)];exact if_pos h
theorem num4_some {s:ByteArray} {n:Nat} (h:num4 s=some n):mkS (encN n)=s∧n≤4096:=by
 unfold num4 at h
 split at h
 · rename_i m hm
   split at h
   · simp only [Option.some.injEq] at h;subst h
     exact ⟨(numOf_some hm).1,by assumption⟩
   · cases h
 · cases h
theorem er_back {x:En} (h:eOk x=true) (hp:x.p.length=32):er (eT x)=some (wSigE x ⟨#[]⟩):=by
 obtain ⟨h1,h2,h3,h4,h5⟩:=eOk_parts h
 unfold er
 rw [eT_yes h,al_back _ (eL_ok h hp)]
 simp only [if_true,eL,erL]
 rw [if_pos ⟨by trivial,by rw [mkS_size];exact hp⟩,num4_back (by omega),num4_back (by omega)]
 simp only [Int.toNat_of_nonneg h2.1,Int.toNat_of_nonneg h3.1,mkS_data]
 exact if_pos (eOk_mk (x:=wSigE x ⟨#[]⟩) (Option.isSome_iff_exists.2 h1) h2 h3 h4 (by show (⟨#[]⟩:ByteArray).size≤8192;decide))
theorem er_some {t:ByteArray} {x:En} (h:er t=some x):eOk x=true∧eT x=t∧x.g=⟨#[]⟩∧x.p.length=32:=by
 unfold er at h
 split at h
 · rename_i h0
   obtain ⟨g3,-⟩:=al_again h0
   unfold erL at h
   split at h
   · rename_i a b c d e f hL
     split at h
     · rename_i hae
       split at h
       · rename_i w y e1 e2
         split at h
         · rename_i hok
           simp only [Option.some.injEq] at h
           subst h
           refine ⟨hok,?_,rfl,by rw [size_toList];exact hae.2⟩
           rw [eT_yes hok,← g3,hL]
           have i1:=(num4_some e1).1;have i2:=(num4_some e2).1
           simp only [eL,Int.toNat_natCast]
           rw [i1,i2,mkS_of,← hae.1]
         · cases h
       · cases h
     · cases h
   · cases h
 · cases h
theorem wSigE_ok {x:En} (h:eOk x=true) {g:ByteArray} (hg:g.size≤8192):eOk (wSigE x g)=true:=by
 obtain ⟨h1,h2,h3,h4,h5⟩:=eOk_parts h
 exact eOk_mk (Option.isSome_iff_exists.2 h1) h2 h3 h4 hg
theorem eT_sig {x:En} (h:eOk x=true) {g:ByteArray} (hg:g.size≤8192):eT (wSigE x g)=eT x:=by
 rw [eT_yes h,eT_yes (wSigE_ok h hg)];rfl
theorem eT_size (x:En) (hp:x.p.length=32):(eT x).size≤65536:=by
 cases h:eOk x with
 | false=>rw [eT_no h];exact Nat.zero_le _
 | true =>
   have h0:=eL_ok h hp
   rw [eT_yes h,mkS_size];unfold encL
   have e1:(encTs (eL x)).length≤6 * 8202:=by
    have e2:=encTs_take_len (eL x) 6 (by simp [eL]) h0
    have e3:∀ s ∈ eL x,(encT s).length≤8202:=by
     intro s hs
     have:=h0.2 s hs
     unfold encT
     rw [List.length_append,size_toList]
     have:=encN_len64 s.size (by omega);omega
    unfold encTs
    simp only [eL,List.flatMap_cons,List.flatMap_nil,List.length_append,List.length_nil]
    have q0:=e3 wEntry (by simp [eL]);have q1:=e3 x.r (by simp [eL]);have q2:=e3 (mkS (encN x.e.toNat)) (by simp [eL]);have q3:=e3 (mkS (encN x.i.toNat)) (by simp [eL]);have q4:=e3 (mkS x.p) (by simp [eL]);have q5:=e3 x.v (by simp [eL])
    omega
   have e2:=encN_len64 (eL x).length (by simp [eL])
   rw [List.length_append];omega
end Go.Proofs.YtokakgjcegmabaaGreatDoor.En
