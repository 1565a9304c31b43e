import Derived.Test.YtokakgjcegmabaaGreatDoorLB
import Derived.Lib.ItoaNum
import Derived.Lib.AtoiAll
import Derived.Lib.Bytealg
import Derived.Lib.Strings
import Derived.Test.YtokakgjcegmabaaGreatDoorRows
import Derived.Test.YtokakgjcegmabaaGreatDoorIdLib
import Derived.Test.YtokakgjcegmabaaGreatDoorLA
import Derived.IntWalk
import Derived.BigQuiet
import Derived.Deep.QuietTactic
set_option linter.unusedVariables false
set_option linter.unusedSimpArgs false
set_option maxHeartbeats 64000000
set_option maxRecDepth 100000
namespace Go.Proofs.YtokakgjcegmabaaGreatDoor
section
open Go.RowKit
def nameN (b:Nat):Bool:=(decide (97≤b) && decide (b≤122)) || (decide (48≤b) && decide (b≤57)) || decide (b=95) || decide (b=45)
def nameL (l:List UInt8):Bool:=decide (1≤l.length) && decide (l.length≤16) && l.all fun b=>nameN b.toNat
def idOk (k:Nat) (nm:ByteArray) (s:Int):Bool:=(decide (k=1) || decide (k=2)) && nameL nm.data.toList && decide (0≤s) && decide (s≤63)
def dig (n:Nat):List UInt8:=if n<10 then [UInt8.ofNat (48 + n)] else [UInt8.ofNat (48 + n / 10),UInt8.ofNat (48 + n % 10)]
def kmark (k:Nat):UInt8:=if k=2 then 33 else 64
def idL (k:Nat) (nm:ByteArray) (s:Nat):List UInt8:=kmark k :: (nm.data.toList++58 :: dig s)
def idT (k:Nat) (nm:ByteArray) (s:Int):ByteArray:=if idOk k nm s=true then mkS (idL k nm s.toNat) else ByteArray.empty
def idE (k:Nat) (nm:ByteArray) (s:Int):Int:=if idOk k nm s=true then 0 else 2
def decOf (d:List UInt8):Option Nat:=(List.range 64).find? fun n=>decide (dig n=d)
def upTo (l:List UInt8):List UInt8:=l.takeWhile (· != 58)
def behind (l:List UInt8):List UInt8:=(l.dropWhile (· != 58)).drop 1
def idC (c:UInt8) (nm d:List UInt8) (t:ByteArray):Option (Nat × ByteArray × Nat) :=
 match decOf d with
 | none=>none
 | some n=>if idOk (if c=33 then 2 else 1) (mkS nm) n=true∧mkS (idL (if c=33 then 2 else 1) (mkS nm) n)=t then some (if c=33 then 2 else 1,mkS nm,n) else none
def idP (t:ByteArray):Option (Nat × ByteArray × Nat) :=
 match t.data.toList with
 | []=>none
 | c :: r=>idC c (upTo r) (behind r) t
theorem decOf_dig {n:Nat} (h:n≤63):decOf (dig n)=some n:=by
 have:∀ n:Fin 64,decOf (dig n.val)=some n.val:=by decide +kernel
 exact this ⟨n,by omega⟩
theorem dec_dig {n:Nat} (h:n≤63):Lib.decDigits n=dig n:=by
 unfold dig
 split
 · rw [Lib.decDigits,dif_pos (by assumption)]
 · rw [Lib.decDigits,dif_neg (by assumption),Lib.decDigits,dif_pos (by omega)];rfl
theorem atoi_dig {n:Nat} (h:n≤63):Lib.atoiAll (dig n)=.ok (n:Int):=by
 have:∀ n:Fin 64,Lib.atoiAll (dig n.val)=.ok (n.val:Int):=by decide +kernel
 exact this ⟨n,by omega⟩
theorem name_colon {l:List UInt8} (h:nameL l=true):∀ b ∈ l,(b != 58)=true:=by
 intro b hb
 unfold nameL at h
 simp only [Bool.and_eq_true,List.all_eq_true] at h
 have:=h.2 b hb
 simp only [bne_iff_ne,ne_eq]
 rintro rfl
 simp [nameN] at this
theorem upTo_app {l d:List UInt8} (h:∀ b ∈ l,(b != 58)=true):upTo (l++58 :: d)=l:=by
 unfold upTo
 rw [List.takeWhile_append_of_pos (by simpa using h)]
 simp
theorem behind_app {l d:List UInt8} (h:∀ b ∈ l,(b != 58)=true):behind (l++58 :: d)=d:=by
 unfold behind
 rw [List.dropWhile_append_of_pos (by simpa using h)]
 simp
theorem upTo_no {l:List UInt8} (h:∀ b ∈ l,(b != 58)=true):upTo l=l:=by
 unfold upTo
 have:=List.takeWhile_append_of_pos (p:=fun x=>x != 58) (l₁:=l) (l₂:=[]) (by simpa using h)
 simpa using this
theorem behind_no {l:List UInt8} (h:∀ b ∈ l,(b != 58)=true):behind l=[]:=by
 unfold behind
 have:=List.dropWhile_append_of_pos (p:=fun x=>x != 58) (l₁:=l) (l₂:=[]) (by simpa using h)
 rw [List.append_nil] at this
 rw [this];rfl
theorem idOk_name {k:Nat} {nm:ByteArray} {s:Int} (h:idOk k nm s=true):nameL nm.data.toList=true∧0≤s∧s≤63∧(k=1∨k=2):=by
 unfold idOk at h
 simp only [Bool.and_eq_true,Bool.or_eq_true,decide_eq_true_eq] at h
 exact ⟨h.1.1.2,h.1.2,h.2,h.1.1.1⟩
theorem idOk_size {k:Nat} {nm:ByteArray} {s:Int} (h:idOk k nm s=true):nm.size≤16:=by
 have:=(idOk_name h).1
 unfold nameL at this
 simp only [Bool.and_eq_true,decide_eq_true_eq] at this
 have:=this.1.2
 rw [size_toList] at this;exact this
theorem idL_len (k:Nat) (nm:ByteArray) (s:Nat):(idL k nm s).length≤nm.size + 4:=by
 unfold idL dig;simp;split <;> simp
theorem kmark_back {k:Nat} (h:k=1∨k=2):(if kmark k=33 then 2 else 1)=k:=by rcases h with rfl | rfl <;> rfl
theorem idP_back {k:Nat} {nm:ByteArray} {n:Nat} (h:idOk k nm n=true):idP (mkS (idL k nm n))=some (k,nm,n):=by
 obtain ⟨h1,h2,h3,h4⟩:=idOk_name h
 have hc:=name_colon h1
 unfold idP
 rw [mkS_data,idL]
 show idC (kmark k) (upTo (nm.data.toList++58 :: dig n)) (behind (nm.data.toList++58 :: dig n)) _=_
 rw [upTo_app hc,behind_app hc]
 unfold idC
 rw [decOf_dig (by omega),kmark_back h4,mkS_of]
 simp only
 rw [if_pos ⟨h,rfl⟩]
theorem idP_some {t nm:ByteArray} {k n:Nat} (h:idP t=some (k,nm,n)):idOk k nm n=true∧mkS (idL k nm n)=t:=by
 unfold idP at h
 split at h
 · cases h
 · rename_i c r ht
   unfold idC at h
   generalize (if c=33 then 2 else 1)=kk at h
   cases hd:decOf (behind r) with
   | none=>rw [hd] at h;cases h
   | some m =>
     rw [hd] at h
     simp only at h
     split at h
     · rename_i hh
       simp only [Option.some.injEq,Prod.mk.injEq] at h
       obtain ⟨rfl,rfl,rfl⟩:=h
       exact hh
     · cases h
theorem idP_iff {t nm:ByteArray} {k n:Nat} (h:idOk k nm n=true) (ht:mkS (idL k nm n)=t):idP t=some (k,nm,n):=by rw [← ht];exact idP_back h
theorem idP_parts {t nm:ByteArray} {k n:Nat} (h:idP t=some (k,nm,n)) (c:UInt8) (r:List UInt8) (ht:t.data.toList=c :: r) :
 (k=1∨k=2)∧c=kmark k∧upTo r=nm.data.toList∧behind r=dig n∧n≤63:=by
 obtain ⟨h1,h2⟩:=idP_some h
 obtain ⟨g1,g2,g3,g4⟩:=idOk_name h1
 have hc:=name_colon g1
 rw [← h2,mkS_data,idL] at ht
 simp only [List.cons.injEq] at ht
 obtain ⟨rfl,rfl⟩:=ht
 exact ⟨g4,rfl,upTo_app hc,behind_app hc,by omega⟩
theorem idP_nil {t:ByteArray} (h:t.data.toList=[]):idP t=none:=by unfold idP;rw [h]
theorem idP_unmarked {t:ByteArray} {c:UInt8} {r:List UInt8} (ht:t.data.toList=c :: r) (h1:c≠64) (h2:c≠33):idP t=none:=by
 cases h:idP t with
 | none=>rfl
 | some q =>
   obtain ⟨k,nm,n⟩:=q
   obtain ⟨hk,hm,-⟩:=idP_parts h c r ht
   rcases hk with rfl | rfl
   · exact absurd hm h1
   · exact absurd hm h2
theorem idP_read {t:ByteArray} {k:Nat} {r:List UInt8} (hk:k=1∨k=2) (ht:t.data.toList=kmark k :: r) (v:Int) (hv:Lib.atoiAll (behind r)=.ok v) :
 idP t=if idOk k (mkS (upTo r)) v=true∧mkS (idL k (mkS (upTo r)) v.toNat)=t then some (k,mkS (upTo r),v.toNat) else none:=by
 split
 · rename_i h
   have h0:=(idOk_name h.1).2.1
   exact idP_iff (by rw [Int.toNat_of_nonneg h0];exact h.1) h.2
 · rename_i h
   cases hq:idP t with
   | none=>rfl
   | some q =>
     obtain ⟨k',nm,n⟩:=q
     exfalso
     obtain ⟨h1,h2⟩:=idP_some hq
     obtain ⟨g1,g2,g3,g4,g5⟩:=idP_parts hq _ r ht
     have hk':k=k':=by rw [← kmark_back hk,g2,kmark_back g1]
     subst hk'
     rw [g4,atoi_dig g5] at hv
     simp only [Lib.NumEnd.ok.injEq] at hv
     subst hv
     apply h
     rw [g3,mkS_of]
     exact ⟨h1,by simpa using h2⟩
theorem idP_unread {t:ByteArray} {c:UInt8} {r:List UInt8} (ht:t.data.toList=c :: r) (hv:∀ v,Lib.atoiAll (behind r)≠.ok v):idP t=none:=by
 cases hq:idP t with
 | none=>rfl
 | some q =>
   obtain ⟨k',nm,n⟩:=q
   exfalso
   obtain ⟨g1,g2,g3,g4,g5⟩:=idP_parts hq _ r ht
   exact hv n (by rw [g4,atoi_dig g5])
def who (q:Nat) (t:ByteArray):Option Nat :=
 match idP t with
 | some (k,_,n)=>if k=q then some n else none
 | none=>none
theorem who_yes {q:Nat} {t nm:ByteArray} {n:Nat} (h:idP t=some (q,nm,n)):who q t=some n:=by unfold who;rw [h];simp
theorem who_other {q k:Nat} {t nm:ByteArray} {n:Nat} (h:idP t=some (k,nm,n)) (hk:k≠q):who q t=none:=by unfold who;rw [h];simp [hk]
theorem who_no {q:Nat} {t:ByteArray} (h:idP t=none):who q t=none:=by unfold who;rw [h]
theorem who_some {q:Nat} {t:ByteArray} {n:Nat} (h:who q t=some n):∃ nm,idP t=some (q,nm,n):=by
 unfold who at h
 split at h
 · split at h
   · rename_i hk;subst hk;simp at h;subst h;exact ⟨_,by assumption⟩
   · cases h
 · cases h
theorem who_size {q:Nat} {t:ByteArray} {n:Nat} (h:who q t=some n):t.size≤20:=by
 obtain ⟨nm,h⟩:=who_some h
 obtain ⟨h1,h2⟩:=idP_some h
 have:=idL_len q nm n;have:=idOk_size h1
 rw [← h2,mkS_size];omega
end
section
open Go.RowKit
theorem arr3 {w:World} {b T:Nat} {x0 x1 x2:Value} (h:Arr w b T [x0,x1,x2]):w.cell? ⟨b,0,none⟩=some x0∧w.cell? ⟨b,1,none⟩=some x1∧w.cell? ⟨b,2,none⟩=some x2∧∀ i,w.frozen? ⟨b,i,none⟩=false :=
 ⟨h.cell 0 (by simp),h.cell 1 (by simp),h.cell 2 (by simp),h.frozen⟩
theorem inName_any (w:World) (b:Nat) (hb:b<256) :
 Calls Tryz.prog 234 #[.int .u8 (b:Int)] w fun e w'=>e=.returned (.bool (nameN b))∧w'=w:=by
 by_cases h0:b≤44
 · have e0:decide ((97:Int)≤(b:Int))=false:=by simp;omega
   have e1:decide ((b:Int)≤122)=true:=by simp;omega
   have e2:decide ((48:Int)≤(b:Int))=false:=by simp;omega
   have e3:decide ((b:Int)≤57)=true:=by simp;omega
   have e4:((b:Int) == 95)=false:=by simp;omega
   have e5:((b:Int) == 45)=false:=by simp;omega
   have hn:nameN b=false:=by unfold nameN;simp;omega
   have HN:=hidp hn;clear hn
   go_enter Tryz.func234,Tryz.ntmps234
   go_wp2
   go_ret
   exact ⟨by rw [HN.out];rfl,rfl⟩
 · skip
   by_cases h1:b≤45
   · have e0:decide ((97:Int)≤(b:Int))=false:=by simp;omega
     have e1:decide ((b:Int)≤122)=true:=by simp;omega
     have e2:decide ((48:Int)≤(b:Int))=false:=by simp;omega
     have e3:decide ((b:Int)≤57)=true:=by simp;omega
     have e4:((b:Int) == 95)=false:=by simp;omega
     have e5:((b:Int) == 45)=true:=by simp;omega
     have hn:nameN b=true:=by unfold nameN;simp;omega
     have HN:=hidp hn;clear hn
     go_enter Tryz.func234,Tryz.ntmps234
     go_wp2
     go_ret
     exact ⟨by rw [HN.out];rfl,rfl⟩
   · skip
     by_cases h2:b≤47
     · have e0:decide ((97:Int)≤(b:Int))=false:=by simp;omega
       have e1:decide ((b:Int)≤122)=true:=by simp;omega
       have e2:decide ((48:Int)≤(b:Int))=false:=by simp;omega
       have e3:decide ((b:Int)≤57)=true:=by simp;omega
       have e4:((b:Int) == 95)=false:=by simp;omega
       have e5:((b:Int) == 45)=false:=by simp;omega
       have hn:nameN b=false:=by unfold nameN;simp;omega
       have HN:=hidp hn;clear hn
       go_enter Tryz.func234,Tryz.ntmps234
       go_wp2
       go_ret
       exact ⟨by rw [HN.out];rfl,rfl⟩
     · skip
       by_cases h3:b≤57
       · have e0:decide ((97:Int)≤(b:Int))=false:=by simp;omega
         have e1:decide ((b:Int)≤122)=true:=by simp;omega
         have e2:decide ((48:Int)≤(b:Int))=true:=by simp;omega
         have e3:decide ((b:Int)≤57)=true:=by simp;omega
         have e4:((b:Int) == 95)=false:=by simp;omega
         have e5:((b:Int) == 45)=false:=by simp;omega
         have hn:nameN b=true:=by unfold nameN;simp;omega
         have HN:=hidp hn;clear hn
         go_enter Tryz.func234,Tryz.ntmps234
         go_wp2
         go_ret
         exact ⟨by rw [HN.out];rfl,rfl⟩
       · skip
         by_cases h4:b≤94
         · have e0:decide ((97:Int)≤(b:Int))=false:=by simp;omega
           have e1:decide ((b:Int)≤122)=true:=by simp;omega
           have e2:decide ((48:Int)≤(b:Int))=true:=by simp;omega
           have e3:decide ((b:Int)≤57)=false:=by simp;omega
           have e4:((b:Int) == 95)=false:=by simp;omega
           have e5:((b:Int) == 45)=false:=by simp;omega
           have hn:nameN b=false:=by unfold nameN;simp;omega
           have HN:=hidp hn;clear hn
           go_enter Tryz.func234,Tryz.ntmps234
           go_wp2
           go_ret
           exact ⟨by rw [HN.out];rfl,rfl⟩
         · skip
           by_cases h5:b≤95
           · have e0:decide ((97:Int)≤(b:Int))=false:=by simp;omega
             have e1:decide ((b:Int)≤122)=true:=by simp;omega
             have e2:decide ((48:Int)≤(b:Int))=true:=by simp;omega
             have e3:decide ((b:Int)≤57)=false:=by simp;omega
             have e4:((b:Int) == 95)=true:=by simp;omega
             have e5:((b:Int) == 45)=false:=by simp;omega
             have hn:nameN b=true:=by unfold nameN;simp;omega
             have HN:=hidp hn;clear hn
             go_enter Tryz.func234,Tryz.ntmps234
             go_wp2
             go_ret
             exact ⟨by rw [HN.out];rfl,rfl⟩
           · skip
             by_cases h6:b≤96
             · have e0:decide ((97:Int)≤(b:Int))=false:=by simp;omega
               have e1:decide ((b:Int)≤122)=true:=by simp;omega
               have e2:decide ((48:Int)≤(b:Int))=true:=by simp;omega
               have e3:decide ((b:Int)≤57)=false:=by simp;omega
               have e4:((b:Int) == 95)=false:=by simp;omega
               have e5:((b:Int) == 45)=false:=by simp;omega
               have hn:nameN b=false:=by unfold nameN;simp;omega
               have HN:=hidp hn;clear hn
               go_enter Tryz.func234,Tryz.ntmps234
               go_wp2
               go_ret
               exact ⟨by rw [HN.out];rfl,rfl⟩
             · skip
               by_cases h7:b≤122
               · have e0:decide ((97:Int)≤(b:Int))=true:=by simp;omega
                 have e1:decide ((b:Int)≤122)=true:=by simp;omega
                 have e2:decide ((48:Int)≤(b:Int))=true:=by simp;omega
                 have e3:decide ((b:Int)≤57)=false:=by simp;omega
                 have e4:((b:Int) == 95)=false:=by simp;omega
                 have e5:((b:Int) == 45)=false:=by simp;omega
                 have hn:nameN b=true:=by unfold nameN;simp;omega
                 have HN:=hidp hn;clear hn
                 go_enter Tryz.func234,Tryz.ntmps234
                 go_wp2
                 go_ret
                 exact ⟨by rw [HN.out];rfl,rfl⟩
               · skip
                 have e0:decide ((97:Int)≤(b:Int))=true:=by simp;omega
                 have e1:decide ((b:Int)≤122)=false:=by simp;omega
                 have e2:decide ((48:Int)≤(b:Int))=true:=by simp;omega
                 have e3:decide ((b:Int)≤57)=false:=by simp;omega
                 have e4:((b:Int) == 95)=false:=by simp;omega
                 have e5:((b:Int) == 45)=false:=by simp;omega
                 have hn:nameN b=false:=by unfold nameN;simp;omega
                 have HN:=hidp hn;clear hn
                 go_enter Tryz.func234,Tryz.ntmps234
                 go_wp2
                 go_ret
                 exact ⟨by rw [HN.out];rfl,rfl⟩
end
section
open Go.RowKit
def IT (w:World):Prop :=
 (w.cell? ⟨3,1,none⟩=some (.string ⟨#[64]⟩)∧w.cell? ⟨3,2,none⟩=some (.string ⟨#[33]⟩)) ∧
 (∃ t p,w.cell? ⟨5,0,none⟩=some (.iface t p))∧(∃ t p,w.cell? ⟨6,0,none⟩=some (.iface t p))
theorem IT.below {w w':World} (h:IT w) {B:Nat} (hb:Below B w w') (hB:w.heap.size≤B):IT w':=by
 obtain ⟨⟨h1,h2⟩,⟨t,p,h3⟩,⟨t',p',h4⟩⟩:=h
 have g1:=World.block_lt_of_cell? w _ h1
 have g3:=World.block_lt_of_cell? w _ h3
 have g4:=World.block_lt_of_cell? w _ h4
 simp only at g1 g3 g4
 exact ⟨⟨(hb.cell (by simp only;omega)).trans h1,(hb.cell (by simp only;omega)).trans h2⟩,⟨t,p,(hb.cell (by simp only;omega)).trans h3⟩,⟨t',p',(hb.cell (by simp only;omega)).trans h4⟩⟩
theorem name_yes {s:ByteArray} (h1:1≤s.size) (h2:s.size≤16) (h:∀ j (hj:j<s.size),nameN (s[j]'hj).toNat=true):nameL s.data.toList=true:=by
 unfold nameL
 simp only [Bool.and_eq_true,decide_eq_true_eq,List.all_eq_true]
 refine ⟨⟨by rw [size_toList];exact h1,by rw [size_toList];exact h2⟩,fun b hb=>?_⟩
 obtain ⟨j,hj,rfl⟩:=List.getElem_of_mem hb
 exact h j (by rw [size_toList] at hj;exact hj)
theorem name_short {s:ByteArray} (h:s.size=0∨16<s.size):nameL s.data.toList=false:=by
 unfold nameL
 rw [size_toList]
 rcases h with h | h
 · rw [h];rfl
 · rw [decide_eq_false (show ¬ s.size≤16 from by omega)];simp
theorem name_bad {s:ByteArray} (j:Nat) (hj:j<s.size) (h:nameN (s[j]'hj).toNat=false):nameL s.data.toList=false:=by
 have hall:(s.data.toList.all fun b=>nameN b.toNat)=false:=by
  rw [List.all_eq_false]
  exact ⟨s[j]'hj,List.getElem_mem (by rw [size_toList];exact hj),by rw [h];simp⟩
 unfold nameL
 rw [hall];simp
theorem validName_any (w:World) (s:ByteArray) (hs:s.size≤281474976710656) :
 Calls Tryz.prog 224 #[.string s] w fun e w'=>e=.returned (.bool (nameL s.data.toList))∧w'=w:=by
 by_cases h0:s.size=0
 · have e0:((s.size:Int) == 0)=true:=by rw [h0];rfl
   have HF:=hidp (name_short (.inl h0))
   clear h0
   go_enter Tryz.func224,Tryz.ntmps224
   go_wp2
   go_ret
   exact ⟨by rw [HF.out];rfl,rfl⟩
 · have e0:((s.size:Int) == 0)=false:=beq_eq_false_iff_ne.2 (by omega)
   by_cases h16:16<s.size
   · have e1:decide ((16:Int)<(s.size:Int))=true:=by simp;omega
     have HF:=hidp (name_short (.inr h16))
     clear h16
     go_enter Tryz.func224,Tryz.ntmps224
     go_wp2
     go_ret
     exact ⟨by rw [HF.out];rfl,rfl⟩
   · have e1:decide ((16:Int)<(s.size:Int))=false:=by simp;omega
     obtain ⟨R,hR⟩:∃ R,nameL s.data.toList=R:=⟨_,rfl⟩
     rw [hR]
     have HR:=hidp hR;clear hR
     go_enter Tryz.func224,Tryz.ntmps224
     go_wp2
     go_loop [14] (fun t14=>∃ (i:Nat),t14=.int .i64 i∧i≤s.size∧(∀ j (hj:j<s.size),j<i→nameN (s[j]'hj).toNat=true)) (fun t14=>s.size - (intOf t14).toNat)
     case atStart=>exact ⟨0,rfl,by omega,fun j hj h=>by omega⟩
     case round =>
      obtain ⟨i,rfl,hi,hall⟩:=hrel
      have HALL:=hidp hall;clear hall
      by_cases hl:i<s.size
      · obtain ⟨bn,hbn⟩:∃ bn,(s[i]'hl).toNat=bn:=⟨_,rfl⟩
        have hb:bn<256:=by rw [← hbn];exact UInt8.toNat_lt _
        have HBN:=hidp hbn
        have C:=hidp (fun W=>inName_any W bn hb)
        cases hq:nameN bn with
        | true =>
          rw [hq] at C
          go_wp2_with (go_at_call 234;(refine (C.out _).mono ?_);rintro e w' ⟨rfl,rfl⟩)
          refine ⟨⟨i + 1,by go_num,by omega,fun j hj h=>?_⟩,by simp [intOf];omega⟩
          by_cases hji:j=i
          · subst hji;have e2:=HBN.out;rw [e2];exact hq
          · exact HALL.out j hj (by omega)
        | false =>
          rw [hq] at C
          have HF:=hidp (HR.out.symm.trans (name_bad i hl (by rw [HBN.out];exact hq)))
          go_wp2_with (go_at_call 234;(refine (C.out _).mono ?_);rintro e w' ⟨rfl,rfl⟩)
          go_ret
          exact ⟨by rw [HF.out];rfl,rfl⟩
      · have HT:=hidp (HR.out.symm.trans (name_yes (by omega) (by omega) fun j hj=>HALL.out j hj (by omega)))
        go_wp2
        go_ret
        exact ⟨by rw [HT.out];rfl,rfl⟩
theorem idOk_k {k:Nat} (nm:ByteArray) (s:Int) (h:¬ (k=1∨k=2)):idOk k nm s=false:=by
 unfold idOk
 rw [decide_eq_false (show ¬ k=1 from fun e=>h (.inl e)),decide_eq_false (show ¬ k=2 from fun e=>h (.inr e))];rfl
theorem idOk_n {k:Nat} {nm:ByteArray} (s:Int) (h:nameL nm.data.toList=false):idOk k nm s=false:=by unfold idOk;rw [h];simp
theorem idOk_s {k:Nat} {nm:ByteArray} {s:Int} (h:s<0∨63<s):idOk k nm s=false:=by
 unfold idOk
 rcases h with h | h
 · rw [decide_eq_false (show ¬ 0≤s from by omega)];simp
 · rw [decide_eq_false (show ¬ s≤63 from by omega)];simp
theorem idOk_yes {k:Nat} {nm:ByteArray} {s:Int} (hk:k=1∨k=2) (hn:nameL nm.data.toList=true) (h0:0≤s) (h1:s≤63):idOk k nm s=true:=by
 unfold idOk
 rw [hn,decide_eq_true h0,decide_eq_true h1]
 rcases hk with rfl | rfl <;> rfl
theorem valid_any (w:World) (k:Nat) (hk:k<256) (nm:ByteArray) (hs:nm.size≤281474976710656) (s:Int) :
 Calls Tryz.prog 213 #[.agg #[.int .u8 (k:Int),.string nm,.int .i64 s]] w fun e w'=>e=.returned (.bool (idOk k nm s))∧Below w.heap.size w w':=by
 have C:=hidp (fun W=>validName_any W nm hs)
 have hb:=hidp ((Below.refl w.heap.size w).alloc (Nat.le_refl _) (.cells #[.int .u8 (k:Int),.string nm,.int .i64 s] 241))
 by_cases h12:k=1∨k=2
 · have e0:decide ((0:Int)<(k:Int))=true:=by simp;omega
   have n0:0<k:=by omega
   have e1:decide ((k:Int)<3)=true:=by simp;omega
   have n1:(k:Int)<3:=by omega
   cases hn:nameL nm.data.toList with
   | false =>
     have HF:=hidp (idOk_n (k:=k) s hn)
     rw [hn] at C
     clear h12
     go_enter Tryz.func213,Tryz.ntmps213
     go_wp2_with (go_at_call 224;(refine (C.out _).mono ?_);rintro e w' ⟨rfl,rfl⟩)
     go_ret
     exact ⟨by rw [HF.out];rfl,hb.out⟩
   | true =>
     rw [hn] at C
     by_cases h0:s<0
     · have e2:decide ((0:Int)≤s)=false:=by simp;omega
       have HF:=hidp (idOk_s (k:=k) (nm:=nm) (.inl h0))
       clear h12 h0
       go_enter Tryz.func213,Tryz.ntmps213
       go_wp2_with (go_at_call 224;(refine (C.out _).mono ?_);rintro e w' ⟨rfl,rfl⟩)
       go_ret
       exact ⟨by rw [HF.out];rfl,hb.out⟩
     · have e2:decide ((0:Int)≤s)=true:=by simp;omega
       by_cases h1:63<s
       · have e3:decide (s≤63)=false:=by simp;omega
         have HF:=hidp (idOk_s (k:=k) (nm:=nm) (.inr h1))
         clear h12 h0 h1
         go_enter Tryz.func213,Tryz.ntmps213
         go_wp2_with (go_at_call 224;(refine (C.out _).mono ?_);rintro e w' ⟨rfl,rfl⟩)
         go_ret
         exact ⟨by rw [HF.out];rfl,hb.out⟩
       · have e3:decide (s≤63)=true:=by simp;omega
         have HF:=hidp (idOk_yes h12 hn (by omega:0≤s) (by omega))
         clear h12 h0 h1
         go_enter Tryz.func213,Tryz.ntmps213
         go_wp2_with (go_at_call 224;(refine (C.out _).mono ?_);rintro e w' ⟨rfl,rfl⟩)
         go_ret
         exact ⟨by rw [HF.out];rfl,hb.out⟩
 · have HF:=hidp (idOk_k nm s h12)
   by_cases h0:k=0
   · have e0:decide ((0:Int)<(k:Int))=false:=by simp;omega
     have n0:¬ 0<k:=by omega
     clear h12 h0
     go_enter Tryz.func213,Tryz.ntmps213
     go_wp2_with fail
     go_ret
     exact ⟨by rw [HF.out];rfl,hb.out⟩
   · have e0:decide ((0:Int)<(k:Int))=true:=by simp;omega
     have n0:0<k:=by omega
     have e1:decide ((k:Int)<3)=false:=by simp;omega
     have n1:¬ (k:Int)<3:=by omega
     clear h12 h0
     go_enter Tryz.func213,Tryz.ntmps213
     go_wp2_with fail
     go_ret
     exact ⟨by rw [HF.out];rfl,hb.out⟩
end
section
open Go.RowKit
theorem idT_app {k:Nat} {nm:ByteArray} {n:Nat} (h:idOk k nm n=true) (M:ByteArray) (hM:M=mkS [kmark k]) :
 M++nm++⟨#[58]⟩++mkS (dig n)=idT k nm n:=by
 unfold idT
 rw [if_pos h,hM,show (⟨#[58]⟩:ByteArray)=mkS [58] from rfl,← mkS_of nm,mkS_append,mkS_append,mkS_append]
 congr 1
 unfold idL
 simp [mkS_data]
theorem dig_size (n:Nat):(mkS (dig n)).size≤2:=by rw [mkS_size];unfold dig;split <;> simp
theorem idText_any (w:World) (k:Nat) (hk:k<256) (nm:ByteArray) (hs:nm.size≤281474976710656) (s:Int) (hI:IT w) :
 Calls Tryz.prog 203 #[.agg #[.int .u8 (k:Int),.string nm,.int .i64 s]] w fun e w'=>e=.returned (.tuple #[.string (idT k nm s),.int .i64 (idE k nm s)])∧Below w.heap.size w w':=by
 have C:=hidp (fun W=>valid_any W k hk nm hs s)
 have HX:=hidp ((Below.refl w.heap.size w).alloc (Nat.le_refl _) (.cells #[.int .u8 (k:Int),.string nm,.int .i64 s] 241))
 have HA:=hidp (Arr.new w 241 [.int .u8 (k:Int),.string nm,.int .i64 s])
 have HI:=hidp hI;clear hI
 cases hok:idOk k nm s with
 | false =>
   rw [hok] at C
   have hT:idT k nm s=ByteArray.empty:=by unfold idT;rw [hok];rfl
   have hE:idE k nm s=2:=by unfold idE;rw [hok];rfl
   rw [hT,hE]
   clear hT hE hok
   go_enter Tryz.func203,Tryz.ntmps203
   go_wp2_with (go_at_call 213;(refine (C.out _).mono ?_);rintro e w1 ⟨rfl,hb1⟩;have HB1:=hidp (HX.out.trans (hb1.mono HX.out.size));clear hb1)
   go_ret2
   exact ⟨rfl,HB1.out⟩
 | true =>
   rw [hok] at C
   obtain ⟨g1,g2,g3,g4⟩:=idOk_name hok
   have hsz:=idOk_size hok
   obtain ⟨n,rfl⟩:∃ n:Nat,s=n:=⟨s.toNat,by omega⟩
   obtain ⟨M,hM⟩:∃ M,mkS [kmark k]=M:=⟨_,rfl⟩
   have hMs:M.size=1:=by rw [← hM,mkS_size];rfl
   have hcs:(⟨#[58]⟩:ByteArray).size=1:=rfl
   obtain ⟨D,hD⟩:∃ D,mkS (dig n)=D:=⟨_,rfl⟩
   have hDs:D.size≤2:=by rw [← hD];exact dig_size n
   have hT:M++nm++⟨#[58]⟩++D=idT k nm n:=by rw [← hD];exact idT_app hok M hM.symm
   have hE:idE k nm n=0:=by unfold idE;rw [hok];rfl
   have CI:=hidp (show ∀ W,Calls Tryz.prog 214 #[.int .i64 (n:Int)] W fun e w'=>e=.returned (.string D)∧w'=W from fun W=>by
    have:=Tryz.strconv_Itoa_small n (by omega) W
    rw [dec_dig (by omega)] at this
    rw [← hD];exact this)
   have hkM:Hid (∀ W,IT W→W.cell? ⟨3,k,none⟩=some (.string M)):=fun W h=>by
    rcases g4 with rfl | rfl
    · rw [← hM];exact h.1.1
    · rw [← hM];exact h.1.2
   have k0:(0:Int)≤(k:Int):=by omega
   have k3:(k:Int)<3:=by omega
   rw [← hT,hE]
   have HT:=hidp hT
   clear hT hE hok hM hD g1 g4
   go_enter Tryz.func203,Tryz.ntmps203
   go_wp2_with (go_at_call 213;(refine (C.out _).mono ?_);rintro e w1 ⟨rfl,hb1⟩;have HB1:=hidp (HX.out.trans (hb1.mono HX.out.size));have HA1:=hidp (HA.out.below hb1 HA.out.lt);clear hb1;have m1:=hkM.out _ (HI.out.below HB1.out (Nat.le_refl _));obtain ⟨a0,a1,a2,-⟩:=arr3 HA1.out)
   go_quiet ((go_at_call 214;exact Calls.quiet_of_same (CI.out _)))
   go_wp2
   go_ret2
   exact ⟨rfl,below_drewN HB1.out _⟩
theorem pre_yes {t:ByteArray} {c:UInt8} {r:List UInt8} (h:t.data.toList=c :: r):Lib.hasPrefix t.data.toList (⟨#[c]⟩:ByteArray).data.toList=true∧(⟨(Lib.trimPrefix t.data.toList (⟨#[c]⟩:ByteArray).data.toList).toArray⟩:ByteArray)=mkS r:=by
 have h1:Lib.hasPrefix t.data.toList (⟨#[c]⟩:ByteArray).data.toList=true:=by rw [h];simp [Lib.hasPrefix,List.isPrefixOf]
 refine ⟨h1,?_⟩
 unfold Lib.trimPrefix
 rw [h1,if_pos rfl,h];rfl
theorem pre_no {t:ByteArray} {c:UInt8} (h:∀ r,t.data.toList≠c :: r):Lib.hasPrefix t.data.toList (⟨#[c]⟩:ByteArray).data.toList=false:=by
 cases ht:t.data.toList with
 | nil=>rfl
 | cons a r =>
   have:a≠c:=by rintro rfl;exact h r ht
   show List.isPrefixOf [c] (a :: r)=false
   simp [List.isPrefixOf,Ne.symm this]
theorem cutMark_1 (w:World) (t:ByteArray) (r:List UInt8) (ht:t.data.toList=64 :: r) (hI:IT w) :
 Calls Tryz.prog 200 #[.string t] w fun e w'=>e=.returned (.tuple #[.int .u8 1,.string (mkS r)])∧w'=w:=by
 obtain ⟨p1,p2⟩:=pre_yes ht
 obtain ⟨R,hR⟩:∃ R,mkS r=R:=⟨_,rfl⟩
 have C:=hidp (show ∀ W,Calls Tryz.prog 209 #[.string t,.string ⟨#[64]⟩] W fun e w'=>e=.returned (.tuple #[.string R,.bool true])∧w'=W from fun W=>by
  have:=Tryz.strings_CutPrefix t ⟨#[64]⟩ W
  rw [p1,p2,hR] at this;exact this)
 rw [hR]
 clear p1 p2 hR ht
 have m1:=hI.1.1
 clear hI
 go_enter Tryz.func200,Tryz.ntmps200
 go_wp2
 go_loop [4] (fun t4=>t4=.int .u8 1) (fun _=>0)
 case atStart=>rfl
 case round =>
  subst hrel
  go_wp2_with (go_at_call 209;(refine (C.out _).mono ?_);rintro e w' ⟨rfl,rfl⟩)
  go_ret2
  exact ⟨rfl,rfl⟩
theorem cutMark_2 (w:World) (t:ByteArray) (r:List UInt8) (ht:t.data.toList=33 :: r) (hI:IT w) :
 Calls Tryz.prog 200 #[.string t] w fun e w'=>e=.returned (.tuple #[.int .u8 2,.string (mkS r)])∧w'=w:=by
 obtain ⟨p1,p2⟩:=pre_yes ht
 have p0:=pre_no (t:=t) (c:=64) (fun r' h=>by rw [ht] at h;simp at h)
 obtain ⟨R,hR⟩:∃ R,mkS r=R:=⟨_,rfl⟩
 have C:=hidp (show ∀ W,Calls Tryz.prog 209 #[.string t,.string ⟨#[33]⟩] W fun e w'=>e=.returned (.tuple #[.string R,.bool true])∧w'=W from fun W=>by
  have:=Tryz.strings_CutPrefix t ⟨#[33]⟩ W
  rw [p1,p2,hR] at this;exact this)
 obtain ⟨X,hX⟩:∃ X,(⟨(Lib.trimPrefix t.data.toList (⟨#[64]⟩:ByteArray).data.toList).toArray⟩:ByteArray)=X:=⟨_,rfl⟩
 have C0:=hidp (show ∀ W,Calls Tryz.prog 209 #[.string t,.string ⟨#[64]⟩] W fun e w'=>e=.returned (.tuple #[.string X,.bool false])∧w'=W from fun W=>by
  have:=Tryz.strings_CutPrefix t ⟨#[64]⟩ W
  rw [p0,hX] at this;exact this)
 rw [hR]
 clear p0 p1 p2 hR ht hX
 have m1:=hI.1.1;have m2:=hI.1.2
 clear hI
 go_enter Tryz.func200,Tryz.ntmps200
 go_wp2
 go_loop [4] (fun t4=>t4=.int .u8 1∨t4=.int .u8 2) (fun t4=>2 - (intOf t4).toNat)
 case atStart=>exact .inl rfl
 case round =>
  rcases hrel with rfl | rfl
  · go_wp2_with (go_at_call 209;(refine (C0.out _).mono ?_);rintro e w' ⟨rfl,rfl⟩)
    exact ⟨.inr rfl,by simp [intOf]⟩
  · go_wp2_with (go_at_call 209;(refine (C.out _).mono ?_);rintro e w' ⟨rfl,rfl⟩)
    go_ret2
    exact ⟨rfl,rfl⟩
theorem cutMark_0 (w:World) (t:ByteArray) (h64:∀ r,t.data.toList≠64 :: r) (h33:∀ r,t.data.toList≠33 :: r) (hI:IT w) :
 Calls Tryz.prog 200 #[.string t] w fun e w'=>e=.returned (.tuple #[.int .u8 0,.string (mkS [])])∧w'=w:=by
 have p0:=pre_no h64
 have p1:=pre_no h33
 obtain ⟨X,hX⟩:∃ X,(⟨(Lib.trimPrefix t.data.toList (⟨#[64]⟩:ByteArray).data.toList).toArray⟩:ByteArray)=X:=⟨_,rfl⟩
 have C0:=hidp (show ∀ W,Calls Tryz.prog 209 #[.string t,.string ⟨#[64]⟩] W fun e w'=>e=.returned (.tuple #[.string X,.bool false])∧w'=W from fun W=>by
  have:=Tryz.strings_CutPrefix t ⟨#[64]⟩ W
  rw [p0,hX] at this;exact this)
 obtain ⟨Y,hY⟩:∃ X,(⟨(Lib.trimPrefix t.data.toList (⟨#[33]⟩:ByteArray).data.toList).toArray⟩:ByteArray)=X:=⟨_,rfl⟩
 have C:=hidp (show ∀ W,Calls Tryz.prog 209 #[.string t,.string ⟨#[33]⟩] W fun e w'=>e=.returned (.tuple #[.string Y,.bool false])∧w'=W from fun W=>by
  have:=Tryz.strings_CutPrefix t ⟨#[33]⟩ W
  rw [p1,hY] at this;exact this)
 clear p0 p1 hX hY h64 h33
 have m1:=hI.1.1;have m2:=hI.1.2
 clear hI
 go_enter Tryz.func200,Tryz.ntmps200
 go_wp2
 go_loop [4] (fun t4=>t4=.int .u8 1∨t4=.int .u8 2∨t4=.int .u8 3) (fun t4=>3 - (intOf t4).toNat)
 case atStart=>exact .inl rfl
 case round =>
  rcases hrel with rfl | rfl | rfl
  · go_wp2_with (go_at_call 209;(refine (C0.out _).mono ?_);rintro e w' ⟨rfl,rfl⟩)
    exact ⟨.inr (.inl rfl),by simp [intOf]⟩
  · go_wp2_with (go_at_call 209;(refine (C.out _).mono ?_);rintro e w' ⟨rfl,rfl⟩)
    exact ⟨.inr (.inr rfl),by simp [intOf]⟩
  · go_wp2
    go_ret2
    exact ⟨rfl,rfl⟩
theorem colon_at {l:List UInt8} {i:Nat} (h:Lib.indexByte l 58=(i:Int)):i<l.length∧upTo l=l.take i∧behind l=l.drop (i + 1):=by
 obtain ⟨h1,h2⟩:=Lib.indexByte_some h
 obtain ⟨hi,hv⟩:=List.getElem?_eq_some_iff.1 h1
 have e:l=l.take i++58 :: l.drop (i + 1):=by
  conv=>lhs;rw [← List.take_append_drop i l]
  rw [List.drop_eq_getElem_cons hi,hv]
 have hn:∀ b ∈ l.take i,(b != 58)=true:=by
  intro b hb
  obtain ⟨j,hj,rfl⟩:=List.getElem_of_mem hb
  simp only [List.length_take] at hj
  simp only [bne_iff_ne,ne_eq]
  intro e
  apply h2 j (by omega)
  rw [List.getElem?_eq_getElem (by omega),← e,List.getElem_take]
 have e3:=upTo_app (d:=l.drop (i + 1)) hn
 have e4:=behind_app (d:=l.drop (i + 1)) hn
 rw [← e] at e3 e4
 exact ⟨hi,e3,e4⟩
theorem colon_none {l:List UInt8} (h:Lib.indexByte l 58=-1):upTo l=l∧behind l=[]:=by
 have hn:∀ b ∈ l,(b != 58)=true:=by
  intro b hb
  obtain ⟨j,hj,rfl⟩:=List.getElem_of_mem hb
  simp only [bne_iff_ne,ne_eq]
  intro e
  apply Lib.indexByte_none h j
  rw [List.getElem?_eq_getElem hj,e]
 exact ⟨upTo_no hn,behind_no hn⟩
theorem cut_any (w:World) (s:ByteArray) (hs:s.size≤281474976710656) :
 Calls Tryz.prog 201 #[.string s,.string ⟨#[58]⟩] w fun e w'=>∃ q,e=.returned (.tuple #[.string (mkS (upTo s.data.toList)),.string (mkS (behind s.data.toList)),.bool q])∧Below w.heap.size w w':=by
 have C:=hidp (fun W=>Tryz.stringslite_Index_one s 58 W)
 rcases Int.lt_or_le (Lib.indexByte s.data.toList 58) 0 with h | h
 · have hm:Lib.indexByte s.data.toList 58=-1:=by have:=Lib.indexByte_ge s.data.toList 58;omega
   obtain ⟨e1,e2⟩:=colon_none hm
   rw [hm] at C
   rw [e1,e2,mkS_of]
   clear e1 e2 h hm
   go_enter Tryz.func201,Tryz.ntmps201
   go_wp2_with (first|(go_at_call 218;(refine (C.out _).mono ?_);rintro e w' ⟨rfl,rfl⟩) | go_in)
   go_ret3
   exact ⟨_,rfl,Below.refl _ _⟩
 · obtain ⟨i,hi⟩:∃ i:Nat,Lib.indexByte s.data.toList 58=(i:Int):=⟨_,(Int.toNat_of_nonneg h).symm⟩
   obtain ⟨g,e1,e2⟩:=colon_at hi
   rw [hi] at C
   rw [size_toList] at g
   have c0:(0:Int)≤(i:Int):=by omega
   have c1:(i:Int)≤(s.size:Int):=by omega
   have c2:(0:Int)≤(i:Int) + 1:=by omega
   have c3:(i:Int) + 1≤(s.size:Int):=by omega
   have hcs:(⟨#[58]⟩:ByteArray).size=1:=rfl
   have f1:mkS (upTo s.data.toList)=s.extract 0 i:=by
    apply ba_ext;rw [mkS_data,e1,extract_toList];simp
   have f2:mkS (behind s.data.toList)=s.extract (i + 1) s.size:=by rw [e2,ext_drop]
   rw [f1,f2]
   clear e1 e2 h hi f1 f2
   go_enter Tryz.func201,Tryz.ntmps201
   go_wp2_with (first|(go_at_call 218;(refine (C.out _).mono ?_);rintro e w' ⟨rfl,rfl⟩) | go_in)
   go_quiet (fail)
   go_wp2
   go_ret3
   exact ⟨_,rfl,below_drewN (Below.refl _ _) _⟩
theorem strClone_any (s:ByteArray) (w:World) (hlim:s.size≤281474976710656) :
 Calls Tryz.prog 69 #[.string s] w fun e w'=>e=.returned (.string s)∧Below w.heap.size w w':=by
 go_enter Tryz.func69,Tryz.ntmps69
 go_wp2_with (go_at_call 123;refine (Tryz.stringslite_Clone _ _ hlim).mono ?_;rintro e w1 ⟨rfl,hb1⟩)
 go_ret
 exact ⟨rfl,hb1⟩
end
section
open Go.RowKit
def idV:Option (Nat × ByteArray × Nat)→Value
 | some (k,nm,n)=>.agg #[.int .u8 (k:Int),.string nm,.int .i64 (n:Int)]
 | none=>.agg #[.int .u8 0,.string ⟨#[]⟩,.int .i64 0]
def idX:Option (Nat × ByteArray × Nat)→Int
 | some _=>0
 | none=>6
def codeP (t:ByteArray) (k:Nat) (R:List UInt8):Option (Nat × ByteArray × Nat) :=
 match Lib.atoiAll (behind R) with
 | .ok v=>if idOk k (mkS (upTo R)) v=true∧mkS (idL k (mkS (upTo R)) v.toNat)=t then some (k,mkS (upTo R),v.toNat) else none
 | _=>none
theorem codeP_ok {t:ByteArray} {k:Nat} {R:List UInt8} {v:Int} (h:Lib.atoiAll (behind R)=.ok v):codeP t k R=if idOk k (mkS (upTo R)) v=true∧mkS (idL k (mkS (upTo R)) v.toNat)=t then some (k,mkS (upTo R),v.toNat) else none:=by unfold codeP;rw [h]
theorem codeP_fails {t:ByteArray} {k:Nat} {R:List UInt8} (h:∀ v,Lib.atoiAll (behind R)≠.ok v):codeP t k R=none:=by
 unfold codeP
 split
 · rename_i v hv;exact absurd hv (h v)
 · rfl
theorem atoi_fails (s:ByteArray) (hlim:s.size≤281474976710656) (h:∀ v,Lib.atoiAll s.data.toList≠.ok v) (w:World) (hI:IT w) :
 Calls Tryz.prog 202 #[.string s] w fun e w'=>∃ N z,e=.returned (.tuple #[.int .i64 z,.iface 280 (.pointer (some ⟨N,0,none⟩))])∧Below w.heap.size w w':=by
 obtain ⟨-,⟨t1,p1,h1⟩,⟨t2,p2,h2⟩⟩:=hI
 rcases ha:Lib.atoiAll s.data.toList with v | _ | _
 · exact absurd ha (h v)
 · refine Calls.mono (Any.strconv_Atoi_syntax Tryz.laysC172 s hlim ha _ w h1 (.inr ⟨_,_,rfl⟩)) ?_
   rintro e w' ⟨N,he,-,-,hb⟩
   exact ⟨N,_,he,hb⟩
 · refine Calls.mono (Any.strconv_Atoi_range Tryz.laysC172 s hlim ha _ w h2 (.inr ⟨_,_,rfl⟩)) ?_
   rintro e w' ⟨N,he,-,-,hb⟩
   exact ⟨N,_,he,hb⟩
theorem codeP_idP {t:ByteArray} {k:Nat} {r:List UInt8} (hk:k=1∨k=2) (ht:t.data.toList=kmark k :: r):codeP t k r=idP t:=by
 unfold codeP
 split
 · rename_i v hv;exact (idP_read hk ht v hv).symm
 · rename_i hv;exact (idP_unread ht (fun v h=>hv v h)).symm
theorem idT_ne {k:Nat} {nm:ByteArray} {v:Int} {t:ByteArray} (hok:idOk k nm v=true) (h:¬ (idOk k nm v=true∧mkS (idL k nm v.toNat)=t)):idT k nm v≠t:=by
 unfold idT;rw [if_pos hok];intro e;exact h ⟨hok,e⟩
theorem idT_eq {k:Nat} {nm:ByteArray} {v:Int} {t:ByteArray} (h:idOk k nm v=true∧mkS (idL k nm v.toNat)=t):idT k nm v=t:=by
 unfold idT;rw [if_pos h.1];exact h.2
theorem idE_ok {k:Nat} {nm:ByteArray} {v:Int} (h:idOk k nm v=true):idE k nm v=0:=by unfold idE;rw [if_pos h]
theorem idE_no {k:Nat} {nm:ByteArray} {v:Int} (h:¬ idOk k nm v=true):idE k nm v=2:=by unfold idE;rw [if_neg h]
theorem bytesW_below (w:World) (t:ByteArray):Below w.heap.size w (Lib.bytesWorld w 5 t) :=
 Lib.bytesWorld_below _ _ _
theorem parse_w (w:World) (t:ByteArray) (hs:t.size≤281474976710656) (hI:IT w) (k:Nat) (hk:k<256) (R:List UInt8) (hR:R.length≤281474976710656)
 (hc:Hid (∀ W,IT W→Calls Tryz.prog 200 #[.string t] W fun e w'=>e=.returned (.tuple #[.int .u8 (k:Int),.string (mkS R)])∧w'=W)) :
 Calls Tryz.prog 181 #[.string t] w fun e w'=>e=.returned (.tuple #[idV (codeP t k R),.int .i64 (idX (codeP t k R))])∧Below w.heap.size w w':=by
 have hle1:=(List.takeWhile_sublist (p:=fun x:UInt8=>x != 58) (l:=R)).length_le
 have hle2:(behind R).length≤R.length:=by
  unfold behind
  have:=(List.dropWhile_sublist (p:=fun x:UInt8=>x != 58) (l:=R)).length_le
  rw [List.length_drop];omega
 have C1:=hidp (fun W=>cut_any W (mkS R) (by rw [mkS_size];exact hR))
 rw [mkS_data] at C1
 obtain ⟨NM,hNM⟩:∃ x,mkS (upTo R)=x:=⟨_,rfl⟩
 obtain ⟨D,hD⟩:∃ x,mkS (behind R)=x:=⟨_,rfl⟩
 have hNs:NM.size≤281474976710656:=by rw [← hNM,mkS_size];unfold upTo;omega
 have hDs:D.size≤281474976710656:=by rw [← hD,mkS_size];omega
 have hDd:D.data.toList=behind R:=by rw [← hD,mkS_data]
 rw [hNM,hD] at C1
 obtain ⟨X,hX⟩:∃ x,codeP t k R=x:=⟨_,rfl⟩
 rw [hX]
 have HX:=hidp ((Below.refl w.heap.size w).alloc (Nat.le_refl _) (.cells #[.int .u8 0,.string ⟨#[]⟩,.int .i64 0] 241))
 have HA:=hidp (Arr.new w 241 [.int .u8 0,.string ⟨#[]⟩,.int .i64 0])
 have HI:=hidp hI;clear hI
 by_cases hat:∃ v,Lib.atoiAll D.data.toList=.ok v
 · obtain ⟨v,hat⟩:=hat
   rw [codeP_ok (by rw [← hDd];exact hat),hNM] at hX
   clear hle1 hle2 hNM hD hDd
   have CA:=hidp (fun W=>Tryz.strconv_Atoi_ok D (by omega) v hat W)
   have CT:=hidp (fun W h=>idText_any W k hk NM hNs v h)
   clear hat
   by_cases hh:idOk k NM v=true∧mkS (idL k NM v.toNat)=t
   · rw [if_pos hh] at hX
     rw [idT_eq hh,idE_ok hh.1] at CT
     have hvn:=hidp (show ((v.toNat:Nat):Int)=v from Int.toNat_of_nonneg (idOk_name hh.1).2.1)
     subst hX
     clear hh
     go_enter Tryz.func181,Tryz.ntmps181
     go_wp2_with fail
     refine (hc.out _ (HI.out.below HX.out (Nat.le_refl _))).mono ?_
     rintro e w1 ⟨rfl,rfl⟩
     go_wp2_with fail
     refine (C1.out _).mono ?_
     rintro e w2 ⟨q,rfl,hb2⟩
     have HB2:=hidp (HX.out.trans (hb2.mono HX.out.size));have HA2:=hidp (HA.out.below hb2 HA.out.lt)
     clear hb2
     go_wp2_with fail
     refine (CA.out _).mono ?_
     rintro e w3 ⟨rfl,hw3⟩
     have hb3:Below w2.heap.size w2 w3:=by
      rcases hw3 with rfl | ⟨t,rfl⟩
      · exact Below.refl _ _
      · exact bytesW_below _ _
     clear hw3
     have HB3:=hidp (HB2.out.trans (hb3.mono HB2.out.size));have HA3:=hidp (HA2.out.below hb3 HA2.out.lt)
     clear hb3
     go_wp2_with fail
     have HX4:=hidp (HB3.out.alloc HB3.out.size (.cells #[.int .u8 (k:Int),.string NM,.int .i64 v] 241));have HA4:=hidp (HA3.out.alloc (.cells #[.int .u8 (k:Int),.string NM,.int .i64 v] 241));have HN4:=hidp (Arr.new w3 241 [.int .u8 (k:Int),.string NM,.int .i64 v])
     obtain ⟨bi,hbi⟩:∃ b,w3.heap.size=b:=⟨_,rfl⟩
     have hge:w.heap.size≤bi:=by rw [← hbi];exact HB3.out.size
     have hne:bi≠w.heap.size:=by have:=HA3.out.lt;omega
     generalize hW4:(w3.alloc (.cells #[.int .u8 (k:Int),.string NM,.int .i64 v] 241))=W4 at HX4 HA4 HN4 ⊢
     rw [hbi] at HN4 ⊢
     clear hW4 hbi
     refine (CT.out _ (HI.out.below HX4.out (Nat.le_refl _))).mono ?_
     rintro e w5 ⟨rfl,hb5⟩
     have HB5:=hidp (HX4.out.trans (hb5.mono HX4.out.size));have HA5:=hidp (HA4.out.below hb5 HA4.out.lt);have HN5:=hidp (HN4.out.below hb5 HN4.out.lt)
     clear hb5
     go_wp2_with fail
     refine (strClone_any NM _ hNs).mono ?_
     rintro e w6 ⟨rfl,hb6⟩
     have HB6:=hidp (HB5.out.trans (hb6.mono HB5.out.size));have HA6:=hidp (HA5.out.below hb6 HA5.out.lt);have HN6:=hidp (HN5.out.below hb6 HN5.out.lt)
     clear hb6
     obtain ⟨r0,r1,r2,rf⟩:=arr3 HA6.out
     have g0:=rf 0;have g1:=rf 1;have g2:=rf 2
     clear rf
     obtain ⟨n0,n1,n2,nf⟩:=arr3 HN6.out
     have f0:=nf 0;have f1:=nf 1;have f2:=nf 2
     clear nf
     go_wp2_with fail
     refine bodyPost_ret (v:=.tuple #[.agg #[.int .u8 (k:Int),.string NM,.int .i64 ((v.toNat:Nat):Int)],.int .i64 0]) (by simp [results,Tryz.results181,go_sem,r0,r1,r2,hvn.out]) rfl ⟨rfl,?_⟩
     repeat (refine Below.setCell ?_ (by first | exact hge | simp) _)
     exact HB6.out
   · rw [if_neg hh] at hX
     subst hX
     by_cases hok:idOk k NM v=true
     · have ht:=toList_no (idT_ne hok hh)
       rw [idE_ok hok] at CT
       obtain ⟨S,hS⟩:∃ S,idT k NM v=S:=⟨_,rfl⟩
       rw [hS] at CT ht
       clear hh hok hS
       go_enter Tryz.func181,Tryz.ntmps181
       go_wp2_with fail
       refine (hc.out _ (HI.out.below HX.out (Nat.le_refl _))).mono ?_
       rintro e w1 ⟨rfl,rfl⟩
       go_wp2_with fail
       refine (C1.out _).mono ?_
       rintro e w2 ⟨q,rfl,hb2⟩
       have HB2:=hidp (HX.out.trans (hb2.mono HX.out.size));have HA2:=hidp (HA.out.below hb2 HA.out.lt)
       clear hb2
       go_wp2_with fail
       refine (CA.out _).mono ?_
       rintro e w3 ⟨rfl,hw3⟩
       have hb3:Below w2.heap.size w2 w3:=by
        rcases hw3 with rfl | ⟨t,rfl⟩
        · exact Below.refl _ _
        · exact bytesW_below _ _
       clear hw3
       have HB3:=hidp (HB2.out.trans (hb3.mono HB2.out.size));have HA3:=hidp (HA2.out.below hb3 HA2.out.lt)
       clear hb3
       go_wp2_with fail
       have HX4:=hidp (HB3.out.alloc HB3.out.size (.cells #[.int .u8 (k:Int),.string NM,.int .i64 v] 241));have HA4:=hidp (HA3.out.alloc (.cells #[.int .u8 (k:Int),.string NM,.int .i64 v] 241));have HN4:=hidp (Arr.new w3 241 [.int .u8 (k:Int),.string NM,.int .i64 v])
       obtain ⟨bi,hbi⟩:∃ b,w3.heap.size=b:=⟨_,rfl⟩
       have hge:w.heap.size≤bi:=by rw [← hbi];exact HB3.out.size
       have hne:bi≠w.heap.size:=by have:=HA3.out.lt;omega
       generalize hW4:(w3.alloc (.cells #[.int .u8 (k:Int),.string NM,.int .i64 v] 241))=W4 at HX4 HA4 HN4 ⊢
       rw [hbi] at HN4 ⊢
       clear hW4 hbi
       refine (CT.out _ (HI.out.below HX4.out (Nat.le_refl _))).mono ?_
       rintro e w5 ⟨rfl,hb5⟩
       have HB5:=hidp (HX4.out.trans (hb5.mono HX4.out.size));have HA5:=hidp (HA4.out.below hb5 HA4.out.lt);have HN5:=hidp (HN4.out.below hb5 HN4.out.lt)
       clear hb5
       obtain ⟨r0,r1,r2,rf⟩:=arr3 HA5.out
       have g0:=rf 0;have g1:=rf 1;have g2:=rf 2
       clear rf
       go_wp2_with fail
       refine bodyPost_ret (v:=.tuple #[.agg #[.int .u8 0,.string ⟨#[]⟩,.int .i64 0],.int .i64 6]) (by simp [results,Tryz.results181,go_sem,r0,r1,r2]) rfl ⟨rfl,?_⟩
       repeat (refine Below.setCell ?_ (by simp) _)
       exact HB5.out
     · rw [idE_no hok] at CT
       clear hh hok
       go_enter Tryz.func181,Tryz.ntmps181
       go_wp2_with fail
       refine (hc.out _ (HI.out.below HX.out (Nat.le_refl _))).mono ?_
       rintro e w1 ⟨rfl,rfl⟩
       go_wp2_with fail
       refine (C1.out _).mono ?_
       rintro e w2 ⟨q,rfl,hb2⟩
       have HB2:=hidp (HX.out.trans (hb2.mono HX.out.size));have HA2:=hidp (HA.out.below hb2 HA.out.lt)
       clear hb2
       go_wp2_with fail
       refine (CA.out _).mono ?_
       rintro e w3 ⟨rfl,hw3⟩
       have hb3:Below w2.heap.size w2 w3:=by
        rcases hw3 with rfl | ⟨t,rfl⟩
        · exact Below.refl _ _
        · exact bytesW_below _ _
       clear hw3
       have HB3:=hidp (HB2.out.trans (hb3.mono HB2.out.size));have HA3:=hidp (HA2.out.below hb3 HA2.out.lt)
       clear hb3
       go_wp2_with fail
       have HX4:=hidp (HB3.out.alloc HB3.out.size (.cells #[.int .u8 (k:Int),.string NM,.int .i64 v] 241));have HA4:=hidp (HA3.out.alloc (.cells #[.int .u8 (k:Int),.string NM,.int .i64 v] 241));have HN4:=hidp (Arr.new w3 241 [.int .u8 (k:Int),.string NM,.int .i64 v])
       obtain ⟨bi,hbi⟩:∃ b,w3.heap.size=b:=⟨_,rfl⟩
       have hge:w.heap.size≤bi:=by rw [← hbi];exact HB3.out.size
       have hne:bi≠w.heap.size:=by have:=HA3.out.lt;omega
       generalize hW4:(w3.alloc (.cells #[.int .u8 (k:Int),.string NM,.int .i64 v] 241))=W4 at HX4 HA4 HN4 ⊢
       rw [hbi] at HN4 ⊢
       clear hW4 hbi
       refine (CT.out _ (HI.out.below HX4.out (Nat.le_refl _))).mono ?_
       rintro e w5 ⟨rfl,hb5⟩
       have HB5:=hidp (HX4.out.trans (hb5.mono HX4.out.size));have HA5:=hidp (HA4.out.below hb5 HA4.out.lt);have HN5:=hidp (HN4.out.below hb5 HN4.out.lt)
       clear hb5
       obtain ⟨r0,r1,r2,rf⟩:=arr3 HA5.out
       have g0:=rf 0;have g1:=rf 1;have g2:=rf 2
       clear rf
       go_wp2_with fail
       refine bodyPost_ret (v:=.tuple #[.agg #[.int .u8 0,.string ⟨#[]⟩,.int .i64 0],.int .i64 6]) (by simp [results,Tryz.results181,go_sem,r0,r1,r2]) rfl ⟨rfl,?_⟩
       repeat (refine Below.setCell ?_ (by simp) _)
       exact HB5.out
 · have hat2:∀ v,Lib.atoiAll D.data.toList≠.ok v:=fun v h=>hat ⟨v,h⟩
   rw [codeP_fails (by rw [← hDd];exact hat2)] at hX
   subst hX
   have CA:=hidp (fun W (h:IT W)=>atoi_fails D hDs hat2 W h)
   have CT:=hidp (fun W h z=>idText_any W k hk NM hNs z h)
   clear hat hat2 hle1 hle2 hNM hD hDd
   go_enter Tryz.func181,Tryz.ntmps181
   go_wp2_with fail
   refine (hc.out _ (HI.out.below HX.out (Nat.le_refl _))).mono ?_
   rintro e w1 ⟨rfl,rfl⟩
   go_wp2_with fail
   refine (C1.out _).mono ?_
   rintro e w2 ⟨q,rfl,hb2⟩
   have HB2:=hidp (HX.out.trans (hb2.mono HX.out.size));have HA2:=hidp (HA.out.below hb2 HA.out.lt)
   clear hb2
   go_wp2_with fail
   refine (CA.out _ (HI.out.below HB2.out (Nat.le_refl _))).mono ?_
   rintro e w3 ⟨N,z,rfl,hb3⟩
   have HB3:=hidp (HB2.out.trans (hb3.mono HB2.out.size));have HA3:=hidp (HA2.out.below hb3 HA2.out.lt)
   clear hb3
   go_wp2_with fail
   have HX4:=hidp (HB3.out.alloc HB3.out.size (.cells #[.int .u8 (k:Int),.string NM,.int .i64 z] 241));have HA4:=hidp (HA3.out.alloc (.cells #[.int .u8 (k:Int),.string NM,.int .i64 z] 241));have HN4:=hidp (Arr.new w3 241 [.int .u8 (k:Int),.string NM,.int .i64 z])
   obtain ⟨bi,hbi⟩:∃ b,w3.heap.size=b:=⟨_,rfl⟩
   have hge:w.heap.size≤bi:=by rw [← hbi];exact HB3.out.size
   have hne:bi≠w.heap.size:=by have:=HA3.out.lt;omega
   generalize hW4:(w3.alloc (.cells #[.int .u8 (k:Int),.string NM,.int .i64 z] 241))=W4 at HX4 HA4 HN4 ⊢
   rw [hbi] at HN4 ⊢
   clear hW4 hbi
   refine (CT.out _ (HI.out.below HX4.out (Nat.le_refl _)) z).mono ?_
   rintro e w5 ⟨rfl,hb5⟩
   have HB5:=hidp (HX4.out.trans (hb5.mono HX4.out.size));have HA5:=hidp (HA4.out.below hb5 HA4.out.lt);have HN5:=hidp (HN4.out.below hb5 HN4.out.lt)
   clear hb5
   obtain ⟨r0,r1,r2,rf⟩:=arr3 HA5.out
   have g0:=rf 0;have g1:=rf 1;have g2:=rf 2
   clear rf
   go_wp2_with fail
   refine bodyPost_ret (v:=.tuple #[.agg #[.int .u8 0,.string ⟨#[]⟩,.int .i64 0],.int .i64 6]) (by simp [results,Tryz.results181,go_sem,r0,r1,r2]) rfl ⟨rfl,?_⟩
   repeat (refine Below.setCell ?_ (by simp) _)
   exact HB5.out
end
section
open Go.RowKit
theorem parse_any (w:World) (t:ByteArray) (hs:t.size≤281474976710656) (hI:IT w) :
 Calls Tryz.prog 181 #[.string t] w fun e w'=>e=.returned (.tuple #[idV (idP t),.int .i64 (idX (idP t))])∧Below w.heap.size w w':=by
 have hl:=size_toList t
 have cod0:codeP t 0 []=none:=rfl
 cases ht:t.data.toList with
 | nil =>
   have:=parse_w w t hs hI 0 (by omega) [] (by simp) (fun W h=>by
    refine cutMark_0 W t (fun r e=>?_) (fun r e=>?_) h
    · rw [ht] at e;cases e
    · rw [ht] at e;cases e)
   rw [cod0] at this
   rw [idP_nil ht];exact this
 | cons c r =>
   have hr:r.length≤281474976710656:=by rw [ht] at hl;simp at hl;omega
   by_cases h64:c=64
   · subst h64
     have:=parse_w w t hs hI 1 (by omega) r hr (fun W h=>cutMark_1 W t r ht h)
     rw [codeP_idP (.inl rfl) ht] at this
     exact this
   · by_cases h33:c=33
     · subst h33
       have:=parse_w w t hs hI 2 (by omega) r hr (fun W h=>cutMark_2 W t r ht h)
       rw [codeP_idP (.inr rfl) ht] at this
       exact this
     · have:=parse_w w t hs hI 0 (by omega) [] (by simp) (fun W h=>by
        refine cutMark_0 W t (fun r' e=>?_) (fun r' e=>?_) h
        · rw [ht] at e;simp only [List.cons.injEq] at e;exact h64 e.1
        · rw [ht] at e;simp only [List.cons.injEq] at e;exact h33 e.1)
       rw [cod0] at this
       rw [idP_unmarked ht h64 h33];exact this
def whoV:Option Nat→Value
 | some n=>.tuple #[.int .i64 (n:Int),.bool true]
 | none=>.tuple #[.int .i64 0,.bool false]
theorem serverOf_any (w:World) (t:ByteArray) (hs:t.size≤281474976710656) (hI:IT w) (q:Nat) (hq:q<256) :
 Calls Tryz.prog 148 #[.string t,.int .u8 (q:Int)] w fun e w'=>e=.returned (whoV (who q t))∧Below w.heap.size w w':=by
 have C:=hidp (parse_any w t hs hI)
 clear hI
 cases hp:idP t with
 | none =>
   rw [hp] at C
   rw [who_no hp]
   clear hp
   unfold idV idX at C
   unfold whoV
   go_enter Tryz.func148,Tryz.ntmps148
   go_wp2_with (go_at_call 181;(refine C.out.mono ?_);rintro e w1 ⟨rfl,hb1⟩;have HB1:=hidp (hb1.alloc hb1.size (.cells #[.int .u8 0,.string ⟨#[]⟩,.int .i64 0] 241));clear hb1)
   go_ret2
   exact ⟨rfl,HB1.out⟩
 | some x =>
   obtain ⟨k,nm,n⟩:=x
   rw [hp] at C
   unfold idV idX at C
   by_cases hk:k=q
   · subst hk
     rw [who_yes hp]
     unfold whoV
     have e0:((k:Int) != (k:Int))=false:=by simp
     clear hp
     go_enter Tryz.func148,Tryz.ntmps148
     go_wp2_with (go_at_call 181;(refine C.out.mono ?_);rintro e w1 ⟨rfl,hb1⟩;have HB1:=hidp (hb1.alloc hb1.size (.cells #[.int .u8 (k:Int),.string nm,.int .i64 (n:Int)] 241));clear hb1)
     go_ret2
     exact ⟨rfl,HB1.out⟩
   · rw [who_other hp hk]
     unfold whoV
     have e0:((k:Int) != (q:Int))=true:=by simp;omega
     have e1:¬ k=q:=hk
     clear hp
     go_enter Tryz.func148,Tryz.ntmps148
     go_wp2_with (go_at_call 181;(refine C.out.mono ?_);rintro e w1 ⟨rfl,hb1⟩;have HB1:=hidp (hb1.alloc hb1.size (.cells #[.int .u8 (k:Int),.string nm,.int .i64 (n:Int)] 241));clear hb1)
     go_ret2
     exact ⟨rfl,HB1.out⟩
theorem room_any (w:World) (t:ByteArray) (hs:t.size≤281474976710656) (hI:IT w) :
 Calls Tryz.prog 105 #[.string t] w fun e w'=>e=.returned (whoV (who 2 t))∧Below w.heap.size w w':=by
 have C:=hidp (serverOf_any w t hs hI 2 (by omega))
 clear hI
 cases hp:who 2 t with
 | none =>
   rw [hp] at C
   unfold whoV at C ⊢
   go_enter Tryz.func105,Tryz.ntmps105
   go_wp2_with (go_at_call 148;(refine C.out.mono ?_);rintro e w1 ⟨rfl,hb1⟩)
   go_ret2
   exact ⟨rfl,hb1⟩
 | some n =>
   rw [hp] at C
   unfold whoV at C ⊢
   go_enter Tryz.func105,Tryz.ntmps105
   go_wp2_with (go_at_call 148;(refine C.out.mono ?_);rintro e w1 ⟨rfl,hb1⟩)
   go_ret2
   exact ⟨rfl,hb1⟩
end
section
open Go.RowKit
structure Ev where
 room:ByteArray
 sender:ByteArray
 kind:Nat
 key:ByteArray
 body:ByteArray
 nonce:Int
def evWords:List (List UInt8):=[[],[99,114,101,97,116,101],[109,101,109,98,101,114],[112,111,119,101,114],[114,117,108,101],[110,97,109,101],[109,101,115,115,97,103,101],[114,101,100,97,99,116],[104,97,110,100,111,118,101,114]]
def word (k:Nat):ByteArray:=mkS (evWords.getD k [])
def numOf (f:ByteArray):Option Nat:=if (gn f.data.toList).2.2=0∧(gn f.data.toList).2.1=f.size then some (gn f.data.toList).1 else none
theorem numOf_back (n:Nat) (h:n≤281474976710656):numOf (mkS (encN n))=some n:=by
 have:=gn_back n [] h
 rw [List.append_nil] at this
 unfold numOf
 rw [mkS_data,this,mkS_size];simp
theorem numOf_some {f:ByteArray} {n:Nat} (h:numOf f=some n):mkS (encN n)=f∧n≤281474976710656:=by
 unfold numOf at h
 split at h
 · rename_i hh
   simp only [Option.some.injEq] at h
   obtain ⟨⟨m,j,e⟩,hr⟩:∃ r,gn f.data.toList=r:=⟨_,rfl⟩
   rw [hr] at hh h
   simp only at hh h
   obtain ⟨rfl,rfl⟩:=hh
   subst h
   obtain ⟨g1,g2,g3⟩:=gn_again _ _ _ hr
   refine ⟨?_,g2⟩
   rw [g1,List.take_of_length_le (by simp),mkS_of]
 · cases h
theorem al_back (ss:List ByteArray) (h:okL ss):al (mkS (encL ss))=(ss,0):=by
 have:=gl_back ss h []
 rw [List.append_nil] at this
 unfold al
 rw [this]
 simp [mkS_size]
theorem al_again {s:ByteArray} (h:(al s).2=0):mkS (encL (al s).1)=s∧okL (al s).1:=by
 obtain ⟨⟨L,j,e⟩,hr⟩:∃ r,gl s=r:=⟨_,rfl⟩
 unfold al at h ⊢
 rw [hr] at h ⊢
 simp only at h ⊢
 by_cases he:e=0
 · subst he
   simp only [ne_eq,not_true_eq_false,if_false] at h ⊢
   obtain ⟨g1,g2,g3⟩:=gl_again _ _ _ hr
   by_cases hj:j<s.size
   · rw [if_pos hj] at h;simp at h
   · rw [if_neg hj] at h ⊢
     refine ⟨?_,g2⟩
     simp only
     rw [g1,List.take_of_length_le (by simp;omega),mkS_of]
 · rw [if_pos he] at h;simp at h;omega
end
end Go.Proofs.YtokakgjcegmabaaGreatDoor
