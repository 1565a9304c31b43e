import Derived.Test.YtokakgjcegmabaaGreatDoorLC
import Derived.Test.YtokakgjcegmabaaGreatDoorLA
import Derived.Test.YtokakgjcegmabaaGreatDoorLB
set_option linter.unusedVariables false
set_option linter.unusedSimpArgs false
set_option maxHeartbeats 64000000
set_option maxRecDepth 100000
namespace Go.Proofs.YtokakgjcegmabaaGreatDoor.Ho
open Go.RowKit
structure De where
 k:Nat
 r:ByteArray
 e:Int
 i:Int
 h:Int
 n:Int
 g:ByteArray
def De.row (d:De):List Value:=[.int .u8 (d.k:Int),.string d.r,.int .i64 d.e,.int .i64 d.i,.int .i64 d.h,.int .i64 d.n,.string d.g]
def De.ok (d:De):Prop:=d.k<256∧d.r.size≤140737488351232∧d.g.size≤140737488351232
def hWords:List (List UInt8):=[[],[111,102,102,101,114],[97,99,99,101,112,116]]
def dwd (k:Nat):ByteArray:=mkS (hWords.getD k [])
def prm (e i h n:Int):Bool:=decide ((0≤e∧e≤4096)∧(0≤i∧i≤4096)∧(0≤h∧h≤63)∧(0≤n∧n≤63))
def dOk (d:De):Bool:=decide (1≤d.k∧d.k≤2) && (who 2 d.r).isSome && prm d.e d.i d.h d.n && decide (d.h≠d.n) && decide (d.g.size≤8192)
def dE (d:De):Int:=if dOk d=true then 0 else 2
theorem encT_len (s:ByteArray) (h:s.size≤140737488351232):(encT s).length≤s.size + 10:=by
 unfold encT
 rw [List.length_append,size_toList]
 have:=encN_len64 s.size (by omega);omega
theorem encTs_len (ss:List ByteArray) (m:Nat) (hm:m≤140737488351232) (h:∀ s ∈ ss,s.size≤m):(encTs ss).length≤ss.length * (m + 10):=by
 unfold encTs
 induction ss with
 | nil=>simp
 | cons a l ih =>
   rw [List.flatMap_cons,List.length_append,List.length_cons,Nat.succ_mul]
   have h1:=encT_len a (Nat.le_trans (h a (by simp)) hm);have h2:=h a (by simp);have h3:=ih fun s hs=>h s (by simp [hs])
   omega
end Go.Proofs.YtokakgjcegmabaaGreatDoor.Ho
namespace Go.Proofs.YtokakgjcegmabaaGreatDoor.Ho
open Go.RowKit
open List (getElem_toArray getElem_cons_zero getElem_cons_succ setIfInBounds_toArray set_cons_zero set_cons_succ)
structure HT (w:World):Prop where
 words:∀ i,i<3→w.cell? ⟨0,i,none⟩=some (.string (dwd i))
 most:∀ i,i<4→w.cell? ⟨1,i,none⟩=some (.int .i64 (([4096,4096,63,63]:List Int).getD i 0))
def mst (i:Nat):Int:=([4096,4096,63,63]:List Int).getD i 0
def okAt (a b c d:Int) (i:Nat):Bool:=decide (0≤[a,b,c,d].getD i 0∧[a,b,c,d].getD i 0≤mst i)
end Go.Proofs.YtokakgjcegmabaaGreatDoor.Ho
namespace Go.Proofs.YtokakgjcegmabaaGreatDoor.Sl
open Go.RowKit
open List (getElem_toArray getElem_cons_zero getElem_cons_succ setIfInBounds_toArray set_cons_zero set_cons_succ)
theorem infoS:(Tryz.prog.info? 9).map (fun i=>(i.zero,i.size,i.bytes))=some (some (.string ByteArray.empty),1,16):=by kernel_rfl
theorem tyS:Tryz.prog.underlying 75=some (.slice 9):=Tryz.underlying75
theorem own_arr {B b T:Nat} {W:World} {row:List Value} (ha:Arr W b T row) (hB:B≤b) (hl:row.length≤1000000):OwnV W B T (.slice (some ⟨b,0,none⟩) row.length row.length) row :=
 ⟨by simp,.inr ⟨b,row.length,row.toArray,rfl,hB,ha,Nat.le_refl _,by unfold maxLen;omega,by simp,by simp⟩⟩
def sAt (ss:List ByteArray) (i:Nat):ByteArray:=ss.getD i ⟨#[]⟩
theorem sAt_get {ss:List ByteArray} {i:Nat} (h:i<ss.length):sAt ss i=ss[i]:=by unfold sAt;rw [List.getD_eq_getElem?_getD,List.getElem?_eq_getElem h];rfl
theorem strs_pos {w:World} {v:Value} {ss:List ByteArray} (h:StrsAt w v ss) (hl:0<ss.length):∃ g off c,v=.slice (some ⟨g,off,none⟩) ss.length c∧g<w.heap.size∧∀ i,i<ss.length→w.cell? ⟨g,off + i,none⟩=some (.string (sAt ss i)):=by
 obtain ⟨x,c,rfl,hc⟩:=h
 obtain ⟨g,off,rfl,h0⟩:=hc 0 hl
 refine ⟨g,off,c,rfl,by have:=World.block_lt_of_cell? w _ h0;simpa using this,fun i hi=>?_⟩
 obtain ⟨g2,o2,e,h2⟩:=hc i hi
 simp only [Option.some.injEq,Addr.mk.injEq,and_true] at e
 obtain ⟨rfl,rfl⟩:=e
 rw [sAt_get hi];exact h2
theorem strs_form {w:World} {v:Value} {ss:List ByteArray} (h:StrsAt w v ss):∃ a c,v=.slice a ss.length c:=by
 obtain ⟨x,c,rfl,hc⟩:=h;exact ⟨x,c,rfl⟩
theorem join {N:Nat} {w0 w W:World} {L L':List Mm.Bx} (h:Mm.M N w0 w L) (k:Mm.M w.heap.size w W L'):Mm.M N w0 W (L'++L):=by
 refine ⟨h.below.trans (k.below.mono h.le),Nat.le_trans h.le k.le,fun x hx=>?_,?_,fun x hx=>?_⟩
 · rcases List.mem_append.1 hx with hx | hx
   · exact Nat.le_trans h.le (k.ge x hx)
   · exact h.ge x hx
 · refine List.pairwise_append.2 ⟨k.inc,h.inc,fun x hx y hy=>?_⟩
   have:=k.ge x hx;have:=(h.has y hy).lt
   show y.b<x.b;omega
 · rcases List.mem_append.1 hx with hx | hx
   · exact k.has x hx
   · exact (h.has x hx).below k.below (h.has x hx).lt
section
variable {P:Program} {ops:Array Oper} {rest:List Oper} {o:Oper} {a:Act} {w w0:World} {N:Nat} {L:List Mm.Bx} {Q:Exit→Act→World→Prop} {S:World→Prop} {j:Nat} {s:Scr} {K:Act→World→Prop}
theorem regionS {Q:Exit→Act→World→Prop} {id:Nat} (L':List Mm.Bx) (hsub:∀ W,Mm.M N w0 W L→Mm.M N w0 W L') (H:Hid (Mm.M N w0 w L)) (s:Scr) (hm:P.follows .mixedOrders=true) (hs:Region.noSelect ops=true) (hd:s.depth≤ops.size) (hc:s.chk .any ops (Array.replicate ops.size false)=true)
 (h:∀ U,Hid (Mm.M N w0 U L)→Below w.heap.size w U→wpScr P ops (NoPanic Q) s (fun W=>Mm.M N w0 W L') a U):(Code.region id ops true).wp P Q a w :=
 wp_region_noPanic (wp_region_scr (S:=fun W=>Mm.M N w0 W L') s hm hs (fun _ _ _ _ _ h=>h) hd hc (hsub _ H.out.drew) (h _ (hidp H.out.drew) (Below.refl _ _).drew))
end
section
variable {ops:Array Oper} {rest:List Oper} {o:Oper} {a:Act} {w w0:World} {N:Nat} {L:List Mm.Bx} {Q:Exit→Act→World→Prop} {S:World→Prop} {j:Nat} {s:Scr} {K:Act→World→Prop}
end
end Go.Proofs.YtokakgjcegmabaaGreatDoor.Sl
namespace Go.Proofs.YtokakgjcegmabaaGreatDoor.Ho
open Go.RowKit
open List (getElem_toArray getElem_cons_zero getElem_cons_succ setIfInBounds_toArray set_cons_zero set_cons_succ)
def nmE (s:ByteArray):Int:=if (gn s.data.toList).2.2≠0 then ((gn s.data.toList).2.2:Int) else if (gn s.data.toList).2.1<s.size then 6 else 0
def nmV (s:ByteArray):Nat:=if nmE s=0 then (gn s.data.toList).1 else 0
theorem nm_some {s:ByteArray} {n:Nat} (h:numOf s=some n):nmE s=0∧nmV s=n:=by
 unfold numOf at h
 split at h
 · rename_i hh
   have e:nmE s=0:=by unfold nmE;rw [if_neg (by simp [hh.1]),if_neg (by omega)]
   refine ⟨e,?_⟩
   unfold nmV;rw [if_pos e];simpa using h
 · cases h
theorem nm_none {s:ByteArray} (h:numOf s=none):nmE s≠0:=by
 have hb:=gn_bd s.data.toList
 have hz:=size_toList s
 unfold numOf at h
 split at h
 · cases h
 · rename_i hh
   unfold nmE
   by_cases h0:(gn s.data.toList).2.2=0
   · rw [if_neg (by simp [h0]),if_pos (by have:¬ (gn s.data.toList).2.1=s.size:=fun g=>hh ⟨h0,g⟩;omega)];decide
   · rw [if_pos h0];omega
theorem nm_zero {s:ByteArray} (h:nmE s=0):numOf s=some (nmV s):=by
 cases hn:numOf s with
 | none=>exact absurd h (nm_none hn)
 | some n=>rw [(nm_some hn).2]
def inE (s:ByteArray) (m:Nat):Int:=if nmE s=0 then (if m<nmV s then 1 else 0) else nmE s
def inV (s:ByteArray) (m:Nat):Nat:=if inE s m=0 then nmV s else 0
theorem in_zero {s:ByteArray} {m:Nat} (h:inE s m=0):numOf s=some (inV s m)∧inV s m≤m:=by
 have h':=h
 unfold inE at h
 split at h
 · rename_i h0
   split at h
   · cases h
   · have e:inV s m=nmV s:=if_pos h'
     rw [e];exact ⟨nm_zero h0,by omega⟩
 · contradiction
theorem in_not {s:ByteArray} {m:Nat} (h:inE s m≠0):∀ n,numOf s=some n→m<n:=by
 intro n hn
 obtain ⟨h1,h2⟩:=nm_some hn
 unfold inE at h
 rw [if_pos h1,h2] at h
 split at h
 · assumption
 · exact absurd rfl h
theorem allNum_any (w:World) (s:ByteArray) (hs:s.size≤281474976710656) :
 Calls Tryz.prog 138 #[.string s] w fun e w'=>e=.returned (.tuple #[.int .u64 (nmV s),.int .i64 (nmE s)])∧Below w.heap.size w w':=by
 have cg:=hidp (fun W=>getNum_any W s hs)
 have hb:=gn_bd s.data.toList
 obtain ⟨⟨n,j,c⟩,hr⟩:∃ r,gn s.data.toList=r:=⟨_,rfl⟩
 have dE:nmE s=if c≠0 then (c:Int) else if j<s.size then 6 else 0:=by unfold nmE;rw [hr]
 have dV:nmV s=if nmE s=0 then n else 0:=by unfold nmV;rw [hr]
 rw [hr] at cg hb
 clear hr
 simp only [tup3] at cg hb
 by_cases h0:c=0
 · subst h0
   by_cases hj:j<s.size
   · have e1:decide ((j:Int)<(s.size:Int))=true:=by simp;omega
     have g1:decide (j<s.size)=true:=decide_eq_true hj
     have HE:=hidp (show nmE s=6 from by rw [dE,if_neg (by simp),if_pos hj])
     have HV:=hidp (show nmV s=0 from by rw [dV,HE.out];rfl)
     clear dE dV hj hb
     go_enter Tryz.func138,Tryz.ntmps138
     go_wp2_with (go_at_call 166;refine (cg.out _).mono ?_;rintro e w' ⟨rfl,rfl⟩)
     go_ret2
     exact ⟨by rw [HE.out,HV.out];rfl,Below.refl _ _⟩
   · have e1:decide ((j:Int)<(s.size:Int))=false:=by simp;omega
     have g1:decide (j<s.size)=false:=decide_eq_false hj
     have HE:=hidp (show nmE s=0 from by rw [dE,if_neg (by simp),if_neg hj])
     have HV:=hidp (show nmV s=n from by rw [dV,HE.out];rfl)
     clear dE dV hj hb
     go_enter Tryz.func138,Tryz.ntmps138
     go_wp2_with (go_at_call 166;refine (cg.out _).mono ?_;rintro e w' ⟨rfl,rfl⟩)
     go_ret2
     exact ⟨by rw [HE.out,HV.out];rfl,Below.refl _ _⟩
 · have e0:((c:Int) != 0)=true:=by simp;omega
   have n0:¬ (c:Int)=0:=by omega
   have HE:=hidp (show nmE s=c from by rw [dE,if_pos h0])
   have HV:=hidp (show nmV s=0 from by rw [dV,HE.out,if_neg (by omega)])
   clear dE dV hb h0
   go_enter Tryz.func138,Tryz.ntmps138
   go_wp2_with (go_at_call 166;refine (cg.out _).mono ?_;rintro e w' ⟨rfl,rfl⟩)
   go_ret2
   exact ⟨by rw [HE.out,HV.out];rfl,Below.refl _ _⟩
theorem allInt_any (w:World) (s:ByteArray) (m:Nat) (hm:m≤1048576) (hs:s.size≤281474976710656) :
 Calls Tryz.prog 88 #[.string s,.int .i64 (m:Int)] w fun e w'=>e=.returned (.tuple #[.int .i64 (inV s m),.int .i64 (inE s m)])∧Below w.heap.size w w':=by
 have cg:=hidp (fun W=>allNum_any W s hs)
 have dE:inE s m=if nmE s=0 then (if m<nmV s then 1 else 0) else nmE s:=rfl
 have dV:inV s m=if inE s m=0 then nmV s else 0:=rfl
 have hV:nmV s≤281474976710656:=by
  have hb:=gn_bd s.data.toList
  unfold nmV;split <;> omega
 obtain ⟨E,hE⟩:∃ E,nmE s=E:=⟨_,rfl⟩
 obtain ⟨n,hn⟩:∃ n,nmV s=n:=⟨_,rfl⟩
 rw [hE,hn] at cg dE
 rw [hn] at dV hV
 clear hE hn
 have w1:IntKind.u64.wrap (m:Int)=(m:Int):=by unfold IntKind.wrap;simp [IntKind.bits,IntKind.signed];omega
 have w2:IntKind.i64.wrap (n:Int)=(n:Int):=by unfold IntKind.wrap;simp [IntKind.bits,IntKind.signed];omega
 have e2:decide ((m:Int)<0)=false:=by simp
 by_cases h0:E=0
 · subst h0
   by_cases hj:m<n
   · have e1:decide ((n:Int) > (m:Int))=true:=by simp;omega
     have n1:(m:Int)<(n:Int):=by omega
     have g1:decide (m<n)=true:=decide_eq_true hj
     have HE:=hidp (show inE s m=1 from by rw [dE,if_pos rfl,if_pos hj])
     have HV:=hidp (show inV s m=0 from by rw [dV,HE.out];rfl)
     clear dE dV hj
     go_enter Tryz.func88,Tryz.ntmps88
     go_wp2_with (go_at_call 138;refine (cg.out _).mono ?_;rintro e w' ⟨rfl,hb⟩)
     go_ret2
     exact ⟨by rw [HE.out,HV.out];rfl,hb⟩
   · have e1:decide ((n:Int) > (m:Int))=false:=by simp;omega
     have n1:¬ (m:Int)<(n:Int):=by omega
     have g1:decide (m<n)=false:=decide_eq_false hj
     have HE:=hidp (show inE s m=0 from by rw [dE,if_pos rfl,if_neg hj])
     have HV:=hidp (show inV s m=n from by rw [dV,HE.out];rfl)
     clear dE dV hj
     go_enter Tryz.func88,Tryz.ntmps88
     go_wp2_with (go_at_call 138;refine (cg.out _).mono ?_;rintro e w' ⟨rfl,hb⟩)
     go_ret2
     exact ⟨by rw [HE.out,HV.out];rfl,hb⟩
 · have e0:(E != 0)=true:=by simpa using h0
   have HE:=hidp (show inE s m=E from by rw [dE,if_neg h0])
   have HV:=hidp (show inV s m=0 from by rw [dV,HE.out,if_neg h0])
   clear dE dV
   go_enter Tryz.func88,Tryz.ntmps88
   go_wp2_with (go_at_call 138;refine (cg.out _).mono ?_;rintro e w' ⟨rfl,hb⟩)
   go_ret2
   exact ⟨by rw [HE.out,HV.out];rfl,hb⟩
end Go.Proofs.YtokakgjcegmabaaGreatDoor.Ho
