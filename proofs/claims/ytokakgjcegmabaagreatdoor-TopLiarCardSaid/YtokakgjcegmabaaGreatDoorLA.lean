import Derived.WalkKit
import Derived.WalkSpells
import Derived.WalkLawsBesides
import Derived.Handy
import Derived.BigQuiet
import Derived.Deep.QuietTactic
import Derived.RegionTactic
import Derived.StillTailTactics
import Derived.OrdersHeld
import Derived.Deep.Quiet
import Derived.Deep.MidRow
import Derived.Deep.RegionHeld3
import Derived.Test.YtokakgjcegmabaaGreatDoorRows
import Derived.Lib.ConvBytes
import Derived.IntWalk
import Derived.Laws.Rows
import Derived.Laws.Tables
import Derived.Laws.CopyRow
import Derived.Great.BuildSlice
import Derived.Maps.AppendAt
import Derived.Laws.IdiomCopy
import Derived.Lib.AppendZerosOnto
set_option linter.unusedVariables false
set_option linter.unusedSimpArgs false
set_option maxHeartbeats 64000000
set_option maxRecDepth 100000
namespace Go.Proofs.YtokakgjcegmabaaGreatDoor
open Go.RowKit in
theorem aQ : (∀ (α : Type) (l : List α) (i : Nat) (a : α), l.toArray.setIfInBounds i a = (l.set i a).toArray) ∧ (∀ (α : Type) (x : α) (l : List α) (a : α), (x :: l).set 0 a = a :: l) ∧ (∀ (α : Type) (x : α) (l : List α) (n : Nat) (a : α), (x :: l).set (n + 1) a = x :: l.set n a) := ⟨fun _ _ _ _ => List.setIfInBounds_toArray .., fun _ _ _ _ => rfl, fun _ _ _ _ _ => rfl⟩
open Go.RowKit in
theorem aP : (∀ (α : Type) (l : List α) (i : Nat) (h : i < l.toArray.size), l.toArray[i] = l[i]'h) ∧ (∀ (α : Type) (x : α) (l : List α) (h : 0 < (x :: l).length), (x :: l)[0] = x) ∧ (∀ (α : Type) (x : α) (l : List α) (n : Nat) (h : n + 1 < (x :: l).length), (x :: l)[n + 1] = l[n]'(Nat.lt_of_succ_lt_succ h)) ∧ (∀ (α : Type) (l : List α) (i : Nat) (a : α), l.toArray.setIfInBounds i a = (l.set i a).toArray) ∧ (∀ (α : Type) (x : α) (l : List α) (a : α), (x :: l).set 0 a = a :: l) ∧ (∀ (α : Type) (x : α) (l : List α) (n : Nat) (a : α), (x :: l).set (n + 1) a = x :: l.set n a) := ⟨fun _ _ _ _ => rfl, fun _ _ _ _ => rfl, fun _ _ _ _ _ => rfl, aQ⟩
open Go.RowKit in
theorem aR : (∀ (a : Act) (d : Tmp) (v : Value), a.put (some d) v = { a with tmps := a.tmps.setIfInBounds d v }) ∧ (∀ (a : Act) (v : Value), a.put none v = a) ∧ (∀ (α : Type) (l : List α) (i : Nat) (a : α), l.toArray.setIfInBounds i a = (l.set i a).toArray) ∧ (∀ (α : Type) (x : α) (l : List α) (a : α), (x :: l).set 0 a = a :: l) ∧ (∀ (α : Type) (x : α) (l : List α) (n : Nat) (a : α), (x :: l).set (n + 1) a = x :: l.set n a) := ⟨fun _ _ _ => rfl, fun _ _ => rfl, aQ⟩
open Go.RowKit in
theorem aS : (∀ (a : Act) (d : Tmp) (v : Value), a.put (some d) v = { a with tmps := a.tmps.setIfInBounds d v }) ∧ (∀ (a : Act) (v : Value), a.put none v = a) ∧ (∀ (α : Type) (l : List α) (i : Nat) (h : i < l.toArray.size), l.toArray[i] = l[i]'h) ∧ (∀ (α : Type) (x : α) (l : List α) (h : 0 < (x :: l).length), (x :: l)[0] = x) ∧ (∀ (α : Type) (x : α) (l : List α) (n : Nat) (h : n + 1 < (x :: l).length), (x :: l)[n + 1] = l[n]'(Nat.lt_of_succ_lt_succ h)) ∧ (∀ (α : Type) (l : List α) (i : Nat) (a : α), l.toArray.setIfInBounds i a = (l.set i a).toArray) ∧ (∀ (α : Type) (x : α) (l : List α) (a : α), (x :: l).set 0 a = a :: l) ∧ (∀ (α : Type) (x : α) (l : List α) (n : Nat) (a : α), (x :: l).set (n + 1) a = x :: l.set n a) := ⟨fun _ _ _ => rfl, fun _ _ => rfl, aP⟩
section
open Go.RowKit
def contB (m:Nat):UInt8:=UInt8.ofNat (m % 128 + 128)
def lastB (m:Nat):UInt8:=UInt8.ofNat m
def encN (n:Nat):List UInt8:=if h:n<128 then [lastB n] else contB n :: encN (n / 128)
termination_by n
decreasing_by omega
theorem encN_lt {n:Nat} (h:n<128):encN n=[lastB n]:=by rw [encN,dif_pos h]
theorem encN_ge {n:Nat} (h:128≤n):encN n=contB n :: encN (n / 128):=by rw [encN,dif_neg (by omega)]
theorem encN_len (k n:Nat) (h:n<128 ^ (k + 1)):(encN n).length≤k + 1:=by
 induction k generalizing n with
 | zero=>rw [encN_lt (by simpa using h)];simp
 | succ k ih =>
   by_cases h1:n<128
   · rw [encN_lt h1];simp
   · rw [encN_ge (by omega)]
     have:n / 128<128 ^ (k + 1):=by
      rw [Nat.div_lt_iff_lt_mul (by omega)]
      rw [Nat.pow_succ] at h;exact h
     have:=ih _ this
     simp;omega
theorem encN_len64 (n:Nat) (h:n<18446744073709551616):(encN n).length≤10:=encN_len 9 n (by omega)
theorem encN_pos (n:Nat):0<(encN n).length:=by
 by_cases h:n<128
 · rw [encN_lt h];simp
 · rw [encN_ge (by omega)];simp
theorem hidp {p:Prop} (h:p):Hid p:=h
theorem hT:Hid True:=hidp trivial
def bv (l:List UInt8):List Value:=l.map fun b=>.int .u8 b.toNat
theorem bv_append (a b:List UInt8):bv (a++b)=bv a++bv b:=by simp [bv]
theorem bv_one (b:UInt8):bv [b]=[.int .u8 b.toNat]:=rfl
def Own (w:World) (B e:Nat) (v:Value) (l:List UInt8):Prop:=w.ownsRow B e 1 v l.length (bv l)
theorem Own.nil (w:World) (B e:Nat):Own w B e (.slice none 0 0) []:=World.ownsRow_nil w B e 1
theorem Own.kept {w w':World} {B C e:Nat} {v:Value} {l:List UInt8} (h:Own w B e v l) (hb:Below C w w') (hC:w.heap.size≤C):Own w' B e v l:=by
 refine ⟨h.1,?_⟩
 rcases h.2 with hn | ⟨g,cap,cur,rfl,hb',hgg,rest⟩
 · exact .inl hn
 · refine .inr ⟨g,cap,cur,rfl,hb',?_,rest⟩
   rw [hb.block g (by have:=(Array.getElem?_eq_some_iff.1 hgg).1;omega)]
   exact hgg
theorem Own.alloc {w:World} {B e:Nat} {v:Value} {l:List UInt8} (h:Own w B e v l) (o:Obj):Own (w.alloc o) B e v l:=World.ownsRow.alloc h o
theorem wpList_app1 {P:Program} {w:World} {ops:Array Oper} {rest:List Oper} {o:Oper} {a:Act} {Q:Exit→Act→World→Prop} (hgd:o.guard=none) (s x:Operand) (t:TypeId)
 (ho:o.op=.call { callee:=.builtin .append,args:=#[s,x],argTypes:=#[t,t] }) (B e:Nat) (i:TypeInfo) (ht:P.underlying t=some (.slice e)) (hi:P.info? e=some i)
 (hz0:i.zero=some (.int .u8 0)) (hz1:i.size=1) (hz2:i.bytes=1) (v:Value) (l:List UInt8) (hs:a.eval s=v) (hown:Own w B e v l) (ad:Addr) (c:Nat) (z:Int) (b:UInt8)
 (hx:a.eval x=.slice (some ad) 1 c) (hc:w.cell? ad=some (.int .u8 z)) (hz:z=b.toNat) (hlen:l.length + 1≤140737488351232) (hB:B≤w.heap.size)
 (h:∀ v' w',Own w' B e v' (l++[b])→Below B w w'→wpList P ops Q rest (a.put o.dst v') w'):wpList P ops Q (o :: rest) a w:=by
 subst hz
 refine wpList_append_own w hgd s x t ho B e i (.int .u8 0) 1 1 ht hi hz0 hz1 hz2 rfl (by decide) v l.length (bv l) hs hown ad 1 c [.int .u8 b.toNat] hx rfl ?_ ?_ (by unfold maxLen;omega) (by omega) hB ?_
 · intro j u hj
   match j,hj with
   | 0,hj=>simp at hj;subst hj;simpa [Addr.add] using hc
 · intro u hu;simp at hu;subst hu;rfl
 · intro v' w' h1 h2 _
   refine h v' w' ?_ ((Below.refl B w).grown h2 hB fun k hk=>(World.ownsRow.lt hown k hk).1)
   unfold Own;rw [bv_append,bv_one,List.length_append];exact h1
theorem u8n (n:Nat) (h:n<256):(UInt8.ofNat n).toNat=n:=by simp [UInt8.toNat_ofNat'];omega
theorem cell_new1 (w:World) (z:Value) (e:Nat) (fz:Nat × Nat:=(0,0)):(w.alloc (.cells #[z] e fz)).cell? ⟨w.heap.size,0,none⟩=some z:=by
 have h:(w.alloc (.cells #[z] e fz)).heap[w.heap.size]?=some (.cells #[z] e fz):=heap_alloc_new w _
 unfold World.cell?;dsimp only;rw [h];rfl
def mkS (l:List UInt8):ByteArray:=⟨l.toArray⟩
theorem mkS_size (l:List UInt8):(mkS l).size=l.length:=by simp [mkS,ByteArray.size]
theorem mkS_append (a b:List UInt8):mkS a++mkS b=mkS (a++b):=by unfold mkS;exact ByteArray.mk_append_mk a b
theorem mkS_of (s:ByteArray):mkS s.data.toList=s:=rfl
theorem mkS_data (l:List UInt8):(mkS l).data.toList=l:=rfl
theorem nums_mkS (l:List UInt8):strOfNums (l.map fun b=>(b.toNat:Int))=mkS l:=by
 unfold mkS strOfNums
 congr 2
 rw [List.map_map]
 conv=>rhs;rw [← List.map_id l]
 apply List.map_congr_left
 intro b _
 simp
def AtB (w:World) (a:Addr) (l:List UInt8):Prop:=∀ i,i<l.length→w.cell? ⟨a.block,a.off + i,none⟩=some (.int .u8 (l.getD i 0).toNat)
theorem run_str_at {P:Program} {w:World} {src e dst:TypeId} (hs:P.underlying src=some (.slice e)) (he:P.underlying e=some (.int .u8)) (hd:P.underlying dst=some .string)
 (b off cap:Nat) (l:List UInt8) (h:AtB w ⟨b,off,none⟩ l):(convert src dst (.slice (some ⟨b,off,none⟩) l.length cap)).run P w=.ok (.string (mkS l)) w:=by
 rw [← nums_mkS]
 refine run_convert_bytes_arg w src e hs he b off l.length cap (l.map fun b=>(b.toNat:Int)) (by simp) (fun i hi=>?_) dst hd
 rw [h i hi]
 simp [List.getD_eq_getElem?_getD,hi]
theorem Own.at {w:World} {B e:Nat} {g cap:Nat} {l:List UInt8} (h:Own w B e (.slice (some ⟨g,0,none⟩) l.length cap) l):AtB w ⟨g,0,none⟩ l:=by
 intro i hi
 have:=World.ownsRow.cells h (g:=g) rfl i (.int .u8 (l.getD i 0).toNat) (by simp [bv,hi,List.getD_eq_getElem?_getD])
 have e:(⟨g,0,none⟩:Addr).add i=⟨g,0 + i,none⟩:=by unfold Addr.add;split <;> simp_all
 rw [e] at this;exact this
theorem run_str_own {P:Program} {w:World} {src e dst:TypeId} (hs:P.underlying src=some (.slice e)) (he:P.underlying e=some (.int .u8)) (hd:P.underlying dst=some .string)
 {B:Nat} {v:Value} {l:List UInt8} (h:Own w B e v l):(convert src dst v).run P w=.ok (.string (mkS l)) w:=by
 have h':=h
 rcases h'.2 with ⟨rfl,hn⟩ | ⟨g,cap,cur,rfl,_⟩
 · have:l=[]:=List.eq_nil_of_length_eq_zero hn
   subst this
   exact run_convert_bytes_nil w src e hs he 0 0 dst hd
 · exact run_str_at hs he hd g 0 cap l h.at
theorem run_str_one {P:Program} {w:World} {src e dst:TypeId} (hs:P.underlying src=some (.slice e)) (he:P.underlying e=some (.int .u8)) (hd:P.underlying dst=some .string)
 (z:Int) (b:UInt8) (hz:z=b.toNat):(convert src dst (.slice (some ⟨w.heap.size,0,none⟩) 1 1)).run P (w.alloc (.cells #[.int .u8 z] e))=.ok (.string (mkS [b])) (w.alloc (.cells #[.int .u8 z] e)):=by
 refine run_str_at hs he hd w.heap.size 0 1 [b] fun i hi=>?_
 obtain rfl:i=0:=by simpa using hi
 have:=cell_new1 w (.int .u8 z) e
 rw [hz] at this ⊢
 simp only [Nat.add_zero];exact this
theorem heap_size_alloc (w:World) (o:Obj):(w.alloc o).heap.size=w.heap.size + 1:=by simp
theorem and127_u64 (m:Nat) (h:m<18446744073709551616):bits .and .u64 (m:Int) 127=((m % 128:Nat):Int):=by
 have:=Go.u64_and_nat m 127 h (by omega)
 rw [show ((127:Nat):Int)=127 from rfl] at this
 rw [this,show m &&& 127=m % 128 from Nat.and_two_pow_sub_one_eq_mod m 7]
theorem or128 (a:Nat) (h:a<128):a ||| 128=a + 128:=by
 have:=Nat.two_pow_add_eq_or_of_lt (i:=7) (b:=a) (by simpa using h) 1
 rw [Nat.or_comm];simpa [Nat.add_comm] using this.symm
theorem cont_byte (m:Nat) (h:m<18446744073709551616):bits .or .u8 (bits .and .u64 (m:Int) 127 % 256) 128=((contB m).toNat:Int):=by
 rw [and127_u64 m h]
 have:=Go.u8_or_nat (m % 128) 128 (by omega) (by omega)
 rw [show (((m % 128:Nat):Int) % 256)=((m % 128:Nat):Int) from by omega]
 rw [show ((128:Nat):Int)=128 from rfl] at this
 rw [this,or128 _ (by omega)];unfold contB;rw [u8n _ (by omega)]
theorem last_byte (m:Nat) (h:m<128):(m:Int)=((lastB m).toNat:Int):=by unfold lastB;rw [u8n _ (by omega)]
theorem snoc_encN (m:Nat) (ys zs:List UInt8) (h:128≤m) (e:ys++encN m=zs):(ys++[contB m])++encN (m / 128)=zs:=by
 rw [← e,encN_ge h];simp
theorem last_encN (m:Nat) (ys zs:List UInt8) (h:m<128) (e:ys++encN m=zs):ys++[lastB m]=zs:=by
 rw [← e,encN_lt h]
def valN:List UInt8→Nat
 | []=>0
 | b :: r=>b.toNat % 128 + 128 * valN r
def gnAux:Nat→Nat→Nat→List UInt8→Nat × Nat × Nat
 | 0,_,_,_=>(0,0,6)
 | _ + 1,_,_,[]=>(0,0,5)
 | k + 1, i, acc, b :: r =>
   if 128≤b.toNat then gnAux k (i + 1) (acc + b.toNat % 128 * 128 ^ i) r
   else if 0<i∧b.toNat=0∨281474976710656<acc + b.toNat % 128 * 128 ^ i then (0,0,6)
   else (acc + b.toNat % 128 * 128 ^ i,i + 1,0)
def gn (l:List UInt8):Nat × Nat × Nat:=gnAux 7 0 0 l
theorem valN_snoc (p:List UInt8) (b:UInt8):valN (p++[b])=valN p + b.toNat % 128 * 128 ^ p.length:=by
 induction p with
 | nil=>simp [valN]
 | cons a p ih=>simp only [List.cons_append,valN,ih,List.length_cons,Nat.pow_succ];rw [Nat.mul_add,Nat.add_assoc];congr 2;rw [Nat.mul_left_comm,Nat.mul_comm 128]
theorem enc_val (p:List UInt8) (b:UInt8) (hp:∀ x ∈ p,128≤x.toNat) (hb:b.toNat<128) (h:p=[]∨b.toNat≠0):encN (valN (p++[b]))=p++[b]:=by
 induction p with
 | nil =>
   have e:valN ([]++[b])=b.toNat:=by simp [valN];omega
   rw [e,encN_lt hb];simp [lastB]
 | cons a p ih =>
   have ha:=hp a (by simp)
   have ha2:=a.toNat_lt
   have hpos:0<valN (p++[b]):=by
    have hb':b.toNat≠0:=by simpa using h
    rw [valN_snoc]
    have:0<b.toNat % 128 * 128 ^ p.length:=Nat.mul_pos (by omega) (Nat.pow_pos (by omega))
    omega
   have e:valN ((a :: p)++[b])=a.toNat % 128 + 128 * valN (p++[b]):=rfl
   rw [e,encN_ge (by omega)]
   have e1:(a.toNat % 128 + 128 * valN (p++[b])) / 128=valN (p++[b]):=by omega
   have e2:contB (a.toNat % 128 + 128 * valN (p++[b]))=a:=by
    unfold contB
    rw [show (a.toNat % 128 + 128 * valN (p++[b])) % 128 + 128=a.toNat from by omega]
    simp
   rw [e1,e2,ih (fun x hx=>hp x (by simp [hx])) (by right;simpa using h)]
   rfl
theorem pow128 (i:Nat):128 ^ i=2 ^ (7 * i):=by rw [Nat.pow_mul]
theorem pow128_le {i j:Nat} (h:i≤j):128 ^ i≤128 ^ j:=Nat.pow_le_pow_right (by omega) h
theorem mul128_lt (c i:Nat) (hc:c<128):c * 128 ^ i<128 ^ (i + 1):=by rw [Nat.pow_succ,Nat.mul_comm];exact Nat.mul_lt_mul_of_pos_left hc (Nat.pow_pos (by omega))
theorem and127_u8 (b:Nat) (h:b<256):bits .and .u8 (b:Int) 127=((b % 128:Nat):Int):=by
 have:=Go.u8_and_nat b 127 h (by omega)
 rw [show ((127:Nat):Int)=127 from rfl] at this
 rw [this,show b &&& 127=b % 128 from Nat.and_two_pow_sub_one_eq_mod b 7]
theorem and128_u8:∀ b:Fin 256,(bits .and .u8 (b.val:Int) 128 != 0)=decide (128≤b.val):=by decide +kernel
theorem and128_yes (b:Nat) (h:b<256) (h1:128≤b):(bits .and .u8 (b:Int) 128 != 0)=true:=by
 have:=and128_u8 ⟨b,h⟩;simp only [this];simpa using h1
theorem and128_no (b:Nat) (h1:b<128):(bits .and .u8 (b:Int) 128 != 0)=false:=by
 have:=and128_u8 ⟨b,by omega⟩;simp only [this];simpa using h1
theorem or_step (acc b i:Nat) (hb:b<256) (hi:i<7) (ha:acc<128 ^ i) :
 bits .or .u64 (acc:Int) (IntKind.u64.wrap (IntKind.u64.wrap (bits .and .u8 (b:Int) 127) * 2 ^ (7 * i)))=((acc + b % 128 * 128 ^ i:Nat):Int):=by
 have h6:128 ^ (i + 1)≤128 ^ 7:=pow128_le (by omega)
 have h7:(128:Nat) ^ 7=562949953421312:=by decide
 have hm:=mul128_lt (b % 128) i (by omega)
 have hi1:128 ^ i≤128 ^ 7:=pow128_le (by omega)
 have e2:((2:Int) ^ (7 * i))=((128 ^ i:Nat):Int):=by rw [pow128];simp
 rw [and127_u8 b hb,e2]
 rw [show IntKind.u64.wrap ((b % 128:Nat):Int)=((b % 128:Nat):Int) from IntWalk.u64_in _ ⟨by omega,by omega⟩]
 rw [← Int.natCast_mul]
 rw [show IntKind.u64.wrap ((b % 128 * 128 ^ i:Nat):Int)=((b % 128 * 128 ^ i:Nat):Int) from IntWalk.u64_in _ ⟨by omega,by omega⟩]
 rw [Go.bits_or_u64_nat acc (b % 128 * 128 ^ i) (by omega) (by omega)]
 have:=Nat.two_pow_add_eq_or_of_lt (i:=7 * i) (b:=acc) (by rw [← pow128];exact ha) (b % 128)
 rw [← pow128] at this
 rw [Nat.mul_comm (b % 128),Nat.or_comm,← this,Nat.add_comm]
theorem acc_lt (acc b i:Nat) (ha:acc<128 ^ i):acc + b % 128 * 128 ^ i<128 ^ (i + 1):=by
 have h:b % 128 * 128 ^ i≤127 * 128 ^ i:=Nat.mul_le_mul_right _ (by omega)
 rw [Nat.pow_succ];omega
theorem drop_byte (s:ByteArray) (i:Nat) (h:i<s.size):s.data.toList.drop i=s[i]'h :: s.data.toList.drop (i + 1):=by
 rw [List.drop_eq_getElem_cons (by simpa using h)];rfl
theorem drop_end (s:ByteArray) (i:Nat) (h:s.size≤i):s.data.toList.drop i=[]:=by
 apply List.drop_eq_nil_of_le;simpa using h
end
section
open Go.RowKit
def Arr (w:World) (b t:Nat) (xs:List Value):Prop:=w.heap[b]?=some (.cells xs.toArray t (0,0))
theorem Arr.lt {w:World} {b t:Nat} {xs:List Value} (h:Arr w b t xs):b<w.heap.size:=(Array.getElem?_eq_some_iff.1 h).1
theorem Arr.cell {w:World} {b t:Nat} {xs:List Value} (h:Arr w b t xs) (i:Nat) (hi:i<xs.length):w.cell? ⟨b,i,none⟩=some xs[i]:=by
 unfold World.cell?;dsimp only;rw [show w.heap[b]?=_ from h];simp [hi]
theorem Arr.frozen {w:World} {b t:Nat} {xs:List Value} (h:Arr w b t xs) (i:Nat):w.frozen? ⟨b,i,none⟩=false:=by
 unfold World.frozen?;dsimp only;rw [show w.heap[b]?=_ from h];simp
theorem Arr.set {w:World} {b t:Nat} {xs:List Value} (h:Arr w b t xs) (i:Nat) (v:Value):Arr (w.setCell ⟨b,i,none⟩ v) b t (xs.set i v):=by
 unfold Arr World.setCell
 rw [Array.getElem?_modify,if_pos rfl,show w.heap[b]?=_ from h]
 simp [List.setIfInBounds_toArray]
theorem Arr.below {w w':World} {b t B:Nat} {xs:List Value} (h:Arr w b t xs) (hb:Below B w w') (hB:b<B):Arr w' b t xs:=(hb.block b hB).trans h
theorem Arr.other {w:World} {b t:Nat} {xs:List Value} (h:Arr w b t xs) (a:Addr) (hne:b≠a.block) (v:Value):Arr (w.setCell a v) b t xs:=(Below.heap_setCell w a v b hne).trans h
theorem Arr.alloc {w:World} {b t:Nat} {xs:List Value} (h:Arr w b t xs) (o:Obj):Arr (w.alloc o) b t xs:=(Below.heap_alloc w o b h.lt).trans h
theorem Arr.new (w:World) (t:Nat) (xs:List Value):Arr (w.alloc (.cells xs.toArray t)) w.heap.size t xs:=heap_alloc_new w _
theorem Arr.row {w:World} {b t:Nat} {xs:List Value} (h:Arr w b t xs) (ys:List Value):Arr (w.setRow b ys.toArray) b t ys:=setRow_heap w b _ _ t (0,0) h
theorem Arr.row_other {w:World} {b t:Nat} {xs:List Value} (h:Arr w b t xs) (g:Nat) (hne:b≠g) (ys:Array Value):Arr (w.setRow g ys) b t xs:=(setRow_other w g b ys hne).trans h
theorem below_setRow {B:Nat} {a w:World} (h:Below B a w) {g:Nat} (hg:B≤g) (ys:Array Value):Below B a (w.setRow g ys):=h.trans ⟨rfl,rfl,rfl,by simp,fun k hk=>setRow_other w g k ys (by omega)⟩
def u8s (l:List UInt8):List Value:=l.map fun b=>.int .u8 b.toNat
theorem u8s_length (l:List UInt8):(u8s l).length=l.length:=by simp [u8s]
theorem u8s_get (l:List UInt8) (i:Nat) (h:i<(u8s l).length):(u8s l)[i]=.int .u8 (((l.getD i 0).toNat:Nat):Int):=by
 have h':i<l.length:=by simpa [u8s] using h
 simp [u8s,List.getD_eq_getElem?_getD,h']
theorem u8s_one (l:List UInt8):(u8s l).toArray.all (·.oneCell')=true:=by simp [u8s,Value.oneCell']
theorem results_row_tmp {P:Program} {fn:Func} {p u:Tmp} {ty:TypeId} (h:fn.results=#[.cell p ty,.tmp u]) (tmps:Array Value) (w:World) (g:Nat) (t:TypeId) (cs:Array Value) (fr:Nat × Nat) (d:TypeDesc)
 (hp:tmps.getD p undef=.pointer (some ⟨g,0,none⟩)) (hg:w.heap[g]?=some (.cells cs t fr))
 (hu:P.underlying ty=some d) (hd:(match d with | .struct _ | .array _ _=>true | _=>false)=true) (hi:(P.info? ty).map (·.size)=some cs.size) (v:Value) (hv:tmps.getD u undef=v) :
 (results fn tmps).run P w=.ok (.tuple #[.agg cs,v]) w:=by
 have hp':tmps[p]?.getD undef=.pointer (some ⟨g,0,none⟩):=by simpa using hp
 have hv':tmps[u]?.getD undef=v:=by simpa using hv
 simp [results,h,hp',hv',asAddr,run_loadVar_row w g t ty cs fr d hg hu hd hi]
theorem Arr.range {w:World} {b t:Nat} {xs:List Value} (h:Arr w b t xs):w.rangeAt b 0 xs:=by
 intro j v hv
 rw [Nat.zero_add,cell_of_row w b j _ t _ h];simpa using hv
theorem rangeAt_below {w w':World} {b o B:Nat} {cs:List Value} (h:w.rangeAt b o cs) (hb:Below B w w') (hB:b<B):w'.rangeAt b o cs :=
 fun j v hv=>(hb.cell (p:=⟨b,o + j,none⟩) hB).trans (h j v hv)
section
variable {P:Program} {ops:Array Oper} {C:World→Prop} {Q:Act→Prop} {a:Act} {o:Oper} {rest:List Oper}
theorem q_val {v:Value} (hw:Region.wanted o (yielded ops a.tmps)=true) (hv:∀ w,C w→(execOp a.eval o).run P w=.ok (.value v) w) (h:wpQuiet P ops C Q rest (a.put o.dst v)):wpQuiet P ops C Q (o :: rest) a :=
 wpQuiet_step fun K hK=>by
  rw [if_pos hw]
  exact ⟨v,fun w hC=>by unfold Oper.quietAt;rw [hv w hC];exact ⟨rfl,rfl⟩,hK _ h⟩
theorem q_call {v:Value} (hw:Region.wanted o (yielded ops a.tmps)=true) (f:FuncId) (args:Array Value) (hop:∀ w,(execOp a.eval o).run P w=.ok (.enter f args) w)
 (hc:∀ w,C w→Calls P f args w fun e w'=>e=.returned v∧C w') (h:wpQuiet P ops C Q rest (a.put o.dst v)):wpQuiet P ops C Q (o :: rest) a :=
 wpQuiet_step fun K hK=>by
  rw [if_pos hw]
  exact ⟨v,fun w hC=>by unfold Oper.quietAt;rw [hop w];exact ⟨rfl,hc w hC⟩,hK _ h⟩
end
theorem wpList_load_row_g {P:Program} {ops:Array Oper} {rest:List Oper} {o:Oper} {a:Act} {w:World} {Q:Exit→Act→World→Prop} (hw:Region.wanted o (yielded ops a.tmps)=true) (ty:TypeId) (x:Operand) (ho:o.op=.load ty x)
 (g:Nat) (hx:a.eval x=.pointer (some ⟨g,0,none⟩)) (t:TypeId) (cs:Array Value) (fr:Nat × Nat) (d:TypeDesc) (hg:w.heap[g]?=some (.cells cs t fr))
 (hu:P.underlying ty=some d) (hd:(match d with | .struct _ | .array _ _=>true | _=>false)=true) (hi:(P.info? ty).map (·.size)=some cs.size)
 (h:wpList P ops Q rest (a.put o.dst (.agg cs)) w):wpList P ops Q (o :: rest) a w :=
 wpList_step fun K hK=>by rw [if_pos hw];exact wp_load_row ty x ho g hx t cs fr d hg hu hd hi (hK _ _ h)
def Cls (N:Nat) (W w:World):Prop:=Below N W w
theorem Cls.range {N:Nat} {W w:World} (h:Cls N W w) {b:Nat} {cs:List Value} (hr:W.rangeAt b 0 cs) (hb:b<N):w.rangeAt b 0 cs:=rangeAt_below hr h hb
theorem Cls.step {N:Nat} {W w w':World} (h:Cls N W w) (hN:N≤W.heap.size) (hb:Below w.heap.size w w'):Cls N W w':=Below.trans h (hb.mono (Nat.le_trans hN (Below.size h)))
theorem Cls.start (W:World) (n:Nat):Cls W.heap.size W { W with drawn:=n }:=⟨rfl,rfl,rfl,Nat.le_refl _,fun _ _=>rfl⟩
section
variable {P:Program} {ops:Array Oper} {md:Region.Mode} {C:World→Prop} {Q:Exit→Act→World→Prop}
def waits (md:Region.Mode) (ops:Array Oper):Nat→Nat→Nat→Bool
 | 0,_,_=>false
 | fuel + 1, j, i => match ops[j]? with
   | some o=>o.after.any fun e=>Region.binds md e && (e.on == i || waits md ops fuel e.on i)
   | none=>false
def Closed (md:Region.Mode) (ops:Array Oper) (listed:Array Bool):Prop :=
 ∀ j o,ops[j]?=some o→listed.getD j false=true→∀ e ∈ o.after,Region.binds md e=true→listed.getD e.on false=true
theorem waits_listed {listed:Array Bool} (hc:Closed md ops listed):∀ (fuel j i:Nat),(∀ o,ops[j]?=some o→∀ e ∈ o.after,Region.binds md e=true→listed.getD e.on false=true)→waits md ops fuel j i=true→listed.getD i false=true
 | 0,_,_,_,h=>by cases h
 | fuel + 1, j, i, hj, h => by
   unfold waits at h
   cases ho:ops[j]? with
   | none=>rw [ho] at h;cases h
   | some o =>
     rw [ho] at h
     obtain ⟨e,he,hb⟩:=Array.any_eq_true'.1 h
     simp only [Bool.and_eq_true,Bool.or_eq_true,beq_iff_eq] at hb
     have hl:=hj o ho e he hb.1
     rcases hb.2 with rfl | hw
     · exact hl
     · exact waits_listed hc fuel e.on i (fun o' ho' e' he' hb'=>hc e.on o' ho' hl e' he' hb') hw
theorem Closed.set {listed:Array Bool} (hc:Closed md ops listed) {i:Nat} (hi:i ∈ Region.ready md ops listed):Closed md ops (listed.setIfInBounds i true):=by
 intro j o ho hl e he hb
 obtain ⟨_,oi,hoi,hall⟩:=mem_ready.1 hi
 by_cases hji:i=j
 · subst hji
   rw [hoi] at ho;cases ho
   exact getD_set_true (hall e he hb)
 · rw [getD_set_ne false hji] at hl
   exact getD_set_true (hc j o ho hl e he hb)
def first (m n:Nat):Array Bool:=((List.range n).map fun i=>decide (i<m)).toArray
theorem first_getD (m n i:Nat) (h:i<n) (d:Bool):(first m n).getD i d=decide (i<m):=by simp [first,h]
theorem first_size (m n:Nat):(first m n).size=n:=by simp [first]
theorem first_set (m n:Nat):(first m n).setIfInBounds m true=first (m + 1) n:=by
 apply Array.ext (by simp [first])
 intro i h1 h2
 simp [first,Array.getElem_setIfInBounds] at h1 ⊢
 by_cases h:m=i
 · simp [h]
 · simp [h];omega
theorem first_zero (n:Nat):first 0 n=Array.replicate n false:=by
 refine Array.ext (by simp [first]) fun i h1 h2=>?_
 simp [first]
def mark (k:Nat) (listed:Array Bool):Array Bool:=listed.mapIdx fun i b=>b || decide (k≤i)
theorem mark_getD (k:Nat) (listed:Array Bool) (i:Nat) (d:Bool) (h:i<listed.size):(mark k listed).getD i d=(listed.getD i d || decide (k≤i)):=by
 simp [mark,h]
theorem mark_size (k:Nat) (listed:Array Bool):(mark k listed).size=listed.size:=by simp [mark]
theorem mark_set (k:Nat) (listed:Array Bool) (i:Nat):mark k (listed.setIfInBounds i true)=(mark k listed).setIfInBounds i true:=by
 refine Array.ext (by simp [mark]) fun j h1 h2=>?_
 by_cases h:i=j <;> simp [mark,Array.getElem_setIfInBounds,h]
def lexTo (md:Region.Mode) (ops:Array Oper):Nat→Nat→Array Bool→Bool
 | 0,_,listed=>(Region.ready md ops listed).isEmpty
 | m + 1,k,listed=>(Region.ready md ops listed).contains k && Region.free md ops listed k && lexTo md ops m (k + 1) (listed.setIfInBounds k true)
theorem lexTo_any {Q:Act→Prop} (hs:Region.noSelect ops=true):∀ (l:List Oper) (k:Nat) (listed:Array Bool) (a:Act),(∀ j,j<l.length→l[j]?=ops[k + j]?) →
 lexTo md ops l.length k listed=true→wpQuiet P ops C Q l a→wpAnyQ P md ops C Q l.length listed a
 | [],_,_,_,_,hB,h=>⟨by simpa [lexTo] using hB,h⟩
 | o :: l, k, listed, a, hl, hB, h => by
   have h0:ops[k]?=some o:=by simpa using (hl 0 (by simp)).symm
   simp only [List.length_cons,lexTo,Bool.and_eq_true] at hB
   obtain ⟨⟨hr,hf⟩,hB'⟩:=hB
   have hst:qOp P ops C k (wpQuiet P ops C Q l) a:=by unfold qOp;simp only [h0];exact h
   obtain ⟨v,hy,hK⟩:=yieldsIn_of_qOp h0 hst
   exact wpAnyQ_first h0 (Region.noSelect_spec hs) l.length listed a (Region.free_spec h0 hf) (by simpa using hr) hy
    (lexTo_any hs l (k + 1) _ _ (fun j hj=>by have:=hl (j + 1) (by simpa using hj);simpa [Nat.add_assoc,Nat.add_comm 1 j] using this) hB' hK)
theorem wpAny_more:∀ (fuel:Nat) (listed:Array Bool) (a:Act) (w:World),wpAny P md ops Q fuel listed a w→∀ m,fuel≤m→wpAny P md ops Q m listed a w
 | 0,_,_,_,h,m,_=>wpAny_done h.1 h.2 m
 | fuel + 1, _, _, _, h, m, hm => by
   obtain ⟨m,rfl⟩:∃ k,m=k + 1:=⟨m - 1,by omega⟩
   exact ⟨h.1,fun i hi=>wpOp_mono (fun a w h=>wpAny_more fuel _ a w h m (by omega)) (h.2 i hi)⟩
def tailB (md:Region.Mode) (ops:Array Oper):Nat→Nat→Bool
 | 0,j=>(Region.ready md ops (first j ops.size)).isEmpty
 | m + 1,j=>decide (Region.ready md ops (first j ops.size)=[j]) && tailB md ops m (j + 1)
theorem last_any:∀ (r:List Oper) (j:Nat) (a:Act) (w:World),(∀ i,i<r.length→r[i]?=ops[j + i]?)→tailB md ops r.length j=true→wpList P ops Q r a w→wpAny P md ops Q r.length (first j ops.size) a w
 | [],j,a,w,_,hB,h=>wpAny_done (by simpa [tailB] using hB) h 0
 | o :: r, j, a, w, hr, hB, h => by
   simp only [List.length_cons,tailB,Bool.and_eq_true,decide_eq_true_iff] at hB
   refine wpAny_all hB.1 (by simp) fun i hi=>?_
   obtain rfl:i=j:=by simpa using hi
   have h0:ops[i]?=some o:=by simpa using (hr 0 (by simp)).symm
   unfold wpOp
   simp only [h0]
   have key:=fun a w=>last_any r (i + 1) a w (fun q hq=>by have:=hr (q + 1) (by simpa using hq);simpa [Nat.add_assoc,Nat.add_comm 1 q] using this) hB.2
   rw [first_set]
   unfold wpList at h
   split
   · rename_i hw
     rw [if_pos hw] at h
     exact h.imp (Oper.wp_mono key) id
   · rename_i hw
     rw [if_neg hw] at h
     exact key _ _ h
theorem both_any {k:Nat} (hk:k≤ops.size) (hback:∀ (j:Nat) o,ops[j]?=some o→∀ e ∈ o.after,Region.binds md e=true→e.on<j)
 (hlate:∀ j,k≤j→j<ops.size→∀ i,i<k→waits md ops ops.size j i=true) {Qm:Act→Prop} {fuel2:Nat}
 (hq:∀ a w,C w→Qm a→wpAny P md ops Q fuel2 (first k ops.size) a w) :
 ∀ (fuel:Nat) (listed:Array Bool) (a:Act) (w:World),listed.size=ops.size→(∀ j,k≤j→listed.getD j false=false)→Closed md ops listed→C w→wpAnyQ P md ops C Qm fuel (mark k listed) a→wpAny P md ops Q (fuel + fuel2) listed a w:=by
 have hall:∀ listed:Array Bool,listed.size=ops.size→(∀ j,k≤j→listed.getD j false=false)→Region.ready md ops (mark k listed)=[]→listed=first k ops.size:=by
  intro listed hs ht hr
  have hpre:∀ i,i<k→listed.getD i false=true:=by
   intro i
   induction i using Nat.strongRecOn with
   | ind i ih =>
     intro hi
     by_cases hl:listed.getD i false=true
     · exact hl
     · exfalso
       obtain ⟨o,ho⟩:∃ o,ops[i]?=some o:=⟨ops[i]'(by omega),by simp⟩
       have:i ∈ Region.ready md ops (mark k listed):=mem_ready.2 ⟨by
        rw [mark_getD _ _ _ _ (by omega)]
        have:listed.getD i true=false:=by
         have h1:i<listed.size:=by omega
         simp [h1] at hl ⊢;exact hl
        rw [this];simp;omega,o,ho,fun e he hb=>by
        have hlt:=hback i o ho e he hb
        rw [mark_getD _ _ _ _ (by omega),ih e.on hlt (by omega)];rfl⟩
       rw [hr] at this;cases this
  apply Array.ext (by rw [hs,first_size])
  intro i h1 h2
  by_cases hik:i<k
  · have:=hpre i hik
    simp [h1] at this
    simp [first,this,hik]
  · have:=ht i (by omega)
    simp [h1] at this
    simp [first,this,hik]
 intro fuel
 induction fuel with
 | zero =>
   intro listed a w hs ht hc hw h
   obtain ⟨hr,hQ⟩:=h
   rw [hall listed hs ht hr,Nat.zero_add]
   exact hq a w hw hQ
 | succ fuel ih =>
   intro listed a w hs ht hc hw h
   by_cases hr:Region.ready md ops (mark k listed)=[]
   · rw [hall listed hs ht hr]
     exact wpAny_more fuel2 _ _ _ (hq a w hw (h.1 hr)) _ (by omega)
   · rw [show fuel + 1 + fuel2=(fuel + fuel2) + 1 from by omega]
     have hpick:∀ i ∈ Region.ready md ops listed,i<k∧i ∈ Region.ready md ops (mark k listed):=by
      intro i hi
      obtain ⟨hun,o,ho,hal⟩:=mem_ready.1 hi
      have hio:i<ops.size:=(Array.getElem?_eq_some_iff.1 ho).1
      by_cases hik:i<k
      · refine ⟨hik,mem_ready.2 ⟨?_,o,ho,fun e he hb=>?_⟩⟩
        · rw [mark_getD _ _ _ _ (by omega),hun];simp;omega
        · have hlt:=hback i o ho e he hb
          rw [mark_getD _ _ _ _ (by omega),hal e he hb];rfl
      · exfalso
        apply hr
        have hfull:∀ q,q<k→listed.getD q false=true:=fun q hqk =>
         waits_listed hc ops.size i q (fun o' ho' e he hb=>by rw [ho] at ho';cases ho';exact hal e he hb) (hlate i (by omega) hio q hqk)
        rw [List.eq_nil_iff_forall_not_mem]
        intro j hj
        obtain ⟨hun',oj,hoj,_⟩:=mem_ready.1 hj
        have hjs:j<ops.size:=(Array.getElem?_eq_some_iff.1 hoj).1
        rw [mark_getD _ _ _ _ (by omega)] at hun'
        simp at hun'
        have:=hfull j (by omega)
        have h1:j<listed.size:=by omega
        simp [h1] at this hun'
        rw [this] at hun';simp at hun'
     refine ⟨fun h0=>?_,fun i hi=>?_⟩
     · exfalso;apply hr
       rw [List.eq_nil_iff_forall_not_mem]
       intro j hj
       obtain ⟨hun',oj,hoj,hal⟩:=mem_ready.1 hj
       have hjs:j<ops.size:=(Array.getElem?_eq_some_iff.1 hoj).1
       rw [mark_getD _ _ _ _ (by omega)] at hun'
       simp only [Bool.or_eq_false_iff,decide_eq_false_iff_not,Nat.not_le] at hun'
       have:j ∈ Region.ready md ops listed:=mem_ready.2 ⟨hun'.1,oj,hoj,fun e he hb=>by
        have hlt:=hback j oj hoj e he hb
        have h2:=hal e he hb
        rw [mark_getD _ _ _ _ (by omega)] at h2
        simp only [Bool.or_eq_true,decide_eq_true_iff] at h2
        rcases h2 with h2 | h2
        · exact h2
        · omega⟩
       rw [h0] at this;cases this
     · obtain ⟨hik,him⟩:=hpick i hi
       refine wpOp_of_qOp hw (fun a' w' hw' hk'=>ih (listed.setIfInBounds i true) a' w' (by simpa using hs) (fun j hj=>by rw [getD_set_ne false (by omega)];exact ht j hj) (hc.set hi) hw' ?_) (h.2 i him)
       rw [mark_set];exact hk'
def thenB (ops:Array Oper) (k:Nat):Bool :=
 Region.noSelect ops && decide (k≤ops.size) && (List.range ops.size).all (fun j=>match ops[j]? with | some o=>o.after.all fun e=>!Region.binds .any e || decide (e.on<j) | none=>true)
 && (List.range ops.size).all (fun j=>!decide (k≤j) || (List.range k).all fun i=>waits .any ops ops.size j i)
 && lexTo .any ops k 0 (mark k (first 0 ops.size)) && tailB .any ops (ops.size - k) k
theorem wp_region_then {id:Nat} {a:Act} {w:World} (k:Nat) (hm:P.follows .mixedOrders=true) (hB:thenB ops k=true) (hC:C { w with drawn:=w.drawn + 1 })
 (h:wpQuiet P ops C (fun a'=>∀ w',C w'→wpList P ops Q (ops.toList.drop k) a' w') (ops.toList.take k) a):(Code.region id ops true).wp P Q a w:=by
 simp only [thenB,Bool.and_eq_true,decide_eq_true_iff] at hB
 obtain ⟨⟨⟨⟨⟨hs,hk⟩,hback⟩,hlate⟩,hlex⟩,hlast⟩:=hB
 have hlt:(ops.toList.take k).length=k:=by simp [hk]
 have hld:(ops.toList.drop k).length=ops.size - k:=by simp
 refine wp_region_any hm ?_
 have h1:=lexTo_any (md:=.any) hs (ops.toList.take k) 0 (mark k (first 0 ops.size)) a (fun j hj=>by rw [hlt] at hj;simp [hj]) (by rw [hlt];exact hlex) h
 have h2:=both_any (P:=P) (Q:=Q) (C:=C) (md:=.any) hk (fun j o ho e he hb=>by
  have:=(List.all_eq_true.1 hback) j (by simp;exact (Array.getElem?_eq_some_iff.1 ho).1)
  rw [ho] at this
  have:=(Array.all_eq_true_iff_forall_mem.1 this) e he
  simpa [hb] using this) (fun j hkj hj i hi=>by
  have:=(List.all_eq_true.1 hlate) j (by simpa using hj)
  simp only [Bool.or_eq_true,Bool.not_eq_true',decide_eq_false_iff_not,List.all_eq_true] at this
  rcases this with h | h
  · omega
  · exact h i (by simpa using hi))
  (fuel2:=ops.size - k) (fun a' w' hw' hq=>by
    have:=last_any (P:=P) (Q:=Q) (md:=.any) (ops.toList.drop k) k a' w' (fun i hi=>by simp) (by rw [hld];exact hlast) (hq w' hw')
    rwa [hld] at this)
  (ops.toList.take k).length (first 0 ops.size) a _ (first_size _ _) (fun j hj=>by
    by_cases hjs:j<ops.size
    · rw [first_getD _ _ _ hjs];simp
    · simp [first,hjs]) (fun j o ho hl=>by
    have hjs:j<ops.size:=(Array.getElem?_eq_some_iff.1 ho).1
    rw [first_getD _ _ _ hjs] at hl;simp at hl) hC h1
 rw [hlt,show k + (ops.size - k)=ops.size from by omega,first_zero] at h2
 exact h2
end
section
variable {P:Program} {ops:Array Oper} {md:Region.Mode} {S:World→Prop} {Q:Exit→Act→World→Prop} {sole:Nat→Bool}
variable {k:Nat} {o:Oper} {rest:List Oper} {a:Act} {w:World}
end
end
section
open Go.RowKit
theorem info5:(Tryz.prog.info? 5).map (fun i=>(i.zero,i.size,i.bytes))=some (some (.int .u8 0),1,1):=by kernel_rfl
def MutB (w:World) (b:Nat) (l:List UInt8):Prop:=b<w.heap.size∧∀ i,i<l.length→w.cell? ⟨b,i,none⟩=some (.int .u8 (l.getD i 0).toNat)∧w.frozen? ⟨b,i,none⟩=false
theorem bytes_below (w:World) (s:ByteArray):Below w.heap.size w (Lib.bytesWorld w 5 s) :=
 ⟨rfl,rfl,rfl,by rw [Lib.bytesWorld_size];exact Nat.le_succ _,fun k hk=>Lib.bytesWorld_at_old w 5 s k hk⟩
end
section
open Go.RowKit
inductive Scr where
 | done:Scr
 | take:Nat→Scr→Scr
 | one:Nat→Scr→Scr
 | two:Nat→Scr→Nat→Scr→Scr
 | three:Nat→Scr→Nat→Scr→Nat→Scr→Scr
 | to:(World→Prop)→Scr→Scr
def Scr.depth:Scr→Nat
 | .done=>0
 | .take _ s=>s.depth + 1
 | .one _ s=>s.depth + 1
 | .two _ s _ t=>max s.depth t.depth + 1
 | .three _ s _ t _ u=>max s.depth (max t.depth u.depth) + 1
 | .to _ s=>s.depth
def Scr.chk (md:Region.Mode) (ops:Array Oper):Scr→Array Bool→Bool
 | .done,L=>(Region.ready md ops L).isEmpty
 | .take k s,L=>(Region.ready md ops L).contains k && Region.free md ops L k && s.chk md ops (L.setIfInBounds k true)
 | .one k s,L=>decide (Region.ready md ops L=[k]) && s.chk md ops (L.setIfInBounds k true)
 | .two k s j t,L=>decide (Region.ready md ops L=[k,j]) && s.chk md ops (L.setIfInBounds k true) && t.chk md ops (L.setIfInBounds j true)
 | .three k s j t i u,L=>decide (Region.ready md ops L=[k,j,i]) && s.chk md ops (L.setIfInBounds k true) && t.chk md ops (L.setIfInBounds j true) && u.chk md ops (L.setIfInBounds i true)
 | .to _ s,L=>s.chk md ops L
section
variable {P:Program} {ops:Array Oper} {md:Region.Mode} {Q:Exit→Act→World→Prop}
def opW (P:Program) (ops:Array Oper) (Q:Exit→Act→World→Prop) (S:World→Prop) (k:Nat) (K:Act→World→Prop) (a:Act) (w:World):Prop :=
 ∃ o,ops[k]?=some o∧Region.wanted o (yielded ops a.tmps)=true∧o.wp P a w (fun a' w'=>S w'∧K a' w') Q
def wpScr (P:Program) (ops:Array Oper) (Q:Exit→Act→World→Prop):Scr→(World→Prop)→Act→World→Prop
 | .done,_,a,w=>Q .normal a w
 | .take k s,S,a,w=>∃ o v,ops[k]?=some o∧YieldsIf P ops S o v a∧wpScr P ops Q s S (a.put o.dst v) w
 | .one k s,S,a,w=>opW P ops Q S k (wpScr P ops Q s S) a w
 | .two k s j t,S,a,w=>opW P ops Q S k (wpScr P ops Q s S) a w∧opW P ops Q S j (wpScr P ops Q t S) a w
 | .three k s j t i u,S,a,w=>opW P ops Q S k (wpScr P ops Q s S) a w∧opW P ops Q S j (wpScr P ops Q t S) a w∧opW P ops Q S i (wpScr P ops Q u S) a w
 | .to S' s,S,a,w=>S' w∧(∀ w,S' w→S w)∧wpScr P ops Q s S' a w
theorem wpAnyH_wide {S S':World→Prop} (h:∀ w,S' w→S w):∀ (fuel:Nat) (L:Array Bool) (a:Act) (w:World),wpAnyH P md ops Q S' fuel L a w→wpAnyH P md ops Q S fuel L a w
 | 0,_,_,_,hh=>hh
 | fuel + 1,_,_,_,hh=>⟨hh.1,fun i hi=>wpOp_mono (fun a' w' h'=>⟨h _ h'.1,wpAnyH_wide h fuel _ a' w' h'.2⟩) (hh.2 i hi)⟩
theorem opW.op {S:World→Prop} {k:Nat} {K:Act→World→Prop} {a:Act} {w:World} (h:opW P ops Q S k K a w):wpOp P ops Q k (fun a' w'=>S w'∧K a' w') a w:=by
 obtain ⟨o,ho,hw,hp⟩:=h
 unfold wpOp
 simp only [ho]
 rw [if_pos hw]
 exact .inl hp
theorem scrH (hs:Region.noSelect ops=true) (hQ:∀ c (a:Act) (d:Option Tmp) (v:Value) (w:World),Q (.panic c) (a.put d v) w→Q (.panic c) a w) :
 ∀ (s:Scr) (S:World→Prop) (fuel:Nat) (L:Array Bool) (a:Act) (w:World),s.depth≤fuel→s.chk md ops L=true→S w→wpScr P ops Q s S a w→wpAnyH P md ops Q S fuel L a w
 | .done,S,fuel,L,a,w,_,hc,_,h=>wpAnyH_done (by simpa [Scr.chk] using hc) h fuel
 | .take k s, S, fuel, L, a, w, hd, hc, hS, h => by
   obtain ⟨o,v,ho,hy,hK⟩:=h
   simp only [Scr.chk,Bool.and_eq_true] at hc
   obtain ⟨m,rfl⟩:∃ m,fuel=m + 1:=⟨fuel - 1,by simp only [Scr.depth] at hd;omega⟩
   exact wpAnyH_take ho hs hc.1.2 hc.1.1 (fun c a w=>hQ c a _ _ w) hy hS (scrH hs hQ s S m _ _ _ (by simp only [Scr.depth] at hd;omega) hc.2 hS hK)
 | .one k s, S, fuel, L, a, w, hd, hc, hS, h => by
   simp only [Scr.chk,Bool.and_eq_true,decide_eq_true_iff] at hc
   obtain ⟨m,rfl⟩:∃ m,fuel=m + 1:=⟨fuel - 1,by simp only [Scr.depth] at hd;omega⟩
   refine wpAnyH_all hc.1 (by simp) fun i hi=>?_
   obtain rfl:i=k:=by simpa using hi
   exact wpOp_mono (fun a' w' h'=>⟨h'.1,scrH hs hQ s S m _ _ _ (by simp only [Scr.depth] at hd;omega) hc.2 h'.1 h'.2⟩) (opW.op h)
 | .two k s j t, S, fuel, L, a, w, hd, hc, hS, h => by
   simp only [Scr.chk,Bool.and_eq_true,decide_eq_true_iff] at hc
   obtain ⟨m,rfl⟩:∃ m,fuel=m + 1:=⟨fuel - 1,by simp only [Scr.depth] at hd;omega⟩
   refine wpAnyH_all hc.1.1 (by simp) fun i hi=>?_
   have hi':i=k∨i=j:=by simpa using hi
   rcases hi' with rfl | rfl
   · exact wpOp_mono (fun a' w' h'=>⟨h'.1,scrH hs hQ s S m _ _ _ (by simp only [Scr.depth] at hd;omega) hc.1.2 h'.1 h'.2⟩) (opW.op h.1)
   · exact wpOp_mono (fun a' w' h'=>⟨h'.1,scrH hs hQ t S m _ _ _ (by simp only [Scr.depth] at hd;omega) hc.2 h'.1 h'.2⟩) (opW.op h.2)
 | .three k s j t i u, S, fuel, L, a, w, hd, hc, hS, h => by
   simp only [Scr.chk,Bool.and_eq_true,decide_eq_true_iff] at hc
   obtain ⟨m,rfl⟩:∃ m,fuel=m + 1:=⟨fuel - 1,by simp only [Scr.depth] at hd;omega⟩
   refine wpAnyH_all hc.1.1.1 (by simp) fun q hq=>?_
   have hq':q=k∨q=j∨q=i:=by simpa using hq
   rcases hq' with rfl | rfl | rfl
   · exact wpOp_mono (fun a' w' h'=>⟨h'.1,scrH hs hQ s S m _ _ _ (by simp only [Scr.depth] at hd;omega) hc.1.1.2 h'.1 h'.2⟩) (opW.op h.1)
   · exact wpOp_mono (fun a' w' h'=>⟨h'.1,scrH hs hQ t S m _ _ _ (by simp only [Scr.depth] at hd;omega) hc.1.2 h'.1 h'.2⟩) (opW.op h.2.1)
   · exact wpOp_mono (fun a' w' h'=>⟨h'.1,scrH hs hQ u S m _ _ _ (by simp only [Scr.depth] at hd;omega) hc.2 h'.1 h'.2⟩) (opW.op h.2.2)
 | .to S' s, S, fuel, L, a, w, hd, hc, hS, h => by
   obtain ⟨h1,h2,h3⟩:=h
   exact wpAnyH_wide h2 fuel L a w (scrH hs hQ s S' fuel L a w hd hc h1 h3)
theorem wp_region_scr {id:Nat} {a:Act} {w:World} (S:World→Prop) (s:Scr) (hm:P.follows .mixedOrders=true) (hs:Region.noSelect ops=true) (hQ:∀ c (a:Act) (d:Option Tmp) (v:Value) (w:World),Q (.panic c) (a.put d v) w→Q (.panic c) a w)
 (hd:s.depth≤ops.size) (hc:s.chk .any ops (Array.replicate ops.size false)=true) (hS:S { w with drawn:=w.drawn + 1 }) (h:wpScr P ops Q s S a { w with drawn:=w.drawn + 1 }):(Code.region id ops true).wp P Q a w :=
 wp_region_held (S:=S) hm (scrH hs hQ s S _ _ _ _ hd hc hS h)
variable {S:World→Prop} {k:Nat} {o:Oper} {s:Scr} {a:Act} {w:World} {K:Act→World→Prop}
theorem s_val {v:Value} (ho:ops[k]?=some o) (hw:Region.wanted o (yielded ops a.tmps)=true) (hv:∀ w,S w→(execOp a.eval o).run P w=.ok (.value v) w) (h:wpScr P ops Q s S (a.put o.dst v) w):wpScr P ops Q (.take k s) S a w :=
 ⟨o,v,ho,.inl ⟨hw,hv⟩,h⟩
theorem o_call {v:Value} (ho:ops[k]?=some o) (hw:Region.wanted o (yielded ops a.tmps)=true) (f:FuncId) (args:Array Value) (hop:(execOp a.eval o).run P w=.ok (.enter f args) w) {R:World→Prop} (hc:Calls P f args w fun e w'=>e=.returned v∧R w')
 (h:∀ w',R w'→S w'∧K (a.put o.dst v) w'):opW P ops Q S k K a w:=by
 refine ⟨o,ho,hw,?_⟩
 unfold Oper.wp
 rw [hop]
 exact hc.mono fun e w' ⟨he,hr⟩=>by subst he;exact h w' hr
theorem o_make {v:Value} {W:World} (ho:ops[k]?=some o) (hw:Region.wanted o (yielded ops a.tmps)=true) (hop:(execOp a.eval o).run P w=.ok (.value v) W) (hS:S W) (h:K (a.put o.dst v) W):opW P ops Q S k K a w:=by
 refine ⟨o,ho,hw,?_⟩
 unfold Oper.wp
 rw [hop]
 exact ⟨hS,h⟩
end
end
end Go.Proofs.YtokakgjcegmabaaGreatDoor
namespace Go.Proofs.YtokakgjcegmabaaGreatDoor.Rt
open Go.RowKit
structure RT (P:Program) (T k:Nat) (z:List Value):Prop where
 zl:z.length=k
 ut:(∃ fs,P.underlying T=some (.struct fs))∨(∃ n e,P.underlying T=some (.array n e))
 info:(P.info? T).map (fun i=>(i.zero,i.size))=some (some (.agg z.toArray),k)
variable {P:Program} {T k:Nat} {z:List Value}
theorem RT.parts (R:RT P T k z):∃ i0,P.info? T=some i0∧i0.zero=some (.agg z.toArray)∧i0.size=k:=by
 have h:=R.info
 cases hi:P.info? T with
 | none=>rw [hi] at h;cases h
 | some i0 =>
   rw [hi] at h
   simp only [Option.map_some,Option.some.injEq,Prod.mk.injEq] at h
   exact ⟨i0,rfl,h.1,h.2⟩
theorem RT.isz (R:RT P T k z):(P.info? T).map (·.size)=some k:=by
 obtain ⟨i0,hi,hz0,hz1⟩:=R.parts
 rw [hi];simp [hz1]
theorem RT.size (R:RT P T k z) {xs:List Value} (h:xs.length=k):(P.info? T).map (·.size)=some xs.toArray.size:=by rw [R.isz];simp [h]
theorem RT.zero (R:RT P T k z) (w:World):(zeroValue T).run P w=.ok (.agg z.toArray) w:=by
 obtain ⟨i0,hi,hz0,hz1⟩:=R.parts
 simp [zeroValue,typeInfo,hi,hz0]
structure Stp (b:Nat) (w W:World):Prop where
 size:W.heap.size=w.heap.size
 other:∀ c,c≠b→W.heap[c]?=w.heap[c]?
 below:∀ N,N≤b→Below N w W
theorem Stp.setRow (w:World) (b:Nat) (xs:Array Value):Stp b w (w.setRow b xs):=⟨by simp,fun c hc=>setRow_other w b c xs hc,fun N hN=>below_setRow (Below.refl N w) hN xs⟩
theorem Stp.arr {w W:World} {b c t:Nat} {xs:List Value} (h:Stp b w W) (hc:c≠b) (ha:Arr w c t xs):Arr W c t xs:=(h.other c hc).trans ha
theorem Stp.below' {w0 w W:World} {b N:Nat} (h:Stp b w W) (hb:Below N w0 w) (hN:N≤b):Below N w0 W:=hb.trans (h.below N hN)
structure NewAt (w W:World) (b t:Nat) (xs:List Value):Prop where
 at_:b=w.heap.size
 size:W.heap.size=b + 1
 arr:Arr W b t xs
 below:Below w.heap.size w W
theorem NewAt.mk' (w:World) (t:Nat) (xs:List Value):NewAt w (w.alloc (.cells xs.toArray t)) w.heap.size t xs:=⟨rfl,by simp,Arr.new _ _ _,(Below.refl _ w).alloc (Nat.le_refl _) _⟩
theorem NewAt.le {w W:World} {b t:Nat} {xs:List Value} (h:NewAt w W b t xs):w.heap.size≤b:=by rw [h.at_];exact Nat.le_refl _
theorem run_storeVar_cell (w:World) (b i:Nat) (t ty:TypeId) (xs:List Value) (v:Value) (hg:Arr w b t xs) (hi:i<xs.length) (hs:(P.info? ty).map (·.size)=some 1) (h1:v.oneCell'=true) :
 (storeVar ty ⟨b,i,none⟩ v).run P w=.ok () (w.setRow b (xs.set i v).toArray):=by
 have:=run_storeCells_at (P:=P) b i t [v] 0 xs.toArray w hg (by simp;omega) (fun x hx=>by simp at hx;subst hx;exact h1)
 have hc:v.cells=#[v]:=by cases v <;> first | rfl | cases h1
 have he:xs.take i++[v]++xs.drop (i + 1)=xs.set i v:=by
  rw [List.set_eq_take_append_cons_drop,if_pos hi];simp
 cases hq:P.info? ty with
 | none=>simp [hq] at hs
 | some i0 =>
   have hs:i0.size=1:=by simpa [hq] using hs
   simp only [Nat.add_zero,List.length_cons,List.length_nil,Nat.zero_add,he] at this
   simp [storeVar,sizeOf,typeInfo,hq,hc,hs,this]
section
variable {ops:Array Oper} {rest:List Oper} {o:Oper} {a:Act} {w:World} {Q:Exit→Act→World→Prop}
theorem wpL_new (R:RT P T k z) (d:Option Tmp) (hd:o.dst=d) (hgd:o.guard=none) (ho:o.op=.alloc T)
 (h:∀ b W,NewAt w W b T z→wpList P ops Q rest (a.put o.dst (.pointer (some ⟨b,0,none⟩))) W):wpList P ops Q (o :: rest) a w:=by
 refine wpList_plain hgd fun K hK=>?_
 have:=hK _ _ (h w.heap.size (w.alloc (.cells z.toArray T)) (NewAt.mk' _ _ _))
 unfold Oper.wp execOp
 simp only [ho,Instr.alloc,Sem.run_bind,Result.andThen_ok,R.zero w]
 simp [newVar,newRow,Value.cells]
 exact this
theorem wpL_box (T:TypeId) (hgd:o.guard=none) (x:Operand) (ho:o.op=.box T x) (xs:List Value) (hx:a.eval x=.agg xs.toArray)
 (h:∀ b W,NewAt w W b T xs→wpList P ops Q rest (a.put o.dst (.pointer (some ⟨b,0,none⟩))) W):wpList P ops Q (o :: rest) a w:=by
 refine wpList_plain hgd fun K hK=>?_
 have:=hK _ _ (h w.heap.size (w.alloc (.cells xs.toArray T)) (NewAt.mk' _ _ _))
 unfold Oper.wp execOp
 simp only [ho,Instr.box,Sem.run_bind,Result.andThen_ok,hx]
 simp [newVar,newRow,Value.cells]
 exact this
theorem wpL_put (R:RT P T k z) (hgd:o.guard=none) (x y:Operand) (ho:o.op=.store T x y) (b:Nat) (xs:List Value) (hx:a.eval x=.pointer (some ⟨b,0,none⟩)) (hy:a.eval y=.agg xs.toArray) (hl:xs.length=k)
 (h1:∀ v ∈ xs,v.oneCell'=true) (ys:List Value) (hl2:ys.length=k) (hg:Arr w b T ys)
 (h:∀ W,Arr W b T xs→Stp b w W→wpList P ops Q rest (a.put o.dst undef) W):wpList P ops Q (o :: rest) a w :=
 wpList_store_row hgd T x y ho b xs.toArray hx hy T _ hg (R.size hl) (by simp [hl,hl2]) (by rw [Array.all_eq_true];intro i hi;exact h1 _ (by simp)) (h _ (Arr.row hg _) (Stp.setRow _ _ _))
theorem wpL_putF (hgd:o.guard=none) (ty:TypeId) (x y:Operand) (ho:o.op=.store ty x y) (b i:Nat) (v:Value) (hx:a.eval x=.pointer (some ⟨b,i,none⟩)) (hy:a.eval y=v) (hs:(P.info? ty).map (·.size)=some 1) (h1:v.oneCell'=true)
 (xs:List Value) (hg:Arr w b T xs) (hi:i<xs.length)
 (h:∀ W,Arr W b T (xs.set i v)→Stp b w W→wpList P ops Q rest (a.put o.dst undef) W):wpList P ops Q (o :: rest) a w:=by
 subst hy
 refine wpList_plain hgd fun K hK=>?_
 have:=hK _ _ (h _ (Arr.row hg _) (Stp.setRow _ _ _))
 unfold Oper.wp execOp
 simp only [ho,hx,Instr.storeAt,Instr.sureAddr,Sem.run_bind,Sem.run_pure,Result.andThen_ok,run_storeVar_cell w b i T ty xs _ hg hi hs h1]
 exact this
theorem wpL_get (R:RT P T k z) (hw:Region.wanted o (yielded ops a.tmps)=true) (x:Operand) (ho:o.op=.load T x) (b:Nat) (xs:List Value) (hx:a.eval x=.pointer (some ⟨b,0,none⟩)) (hl:xs.length=k) (hg:Arr w b T xs)
 (h:wpList P ops Q rest (a.put o.dst (.agg xs.toArray)) w):wpList P ops Q (o :: rest) a w:=by
 rcases R.ut with ⟨fs,hu⟩ | ⟨n,e,hu⟩
 · exact wpList_load_row_g hw T x ho b hx T _ (0,0) _ hg hu rfl (R.size hl) h
 · exact wpList_load_row_g hw T x ho b hx T _ (0,0) _ hg hu rfl (R.size hl) h
theorem wanted_no {o:Oper} {ys:Nat→Option Bool} {i:Nat} {b:Bool} (hg:o.guard=some (i,b)) (hy:ys i=some (!b)):Region.wanted o ys=false:=by
 unfold Region.wanted
 rw [hg]
 cases b <;> simp [hy]
theorem wpL_skip (i:Nat) (b:Bool) (hg:o.guard=some (i,b)) (hy:yielded ops a.tmps i=some (!b)) (h:wpList P ops Q rest (a.put o.dst undef) w):wpList P ops Q (o :: rest) a w :=
 wpList_step fun K hK=>by rw [if_neg (by rw [wanted_no hg hy];exact Bool.false_ne_true)];exact hK _ _ h
theorem wpL_build (hw:Region.wanted o (yielded ops a.tmps)=true) (T:TypeId) (parts:Array (Nat × Operand)) (ho:o.op=.build T parts) (xs:List Value)
 (hb:P.built T (parts.map fun (i,x)=>(i,a.eval x)).toList=some xs.toArray)
 (h:wpList P ops Q rest (a.put o.dst (.agg xs.toArray)) w):wpList P ops Q (o :: rest) a w:=by
 refine wpList_step fun K hK=>?_
 rw [if_pos hw]
 have:=hK _ _ h
 unfold Oper.wp execOp
 simp only [ho,Sem.run_bind,run_build w T _ _ hb,Result.andThen_ok]
 exact this
end
section
variable {ops:Array Oper} {Q:Exit→Act→World→Prop} {S:World→Prop} {j:Nat} {o:Oper} {s:Scr} {a:Act} {w:World} {K:Act→World→Prop}
theorem s_get (R:RT P T k z) (ho:ops[j]?=some o) (hw:Region.wanted o (yielded ops a.tmps)=true) (x:Operand) (hop:o.op=.load T x) (b:Nat) (xs:List Value) (hx:a.eval x=.pointer (some ⟨b,0,none⟩)) (hl:xs.length=k) (hg:∀ w,S w→Arr w b T xs)
 (h:wpScr P ops Q s S (a.put o.dst (.agg xs.toArray)) w):wpScr P ops Q (.take j s) S a w:=by
 rcases R.ut with ⟨fs,hu⟩ | ⟨n,e,hu⟩
 · exact s_val ho hw (fun w hS=>by
    unfold execOp
    simp only [hop,hx,Instr.loadAt,Instr.sureAddr,Sem.run_bind,Sem.run_pure,Result.andThen_ok,run_loadVar_row (P:=P) w b T T _ (0,0) _ (hg w hS) hu rfl (R.size hl)]) h
 · exact s_val ho hw (fun w hS=>by
    unfold execOp
    simp only [hop,hx,Instr.loadAt,Instr.sureAddr,Sem.run_bind,Sem.run_pure,Result.andThen_ok,run_loadVar_row (P:=P) w b T T _ (0,0) _ (hg w hS) hu rfl (R.size hl)]) h
theorem o_new (R:RT P T k z) (ho:ops[j]?=some o) (hw:Region.wanted o (yielded ops a.tmps)=true) (hop:o.op=.alloc T)
 (h:∀ b W,NewAt w W b T z→S W∧K (a.put o.dst (.pointer (some ⟨b,0,none⟩))) W):opW P ops Q S j K a w:=by
 refine ⟨o,ho,hw,?_⟩
 have:=h w.heap.size (w.alloc (.cells z.toArray T)) (NewAt.mk' _ _ _)
 unfold Oper.wp execOp
 simp only [hop,Instr.alloc,Sem.run_bind,Result.andThen_ok,R.zero w]
 simp [newVar,newRow,Value.cells]
 exact this
theorem o_put (R:RT P T k z) (ho:ops[j]?=some o) (hw:Region.wanted o (yielded ops a.tmps)=true) (x y:Operand) (hop:o.op=.store T x y) (b:Nat) (xs:List Value) (hx:a.eval x=.pointer (some ⟨b,0,none⟩)) (hy:a.eval y=.agg xs.toArray) (hl:xs.length=k)
 (h1:∀ v ∈ xs,v.oneCell'=true) (ys:List Value) (hl2:ys.length=k) (hg:Arr w b T ys)
 (h:∀ W,Arr W b T xs→Stp b w W→S W∧K (a.put o.dst undef) W):opW P ops Q S j K a w:=by
 refine ⟨o,ho,hw,?_⟩
 have:=h _ (Arr.row hg _) (Stp.setRow _ _ _)
 unfold Oper.wp
 rw [show (execOp a.eval o).run P w=.ok .skip (w.setRow b xs.toArray) from by
  have hr:=run_storeCells_from (P:=P) b T xs 0 ys.toArray w hg (by simp [hl,hl2]) h1
  obtain ⟨i0,hi,hz0,hz1⟩:=R.parts
  unfold execOp
  simp only [hop,hx,hy,Instr.storeAt,Instr.sureAddr,Sem.run_bind,Sem.run_pure,Result.andThen_ok]
  simp at hr
  simp [storeVar,sizeOf,typeInfo,hi,hz1,Value.cells,hl,hr]]
 exact this
end
end Go.Proofs.YtokakgjcegmabaaGreatDoor.Rt
namespace Go.Proofs.YtokakgjcegmabaaGreatDoor.Rw
open Go.RowKit Go.Proofs.YtokakgjcegmabaaGreatDoor.Rt
structure RowTy (P:Program) (ST T k by_:Nat) (z:List Value):Prop where
 kp:0<k
 km:k≤64
 bm:by_≤65536
 zl:z.length=k
 us:P.underlying ST=some (.slice T)
 el:P.elem ST=T
 ut:∃ fs,P.underlying T=some (.struct fs)
 info:(P.info? T).map (fun i=>(i.zero,i.size,i.bytes))=some (some (.agg z.toArray),k,by_)
variable {P:Program} {ST T k by_:Nat} {z:List Value}
theorem RowTy.zero (R:RowTy P ST T k by_ z) (w:World):(zeroValue T).run P w=.ok (.agg z.toArray) w:=by
 obtain ⟨i0,hi,hz0,hz1,hz2⟩:=info_parts R.info
 simp [zeroValue,typeInfo,hi,hz0]
def AllK (k:Nat) (es:List (List Value)):Prop:=∀ e ∈ es,e.length=k
def One1 (es:List (List Value)):Prop:=∀ e ∈ es,∀ v ∈ e,v.oneCell'=true
def RsAt (k:Nat) (w:World) (v:Value) (es:List (List Value)):Prop :=
 AllK k es∧((v=.slice none 0 0∧es=[])∨∃ B o c,v=.slice (some ⟨B,o,none⟩) es.length c∧es.length≤c∧B<w.heap.size∧w.rangeAt B o es.flatten)
def OwnR (T k:Nat) (w:World) (B:Nat) (v:Value) (es:List (List Value)):Prop:=AllK k es∧w.ownsRow B T k v es.length es.flatten
section
variable {ops:Array Oper} {rest:List Oper} {o:Oper} {a:Act} {w:World} {Q:Exit→Act→World→Prop}
end
theorem foldSetR (l:List Value):∀ (k off:Nat) (cs:Array Value),off + k + l.length≤cs.size →
 ((l.zipIdx k).foldl (fun cs (x:Value × Nat)=>cs.setIfInBounds (off + x.2) x.1) cs).toList=cs.toList.take (off + k)++l++cs.toList.drop (off + k + l.length):=by
 induction l with
 | nil=>intro k off cs h;simp
 | cons x l ih =>
   intro k off cs h
   simp only [List.length_cons] at h
   rw [List.zipIdx_cons,List.foldl_cons,ih (k + 1) off _ (by simp;omega)]
   simp only [Array.toList_setIfInBounds,List.length_cons]
   have h1:off + k<cs.toList.length:=by simp;omega
   rw [List.take_set,List.drop_set,if_pos (by omega)]
   have e1:(cs.toList.take (off + (k + 1))).set (off + k) x=cs.toList.take (off + k)++[x]:=by
    rw [show off + (k + 1)=(off + k) + 1 from by omega,List.take_add_one,List.getElem?_eq_getElem h1]
    rw [List.set_append_right _ _ (by rw [List.length_take];omega),List.length_take,Nat.min_eq_left (by omega),Nat.sub_self];rfl
   rw [e1,show off + (k + 1) + l.length=off + k + (l.length + 1) from by omega]
   simp
theorem run_bs1R (R:RowTy P ST T k by_ z) (x:List Value) (hx:x.length=k) (w:World):(Instr.buildSlice ST 1 #[(0,.agg x.toArray)]).run P w=.ok (.slice (some ⟨w.heap.size,0,none⟩) 1 1) (w.alloc (.cells x.toArray T)):=by
 obtain ⟨i0,hi,hz0,hz1,hz2⟩:=info_parts R.info
 have hkm:=R.km;have hkp:=R.kp
 refine run_buildSlice w ST T 1 _ _ i0 _ R.us hi hz0 (by rw [hz1];omega) (by rw [hz1];omega) ?_
 rw [hz1]
 have hsz:((Array.range (1 * k)).map ((Value.agg z.toArray).cells[· % (Value.agg z.toArray).cells.size]!)).size=k:=by simp
 have e:=foldSetR x 0 0 ((Array.range (1 * k)).map ((Value.agg z.toArray).cells[· % (Value.agg z.toArray).cells.size]!)) (by rw [hsz];omega)
 have hc:(Value.agg x.toArray).cells=x.toArray:=rfl
 conv=>lhs;unfold Instr.fill
 dsimp only
 rw [if_neg (by rw [hc];simp;omega),hc]
 unfold Instr.fill
 congr 1
 rw [← Array.toList_inj,← Array.foldl_toList]
 simp only [Nat.zero_mul,Nat.zero_add,List.take_zero,List.nil_append] at e
 rw [List.drop_of_length_le (by simp [hx]),List.append_nil] at e
 simpa using e
section
variable {ops:Array Oper} {rest:List Oper} {o:Oper} {a:Act} {w:World} {Q:Exit→Act→World→Prop}
end
section
variable {ops:Array Oper} {rest:List Oper} {o:Oper} {a:Act} {w:World} {Q:Exit→Act→World→Prop}
end
section
variable {ops:Array Oper} {Q:Exit→Act→World→Prop} {S:World→Prop} {j:Nat} {o:Oper} {s:Scr} {a:Act} {w:World} {K:Act→World→Prop}
end
end Go.Proofs.YtokakgjcegmabaaGreatDoor.Rw
namespace Go.Proofs.YtokakgjcegmabaaGreatDoor.Mm
open Go.RowKit Go.Proofs.YtokakgjcegmabaaGreatDoor.Rt
structure Bx where
 b:Nat
 t:Nat
 r:List Value
structure M (N:Nat) (w0 w:World) (L:List Bx):Prop where
 below:Below N w0 w
 le:N≤w.heap.size
 ge:∀ x ∈ L,N≤x.b
 inc:L.Pairwise (fun x y=>y.b<x.b)
 has:∀ x ∈ L,Arr w x.b x.t x.r
theorem M.nil (w:World):M w.heap.size w w []:=⟨Below.refl _ _,Nat.le_refl _,(fun x h=>by cases h),List.Pairwise.nil,(fun x h=>by cases h)⟩
variable {N:Nat} {w0 w W:World} {L:List Bx}
theorem M.call (h:M N w0 w L) (hb:Below w.heap.size w W):M N w0 W L :=
 ⟨h.below.trans (hb.mono h.le),Nat.le_trans h.le hb.size,h.ge,h.inc,fun x hx=>(h.has x hx).below hb (h.has x hx).lt⟩
theorem M.drew (h:M N w0 w L):M N w0 { w with drawn:=w.drawn + 1 } L:=h.call (Below.refl _ _).drew
theorem M.new {b t:Nat} {xs:List Value} (h:M N w0 w L) (n:NewAt w W b t xs):M N w0 W (⟨b,t,xs⟩ :: L):=by
 have hc:=h.call n.below
 refine ⟨hc.below,hc.le,fun x hx=>?_,List.Pairwise.cons (fun x hx=>?_) h.inc,fun x hx=>?_⟩
 · rcases List.mem_cons.1 hx with rfl | hx
   · exact Nat.le_trans h.le n.le
   · exact h.ge x hx
 · have:=(h.has x hx).lt;have:=n.at_;show x.b<b;omega
 · rcases List.mem_cons.1 hx with rfl | hx
   · exact n.arr
   · exact hc.has x hx
theorem M.add {b t:Nat} {xs:List Value} {m:Nat} (h:M N w0 w L) (hb:Below w.heap.size w W) (hm:w.heap.size≤b) (ha:Arr W b t xs):M N w0 W (⟨b,t,xs⟩ :: L):=by
 have hc:=h.call hb
 refine ⟨hc.below,hc.le,fun x hx=>?_,List.Pairwise.cons (fun x hx=>?_) h.inc,fun x hx=>?_⟩
 · rcases List.mem_cons.1 hx with rfl | hx
   · exact Nat.le_trans h.le hm
   · exact h.ge x hx
 · have:=(h.has x hx).lt;show x.b<b;omega
 · rcases List.mem_cons.1 hx with rfl | hx
   · exact ha
   · exact hc.has x hx
theorem M.tail {x:Bx} (h:M N w0 w (x :: L)):M N w0 w L:=⟨h.below,h.le,fun y hy=>h.ge y (List.mem_cons_of_mem _ hy),(List.pairwise_cons.1 h.inc).2,fun y hy=>h.has y (List.mem_cons_of_mem _ hy)⟩
theorem M.sub {L':List Bx} (h:M N w0 w L) (hs:L'.Sublist L):M N w0 w L':=⟨h.below,h.le,fun y hy=>h.ge y (hs.subset hy),h.inc.sublist hs,fun y hy=>h.has y (hs.subset hy)⟩
theorem M.ne {i:Nat} {x:Bx} (h:L.Pairwise (fun x y=>y.b<x.b)) (hi:L[i]?=some x):∀ {j:Nat} {y:Bx},L[j]?=some y→j≠i→y.b≠x.b:=by
 intro j y hj hne
 obtain ⟨h1,e1⟩:=List.getElem?_eq_some_iff.1 hi
 obtain ⟨h2,e2⟩:=List.getElem?_eq_some_iff.1 hj
 rw [List.pairwise_iff_getElem] at h
 rcases Nat.lt_or_gt_of_ne hne with hlt | hgt
 · have:=h j i h2 h1 hlt;rw [e1,e2] at this;omega
 · have:=h i j h1 h2 hgt;rw [e1,e2] at this;omega
theorem M.put (h:M N w0 w L) (i b t:Nat) (xs ys:List Value) (hi:L[i]?=some ⟨b,t,ys⟩) (ha:Arr W b t xs) (st:Stp b w W):M N w0 W (L.set i ⟨b,t,xs⟩):=by
 obtain ⟨h1,e1⟩:=List.getElem?_eq_some_iff.1 hi
 have hge:=h.ge _ (List.mem_of_getElem? hi)
 have mem:∀ x ∈ L.set i ⟨b,t,xs⟩,x=⟨b,t,xs⟩∨∃ j,L[j]?=some x∧j≠i:=by
  intro x hx
  obtain ⟨j,hj,rfl⟩:=List.getElem_of_mem hx
  by_cases e:j=i
  · subst e;left;simp
  · right;refine ⟨j,?_,e⟩
    rw [List.getElem_set_ne (by omega)]
    exact List.getElem?_eq_getElem _
 refine ⟨st.below' h.below hge,by rw [st.size];exact h.le,fun x hx=>?_,?_,fun x hx=>?_⟩
 · rcases mem x hx with rfl | ⟨j,hj,_⟩
   · exact hge
   · exact h.ge x (List.mem_of_getElem? hj)
 · have hp:=h.inc
   rw [List.pairwise_iff_getElem] at hp ⊢
   have hb:∀ j (hj:j<(L.set i ⟨b,t,xs⟩).length),((L.set i ⟨b,t,xs⟩)[j]).b=(L[j]'(by simpa using hj)).b:=by
    intro j hj
    by_cases e:j=i
    · subst e;simp [e1]
    · rw [List.getElem_set_ne (by omega)]
   intro j k hj hk hlt
   rw [hb j hj,hb k hk]
   exact hp j k _ _ hlt
 · rcases mem x hx with rfl | ⟨j,hj,hne⟩
   · exact ha
   · exact st.arr (M.ne h.inc hi hj hne) (h.has x (List.mem_of_getElem? hj))
def NA (P:Program) (ty:Nat):Prop:=∃ d,P.underlying ty=some d∧(match d with | .struct _ | .array _ _=>false | _=>true)=true
theorem NA.agg {P:Program} {ty:Nat} (h:NA P ty) (w:World):(isAgg ty).run P w=.ok false w:=by
 obtain ⟨d,hu,hd⟩:=h
 unfold isAgg
 rw [Sem.run_bind,run_underlying hu w]
 cases d <;> simp_all [Result.andThen]
theorem run_loadVar_one {P:Program} {ty:Nat} (h:NA P ty) (w:World) (p:Addr) (v:Value) (hc:w.cell? p=some v):(loadVar ty p).run P w=.ok v w:=by
 simp only [loadVar,Sem.run_bind,h.agg w,Result.andThen_ok,Bool.false_eq_true,if_false]
 show Sem.run P (Sem.load _ p Sem.pure) w=_
 simp [Sem.run,hc]
section
variable {P:Program} {T k:Nat} {z:List Value} {ops:Array Oper} {rest:List Oper} {o:Oper} {a:Act} {Q:Exit→Act→World→Prop}
theorem new (R:RT P T k z) (H:Hid (M N w0 w L)) (d:Option Tmp) (hd:o.dst=d) (hgd:o.guard=none) (ho:o.op=.alloc T)
 (h:∀ b W,Hid (M N w0 W (⟨b,T,z⟩ :: L))→NewAt w W b T z→wpList P ops Q rest (a.put o.dst (.pointer (some ⟨b,0,none⟩))) W):wpList P ops Q (o :: rest) a w :=
 wpL_new R d hd hgd ho fun b W n=>h b W (hidp (H.out.new n)) n
theorem box (T:TypeId) (H:Hid (M N w0 w L)) (hgd:o.guard=none) (x:Operand) (ho:o.op=.box T x) (xs:List Value) (hx:a.eval x=.agg xs.toArray)
 (h:∀ b W,Hid (M N w0 W (⟨b,T,xs⟩ :: L))→NewAt w W b T xs→wpList P ops Q rest (a.put o.dst (.pointer (some ⟨b,0,none⟩))) W):wpList P ops Q (o :: rest) a w :=
 wpL_box T hgd x ho xs hx fun b W n=>h b W (hidp (H.out.new n)) n
theorem ldc {ty:Nat} (hn:NA P ty) (hw:Region.wanted o (yielded ops a.tmps)=true) (x:Operand) (p:Addr) (v:Value) (ho:o.op=.load ty x) (hx:a.eval x=.pointer (some p)) (hc:w.cell? p=some v)
 (h:wpList P ops Q rest (a.put o.dst v) w):wpList P ops Q (o :: rest) a w:=by
 refine wpList_step fun K hK=>?_
 rw [if_pos hw]
 have:=hK _ _ h
 unfold Oper.wp execOp
 simp only [ho,hx,Instr.loadAt,Instr.sureAddr,Sem.run_bind,Sem.run_pure,Result.andThen_ok,run_loadVar_one hn w p v hc]
 exact this
end
section
variable {P:Program} {T k:Nat} {z:List Value} {ops:Array Oper} {o:Oper} {a:Act} {Q:Exit→Act→World→Prop} {S:World→Prop} {j:Nat} {s:Scr}
theorem s_ldc {ty:Nat} (hn:NA P ty) (ho:ops[j]?=some o) (hw:Region.wanted o (yielded ops a.tmps)=true) (x:Operand) (p:Addr) (v:Value) (hop:o.op=.load ty x) (hx:a.eval x=.pointer (some p)) (hc:∀ w,S w→w.cell? p=some v)
 (h:wpScr P ops Q s S (a.put o.dst v) w):wpScr P ops Q (.take j s) S a w :=
 s_val ho hw (fun w hS=>by
  unfold execOp
  simp only [hop,hx,Instr.loadAt,Instr.sureAddr,Sem.run_bind,Sem.run_pure,Result.andThen_ok,run_loadVar_one hn w p v (hc w hS)]) h
variable {Lc:List Bx} {K:Act→World→Prop}
theorem region {id:Nat} (H:Hid (M N w0 w L)) (s:Scr) (hm:P.follows .mixedOrders=true) (hs:Region.noSelect ops=true) (hd:s.depth≤ops.size) (hc:s.chk .any ops (Array.replicate ops.size false)=true)
 (h:∀ U,Hid (M N w0 U L)→Below w.heap.size w U→wpScr P ops (NoPanic Q) s (fun W=>M N w0 W L) a U):(Code.region id ops true).wp P Q a w :=
 wp_region_noPanic (wp_region_scr (S:=fun W=>M N w0 W L) s hm hs (fun _ _ _ _ _ h=>h) hd hc H.out.drew (h _ (hidp H.out.drew) (Below.refl _ _).drew))
theorem o_callH {v:Value} (H:Hid (M N w0 w Lc)) (hT:∀ W,M N w0 W Lc→S W) (ho:ops[j]?=some o) (hw:Region.wanted o (yielded ops a.tmps)=true) (f:FuncId) (args:Array Value) (hop:(execOp a.eval o).run P w=.ok (.enter f args) w) (hc:Calls P f args w fun e w'=>e=.returned v∧Below w.heap.size w w')
 (h:∀ W,Hid (M N w0 W Lc)→Below w.heap.size w W→K (a.put o.dst v) W):opW P ops Q S j K a w :=
 o_call ho hw f args hop hc fun w' hb=>⟨hT _ (H.out.call hb),h w' (hidp (H.out.call hb)) hb⟩
theorem o_newH (R:RT P T k z) (H:Hid (M N w0 w Lc)) (hT:∀ W,M N w0 W Lc→S W) (ho:ops[j]?=some o) (hw:Region.wanted o (yielded ops a.tmps)=true) (hop:o.op=.alloc T)
 (h:∀ b W,Hid (M N w0 W (⟨b,T,z⟩ :: Lc))→NewAt w W b T z→K (a.put o.dst (.pointer (some ⟨b,0,none⟩))) W):opW P ops Q S j K a w :=
 o_new R ho hw hop fun b W n=>⟨hT _ (H.out.new n).tail,h b W (hidp (H.out.new n)) n⟩
end
theorem ret_row {P:Program} {T k:Nat} {z:List Value} (R:RT P T k z) {fn:Func} {p:Tmp} (hr:fn.results=#[.cell p T]) (tmps:Array Value) (b:Nat) (xs:List Value) (hp:tmps.getD p undef=.pointer (some ⟨b,0,none⟩)) (ha:Arr w b T xs) (hl:xs.length=k):(results fn tmps).run P w=.ok (.agg xs.toArray) w:=by
 rcases R.ut with ⟨fs,hu⟩ | ⟨n,e,hu⟩
 · exact results_cell_row hr tmps w b T xs.toArray (0,0) _ hp ha hu rfl (R.size hl)
 · exact results_cell_row hr tmps w b T xs.toArray (0,0) _ hp ha hu rfl (R.size hl)
theorem ret_rowv {P:Program} {T k:Nat} {z:List Value} (R:RT P T k z) {fn:Func} {p u:Tmp} (hr:fn.results=#[.cell p T,.tmp u]) (tmps:Array Value) (b:Nat) (xs:List Value) (v:Value) (hp:tmps.getD p undef=.pointer (some ⟨b,0,none⟩)) (hv:tmps.getD u undef=v) (ha:Arr w b T xs) (hl:xs.length=k):(results fn tmps).run P w=.ok (.tuple #[.agg xs.toArray,v]) w:=by
 rcases R.ut with ⟨fs,hu⟩ | ⟨n,e,hu⟩
 · exact results_row_tmp hr tmps w b T xs.toArray (0,0) _ hp ha hu rfl (R.size hl) v hv
 · exact results_row_tmp hr tmps w b T xs.toArray (0,0) _ hp ha hu rfl (R.size hl) v hv
theorem M.at0 {b t:Nat} {r:List Value} (h:M N w0 w (⟨b,t,r⟩ :: L)):Arr w b t r:=h.has ⟨b,t,r⟩ (by simp)
theorem M.put0 {b t:Nat} {xs ys:List Value} (h:M N w0 w (⟨b,t,ys⟩ :: L)) (ha:Arr W b t xs) (st:Stp b w W):M N w0 W (⟨b,t,xs⟩ :: L):=h.put 0 b t xs ys rfl ha st
section
variable {P:Program} {T k:Nat} {z:List Value} {ops:Array Oper} {rest:List Oper} {o:Oper} {a:Act} {Q:Exit→Act→World→Prop}
theorem get0 {b:Nat} {xs:List Value} (R:RT P T k z) (H:Hid (M N w0 w (⟨b,T,xs⟩ :: L))) (hw:Region.wanted o (yielded ops a.tmps)=true) (x:Operand) (ho:o.op=.load T x) (hx:a.eval x=.pointer (some ⟨b,0,none⟩)) (hl:xs.length=k)
 (h:wpList P ops Q rest (a.put o.dst (.agg xs.toArray)) w):wpList P ops Q (o :: rest) a w:=wpL_get R hw x ho b xs hx hl H.out.at0 h
theorem put0 {b:Nat} {ys:List Value} (R:RT P T k z) (H:Hid (M N w0 w (⟨b,T,ys⟩ :: L))) (hgd:o.guard=none) (x y:Operand) (xs:List Value) (ho:o.op=.store T x y) (hx:a.eval x=.pointer (some ⟨b,0,none⟩)) (hy:a.eval y=.agg xs.toArray) (hl:xs.length=k)
 (h1:∀ v ∈ xs,v.oneCell'=true) (hl2:ys.length=k)
 (h:∀ W,Hid (M N w0 W (⟨b,T,xs⟩ :: L))→Stp b w W→wpList P ops Q rest (a.put o.dst undef) W):wpList P ops Q (o :: rest) a w :=
 wpL_put R hgd x y ho b xs hx hy hl h1 ys hl2 H.out.at0 fun W ha st=>h W (hidp (H.out.put0 ha st)) st
theorem ld0 {ty b t:Nat} {xs:List Value} (hn:NA P ty) (H:Hid (M N w0 w (⟨b,t,xs⟩ :: L))) (hw:Region.wanted o (yielded ops a.tmps)=true) (x:Operand) (f:Nat) (v:Value) (ho:o.op=.load ty x) (hx:a.eval x=.pointer (some ⟨b,f,none⟩)) (hf:xs[f]?=some v)
 (h:wpList P ops Q rest (a.put o.dst v) w):wpList P ops Q (o :: rest) a w:=ldc hn hw x _ _ ho hx (by obtain ⟨h1,rfl⟩:=List.getElem?_eq_some_iff.1 hf;exact H.out.at0.cell f h1) h
end
section
variable {P:Program} {T k:Nat} {z:List Value} {ops:Array Oper} {o:Oper} {a:Act} {Q:Exit→Act→World→Prop} {S:World→Prop} {j:Nat} {s:Scr} {K:Act→World→Prop}
theorem sld0 {ty b t:Nat} {xs:List Value} (hn:NA P ty) (hS:∀ w,S w→M N w0 w (⟨b,t,xs⟩ :: L)) (ho:ops[j]?=some o) (hw:Region.wanted o (yielded ops a.tmps)=true) (x:Operand) (f:Nat) (v:Value) (hop:o.op=.load ty x) (hx:a.eval x=.pointer (some ⟨b,f,none⟩)) (hf:xs[f]?=some v)
 (h:wpScr P ops Q s S (a.put o.dst v) w):wpScr P ops Q (.take j s) S a w:=s_ldc hn ho hw x _ _ hop hx (fun w hs=>by obtain ⟨h1,rfl⟩:=List.getElem?_eq_some_iff.1 hf;exact (hS w hs).at0.cell f h1) h
theorem sget0 {b:Nat} {xs:List Value} (R:RT P T k z) (hS:∀ w,S w→M N w0 w (⟨b,T,xs⟩ :: L)) (ho:ops[j]?=some o) (hw:Region.wanted o (yielded ops a.tmps)=true) (x:Operand) (hop:o.op=.load T x) (hx:a.eval x=.pointer (some ⟨b,0,none⟩)) (hl:xs.length=k)
 (h:wpScr P ops Q s S (a.put o.dst (.agg xs.toArray)) w):wpScr P ops Q (.take j s) S a w:=s_get R ho hw x hop b xs hx hl (fun w hs=>(hS w hs).at0) h
theorem oput0 {b:Nat} {ys:List Value} (R:RT P T k z) (H:Hid (M N w0 w (⟨b,T,ys⟩ :: L))) (xs:List Value) (hT:∀ W,M N w0 W (⟨b,T,xs⟩ :: L)→S W) (ho:ops[j]?=some o) (hw:Region.wanted o (yielded ops a.tmps)=true) (x y:Operand) (hop:o.op=.store T x y) (hx:a.eval x=.pointer (some ⟨b,0,none⟩)) (hy:a.eval y=.agg xs.toArray) (hl:xs.length=k)
 (h1:∀ v ∈ xs,v.oneCell'=true) (hl2:ys.length=k)
 (h:∀ W,Hid (M N w0 W (⟨b,T,xs⟩ :: L))→Stp b w W→K (a.put o.dst undef) W):opW P ops Q S j K a w :=
 o_put R ho hw x y hop b xs hx hy hl h1 ys hl2 H.out.at0 fun W ha st=>⟨hT _ (H.out.put0 ha st),h W (hidp (H.out.put0 ha st)) st⟩
end
theorem M.at1 {x0:Bx} {b t:Nat} {r:List Value} (h:M N w0 w (x0 :: ⟨b,t,r⟩ :: L)):Arr w b t r:=h.has ⟨b,t,r⟩ (by simp)
theorem M.put1 {x0:Bx} {b t:Nat} {xs ys:List Value} (h:M N w0 w (x0 :: ⟨b,t,ys⟩ :: L)) (ha:Arr W b t xs) (st:Stp b w W):M N w0 W (x0 :: ⟨b,t,xs⟩ :: L):=h.put 1 b t xs ys rfl ha st
section
variable {P:Program} {T k:Nat} {z:List Value} {ops:Array Oper} {rest:List Oper} {o:Oper} {a:Act} {Q:Exit→Act→World→Prop} {x0:Bx}
theorem get1 {b:Nat} {xs:List Value} (R:RT P T k z) (H:Hid (M N w0 w (x0 :: ⟨b,T,xs⟩ :: L))) (hw:Region.wanted o (yielded ops a.tmps)=true) (x:Operand) (ho:o.op=.load T x) (hx:a.eval x=.pointer (some ⟨b,0,none⟩)) (hl:xs.length=k)
 (h:wpList P ops Q rest (a.put o.dst (.agg xs.toArray)) w):wpList P ops Q (o :: rest) a w:=wpL_get R hw x ho b xs hx hl H.out.at1 h
theorem put1 {b:Nat} {ys:List Value} (R:RT P T k z) (H:Hid (M N w0 w (x0 :: ⟨b,T,ys⟩ :: L))) (hgd:o.guard=none) (x y:Operand) (xs:List Value) (ho:o.op=.store T x y) (hx:a.eval x=.pointer (some ⟨b,0,none⟩)) (hy:a.eval y=.agg xs.toArray) (hl:xs.length=k)
 (h1:∀ v ∈ xs,v.oneCell'=true) (hl2:ys.length=k)
 (h:∀ W,Hid (M N w0 W (x0 :: ⟨b,T,xs⟩ :: L))→Stp b w W→wpList P ops Q rest (a.put o.dst undef) W):wpList P ops Q (o :: rest) a w :=
 wpL_put R hgd x y ho b xs hx hy hl h1 ys hl2 H.out.at1 fun W ha st=>h W (hidp (H.out.put1 ha st)) st
theorem putF1 {b t:Nat} {ys:List Value} (H:Hid (M N w0 w (x0 :: ⟨b,t,ys⟩ :: L))) (hgd:o.guard=none) (ty:TypeId) (x y:Operand) (f:Nat) (v:Value) (ho:o.op=.store ty x y) (hx:a.eval x=.pointer (some ⟨b,f,none⟩)) (hy:a.eval y=v) (hs:(P.info? ty).map (·.size)=some 1) (h1:v.oneCell'=true) (hf:f<ys.length)
 (h:∀ W,Hid (M N w0 W (x0 :: ⟨b,t,ys.set f v⟩ :: L))→Stp b w W→wpList P ops Q rest (a.put o.dst undef) W):wpList P ops Q (o :: rest) a w :=
 wpL_putF hgd ty x y ho b f v hx hy hs h1 ys H.out.at1 hf fun W ha st=>h W (hidp (H.out.put1 ha st)) st
theorem ld1 {ty b t:Nat} {xs:List Value} (hn:NA P ty) (H:Hid (M N w0 w (x0 :: ⟨b,t,xs⟩ :: L))) (hw:Region.wanted o (yielded ops a.tmps)=true) (x:Operand) (f:Nat) (v:Value) (ho:o.op=.load ty x) (hx:a.eval x=.pointer (some ⟨b,f,none⟩)) (hf:xs[f]?=some v)
 (h:wpList P ops Q rest (a.put o.dst v) w):wpList P ops Q (o :: rest) a w:=ldc hn hw x _ _ ho hx (by obtain ⟨h1,rfl⟩:=List.getElem?_eq_some_iff.1 hf;exact H.out.at1.cell f h1) h
end
section
variable {P:Program} {T k:Nat} {z:List Value} {ops:Array Oper} {o:Oper} {a:Act} {Q:Exit→Act→World→Prop} {S:World→Prop} {j:Nat} {s:Scr} {K:Act→World→Prop} {x0:Bx}
theorem sld1 {ty b t:Nat} {xs:List Value} (hn:NA P ty) (hS:∀ w,S w→M N w0 w (x0 :: ⟨b,t,xs⟩ :: L)) (ho:ops[j]?=some o) (hw:Region.wanted o (yielded ops a.tmps)=true) (x:Operand) (f:Nat) (v:Value) (hop:o.op=.load ty x) (hx:a.eval x=.pointer (some ⟨b,f,none⟩)) (hf:xs[f]?=some v)
 (h:wpScr P ops Q s S (a.put o.dst v) w):wpScr P ops Q (.take j s) S a w:=s_ldc hn ho hw x _ _ hop hx (fun w hs=>by obtain ⟨h1,rfl⟩:=List.getElem?_eq_some_iff.1 hf;exact (hS w hs).at1.cell f h1) h
theorem sget1 {b:Nat} {xs:List Value} (R:RT P T k z) (hS:∀ w,S w→M N w0 w (x0 :: ⟨b,T,xs⟩ :: L)) (ho:ops[j]?=some o) (hw:Region.wanted o (yielded ops a.tmps)=true) (x:Operand) (hop:o.op=.load T x) (hx:a.eval x=.pointer (some ⟨b,0,none⟩)) (hl:xs.length=k)
 (h:wpScr P ops Q s S (a.put o.dst (.agg xs.toArray)) w):wpScr P ops Q (.take j s) S a w:=s_get R ho hw x hop b xs hx hl (fun w hs=>(hS w hs).at1) h
theorem oput1 {b:Nat} {ys:List Value} (R:RT P T k z) (H:Hid (M N w0 w (x0 :: ⟨b,T,ys⟩ :: L))) (xs:List Value) (hT:∀ W,M N w0 W (x0 :: ⟨b,T,xs⟩ :: L)→S W) (ho:ops[j]?=some o) (hw:Region.wanted o (yielded ops a.tmps)=true) (x y:Operand) (hop:o.op=.store T x y) (hx:a.eval x=.pointer (some ⟨b,0,none⟩)) (hy:a.eval y=.agg xs.toArray) (hl:xs.length=k)
 (h1:∀ v ∈ xs,v.oneCell'=true) (hl2:ys.length=k)
 (h:∀ W,Hid (M N w0 W (x0 :: ⟨b,T,xs⟩ :: L))→Stp b w W→K (a.put o.dst undef) W):opW P ops Q S j K a w :=
 o_put R ho hw x y hop b xs hx hy hl h1 ys hl2 H.out.at1 fun W ha st=>⟨hT _ (H.out.put1 ha st),h W (hidp (H.out.put1 ha st)) st⟩
end
theorem M.at2 {x0 x1:Bx} {b t:Nat} {r:List Value} (h:M N w0 w (x0 :: x1 :: ⟨b,t,r⟩ :: L)):Arr w b t r:=h.has ⟨b,t,r⟩ (by simp)
section
variable {P:Program} {T k:Nat} {z:List Value} {ops:Array Oper} {rest:List Oper} {o:Oper} {a:Act} {Q:Exit→Act→World→Prop} {x0 x1:Bx}
theorem get2 {b:Nat} {xs:List Value} (R:RT P T k z) (H:Hid (M N w0 w (x0 :: x1 :: ⟨b,T,xs⟩ :: L))) (hw:Region.wanted o (yielded ops a.tmps)=true) (x:Operand) (ho:o.op=.load T x) (hx:a.eval x=.pointer (some ⟨b,0,none⟩)) (hl:xs.length=k)
 (h:wpList P ops Q rest (a.put o.dst (.agg xs.toArray)) w):wpList P ops Q (o :: rest) a w:=wpL_get R hw x ho b xs hx hl H.out.at2 h
theorem ld2 {ty b t:Nat} {xs:List Value} (hn:NA P ty) (H:Hid (M N w0 w (x0 :: x1 :: ⟨b,t,xs⟩ :: L))) (hw:Region.wanted o (yielded ops a.tmps)=true) (x:Operand) (f:Nat) (v:Value) (ho:o.op=.load ty x) (hx:a.eval x=.pointer (some ⟨b,f,none⟩)) (hf:xs[f]?=some v)
 (h:wpList P ops Q rest (a.put o.dst v) w):wpList P ops Q (o :: rest) a w:=ldc hn hw x _ _ ho hx (by obtain ⟨h1,rfl⟩:=List.getElem?_eq_some_iff.1 hf;exact H.out.at2.cell f h1) h
end
section
variable {P:Program} {T k:Nat} {z:List Value} {ops:Array Oper} {o:Oper} {a:Act} {Q:Exit→Act→World→Prop} {S:World→Prop} {j:Nat} {s:Scr} {K:Act→World→Prop} {x0 x1:Bx}
theorem sld2 {ty b t:Nat} {xs:List Value} (hn:NA P ty) (hS:∀ w,S w→M N w0 w (x0 :: x1 :: ⟨b,t,xs⟩ :: L)) (ho:ops[j]?=some o) (hw:Region.wanted o (yielded ops a.tmps)=true) (x:Operand) (f:Nat) (v:Value) (hop:o.op=.load ty x) (hx:a.eval x=.pointer (some ⟨b,f,none⟩)) (hf:xs[f]?=some v)
 (h:wpScr P ops Q s S (a.put o.dst v) w):wpScr P ops Q (.take j s) S a w:=s_ldc hn ho hw x _ _ hop hx (fun w hs=>by obtain ⟨h1,rfl⟩:=List.getElem?_eq_some_iff.1 hf;exact (hS w hs).at2.cell f h1) h
end
theorem M.at3 {x0 x1 x2:Bx} {b t:Nat} {r:List Value} (h:M N w0 w (x0 :: x1 :: x2 :: ⟨b,t,r⟩ :: L)):Arr w b t r:=h.has ⟨b,t,r⟩ (by simp)
theorem M.put3 {x0 x1 x2:Bx} {b t:Nat} {xs ys:List Value} (h:M N w0 w (x0 :: x1 :: x2 :: ⟨b,t,ys⟩ :: L)) (ha:Arr W b t xs) (st:Stp b w W):M N w0 W (x0 :: x1 :: x2 :: ⟨b,t,xs⟩ :: L):=h.put 3 b t xs ys rfl ha st
section
variable {P:Program} {T k:Nat} {z:List Value} {ops:Array Oper} {rest:List Oper} {o:Oper} {a:Act} {Q:Exit→Act→World→Prop} {x0 x1 x2:Bx}
theorem get3 {b:Nat} {xs:List Value} (R:RT P T k z) (H:Hid (M N w0 w (x0 :: x1 :: x2 :: ⟨b,T,xs⟩ :: L))) (hw:Region.wanted o (yielded ops a.tmps)=true) (x:Operand) (ho:o.op=.load T x) (hx:a.eval x=.pointer (some ⟨b,0,none⟩)) (hl:xs.length=k)
 (h:wpList P ops Q rest (a.put o.dst (.agg xs.toArray)) w):wpList P ops Q (o :: rest) a w:=wpL_get R hw x ho b xs hx hl H.out.at3 h
theorem put3 {b:Nat} {ys:List Value} (R:RT P T k z) (H:Hid (M N w0 w (x0 :: x1 :: x2 :: ⟨b,T,ys⟩ :: L))) (hgd:o.guard=none) (x y:Operand) (xs:List Value) (ho:o.op=.store T x y) (hx:a.eval x=.pointer (some ⟨b,0,none⟩)) (hy:a.eval y=.agg xs.toArray) (hl:xs.length=k)
 (h1:∀ v ∈ xs,v.oneCell'=true) (hl2:ys.length=k)
 (h:∀ W,Hid (M N w0 W (x0 :: x1 :: x2 :: ⟨b,T,xs⟩ :: L))→Stp b w W→wpList P ops Q rest (a.put o.dst undef) W):wpList P ops Q (o :: rest) a w :=
 wpL_put R hgd x y ho b xs hx hy hl h1 ys hl2 H.out.at3 fun W ha st=>h W (hidp (H.out.put3 ha st)) st
theorem ld3 {ty b t:Nat} {xs:List Value} (hn:NA P ty) (H:Hid (M N w0 w (x0 :: x1 :: x2 :: ⟨b,t,xs⟩ :: L))) (hw:Region.wanted o (yielded ops a.tmps)=true) (x:Operand) (f:Nat) (v:Value) (ho:o.op=.load ty x) (hx:a.eval x=.pointer (some ⟨b,f,none⟩)) (hf:xs[f]?=some v)
 (h:wpList P ops Q rest (a.put o.dst v) w):wpList P ops Q (o :: rest) a w:=ldc hn hw x _ _ ho hx (by obtain ⟨h1,rfl⟩:=List.getElem?_eq_some_iff.1 hf;exact H.out.at3.cell f h1) h
end
section
variable {P:Program} {T k:Nat} {z:List Value} {ops:Array Oper} {o:Oper} {a:Act} {Q:Exit→Act→World→Prop} {S:World→Prop} {j:Nat} {s:Scr} {K:Act→World→Prop} {x0 x1 x2:Bx}
theorem sld3 {ty b t:Nat} {xs:List Value} (hn:NA P ty) (hS:∀ w,S w→M N w0 w (x0 :: x1 :: x2 :: ⟨b,t,xs⟩ :: L)) (ho:ops[j]?=some o) (hw:Region.wanted o (yielded ops a.tmps)=true) (x:Operand) (f:Nat) (v:Value) (hop:o.op=.load ty x) (hx:a.eval x=.pointer (some ⟨b,f,none⟩)) (hf:xs[f]?=some v)
 (h:wpScr P ops Q s S (a.put o.dst v) w):wpScr P ops Q (.take j s) S a w:=s_ldc hn ho hw x _ _ hop hx (fun w hs=>by obtain ⟨h1,rfl⟩:=List.getElem?_eq_some_iff.1 hf;exact (hS w hs).at3.cell f h1) h
end
theorem M.at4 {x0 x1 x2 x3:Bx} {b t:Nat} {r:List Value} (h:M N w0 w (x0 :: x1 :: x2 :: x3 :: ⟨b,t,r⟩ :: L)):Arr w b t r:=h.has ⟨b,t,r⟩ (by simp)
section
variable {P:Program} {T k:Nat} {z:List Value} {ops:Array Oper} {rest:List Oper} {o:Oper} {a:Act} {Q:Exit→Act→World→Prop} {x0 x1 x2 x3:Bx}
end
section
variable {P:Program} {T k:Nat} {z:List Value} {ops:Array Oper} {o:Oper} {a:Act} {Q:Exit→Act→World→Prop} {S:World→Prop} {j:Nat} {s:Scr} {K:Act→World→Prop} {x0 x1 x2 x3:Bx}
end
theorem M.at5 {x0 x1 x2 x3 x4:Bx} {b t:Nat} {r:List Value} (h:M N w0 w (x0 :: x1 :: x2 :: x3 :: x4 :: ⟨b,t,r⟩ :: L)):Arr w b t r:=h.has ⟨b,t,r⟩ (by simp)
section
variable {P:Program} {T k:Nat} {z:List Value} {ops:Array Oper} {rest:List Oper} {o:Oper} {a:Act} {Q:Exit→Act→World→Prop} {x0 x1 x2 x3 x4:Bx}
theorem get5 {b:Nat} {xs:List Value} (R:RT P T k z) (H:Hid (M N w0 w (x0 :: x1 :: x2 :: x3 :: x4 :: ⟨b,T,xs⟩ :: L))) (hw:Region.wanted o (yielded ops a.tmps)=true) (x:Operand) (ho:o.op=.load T x) (hx:a.eval x=.pointer (some ⟨b,0,none⟩)) (hl:xs.length=k)
 (h:wpList P ops Q rest (a.put o.dst (.agg xs.toArray)) w):wpList P ops Q (o :: rest) a w:=wpL_get R hw x ho b xs hx hl H.out.at5 h
end
section
variable {P:Program} {T k:Nat} {z:List Value} {ops:Array Oper} {o:Oper} {a:Act} {Q:Exit→Act→World→Prop} {S:World→Prop} {j:Nat} {s:Scr} {K:Act→World→Prop} {x0 x1 x2 x3 x4:Bx}
end
section
variable {P:Program} {T k:Nat} {z:List Value} {ops:Array Oper} {rest:List Oper} {o:Oper} {a:Act} {Q:Exit→Act→World→Prop} {x0 x1 x2 x3 x4 x5:Bx}
end
section
variable {P:Program} {T k:Nat} {z:List Value} {ops:Array Oper} {o:Oper} {a:Act} {Q:Exit→Act→World→Prop} {S:World→Prop} {j:Nat} {s:Scr} {K:Act→World→Prop} {x0 x1 x2 x3 x4 x5:Bx}
end
section
variable {P:Program} {T k:Nat} {z:List Value} {ops:Array Oper} {rest:List Oper} {o:Oper} {a:Act} {Q:Exit→Act→World→Prop} {x0 x1 x2 x3 x4 x5 x6:Bx}
end
section
variable {P:Program} {T k:Nat} {z:List Value} {ops:Array Oper} {o:Oper} {a:Act} {Q:Exit→Act→World→Prop} {S:World→Prop} {j:Nat} {s:Scr} {K:Act→World→Prop} {x0 x1 x2 x3 x4 x5 x6:Bx}
end
section
variable {P:Program} {T k:Nat} {z:List Value} {ops:Array Oper} {rest:List Oper} {o:Oper} {a:Act} {Q:Exit→Act→World→Prop} {x0 x1 x2 x3 x4 x5 x6 x7:Bx}
end
section
variable {P:Program} {T k:Nat} {z:List Value} {ops:Array Oper} {o:Oper} {a:Act} {Q:Exit→Act→World→Prop} {S:World→Prop} {j:Nat} {s:Scr} {K:Act→World→Prop} {x0 x1 x2 x3 x4 x5 x6 x7:Bx}
end
end Go.Proofs.YtokakgjcegmabaaGreatDoor.Mm
