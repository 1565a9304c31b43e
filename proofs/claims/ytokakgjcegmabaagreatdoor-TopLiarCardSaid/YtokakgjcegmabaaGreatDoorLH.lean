import Derived.Test.YtokakgjcegmabaaGreatDoorLE
import Derived.Deep.Quiet
import Derived.Test.YtokakgjcegmabaaGreatDoorLF
import Derived.Deep.MidRow
import Derived.Maps.AppendAt
import Derived.Great.BuildSlice
set_option linter.unusedVariables false
set_option linter.unusedSimpArgs false
set_option maxHeartbeats 64000000
set_option maxRecDepth 100000
namespace Go.Proofs.YtokakgjcegmabaaGreatDoor
section
open Go.RowKit
section
variable {P:Program} {ops:Array Oper} {md:Region.Mode} {C:World→Prop} {Q:Exit→Act→World→Prop}
end
end
section
open Go.RowKit
theorem infoHash:(Tryz.prog.info? 58).map (fun i=>(i.zero,i.size,i.bytes))=some (some (.agg (u8s z32).toArray),32,32):=by kernel_rfl
theorem hash_row:Tryz.prog.underlying 58=some (.array 32 5):=by kernel_rfl
theorem hashes_row:Tryz.prog.underlying 37=some (.slice 58):=by kernel_rfl
theorem elem_hashes:Tryz.prog.elem 37=58:=by kernel_rfl
theorem size_hash (w:World):(sizeOf 58).run Tryz.prog w=.ok 32 w:=by
 obtain ⟨i0,hi,hz0,hz1,hz2⟩:=info_parts infoHash
 simp [sizeOf,typeInfo,hi,hz1]
theorem zero_hash (w:World):(zeroValue 58).run Tryz.prog w=.ok (.agg (u8s z32).toArray) w:=by
 obtain ⟨i0,hi,hz0,hz1,hz2⟩:=info_parts infoHash
 simp [zeroValue,typeInfo,hi,hz0]
theorem addr_add (b o k:Nat):(⟨b,o,none⟩:Addr).add k=⟨b,o + k,none⟩:=by unfold Addr.add;split <;> simp_all
structure Stp (b:Nat) (w W:World):Prop where
 size:W.heap.size=w.heap.size
 other:∀ c,c≠b→W.heap[c]?=w.heap[c]?
 below:∀ N,N≤b→Below N w W
theorem Stp.setRow (w:World) (b:Nat) (xs:Array Value):Stp b w (w.setRow b xs):=⟨by simp,fun c hc=>setRow_other w b c xs hc,fun N hN=>below_setRow (Below.refl N w) hN xs⟩
theorem Stp.arr {w W:World} {b c t:Nat} {xs:List Value} (h:Stp b w W) (hc:c≠b) (ha:Arr w c t xs):Arr W c t xs:=(h.other c hc).trans ha
theorem Stp.below' {w0 w W:World} {b N:Nat} (h:Stp b w W) (hb:Below N w0 w) (hN:N≤b):Below N w0 W:=hb.trans (h.below N hN)
structure NewAt (w W:World) (b t:Nat) (xs:List Value):Prop where
 at_:b=w.heap.size
 size:W.heap.size=b + 1
 arr:Arr W b t xs
 below:Below w.heap.size w W
theorem NewAt.mk' (w:World) (t:Nat) (xs:List Value):NewAt w (w.alloc (.cells xs.toArray t)) w.heap.size t xs:=⟨rfl,by simp,Arr.new _ _ _,(Below.refl _ w).alloc (Nat.le_refl _) _⟩
theorem NewAt.old {w W:World} {b t c u:Nat} {xs ys:List Value} (h:NewAt w W b t xs) (ha:Arr w c u ys):Arr W c u ys:=ha.below h.below ha.lt
theorem NewAt.lt {w W:World} {b t:Nat} {xs:List Value} (h:NewAt w W b t xs):b<W.heap.size:=h.arr.lt
theorem NewAt.put {w W W':World} {b t:Nat} {xs:List Value} (h:NewAt w W b t xs) (k:Stp b W W'):Below w.heap.size w W':=h.below.trans (k.below _ (by rw [h.at_];exact Nat.le_refl _))
theorem NewAt.le {w W:World} {b t:Nat} {xs:List Value} (h:NewAt w W b t xs):w.heap.size≤b:=by rw [h.at_];exact Nat.le_refl _
theorem Stp.sz {b:Nat} {w W:World} (h:Stp b w W):w.heap.size≤W.heap.size:=by rw [h.size];exact Nat.le_refl _
theorem Stp.old {w W:World} {b c t:Nat} {xs:List Value} (h:Stp b w W) (ha:Arr w c t xs) (hc:c<b):Arr W c t xs:=h.arr (by omega) ha
section
variable {ops:Array Oper} {rest:List Oper} {o:Oper} {a:Act} {w:World} {Q:Exit→Act→World→Prop}
theorem wpL_new (hgd:o.guard=none) (ho:o.op=.alloc 58)
 (h:∀ b W,NewAt w W b 58 (u8s z32)→wpList Tryz.prog ops Q rest (a.put o.dst (.pointer (some ⟨b,0,none⟩))) W) :
 wpList Tryz.prog ops Q (o :: rest) a w:=by
 refine wpList_plain hgd fun K hK=>?_
 have:=hK _ _ (h w.heap.size (w.alloc (.cells (u8s z32).toArray 58)) (NewAt.mk' _ _ _))
 unfold Oper.wp execOp
 simp only [ho,Instr.alloc,Sem.run_bind,Result.andThen_ok,zero_hash w]
 simp [newVar,newRow,Value.cells]
 exact this
theorem wpL_box (hgd:o.guard=none) (x:Operand) (ho:o.op=.box 58 x) (xs:List Value) (hx:a.eval x=.agg xs.toArray)
 (h:∀ b W,NewAt w W b 58 xs→wpList Tryz.prog ops Q rest (a.put o.dst (.pointer (some ⟨b,0,none⟩))) W) :
 wpList Tryz.prog ops Q (o :: rest) a w:=by
 refine wpList_plain hgd fun K hK=>?_
 have:=hK _ _ (h w.heap.size (w.alloc (.cells xs.toArray 58)) (NewAt.mk' _ _ _))
 unfold Oper.wp execOp
 simp only [ho,Instr.box,Sem.run_bind,Result.andThen_ok,hx]
 simp [newVar,newRow,Value.cells]
 exact this
theorem wpL_put (hgd:o.guard=none) (x y:Operand) (ho:o.op=.store 58 x y) (b:Nat) (l:List UInt8) (hx:a.eval x=.pointer (some ⟨b,0,none⟩)) (hy:a.eval y=.agg (u8s l).toArray) (hl:l.length=32)
 (old:List Value) (hold:old.length=32) (hg:Arr w b 58 old)
 (h:∀ W,Arr W b 58 (u8s l)→Stp b w W→wpList Tryz.prog ops Q rest (a.put o.dst undef) W):wpList Tryz.prog ops Q (o :: rest) a w :=
 wpList_store_row hgd 58 x y ho b (u8s l).toArray hx hy 58 _ hg (hash_size hl) (by simp [u8s_length,hl,hold]) (u8s_one _) (h _ (Arr.row hg _) (Stp.setRow _ _ _))
theorem wpL_get (hgd:o.guard=none) (x:Operand) (ho:o.op=.load 58 x) (b:Nat) (l:List UInt8) (hx:a.eval x=.pointer (some ⟨b,0,none⟩)) (hl:l.length=32) (hg:Arr w b 58 (u8s l))
 (h:wpList Tryz.prog ops Q rest (a.put o.dst (.agg (u8s l).toArray)) w):wpList Tryz.prog ops Q (o :: rest) a w :=
 wpList_load_row hgd 58 x ho b hx 58 _ (0,0) _ hg hash_row rfl (hash_size hl) h
theorem wpL_at (hgd:o.guard=none) (x:Operand) (ho:o.op=.load 58 x) (b off:Nat) (l:List UInt8) (hx:a.eval x=.pointer (some ⟨b,off,none⟩)) (hl:l.length=32) (hg:w.rangeAt b off (u8s l))
 (h:wpList Tryz.prog ops Q rest (a.put o.dst (.agg (u8s l).toArray)) w):wpList Tryz.prog ops Q (o :: rest) a w :=
 wpList_load_mid hgd 58 x ho b off hx (u8s l) _ hg hash_row rfl (by have:=hash_size hl;simpa using this) h
theorem run_idx (B off n c i:Nat) (hi:i<n) (w:World):(Instr.indexAt 37 (.slice (some ⟨B,off,none⟩) n c) (.int .i64 (i:Int))).run Tryz.prog w=.ok (.pointer (some ⟨B,off + 32 * i,none⟩)) w:=by
 rw [run_indexAt_slice (P:=Tryz.prog) w 37 ⟨B,off,none⟩ n c .i64 (i:Int) (by rw [elem_hashes];exact hashes_row),if_pos (by omega),elem_hashes,size_hash]
 simp [Result.andThen,addr_add,Nat.mul_comm]
theorem wpL_idx (hgd:o.guard=none) (x y:Operand) (ho:o.op=.indexAddr 37 x y) (B off n c i:Nat) (hx:a.eval x=.slice (some ⟨B,off,none⟩) n c) (hy:a.eval y=.int .i64 (i:Int)) (hi:i<n)
 (h:wpList Tryz.prog ops Q rest (a.put o.dst (.pointer (some ⟨B,off + 32 * i,none⟩))) w):wpList Tryz.prog ops Q (o :: rest) a w:=by
 refine wpList_plain hgd fun K hK=>?_
 have:=hK _ _ h
 unfold Oper.wp execOp
 simp only [ho,hx,hy,Sem.run_bind,run_idx B off n c i hi,Result.andThen_ok]
 exact this
end
def cat32 (hs:List (List UInt8)):List Value:=hs.flatMap u8s
def All32 (hs:List (List UInt8)):Prop:=∀ x ∈ hs,x.length=32
theorem All32.nil:All32 []:=fun _ h=>by cases h
theorem All32.get {hs:List (List UInt8)} (h:All32 hs) (i:Nat) (hi:i<hs.length):hs[i].length=32:=h _ (List.getElem_mem hi)
theorem All32.take {hs:List (List UInt8)} (h:All32 hs) (k:Nat):All32 (hs.take k):=fun x hx=>h x (List.mem_of_mem_take hx)
theorem All32.drop {hs:List (List UInt8)} (h:All32 hs) (k:Nat):All32 (hs.drop k):=fun x hx=>h x (List.mem_of_mem_drop hx)
theorem All32.app {a b:List (List UInt8)} (h:All32 a) (k:All32 b):All32 (a++b):=fun x hx=>(List.mem_append.1 hx).elim (h x) (k x)
theorem All32.one {a:List UInt8} (h:a.length=32):All32 [a]:=fun x hx=>by simp at hx;subst hx;exact h
theorem All32.tail {a:List UInt8} {hs:List (List UInt8)} (h:All32 (a :: hs)):All32 hs:=fun x hx=>h x (by simp [hx])
theorem cat32_len {hs:List (List UInt8)} (h:All32 hs):(cat32 hs).length=32 * hs.length:=by
 unfold cat32
 induction hs with
 | nil=>rfl
 | cons x r ih=>rw [List.flatMap_cons,List.length_append,ih h.tail,u8s_length,h x (by simp),List.length_cons];omega
theorem cat32_app (a b:List (List UInt8)):cat32 (a++b)=cat32 a++cat32 b:=by simp [cat32]
theorem cat32_one (a:List UInt8):cat32 [a]=u8s a:=by simp [cat32]
theorem cat32_cells (hs:List (List UInt8)):∀ v ∈ cat32 hs,v.oneCell'=true:=by
 intro v hv
 obtain ⟨l,_,hl⟩:=List.mem_flatMap.1 hv
 obtain ⟨b,_,rfl⟩:=List.mem_map.1 hl
 rfl
theorem rangeAt_app {w:World} {b o:Nat} {xs ys:List Value}:w.rangeAt b o (xs++ys)↔w.rangeAt b o xs∧w.rangeAt b (o + xs.length) ys:=by
 constructor
 · intro h
   refine ⟨fun j v hv=>h j v ?_,fun j v hv=>?_⟩
   · rw [List.getElem?_append_left (List.getElem?_eq_some_iff.1 hv).1];exact hv
   · have:=h (xs.length + j) v (by rw [List.getElem?_append_right (by omega)];simpa using hv)
     rw [Nat.add_assoc];exact this
 · rintro ⟨h1,h2⟩ j v hv
   by_cases hj:j<xs.length
   · rw [List.getElem?_append_left hj] at hv;exact h1 j v hv
   · rw [List.getElem?_append_right (by omega)] at hv
     have:=h2 (j - xs.length) v hv
     rw [show o + xs.length + (j - xs.length)=o + j from by omega] at this;exact this
theorem range_nth {w:World} {b o:Nat} {hs:List (List UInt8)} (h:w.rangeAt b o (cat32 hs)) (h32:All32 hs) (i:Nat) (hi:i<hs.length):w.rangeAt b (o + 32 * i) (u8s hs[i]):=by
 have e:hs=hs.take i++(hs[i] :: hs.drop (i + 1)):=by rw [← List.drop_eq_getElem_cons hi,List.take_append_drop]
 rw [e,cat32_app,rangeAt_app] at h
 have h2:=h.2
 rw [cat32_len (h32.take i),List.length_take,Nat.min_eq_left (by omega),show cat32 (hs[i] :: hs.drop (i + 1))=u8s hs[i]++cat32 (hs.drop (i + 1)) from List.flatMap_cons ..,rangeAt_app] at h2
 exact h2.1
def HsAt (w:World) (v:Value) (hs:List (List UInt8)):Prop :=
 All32 hs∧((v=.slice none 0 0∧hs=[])∨∃ B o c,v=.slice (some ⟨B,o,none⟩) hs.length c∧hs.length≤c∧B<w.heap.size∧w.rangeAt B o (cat32 hs))
theorem HsAt.below {w w':World} {v:Value} {hs:List (List UInt8)} (h:HsAt w v hs) {B:Nat} (hb:Below B w w') (hB:w.heap.size≤B) (hs':w.heap.size≤w'.heap.size):HsAt w' v hs:=by
 refine ⟨h.1,h.2.imp id ?_⟩
 rintro ⟨b,o,c,rfl,hc,hlt,hr⟩
 exact ⟨b,o,c,rfl,hc,by omega,rangeAt_below hr hb (by omega)⟩
theorem HsAt.to {w w':World} {v:Value} {hs:List (List UInt8)} (h:HsAt w v hs) (hb:Below w.heap.size w w'):HsAt w' v hs:=h.below hb (Nat.le_refl _) hb.size
theorem HsAt.form {w:World} {v:Value} {hs:List (List UInt8)} (h:HsAt w v hs):∃ a c,v=.slice a hs.length c:=by
 rcases h.2 with ⟨rfl,rfl⟩ | ⟨B,o,c,rfl,_⟩
 · exact ⟨none,0,rfl⟩
 · exact ⟨_,c,rfl⟩
theorem HsAt.get {w:World} {v:Value} {hs:List (List UInt8)} (h:HsAt w v hs) (hp:0<hs.length):∃ B o c,v=.slice (some ⟨B,o,none⟩) hs.length c∧hs.length≤c∧B<w.heap.size∧w.rangeAt B o (cat32 hs):=by
 rcases h.2 with ⟨rfl,rfl⟩ | h
 · simp at hp
 · exact h
theorem HsAt.own {w:World} {B0:Nat} {v:Value} {hs:List (List UInt8)} (h32:All32 hs) (h:w.ownsRow B0 58 32 v hs.length (cat32 hs)):HsAt w v hs:=by
 refine ⟨h32,?_⟩
 have h':=h
 rcases h'.2 with ⟨rfl,hn⟩ | ⟨g,cap,cur,rfl,_,hg,hle,_⟩
 · exact .inl ⟨rfl,List.eq_nil_of_length_eq_zero hn⟩
 · refine .inr ⟨g,0,cap,rfl,hle,(Array.getElem?_eq_some_iff.1 hg).1,fun j u hj=>?_⟩
   have:=World.ownsRow.cells h (g:=g) rfl j u hj
   rw [addr_add] at this;exact this
end
section
open Go.RowKit
def fitN (n:Nat):Bool:=(List.range 8).any fun k=>n == 2 ^ k
theorem fitN_and:∀ n:Fin 129,1≤n.1→(bits .and .i64 (n.1:Int) ((n.1:Int) - 1) == 0)=fitN n.1:=by decide +kernel
theorem fitN_big (n:Nat) (h:128<n):fitN n=false:=by
 unfold fitN
 rw [List.any_eq_false]
 intro k hk
 simp only [List.mem_range] at hk
 have h8:∀ k:Fin 8,2 ^ k.1≤128:=by decide
 have:2 ^ k≤128:=h8 ⟨k,hk⟩
 simp;omega
theorem fitN_pow (n:Nat) (h:fitN n=true):∃ k,k≤7∧n=2 ^ k:=by
 unfold fitN at h
 obtain ⟨k,hk,he⟩:=List.any_eq_true.1 h
 exact ⟨k,by simp at hk;omega,by simpa using he⟩
theorem perm_any (w:World) (n:Nat) (hn:n≤4611686018427387904) :
 Calls Tryz.prog 168 #[.int .i64 (n:Int)] w fun e w'=>e=.returned (.bool (fitN n))∧w=w':=by
 by_cases h0:n=0
 · subst h0
   have hf:fitN 0=false:=by decide
   rw [hf]
   go_enter Tryz.func168,Tryz.ntmps168
   go_wp2
   go_ret
   exact ⟨rfl,rfl⟩
 · by_cases h1:n≤128
   · have hb:=fitN_and ⟨n,by omega⟩ (show 1≤n from by omega)
     simp only at hb
     have t1:decide ((1:Int)≤(n:Int))=true:=by simp;omega
     have t2:decide ((n:Int)≤128)=true:=by simp;omega
     obtain ⟨X,hX⟩:∃ X,fitN n=X:=⟨_,rfl⟩
     rw [hX] at hb ⊢
     clear hX
     go_enter Tryz.func168,Tryz.ntmps168
     go_wp2
     go_ret
     exact ⟨by go_num,rfl⟩
   · rw [fitN_big n (by omega)]
     have t1:decide ((1:Int)≤(n:Int))=true:=by simp;omega
     have t2:decide ((n:Int)≤128)=false:=by simp;omega
     go_enter Tryz.func168,Tryz.ntmps168
     go_wp2
     go_ret
     exact ⟨rfl,rfl⟩
theorem left_any (w:World) (i:Nat) (hi:i≤4611686018427387904) :
 Calls Tryz.prog 183 #[.int .i64 (i:Int)] w fun e w'=>e=.returned (.bool (i % 2 == 0))∧w=w':=by
 have hm:((i:Int).tmod 2 == 0)=(i % 2 == 0):=by
  rw [Int.tmod_eq_emod_of_nonneg (by omega),Bool.eq_iff_iff];simp;omega
 have hm2:((i:Int) % 2 == 0)=(i % 2 == 0):=by
  rw [Bool.eq_iff_iff];simp;omega
 obtain ⟨X,hX⟩:∃ X,(i % 2 == 0)=X:=⟨_,rfl⟩
 rw [hX] at hm hm2 ⊢
 clear hX
 go_enter Tryz.func183,Tryz.ntmps183
 go_wp2
 go_ret
 exact ⟨by go_num,rfl⟩
def sibN (i:Nat):Nat:=if i % 2=0 then i + 1 else i - 1
theorem sib_any (w:World) (i:Nat) (hi:i≤4611686018427387904) :
 Calls Tryz.prog 174 #[.int .i64 (i:Int)] w fun e w'=>e=.returned (.int .i64 ((sibN i:Nat):Int))∧w=w':=by
 have c:=hidp (fun W=>left_any W i hi)
 by_cases h:i % 2=0
 · have hx:(i % 2 == 0)=true:=by simp [h]
   have hs:=hidp (show sibN i=i + 1 from if_pos h)
   rw [hx] at c
   go_enter Tryz.func174,Tryz.ntmps174
   go_wp2_with (go_at_call 183;refine (c.out _).mono ?_;rintro e w1 ⟨rfl,rfl⟩)
   go_ret
   exact ⟨by rw [hs.out];go_num,rfl⟩
 · have hx:(i % 2 == 0)=false:=by simp;omega
   have hs:=hidp (show sibN i=i - 1 from if_neg h)
   rw [hx] at c
   go_enter Tryz.func174,Tryz.ntmps174
   go_wp2_with (go_at_call 183;refine (c.out _).mono ?_;rintro e w1 ⟨rfl,rfl⟩)
   go_ret
   exact ⟨by rw [hs.out,show ((i - 1:Nat):Int)=(i:Int) - 1 from by omega];go_num,rfl⟩
theorem str_conv (W:World) (b:Nat) (l:List UInt8) (hl:l.length=32) (h:W.rangeAt b 0 (u8s l)) :
 (convert 174 9 (.slice (some ⟨b,0,none⟩) 32 32)).run Tryz.prog W=.ok (.string (mkS l)) W:=by
 have h:=run_str_at (P:=Tryz.prog) (src:=174) (e:=5) (dst:=9) Tryz.underlying174 Tryz.underlying5 Tryz.underlying9 b 0 32 l (w:=W) (by
  intro i hi
  rw [h i (.int .u8 ((l.getD i 0).toNat:Int)) (by simp [u8s,List.getD_eq_getElem?_getD,hi])])
 rw [hl] at h
 exact h
def txtL (a b:List UInt8):List UInt8:=1 :: (a++b)
def abvL (a b:List UInt8):List UInt8:=shaL (txtL a b)
theorem txtL_len (a b:List UInt8) (ha:a.length=32) (hb:b.length=32):(txtL a b).length=65:=by simp [txtL,ha,hb]
theorem abvL_len (a b:List UInt8):(abvL a b).length=32:=shaL_len _
theorem txt_cat (a b:List UInt8):(⟨#[1]⟩:ByteArray)++mkS a++mkS b=mkS (txtL a b):=by
 rw [show (⟨#[1]⟩:ByteArray)=mkS [1] from rfl,mkS_append,mkS_append];rfl
theorem abvL_eq (a b:List UInt8):abvL a b=shaL (txtL a b):=rfl
attribute [irreducible] abvL txtL
end
section
open Go.RowKit
theorem str_cls {N:Nat} {W:World} (b:Nat) (l:List UInt8) (hl:l.length=32) (h:Arr W b 58 (u8s l)) (hb:b<N) (S:ByteArray) (hS:mkS l=S) :
 ∀ w,Cls N W w→(convert 174 9 (.slice (some ⟨b,0,none⟩) 32 32)).run Tryz.prog w=.ok (.string S) w:=fun w hw=>by
 subst hS;exact str_conv w b l hl (Cls.range hw h.range hb)
theorem above_any (w:World) (a b:List UInt8) (ha:a.length=32) (hb:b.length=32) (hK:KT w) :
 Calls Tryz.prog 170 #[.agg (u8s a).toArray,.agg (u8s b).toArray] w fun e w'=>e=.returned (.agg (u8s (abvL a b)).toArray)∧Below w.heap.size w w':=by
 have hcat:=txt_cat a b
 have c2:=hidp (show ∀ W,KT W→Calls Tryz.prog 146 #[.string ((⟨#[1]⟩:ByteArray)++mkS a++mkS b)] W fun e w'=>e=.returned (.agg (u8s (abvL a b)).toArray)∧Below W.heap.size W w' from fun W h=>by
  have:=sum_any W (mkS (txtL a b)) (by rw [mkS_size,txtL_len a b ha hb];omega) h
  rw [mkS_data] at this;rw [hcat,abvL_eq];exact this)
 obtain ⟨A,hA⟩:∃ A,mkS a=A:=⟨_,rfl⟩
 obtain ⟨B,hB⟩:∃ B,mkS b=B:=⟨_,rfl⟩
 have hAs:A.size=32:=by rw [← hA,mkS_size,ha]
 have hBs:B.size=32:=by rw [← hB,mkS_size,hb]
 rw [hA,hB] at c2
 clear hcat
 have HA:=hidp hA;have HB:=hidp hB
 have HK:=hidp hK
 have hkp:=hK.pos
 have hxl:=abvL_len a b
 obtain ⟨x,hx⟩:∃ x,abvL a b=x:=⟨_,rfl⟩
 rw [hx] at c2 hxl ⊢
 clear hA hB hx hK
 go_enter Tryz.func170,Tryz.ntmps170
 go_wp2_with (first
  | (refine wpL_box rfl (.tmp 0) rfl (u8s a) rfl ?_;intro b1 w1 n1)
  | (refine wpL_box rfl (.tmp 1) rfl (u8s b) rfl ?_;intro b2 w2 n2)
  | (refine wpL_new rfl rfl ?_;intro b3 w3 n3))
 have ca:=hidp (str_cls (N:=w3.heap.size) b1 a ha (n3.old (n2.old n1.arr)) (n3.old (n2.old n1.arr)).lt A HA.out)
 have cb:=hidp (str_cls (N:=w3.heap.size) b2 b hb (n3.old n2.arr) (n3.old n2.arr).lt B HB.out)
 have HR:=hidp n3.arr
 have hlt:=Nat.le_trans n1.below.size n2.below.size
 have HBB:=hidp ((n1.below.trans (n2.below.mono n1.below.size)).trans (n3.below.mono hlt))
 have hb3:=hidp (show w.heap.size≤b3 from by rw [n3.at_];exact hlt)
 have hsz3:=HBB.out.size
 have hKK:=hidp (HK.out.below HBB.out hkp)
 have cc:=hidp (show ∀ v,Cls w3.heap.size w3 v→Calls Tryz.prog 146 #[.string ((⟨#[1]⟩:ByteArray)++A++B)] v fun e w'=>e=.returned (.agg (u8s x).toArray)∧Cls w3.heap.size w3 w' from fun v hv =>
  (c2.out v (hv.kt hKK.out (by omega))).mono fun e w' ⟨h1,h2⟩=>⟨h1,hv.step (Nat.le_refl _) h2⟩)
 refine wp_region_then (C:=Cls w3.heap.size w3) 7 (by kernel_rfl) (by kernel_rfl) (Cls.start _ _) ?_
 simp only [List.take,List.drop]
 repeat (first
  | (refine q_call ?_ 146 _ ?_ cc.out ?_
     · rfl
     · intro w;go_simp;done
     simp only [aR])
  | (refine q_val (v := .string A) ?_ ?_ ?_
     · rfl
     · intro w hw;have hx:=ca.out w hw;go_simp;done
     simp only [aR])
  | (refine q_val (v := .string B) ?_ ?_ ?_
     · rfl
     · intro w hw;have hx:=cb.out w hw;go_simp;done
     simp only [aR])
  | (apply q_val
     · rfl
     · intro w hw;go_simp;first | done | with_reducible rfl | rfl
     simp only [aR]))
 refine wpQuiet_nil ?_
 intro w4 hC
 have hR4:Arr w4 b3 58 (u8s z32):=HR.out.below hC HR.out.lt
 have HC:=hidp hC
 clear hC
 go_wp2_with (refine wpL_put rfl (.tmp 4) (.tmp 11) rfl b3 x rfl rfl hxl (u8s z32) rfl hR4 ?_;intro w6 ha6 hp6)
 refine bodyPost_ret (results_cell_row (P:=Tryz.prog) Tryz.results170 _ _ b3 58 (u8s x).toArray (0,0) _ rfl ha6 hash_row rfl (hash_size hxl)) rfl ?_
 exact ⟨rfl,hp6.below' (HBB.out.trans (Below.mono HC.out hsz3)) hb3.out⟩
end
section
def refR:Nat→List (List UInt8)→List UInt8
 | 0,hs=>hs.getD 0 z32
 | k + 1,hs=>abvL (refR k (hs.take (2 ^ k))) (refR k (hs.drop (2 ^ k)))
def pairL:List (List UInt8)→List (List UInt8)
 | a :: b :: r=>abvL a b :: pairL r
 | _=>[]
def lvl:Nat→List (List UInt8)→List (List UInt8)
 | 0,hs=>hs
 | j + 1,hs=>pairL (lvl j hs)
theorem refR_len (k:Nat) (hs:List (List UInt8)) (h:All32 hs) (hl:hs.length=2 ^ k):(refR k hs).length=32:=by
 cases k with
 | zero =>
   match hs,hl with
   | [a],_=>exact h a (by simp)
 | succ k=>exact abvL_len _ _
theorem pairL_app:∀ (a b:List (List UInt8)),a.length % 2=0→pairL (a++b)=pairL a++pairL b
 | [],b,_=>rfl
 | [x],b,h=>by simp at h
 | x :: y :: r, b, h => by
   simp only [List.length_cons] at h
   rw [List.cons_append,List.cons_append,pairL,pairL,pairL_app r b (by omega),List.cons_append]
theorem pairL_len:∀ (a:List (List UInt8)),(pairL a).length=a.length / 2
 | []=>rfl
 | [x]=>by simp [pairL]
 | x :: y :: r=>by simp only [pairL,List.length_cons,pairL_len r];omega
theorem pairL_32:∀ (a:List (List UInt8)),All32 (pairL a)
 | []=>All32.nil
 | [x]=>All32.nil
 | x :: y :: r => fun z hz => by
   rw [pairL,List.mem_cons] at hz
   rcases hz with rfl | hz
   · exact abvL_len _ _
   · exact pairL_32 r z hz
theorem pairL_get:∀ (a:List (List UInt8)) (i:Nat),2 * i + 1<a.length→(pairL a).getD i z32=abvL (a.getD (2 * i) z32) (a.getD (2 * i + 1) z32)
 | [],i,h=>by simp at h
 | [x],i,h=>by simp at h
 | x :: y :: r,0,h=>rfl
 | x :: y :: r, i + 1, h => by
   simp only [List.length_cons] at h
   have:=pairL_get r i (by omega)
   rw [pairL,List.getD_cons_succ,this,show 2 * (i + 1)=(2 * i) + 1 + 1 from by omega,List.getD_cons_succ,List.getD_cons_succ,show 2 * i + 1 + 1 + 1=(2 * i + 1) + 1 + 1 from by omega,List.getD_cons_succ,List.getD_cons_succ]
theorem lvl_32 (j:Nat) (hs:List (List UInt8)) (h:All32 hs):All32 (lvl j hs):=by
 cases j with
 | zero=>exact h
 | succ j=>exact pairL_32 _
theorem lvl_len (j k:Nat) (hs:List (List UInt8)) (hl:hs.length=2 ^ k) (h:j≤k):(lvl j hs).length=2 ^ (k - j):=by
 induction j with
 | zero=>exact hl
 | succ j ih =>
   rw [lvl,pairL_len,ih (by omega),show k - j=(k - (j + 1)) + 1 from by omega,Nat.pow_succ];omega
theorem lvl_app (j k:Nat) (a b:List (List UInt8)) (ha:a.length=2 ^ k) (h:j≤k):lvl j (a++b)=lvl j a++lvl j b:=by
 induction j with
 | zero=>rfl
 | succ j ih =>
   rw [lvl,lvl,lvl,ih (by omega),pairL_app]
   rw [lvl_len j k a ha (by omega),show k - j=(k - (j + 1)) + 1 from by omega,Nat.pow_succ];omega
theorem two_pow_succ (k:Nat):2 ^ (k + 1)=2 ^ k + 2 ^ k:=by rw [Nat.pow_succ];omega
theorem half_len {k:Nat} {hs:List (List UInt8)} (hl:hs.length=2 ^ (k + 1)):(hs.take (2 ^ k)).length=2 ^ k∧(hs.drop (2 ^ k)).length=2 ^ k:=by
 rw [two_pow_succ] at hl
 constructor
 · rw [List.length_take];omega
 · rw [List.length_drop];omega
theorem lvl_root (k:Nat) (hs:List (List UInt8)) (hl:hs.length=2 ^ k):lvl k hs=[refR k hs]:=by
 induction k generalizing hs with
 | zero =>
   match hs,hl with
   | [a],_=>rfl
 | succ k ih =>
   obtain ⟨h1,h2⟩:=half_len hl
   have e:lvl k hs=[refR k (hs.take (2 ^ k)),refR k (hs.drop (2 ^ k))]:=by
    have e2:=lvl_app k k (hs.take (2 ^ k)) (hs.drop (2 ^ k)) h1 (Nat.le_refl _)
    rw [List.take_append_drop,ih _ h1,ih _ h2] at e2
    exact e2
   rw [lvl,e];rfl
def pathL (k:Nat) (hs:List (List UInt8)) (i:Nat):List (List UInt8):=(List.range k).map fun j=>(lvl j hs).getD (sibN (i / 2 ^ j)) z32
theorem pathL_len (k:Nat) (hs:List (List UInt8)) (i:Nat):(pathL k hs i).length=k:=by simp [pathL]
theorem pathL_succ (k:Nat) (hs:List (List UInt8)) (i:Nat):pathL (k + 1) hs i=pathL k hs i++[(lvl k hs).getD (sibN (i / 2 ^ k)) z32]:=by
 unfold pathL;rw [List.range_succ,List.map_append];rfl
def refP:Nat→List (List UInt8)→Nat→List (List UInt8)
 | 0,_,_=>[]
 | k + 1,hs,i=>if i<2 ^ k then refP k (hs.take (2 ^ k)) i++[refR k (hs.drop (2 ^ k))] else refP k (hs.drop (2 ^ k)) (i - 2 ^ k)++[refR k (hs.take (2 ^ k))]
theorem refP_len (k:Nat) (hs:List (List UInt8)) (i:Nat):(refP k hs i).length=k:=by
 induction k generalizing hs i with
 | zero=>rfl
 | succ k ih=>rw [refP];split <;> simp [ih]
theorem refP_32 (k:Nat) (hs:List (List UInt8)) (i:Nat) (h:All32 hs) (hl:hs.length=2 ^ k):All32 (refP k hs i):=by
 induction k generalizing hs i with
 | zero=>exact All32.nil
 | succ k ih =>
   obtain ⟨h1,h2⟩:=half_len hl
   rw [refP]
   split
   · exact (ih _ _ (h.take _) h1).app (All32.one (refR_len k _ (h.drop _) h2))
   · exact (ih _ _ (h.drop _) h2).app (All32.one (refR_len k _ (h.take _) h1))
theorem sib_lt (x m:Nat) (h:x<2 ^ (m + 1)):sibN x<2 ^ (m + 1):=by
 unfold sibN
 rw [two_pow_succ] at h ⊢
 split <;> omega
theorem sib_add (x m:Nat):sibN (2 ^ (m + 1) + x)=2 ^ (m + 1) + sibN x:=by
 unfold sibN
 rw [two_pow_succ]
 generalize 2 ^ m=P
 by_cases h:x % 2=0
 · rw [if_pos (by omega),if_pos h];omega
 · rw [if_neg (by omega),if_neg h];omega
theorem pathL_ref (k:Nat) (hs:List (List UInt8)) (i:Nat) (hl:hs.length=2 ^ k) (hi:i<2 ^ k):pathL k hs i=refP k hs i:=by
 induction k generalizing hs i with
 | zero=>rfl
 | succ k ih =>
   obtain ⟨h1,h2⟩:=half_len hl
   have happ:=fun j (hj:j≤k)=>by
    have e2:=lvl_app j k (hs.take (2 ^ k)) (hs.drop (2 ^ k)) h1 hj
    rw [List.take_append_drop] at e2
    exact e2
   have hroot:lvl k hs=[refR k (hs.take (2 ^ k)),refR k (hs.drop (2 ^ k))]:=by
    rw [happ k (Nat.le_refl _),lvl_root k _ h1,lvl_root k _ h2];rfl
   have hlv:=fun j (hj:j≤k)=>lvl_len j k _ h1 hj
   rw [pathL_succ,refP,hroot]
   by_cases h:i<2 ^ k
   · rw [if_pos h,← ih _ _ h1 h,Nat.div_eq_of_lt h]
     congr 1
     unfold pathL
     apply List.map_congr_left
     intro j hj
     have hj:j<k:=by simpa using hj
     rw [happ j (by omega)]
     have hlt:sibN (i / 2 ^ j)<2 ^ (k - j):=by
      rw [show k - j=(k - j - 1) + 1 from by omega]
      apply sib_lt
      rw [show k - j - 1 + 1=k - j from by omega,Nat.div_lt_iff_lt_mul (Nat.pow_pos (by omega)),← Nat.pow_add,show k - j + j=k from by omega]
      exact h
     rw [List.getD_eq_getElem?_getD,List.getElem?_append_left (by rw [hlv j (by omega)];exact hlt),← List.getD_eq_getElem?_getD]
   · have hi':i - 2 ^ k<2 ^ k:=by rw [two_pow_succ] at hi;omega
     rw [if_neg h,← ih _ _ h2 hi',show i / 2 ^ k=1 from by
      rw [two_pow_succ] at hi
      have:=Nat.div_eq_of_lt_le (m:=i) (n:=2 ^ k) (k:=1) (by omega) (by omega)
      exact this]
     congr 1
     unfold pathL
     apply List.map_congr_left
     intro j hj
     have hj:j<k:=by simpa using hj
     rw [happ j (by omega)]
     have e:i / 2 ^ j=2 ^ (k - j) + (i - 2 ^ k) / 2 ^ j:=by
      have:i=2 ^ j * 2 ^ (k - j) + (i - 2 ^ k):=by rw [← Nat.pow_add,show j + (k - j)=k from by omega];omega
      conv=>lhs;rw [this]
      rw [Nat.mul_add_div (Nat.pow_pos (by omega))]
     rw [e,show k - j=(k - j - 1) + 1 from by omega,sib_add,show k - j - 1 + 1=k - j from by omega,List.getD_eq_getElem?_getD,List.getElem?_append_right (by rw [hlv j (by omega)];omega),hlv j (by omega),Nat.add_sub_cancel_left,← List.getD_eq_getElem?_getD]
def climbL:List UInt8→Nat→List (List UInt8)→List UInt8
 | leaf,_,[]=>leaf
 | leaf,i,x :: p=>climbL (if i % 2=0 then abvL leaf x else abvL x leaf) (i / 2) p
def stepT (leaf:List UInt8) (i:Nat) (x:List UInt8):List UInt8:=if i % 2=0 then txtL leaf x else txtL x leaf
theorem step_sum (leaf:List UInt8) (i:Nat) (x:List UInt8):(if i % 2=0 then abvL leaf x else abvL x leaf)=shaL (stepT leaf i x):=by
 unfold stepT;split <;> rw [abvL_eq]
theorem climbL_cons (leaf:List UInt8) (i:Nat) (x:List UInt8) (p:List (List UInt8)):climbL leaf i (x :: p)=climbL (shaL (stepT leaf i x)) (i / 2) p:=by rw [climbL,step_sum]
theorem climbL_len (leaf:List UInt8) (i:Nat) (p:List (List UInt8)) (h:leaf.length=32):(climbL leaf i p).length=32:=by
 induction p generalizing leaf i with
 | nil=>exact h
 | cons x p ih=>rw [climbL_cons];exact ih _ _ (shaL_len _)
theorem climbL_app (leaf:List UInt8) (i:Nat) (p q:List (List UInt8)):climbL leaf i (p++q)=climbL (climbL leaf i p) (i / 2 ^ p.length) q:=by
 induction p generalizing leaf i with
 | nil=>simp [climbL]
 | cons x p ih=>rw [List.cons_append,climbL_cons,climbL_cons,ih,List.length_cons,Nat.div_div_eq_div_mul,Nat.pow_succ,Nat.mul_comm 2]
theorem climb_path (k:Nat) (hs:List (List UInt8)) (i:Nat) (hl:hs.length=2 ^ k) (hi:i<2 ^ k):climbL (hs.getD i z32) i (refP k hs i)=refR k hs:=by
 induction k generalizing hs i with
 | zero =>
   obtain rfl:i=0:=by simpa using hi
   rfl
 | succ k ih =>
   obtain ⟨h1,h2⟩:=half_len hl
   rw [refP,refR]
   by_cases h:i<2 ^ k
   · rw [if_pos h,climbL_app,refP_len,Nat.div_eq_of_lt h]
     have:=ih _ i h1 h
     rw [List.getD_eq_getElem?_getD,List.getElem?_take_of_lt h,← List.getD_eq_getElem?_getD] at this
     rw [this];rfl
   · have hi':i - 2 ^ k<2 ^ k:=by rw [two_pow_succ] at hi;omega
     have hd:i / 2 ^ k=1:=by
      rw [two_pow_succ] at hi
      exact Nat.div_eq_of_lt_le (m:=i) (n:=2 ^ k) (k:=1) (by omega) (by omega)
     have hbit:∀ p,p=refP k (hs.drop (2 ^ k)) (i - 2 ^ k)→∀ leaf,climbL leaf i p=climbL leaf (i - 2 ^ k) p:=by
      intro p hp
      have hpl:p.length=k:=by rw [hp];exact refP_len _ _ _
      clear hp ih hd
      have gen:∀ (p:List (List UInt8)) (x y:Nat),x % 2 ^ p.length=y % 2 ^ p.length→∀ leaf,climbL leaf x p=climbL leaf y p:=by
       intro p
       induction p with
       | nil=>intro x y _ leaf;rfl
       | cons z p ihp =>
         intro x y hxy leaf
         rw [List.length_cons,Nat.pow_succ,Nat.mul_comm] at hxy
         have h0:x % 2=y % 2:=by
          have:=congrArg (· % 2) hxy
          simpa [Nat.mod_mul_right_mod] using this
         have h1:x / 2 % 2 ^ p.length=y / 2 % 2 ^ p.length:=by
          have:=congrArg (· / 2) hxy
          simpa [Nat.mod_mul_right_div_self] using this
         rw [climbL,climbL,h0]
         exact ihp _ _ h1 _
      intro leaf
      apply gen
      rw [hpl]
      have:i=(i - 2 ^ k) + 2 ^ k:=by omega
      conv=>lhs;rw [this]
      rw [Nat.add_mod_right]
     rw [if_neg h,climbL_app,hbit _ rfl,refP_len,hd]
     have:=ih _ (i - 2 ^ k) h2 hi'
     rw [List.getD_eq_getElem?_getD,List.getElem?_drop,show 2 ^ k + (i - 2 ^ k)=i from by omega,← List.getD_eq_getElem?_getD] at this
     rw [this];rfl
def hiN (n:Nat):Nat:=Nat.log2 n
theorem hiN_pow (k:Nat):hiN (2 ^ k)=k:=Nat.log2_two_pow
theorem fit_hi {n:Nat} (h:fitN n=true):n=2 ^ hiN n∧hiN n≤7:=by
 obtain ⟨k,hk,rfl⟩:=fitN_pow n h
 rw [hiN_pow];exact ⟨rfl,hk⟩
def rootV (hs:List (List UInt8)):List UInt8:=if fitN hs.length=true then refR (hiN hs.length) hs else z32
def rootE (n:Nat):Nat:=if fitN n=true then 0 else 1
theorem rootV_len (hs:List (List UInt8)) (h:All32 hs):(rootV hs).length=32:=by
 unfold rootV
 split
 · rename_i hf;exact refR_len _ _ h (fit_hi hf).1
 · rfl
def okP (n:Nat) (i:Int):Bool:=fitN n && decide (0≤i∧i<n)
def pathV (hs:List (List UInt8)) (i:Int):List (List UInt8):=if okP hs.length i=true then refP (hiN hs.length) hs i.toNat else []
def pathE (n:Nat) (i:Int):Nat:=if okP n i=true then 0 else 1
def okC (n:Nat) (i:Int):Bool:=decide (n≤7∧0≤i∧i<2 ^ n)
def climbV (leaf:List UInt8) (i:Int) (p:List (List UInt8)):List UInt8:=if okC p.length i=true then climbL leaf i.toNat p else z32
def climbE (n:Nat) (i:Int):Nat:=if okC n i=true then 0 else 1
theorem climbV_len (leaf:List UInt8) (i:Int) (p:List (List UInt8)) (h:leaf.length=32):(climbV leaf i p).length=32:=by
 unfold climbV;split
 · exact climbL_len _ _ _ h
 · rfl
theorem pathV_32 (hs:List (List UInt8)) (i:Int) (h:All32 hs):All32 (pathV hs i):=by
 unfold pathV;split
 · rename_i ho
   unfold okP at ho
   simp only [Bool.and_eq_true] at ho
   exact refP_32 _ _ _ h (fit_hi ho.1).1
 · exact All32.nil
theorem lvl_zero (hs:List (List UInt8)):lvl 0 hs=hs:=rfl
theorem lvl_succ (j:Nat) (hs:List (List UInt8)):lvl (j + 1) hs=pairL (lvl j hs):=rfl
attribute [irreducible] refR refP lvl
end
section
open Go.RowKit
theorem guard_hash:Tryz.prog.eqGuardType Tryz.prog.depth 58=false:=by kernel_rfl
section
variable {ops:Array Oper} {C:World→Prop} {Q:Act→Prop} {a:Act} {o:Oper} {rest:List Oper}
theorem q_idx (hw:Region.wanted o (yielded ops a.tmps)=true) (x y:Operand) (ho:o.op=.indexAddr 37 x y) (B off n c i:Nat) (hx:a.eval x=.slice (some ⟨B,off,none⟩) n c) (hy:a.eval y=.int .i64 (i:Int)) (hi:i<n)
 (h:wpQuiet Tryz.prog ops C Q rest (a.put o.dst (.pointer (some ⟨B,off + 32 * i,none⟩)))):wpQuiet Tryz.prog ops C Q (o :: rest) a :=
 q_val hw (fun w hC=>by
  unfold execOp
  simp only [ho,hx,hy,Sem.run_bind,run_idx B off n c i hi,Result.andThen_ok,Sem.run_pure]) h
theorem q_mid (hw:Region.wanted o (yielded ops a.tmps)=true) (x:Operand) (ho:o.op=.load 58 x) (b off:Nat) (l:List UInt8) (hx:a.eval x=.pointer (some ⟨b,off,none⟩)) (hl:l.length=32) (hc:∀ w,C w→w.rangeAt b off (u8s l))
 (h:wpQuiet Tryz.prog ops C Q rest (a.put o.dst (.agg (u8s l).toArray))):wpQuiet Tryz.prog ops C Q (o :: rest) a :=
 q_val hw (fun w hC=>by
  unfold execOp
  simp only [ho,hx,Sem.run_bind,run_loadAt_mid w b off 58 (u8s l) _ (hc w hC) hash_row rfl (by have:=hash_size hl;simpa using this),Result.andThen_ok,Sem.run_pure]) h
end
end
section
open Go.RowKit
section
variable {ops:Array Oper} {rest:List Oper} {o:Oper} {a:Act} {w:World} {Q:Exit→Act→World→Prop}
end
theorem build_hash (w:World):(Instr.build 58 #[]).run Tryz.prog w=.ok (.agg (u8s z32).toArray) w:=by
 obtain ⟨i0,hi,hz0,hz1,hz2⟩:=info_parts info5
 unfold Instr.build
 simp [Sem.run_bind,zero_hash w,run_underlying hash_row,sizeOf,typeInfo,hi,Instr.fill,Value.cells]
theorem wpL_zero {ops:Array Oper} {rest:List Oper} {o:Oper} {a:Act} {w:World} {Q:Exit→Act→World→Prop} (hgd:o.guard=none) (ho:o.op=.build 58 #[])
 (h:wpList Tryz.prog ops Q rest (a.put o.dst (.agg (u8s z32).toArray)) w):wpList Tryz.prog ops Q (o :: rest) a w:=by
 refine wpList_plain hgd fun K hK=>?_
 have:=hK _ _ h
 unfold Oper.wp execOp
 simp only [ho,List.map_toArray,List.map_nil,Array.map_empty,Sem.run_bind,build_hash,Result.andThen_ok]
 exact this
end
section
open Go.RowKit
theorem foldSet (l:List Value):∀ (k off:Nat) (cs:Array Value),off + k + l.length≤cs.size →
 ((l.zipIdx k).foldl (fun cs (x:Value × Nat)=>cs.setIfInBounds (off + x.2) x.1) cs).toList=cs.toList.take (off + k)++l++cs.toList.drop (off + k + l.length):=by
 induction l with
 | nil=>intro k off cs h;simp
 | cons x l ih =>
   intro k off cs h
   simp only [List.length_cons] at h
   rw [List.zipIdx_cons,List.foldl_cons,ih (k + 1) off _ (by simp;omega)]
   simp only [Array.toList_setIfInBounds,List.length_cons]
   have h1:off + k<cs.toList.length:=by simp;omega
   rw [List.take_set,List.drop_set,if_pos (by omega)]
   have e1:(cs.toList.take (off + (k + 1))).set (off + k) x=cs.toList.take (off + k)++[x]:=by
    rw [show off + (k + 1)=(off + k) + 1 from by omega,List.take_add_one,List.getElem?_eq_getElem h1]
    rw [List.set_append_right _ _ (by rw [List.length_take];omega),List.length_take,Nat.min_eq_left (by omega),Nat.sub_self];rfl
   rw [e1,show off + (k + 1) + l.length=off + k + (l.length + 1) from by omega]
   simp
theorem fill_hash (cs:Array Value) (i:Nat) (l:List UInt8) (hl:l.length=32) (h:i * 32 + 32≤cs.size) (rest:List (Nat × Value)) :
 Instr.fill (fun i=>some (i * 32,32)) cs ((i,.agg (u8s l).toArray) :: rest)=Instr.fill (fun i=>some (i * 32,32)) (cs.toList.take (i * 32)++u8s l++cs.toList.drop (i * 32 + 32)).toArray rest:=by
 have hs:=u8s_length l
 rw [hl] at hs
 have e:=foldSet (u8s l) 0 (i * 32) cs (by rw [hs];omega)
 rw [hs,Nat.add_zero] at e
 have hc:(Value.agg (u8s l).toArray).cells=(u8s l).toArray:=rfl
 conv=>lhs;unfold Instr.fill
 dsimp only
 rw [if_neg (by rw [hc];simp [hs];omega),hc]
 congr 1
 rw [← e,Array.toArray_toList,← Array.foldl_toList]
 simp
theorem run_bs1 (x:List UInt8) (hx:x.length=32) (w:World):(Instr.buildSlice 37 1 #[(0,.agg (u8s x).toArray)]).run Tryz.prog w=.ok (.slice (some ⟨w.heap.size,0,none⟩) 1 1) (w.alloc (.cells (cat32 [x]).toArray 58)):=by
 obtain ⟨i0,hi,hz0,hz1,hz2⟩:=info_parts infoHash
 refine run_buildSlice w 37 58 1 _ _ i0 _ hashes_row hi hz0 (by rw [hz1];decide) (by rw [hz1];decide) ?_
 rw [hz1,fill_hash _ 0 x hx (by simp)]
 have hs:=u8s_length x
 simp [Instr.fill,cat32,hs,hx]
def OwnH (w:World) (B:Nat) (v:Value) (hs:List (List UInt8)):Prop:=All32 hs∧w.ownsRow B 58 32 v hs.length (cat32 hs)
theorem OwnH.nil (w:World) (B:Nat):OwnH w B (.slice none 0 0) []:=⟨All32.nil,World.ownsRow_nil w B _ 32⟩
theorem OwnH.hs {w:World} {B:Nat} {v:Value} {hs:List (List UInt8)} (h:OwnH w B v hs):HsAt w v hs:=HsAt.own h.1 h.2
theorem OwnH.to {w w':World} {B C:Nat} {v:Value} {hs:List (List UInt8)} (h:OwnH w B v hs) (hb:Below C w w') (hC:w.heap.size≤C):OwnH w' B v hs:=by
 refine ⟨h.1,h.2.1,?_⟩
 rcases h.2.2 with h0 | ⟨g,cap,cur,e,hB,hg,r⟩
 · exact .inl h0
 · exact .inr ⟨g,cap,cur,e,hB,(hb.block g (by have:=(Array.getElem?_eq_some_iff.1 hg).1;omega)).trans hg,r⟩
section
variable {ops:Array Oper} {rest:List Oper} {o:Oper} {a:Act} {w:World} {Q:Exit→Act→World→Prop}
end
end
section
open Go.RowKit
section
variable {ops:Array Oper} {C:World→Prop} {Q:Act→Prop} {a:Act} {o:Oper} {rest:List Oper}
end
end
section
open Go.RowKit
theorem wpL_newD {ops:Array Oper} {rest:List Oper} {o:Oper} {a:Act} {w:World} {Q:Exit→Act→World→Prop} (d:Nat) (hd:o.dst=some d) (hgd:o.guard=none) (ho:o.op=.alloc 58)
 (h:∀ b W,NewAt w W b 58 (u8s z32)→wpList Tryz.prog ops Q rest (a.put o.dst (.pointer (some ⟨b,0,none⟩))) W):wpList Tryz.prog ops Q (o :: rest) a w:=wpL_new hgd ho h
theorem climbL_snoc (leaf:List UInt8) (i:Nat) (p:List (List UInt8)) (k:Nat) (hk:k<p.length):climbL leaf i (p.take (k + 1))=shaL (stepT (climbL leaf i (p.take k)) (i / 2 ^ k) p[k]):=by
 rw [List.take_add_one,List.getElem?_eq_getElem hk,Option.toList_some,climbL_app,List.length_take,Nat.min_eq_left (by omega),climbL_cons]
 rfl
theorem step_even (a:List UInt8) (i:Nat) (x:List UInt8) (h:i % 2=0):shaL (stepT a i x)=abvL a x:=by rw [abvL_eq];unfold stepT;rw [if_pos h]
theorem step_odd (a:List UInt8) (i:Nat) (x:List UInt8) (h:¬ i % 2=0):shaL (stepT a i x)=abvL x a:=by rw [abvL_eq];unfold stepT;rw [if_neg h]
theorem climb_ok (w:World) (leaf:List UInt8) (hlf:leaf.length=32) (i:Nat) (v:Value) (p:List (List UInt8)) (hH:HsAt w v p) (hp:p.length≤7) (hi:i<2 ^ p.length) (hK:KT w) :
 Calls Tryz.prog 153 #[.agg (u8s leaf).toArray,.int .i64 (i:Int),v] w fun e w'=>e=.returned (.tuple #[.agg (u8s (climbL leaf i p)).toArray,.int .i64 0])∧Below w.heap.size w w':=by
 obtain ⟨a,c,rfl⟩:=hH.form
 have HH:=hidp hH;have HK:=hidp hK
 have hkp:=hK.pos
 obtain ⟨n,hn⟩:∃ n,p.length=n:=⟨_,rfl⟩
 have HN:=hidp hn
 rw [hn] at hp hi HH ⊢
 have hpw:2 ^ n≤128:=by
  have:=Nat.pow_le_pow_right (n:=2) (show 0<2 by omega) hp
  simpa using this
 have hcast:((2:Int) ^ n)=((2 ^ n:Nat):Int):=by simp
 obtain ⟨P,hP⟩:∃ P,2 ^ n=P:=⟨_,rfl⟩
 rw [hP] at hi hpw hcast
 have hw2:wrap64 ((2:Int) ^ n)=(P:Int):=by rw [hcast];unfold wrap64;omega
 have hn7:decide ((n:Int) > 7)=false:=by simp;omega
 have hi0:decide ((i:Int)<0)=false:=by simp
 have hiP:decide ((i:Int) ≥ (P:Int))=false:=by simp;omega
 have hiP2:decide (P≤i)=false:=by simp;omega
 have hall:=hidp (show p.take n=p from List.take_of_length_le (by omega))
 clear hH hK hn hP hcast
 go_enter Tryz.func153,Tryz.ntmps153
 go_wp2_with (first
  | (refine wpL_box rfl (.tmp 0) rfl (u8s leaf) rfl ?_;intro b1 w1 n1)
  | (refine wpL_newD 6 rfl rfl rfl ?_;intro b2 w2 n2)
  | (refine wpL_get rfl (.tmp 3) rfl b1 leaf rfl hlf (n2.old n1.arr) ?_)
  | (refine wpL_newD 8 rfl rfl rfl ?_;intro b3 w3 n3)
  | (refine wpL_put rfl (.tmp 8) (.tmp 26) rfl b3 leaf rfl rfl hlf (u8s z32) rfl n3.arr ?_;intro w4 ha4 hp4))
 have hB2:=hidp (n1.below.trans (n2.below.mono n1.below.size))
 have hB4:=hidp (hB2.out.trans ((n3.put hp4).mono hB2.out.size))
 have hR4:=hidp (n2.arr.below (n3.put hp4) n2.lt)
 have h3:=hidp (show w.heap.size≤b3 from Nat.le_trans hB2.out.size n3.le)
 have h23:=hidp (show b2≠b3 from by have:=n2.lt;rw [n3.at_];omega)
 have h2:=hidp (show w.heap.size≤b2 from Nat.le_trans n1.below.size n2.le)
 have HA4:=hidp ha4
 clear n1 n2 n3 hp4 ha4
 go_loopw [1,29] (fun t1 t29 wr=>∃ k:Nat,t29=.int .i64 (k:Int)∧k≤n∧t1=.int .i64 ((i / 2 ^ k:Nat):Int)∧Arr wr b3 58 (u8s (climbL leaf i (p.take k)))∧Arr wr b2 58 (u8s z32)∧Below w.heap.size w wr) (fun _ t29 _=>n - (intOf t29).toNat)
 case atStart=>exact ⟨0,rfl,by omega,by simp,HA4.out,hR4.out,hB4.out⟩
 case round =>
  obtain ⟨k,rfl,hk,rfl,hc,hr,hbw⟩:=hrel
  have HC:=hidp hc;have HR:=hidp hr;have HBW:=hidp hbw
  clear hc hr hbw hB4 hR4 HA4 hB2
  by_cases hlt:k<n
  · obtain ⟨B,off,c',e1,_,hB,hrr⟩:=HH.out.get (by rw [HN.out];omega)
    simp only [Value.slice.injEq] at e1
    obtain ⟨rfl,-,-⟩:=e1
    have hkp':k<p.length:=by rw [HN.out];exact hlt
    have hxl:=HH.out.1.get k hkp'
    have hrx:=hidp (show wr.rangeAt B (off + 32 * k) (u8s p[k]) from rangeAt_below (range_nth hrr HH.out.1 k hkp') HBW.out hB)
    have hcl:=climbL_len leaf i (p.take k) hlf
    have hI1:=hidp (show i / 2 ^ (k + 1)=i / 2 ^ k / 2 from by rw [Nat.pow_succ,Nat.div_div_eq_div_mul])
    have hIi:i / 2 ^ k≤i:=Nat.div_le_self _ _
    obtain ⟨x,hxp⟩:∃ x,p[k]=x:=⟨_,rfl⟩
    obtain ⟨cur,hcur⟩:∃ x,climbL leaf i (p.take k)=x:=⟨_,rfl⟩
    obtain ⟨I,hI⟩:∃ I,i / 2 ^ k=I:=⟨_,rfl⟩
    have hsn:=climbL_snoc leaf i p k hkp'
    rw [hcur,hI,hxp] at hsn
    rw [hxp] at hxl hrx
    rw [hcur] at hcl HC
    rw [hI] at hI1 hIi ⊢
    have HSN:=hidp hsn
    clear hxp hcur hI hsn hkp' hrr
    have hq1:((I:Int)).tdiv 2=((I / 2:Nat):Int):=by rw [Int.tdiv_eq_ediv_of_nonneg (by omega)];omega
    have hq2:((I:Int)) / 2=((I / 2:Nat):Int):=by omega
    have hqw:IntKind.i64.wrap (((I / 2:Nat):Int))=((I / 2:Nat):Int):=by rw [IntKind.wrap_i64];omega
    obtain ⟨J,hJ⟩:∃ J,I / 2=J:=⟨_,rfl⟩
    rw [hJ] at hq1 hq2 hqw hI1
    have hI63:I≤128:=by omega
    have HI:=hidp hI63
    clear hJ hIi hi
    have ti:((k:Int)<(n:Int)):=by omega
    by_cases hbit2:I % 2=0
    · have hxn:=hidp (HSN.out.trans (step_even cur I x hbit2))
      have cl:=hidp (fun W=>left_any W I (by have:=HI.out;omega))
      rw [show (I % 2 == 0)=true from by simp;omega] at cl
      have ca:=hidp (fun W (h:KT W)=>above_any W cur x hcl hxl h)
      have hzl:=abvL_len cur x
      obtain ⟨z,hz⟩:∃ z,abvL cur x=z:=⟨_,rfl⟩
      rw [hz] at ca hzl hxn
      clear hz
      go_wp2_with (first
       | (refine wpL_idx rfl (.tmp 27) (.tmp 29) rfl B off _ _ k rfl rfl hlt ?_)
       | (refine wpL_at rfl (.tmp 31) rfl B (off + 32 * k) x rfl hxl hrx.out ?_)
       | (refine wpL_new rfl rfl ?_;intro b4 w4 n4)
       | (refine wpL_put rfl (.tmp 10) (.tmp 32) rfl b4 x rfl rfl hxl (u8s z32) rfl n4.arr ?_;intro w5 ha5 hp5
          have hb5:=hidp (HBW.out.trans ((n4.put hp5).mono HBW.out.size))
          have hc5:=hidp (HC.out.below (n4.put hp5) HC.out.lt)
          have hr5:=hidp (HR.out.below (n4.put hp5) HR.out.lt))
       | (go_at_call 183;refine (cl.out _).mono ?_;rintro e w6 ⟨rfl,rfl⟩)
       | (refine wpL_get rfl (.tmp 8) rfl b3 cur rfl hcl hc5.out ?_)
       | (refine wpL_get rfl (.tmp 10) rfl b4 x rfl hxl ha5 ?_)
       | (go_at_call 170;refine (ca.out _ (HK.out.below hb5.out hkp)).mono ?_;rintro e w7 ⟨rfl, hb7⟩
          have hb8:=hidp (hb5.out.trans (hb7.mono hb5.out.size))
          have hc8:=hidp (hc5.out.below hb7 hc5.out.lt)
          have hr8:=hidp (hr5.out.below hb7 hr5.out.lt))
       | (refine wpL_put rfl (.tmp 8) (.tmp 37) rfl b3 z rfl rfl hzl (u8s cur) (by rw [u8s_length];exact hcl) hc8.out ?_;intro w9 ha9 hp9
          have hb9:=hidp (hp9.below' hb8.out h3.out)
          have hr9:=hidp (hp9.arr h23.out hr8.out)))
      exact ⟨⟨k + 1,by go_num,by omega,by rw [hI1.out],by rw [hxn.out];exact ha9,hr9.out,hb9.out⟩,by simp [intOf];omega⟩
    · have hxn:=hidp (HSN.out.trans (step_odd cur I x hbit2))
      have cl:=hidp (fun W=>left_any W I (by have:=HI.out;omega))
      rw [show (I % 2 == 0)=false from by simp;omega] at cl
      have ca:=hidp (fun W (h:KT W)=>above_any W x cur hxl hcl h)
      have hzl:=abvL_len x cur
      obtain ⟨z,hz⟩:∃ z,abvL x cur=z:=⟨_,rfl⟩
      rw [hz] at ca hzl hxn
      clear hz
      go_wp2_with (first
       | (refine wpL_idx rfl (.tmp 27) (.tmp 29) rfl B off _ _ k rfl rfl hlt ?_)
       | (refine wpL_at rfl (.tmp 31) rfl B (off + 32 * k) x rfl hxl hrx.out ?_)
       | (refine wpL_new rfl rfl ?_;intro b4 w4 n4)
       | (refine wpL_put rfl (.tmp 10) (.tmp 32) rfl b4 x rfl rfl hxl (u8s z32) rfl n4.arr ?_;intro w5 ha5 hp5
          have hb5:=hidp (HBW.out.trans ((n4.put hp5).mono HBW.out.size))
          have hc5:=hidp (HC.out.below (n4.put hp5) HC.out.lt)
          have hr5:=hidp (HR.out.below (n4.put hp5) HR.out.lt))
       | (go_at_call 183;refine (cl.out _).mono ?_;rintro e w6 ⟨rfl,rfl⟩)
       | (refine wpL_get rfl (.tmp 8) rfl b3 cur rfl hcl hc5.out ?_)
       | (refine wpL_get rfl (.tmp 10) rfl b4 x rfl hxl ha5 ?_)
       | (go_at_call 170;refine (ca.out _ (HK.out.below hb5.out hkp)).mono ?_;rintro e w7 ⟨rfl, hb7⟩
          have hb8:=hidp (hb5.out.trans (hb7.mono hb5.out.size))
          have hc8:=hidp (hc5.out.below hb7 hc5.out.lt)
          have hr8:=hidp (hr5.out.below hb7 hr5.out.lt))
       | (refine wpL_put rfl (.tmp 8) (.tmp 40) rfl b3 z rfl rfl hzl (u8s cur) (by rw [u8s_length];exact hcl) hc8.out ?_;intro w9 ha9 hp9
          have hb9:=hidp (hp9.below' hb8.out h3.out)
          have hr9:=hidp (hp9.arr h23.out hr8.out)))
      exact ⟨⟨k + 1,by go_num,by omega,by rw [hI1.out],by rw [hxn.out];exact ha9,hr9.out,hb9.out⟩,by simp [intOf];omega⟩
  · obtain rfl:k=n:=by omega
    have hcl:=climbL_len leaf i p hlf
    rw [hall.out] at HC
    obtain ⟨z,hz⟩:∃ x,climbL leaf i p=x:=⟨_,rfl⟩
    rw [hz] at hcl HC
    have HZ:=hidp hz
    clear hz
    go_wp2_with (first
     | (refine wpL_get rfl (.tmp 8) rfl b3 z rfl hcl HC.out ?_)
     | (refine wpL_put rfl (.tmp 6) (.tmp 44) rfl b2 z rfl rfl hcl (u8s z32) rfl HR.out ?_;intro w9 ha9 hp9))
    refine bodyPost_ret (results_row_tmp (P:=Tryz.prog) (p:=6) (u:=7) (ty:=58) Tryz.results153 _ _ b2 58 (u8s z).toArray (0,0) _ rfl ha9 hash_row rfl (hash_size hcl) _ rfl) rfl ?_
    exact ⟨by rw [HZ.out];rfl,hp9.below' HBW.out h2.out⟩
theorem climb_any (w:World) (leaf:List UInt8) (hlf:leaf.length=32) (i:Int) (hi:(Lit.int .i64 i).wf=true) (v:Value) (p:List (List UInt8)) (hH:HsAt w v p) (hK:KT w) :
 Calls Tryz.prog 153 #[.agg (u8s leaf).toArray,.int .i64 i,v] w fun e w'=>e=.returned (.tuple #[.agg (u8s (climbV leaf i p)).toArray,.int .i64 ((climbE p.length i:Nat):Int)])∧Below w.heap.size w w':=by
 by_cases ho:okC p.length i=true
 · have hv:climbV leaf i p=climbL leaf i.toNat p:=if_pos ho
   have he:climbE p.length i=0:=if_pos ho
   rw [hv,he]
   unfold okC at ho
   simp only [decide_eq_true_iff] at ho
   have:=climb_ok w leaf hlf i.toNat v p hH ho.1 (by
    have h2:=ho.2.2
    have:((2:Int) ^ p.length)=((2 ^ p.length:Nat):Int):=by simp
    omega) hK
   rw [show ((i.toNat:Nat):Int)=i from by omega] at this
   exact this
 · have ho:okC p.length i=false:=by simpa using ho
   have hv:climbV leaf i p=z32:=if_neg (by simp [ho])
   have he:climbE p.length i=1:=if_neg (by simp [ho])
   rw [hv,he]
   unfold okC at ho
   obtain ⟨a,c,rfl⟩:=hH.form
   obtain ⟨n,hn⟩:∃ n,p.length=n:=⟨_,rfl⟩
   rw [hn] at ho ⊢
   clear hH hn hK hv he
   by_cases h7:7<n
   · have t7:decide ((n:Int) > 7)=true:=by simp;omega
     clear ho
     go_enter Tryz.func153,Tryz.ntmps153
     go_wp2_with (first
      | (refine wpL_box rfl (.tmp 0) rfl (u8s leaf) rfl ?_;intro b1 w1 n1)
      | (refine wpL_newD 6 rfl rfl rfl ?_;intro b2 w2 n2)
      | (refine wpL_zero rfl rfl ?_)
      | (refine wpL_put rfl (.tmp 6) (.tmp 25) rfl b2 z32 rfl rfl rfl (u8s z32) rfl n2.arr ?_;intro w9 ha9 hp9))
     refine bodyPost_ret (results_row_tmp (P:=Tryz.prog) (p:=6) (u:=7) (ty:=58) Tryz.results153 _ _ b2 58 (u8s z32).toArray (0,0) _ rfl ha9 hash_row rfl (hash_size rfl) _ rfl) rfl ?_
     exact ⟨rfl,n1.below.trans ((n2.put hp9).mono n1.below.size)⟩
   · have t7:decide ((n:Int) > 7)=false:=by simp;omega
     by_cases h0:i<0
     · have t0:decide (i<0)=true:=by simpa using h0
       clear ho
       go_enter Tryz.func153,Tryz.ntmps153
       go_wp2_with (first
        | (refine wpL_box rfl (.tmp 0) rfl (u8s leaf) rfl ?_;intro b1 w1 n1)
        | (refine wpL_newD 6 rfl rfl rfl ?_;intro b2 w2 n2)
        | (refine wpL_zero rfl rfl ?_)
        | (refine wpL_put rfl (.tmp 6) (.tmp 25) rfl b2 z32 rfl rfl rfl (u8s z32) rfl n2.arr ?_;intro w9 ha9 hp9))
       refine bodyPost_ret (results_row_tmp (P:=Tryz.prog) (p:=6) (u:=7) (ty:=58) Tryz.results153 _ _ b2 58 (u8s z32).toArray (0,0) _ rfl ha9 hash_row rfl (hash_size rfl) _ rfl) rfl ?_
       exact ⟨rfl,n1.below.trans ((n2.put hp9).mono n1.below.size)⟩
     · have hcast:((2:Int) ^ n)=((2 ^ n:Nat):Int):=by simp
       have hge:((2 ^ n:Nat):Int)≤i:=by
        simp only [decide_eq_false_iff_not,not_and,Int.not_lt] at ho
        have:=ho (by omega) (by omega)
        omega
       have hpw:2 ^ n≤128:=by
        have:=Nat.pow_le_pow_right (n:=2) (show 0<2 by omega) (show n≤7 by omega)
        simpa using this
       obtain ⟨P,hP⟩:∃ P,2 ^ n=P:=⟨_,rfl⟩
       rw [hP] at hcast hge hpw
       have hw2:wrap64 ((2:Int) ^ n)=(P:Int):=by rw [hcast];unfold wrap64;omega
       have t0:decide (i<0)=false:=by simp;omega
       have t1:decide (i ≥ (P:Int))=true:=by simpa using hge
       have t2:decide ((P:Int)≤i)=true:=by simpa using hge
       have h7n:n≤7:=by omega
       clear ho hcast hP hge
       go_enter Tryz.func153,Tryz.ntmps153
       go_wp2_with (first
        | (refine wpL_box rfl (.tmp 0) rfl (u8s leaf) rfl ?_;intro b1 w1 n1)
        | (refine wpL_newD 6 rfl rfl rfl ?_;intro b2 w2 n2)
        | (refine wpL_zero rfl rfl ?_)
        | (refine wpL_put rfl (.tmp 6) (.tmp 25) rfl b2 z32 rfl rfl rfl (u8s z32) rfl n2.arr ?_;intro w9 ha9 hp9))
       refine bodyPost_ret (results_row_tmp (P:=Tryz.prog) (p:=6) (u:=7) (ty:=58) Tryz.results153 _ _ b2 58 (u8s z32).toArray (0,0) _ rfl ha9 hash_row rfl (hash_size rfl) _ rfl) rfl ?_
       exact ⟨rfl,n1.below.trans ((n2.put hp9).mono n1.below.size)⟩
end
end Go.Proofs.YtokakgjcegmabaaGreatDoor
