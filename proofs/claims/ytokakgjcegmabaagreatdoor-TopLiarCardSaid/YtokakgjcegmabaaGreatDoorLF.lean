import Derived.Test.YtokakgjcegmabaaGreatDoorLB
import Derived.Test.YtokakgjcegmabaaGreatDoorLE
import Derived.Lib.ConvBytes
import Derived.Lib.AppendStr
set_option linter.unusedVariables false
set_option linter.unusedSimpArgs false
set_option maxHeartbeats 64000000
set_option maxRecDepth 100000
namespace Go.Proofs.YtokakgjcegmabaaGreatDoor
section
open Go.RowKit
def midL (l:List UInt8):List UInt8:=(shaL l).take 16
theorem midL_len (l:List UInt8):(midL l).length=16:=by unfold midL;rw [List.length_take,shaL_len];rfl
def walkL (x:List UInt8):Nat→List UInt8
 | 0=>x
 | k + 1=>midL (2 :: walkL x k)
theorem walkL_len (x:List UInt8) (k:Nat) (h:x.length=16):(walkL x k).length=16:=by
 cases k with
 | zero=>exact h
 | succ k=>exact midL_len _
theorem walkL_add (x:List UInt8) (a b:Nat):walkL (walkL x a) b=walkL x (a + b):=by
 induction b with
 | zero=>rfl
 | succ b ih=>rw [walkL,ih,← Nat.add_assoc,walkL]
def digs:Nat→Nat→List Nat
 | _,0=>[]
 | n,k + 1=>n % 4 :: digs (n / 4) k
theorem digs_len (n k:Nat):(digs n k).length=k:=by
 induction k generalizing n with
 | zero=>rfl
 | succ k ih=>simp [digs,ih]
theorem digs_lt (n k:Nat):∀ d ∈ digs n k,d<4:=by
 induction k generalizing n with
 | zero=>simp [digs]
 | succ k ih =>
   intro d hd
   rw [digs,List.mem_cons] at hd
   rcases hd with rfl | hd
   · omega
   · exact ih _ d hd
theorem digs_snoc (n k:Nat):digs n (k + 1)=digs n k++[n / 4 ^ k % 4]:=by
 induction k generalizing n with
 | zero=>simp [digs]
 | succ k ih=>rw [digs,ih,digs,List.cons_append,Nat.div_div_eq_div_mul,Nat.pow_succ,Nat.mul_comm 4]
def lackN (ds:List Nat):Nat:=(ds.map fun d=>3 - d).sum
theorem lackN_le (ds:List Nat):lackN ds≤3 * ds.length:=by
 unfold lackN
 induction ds with
 | nil=>simp
 | cons d ds ih=>simp only [List.map_cons,List.sum_cons,List.length_cons];omega
theorem lackN_app (a b:List Nat):lackN (a++b)=lackN a + lackN b:=by unfold lackN;simp
def byteDigs (l:List UInt8):List Nat:=l.flatMap fun b=>digs b.toNat 4
theorem byteDigs_len (l:List UInt8):(byteDigs l).length=4 * l.length:=by
 unfold byteDigs
 induction l with
 | nil=>rfl
 | cons a l ih=>simp only [List.flatMap_cons,List.length_append,ih,digs_len,List.length_cons];omega
theorem byteDigs_lt (l:List UInt8):∀ d ∈ byteDigs l,d<4:=by
 intro d hd
 obtain ⟨b,_,hb⟩:=List.mem_flatMap.1 hd
 exact digs_lt _ _ d hb
theorem byteDigs_snoc (l:List UInt8) (b:UInt8):byteDigs (l++[b])=byteDigs l++digs b.toNat 4:=by unfold byteDigs;simp
def digL (t:List UInt8):List Nat:=byteDigs (midL t)++digs (lackN (byteDigs (midL t))) 4
theorem digL_len (t:List UInt8):(digL t).length=68:=by unfold digL;rw [List.length_append,byteDigs_len,midL_len,digs_len]
theorem digL_lt (t:List UInt8):∀ d ∈ digL t,d<4:=by
 intro d hd
 unfold digL at hd
 rcases List.mem_append.1 hd with h | h
 · exact byteDigs_lt _ d h
 · exact digs_lt _ _ d h
attribute [irreducible] midL
def iv (ns:List Nat):List Value:=ns.map fun (n:Nat)=>.int .i64 (n:Int)
theorem iv_length (ns:List Nat):(iv ns).length=ns.length:=by simp [iv]
theorem iv_snoc (ns:List Nat) (n:Nat):iv ns++[.int .i64 (n:Int)]=iv (ns++[n]):=by simp [iv]
def ValsAt (w:World) (v:Value) (l:List Value):Prop :=
 ∃ a cap,v=.slice a l.length cap∧∀ k (h:k<l.length),∃ b off,a=some ⟨b,off,none⟩∧w.cell? ⟨b,off + k,none⟩=some l[k]
theorem OwnV.vals {w:World} {B e:Nat} {v:Value} {l:List Value} (h:OwnV w B e v l):ValsAt w v l:=by
 have h':=h
 rcases h'.2 with ⟨rfl,hn⟩ | ⟨g,cap,cur,rfl,_⟩
 · have:l=[]:=List.eq_nil_of_length_eq_zero hn
   subst this
   exact ⟨none,0,rfl,fun k hk=>by simp at hk⟩
 · refine ⟨some ⟨g,0,none⟩,cap,rfl,fun k hk=>⟨g,0,rfl,?_⟩⟩
   have:=World.ownsRow.cells h (g:=g) rfl k l[k] (by simp [hk])
   have e:(⟨g,0,none⟩:Addr).add k=⟨g,0 + k,none⟩:=by unfold Addr.add;split <;> simp_all
   rw [e] at this;exact this
theorem infoInt:(Tryz.prog.info? 3).map (fun i=>(i.zero,i.size,i.bytes))=some (some (.int .i64 0),1,8):=by kernel_rfl
theorem and3 (m:Nat):bits .and .i64 (m:Int) 3=((m % 4:Nat):Int):=by
 have h3:(BitVec.ofInt 64 3).toNat=2 ^ 2 - 1:=by decide
 have key:(BitVec.ofInt 64 (m:Int) &&& BitVec.ofInt 64 3).toNat=((m:Int) % ((2 ^ 64:Nat):Int)).toNat % 2 ^ 2:=by
  rw [BitVec.toNat_and,BitVec.toNat_ofInt,h3,Nat.and_two_pow_sub_one_eq_mod]
 show IntKind.i64.wrap ((BitVec.ofInt 64 (m:Int) &&& BitVec.ofInt 64 3).toNat:Nat)=_
 rw [key,IntKind.wrap_i64]
 omega
def Oth (e:Nat) (w w':World):Prop:=∀ (b:Nat) (c:Array Value) (t:Nat) (fz:Nat × Nat),w.heap[b]?=some (.cells c t fz)→t≠e→w'.heap[b]?=some (.cells c t fz)
theorem Oth.refl (e:Nat) (w:World):Oth e w w:=fun _ _ _ _ h _=>h
theorem Oth.trans {e:Nat} {a b c:World} (h:Oth e a b) (k:Oth e b c):Oth e a c:=fun x cs t fz hx ht=>k x cs t fz (h x cs t fz hx ht) ht
theorem Oth.of_below {e:Nat} {w w':World} (h:Below w.heap.size w w'):Oth e w w':=fun b _ _ _ hb _=>(h.block b (Array.getElem?_eq_some_iff.1 hb).1).trans hb
theorem not_row_cells' {W:World} {B:Nat} {t e:TypeId} {c:Array Value} {fz:Nat × Nat} (h:W.heap[B]?=some (.cells c t fz)) (hte:t≠e) {base size k:Nat} {v:Value} {xs:List Value} (hr:W.ownsRow base e size v k xs):some B≠v.ownBlock:=by
 rcases hr.2 with ⟨rfl,_⟩ | ⟨g,cap,cur,rfl,_,hgb,_⟩
 · simp [Value.ownBlock]
 · intro e'
   obtain rfl:B=g:=by simpa [Value.ownBlock] using e'
   rw [h] at hgb;cases hgb;exact hte rfl
theorem wpList_appO {P:Program} {w:World} {ops:Array Oper} {rest:List Oper} {o:Oper} {a:Act} {Q:Exit→Act→World→Prop} (hgd:o.guard=none) (s x:Operand) (t:TypeId)
 (ho:o.op=.call { callee:=.builtin .append,args:=#[s,x],argTypes:=#[t,t] }) (B e:Nat) (i:TypeInfo) (z:Value) (bytes:Nat) (ht:P.underlying t=some (.slice e)) (hi:P.info? e=some i)
 (hz0:i.zero=some z) (hz1:i.size=1) (hz2:i.bytes=bytes) (hzs:z.cells.size=1) (v:Value) (l:List Value) (hs:a.eval s=v) (hown:OwnV w B e v l) (ad:Addr) (c:Nat) (u:Value)
 (hx:a.eval x=.slice (some ad) 1 c) (hc:w.cell? ad=some u) (hu:u.oneCell'=true) (hlen:l.length + 1≤maxLen) (hby:(l.length + 1) * bytes≤140737488355328) (hB:B≤w.heap.size)
 (h:∀ v' w',OwnV w' B e v' (l++[u])→Below B w w'→Oth e w w'→wpList P ops Q rest (a.put o.dst v') w'):wpList P ops Q (o :: rest) a w:=by
 refine wpList_append_own w hgd s x t ho B e i z 1 bytes ht hi hz0 hz1 hz2 hzs (by decide) v l.length l hs hown ad 1 c [u] hx rfl ?_ ?_ hlen hby hB ?_
 · intro j y hj
   match j,hj with
   | 0,hj=>simp at hj;subst hj;simpa [Addr.add] using hc
 · intro y hy;simp at hy;subst hy;exact hu
 · intro v' w' h1 h2 _
   refine h v' w' ?_ ((Below.refl B w).grown h2 hB fun k hk=>(World.ownsRow.lt hown k hk).1) ?_
   · unfold OwnV;rw [List.length_append];exact h1
   · intro b cs t' fz hb hte
     rw [h2.block b (Array.getElem?_eq_some_iff.1 hb).1 (not_row_cells' hb hte hown)];exact hb
theorem addDigits_own (w:World) (B:Nat) (v:Value) (ds:List Nat) (n:Nat) (hn:n<4294967296) (hx:ds.length≤4294967296) (hown:OwnV w B 3 v (iv ds)) (hB:B≤w.heap.size) :
 Calls Tryz.prog 195 #[v,.int .i64 n] w fun e w'=>∃ v',e=.returned v'∧OwnV w' B 3 v' (iv (ds++digs n 4))∧Below B w w'∧Oth 3 w w':=by
 obtain ⟨i0,hi,hz0,hz1,hz2⟩:=info_parts infoInt
 go_enter Tryz.func195,Tryz.ntmps195
 go_wp2
 go_loopw [0,1,5] (fun t0 t1 t5 wr=>∃ (k:Nat),t5=.int .i64 (k:Int)∧k≤4∧t1=.int .i64 ((n / 4 ^ k:Nat):Int)∧OwnV wr B 3 t0 (iv (ds++digs n k))∧Below B w wr∧Oth 3 w wr)
  (fun _ _ t5 _=>4 - (intOf t5).toNat)
 case atStart=>exact ⟨0,rfl,by omega,by simp,by simpa [digs] using hown,Below.refl _ _,Oth.refl _ _⟩
 case round =>
  obtain ⟨k,rfl,hk,rfl,ho,hbl,hot⟩:=hrel
  have hsz:=hbl.size
  have hm:n / 4 ^ k≤n:=Nat.div_le_self _ _
  have HD:=hidp (digs_snoc n k)
  have hm4:=hidp (show n / 4 ^ (k + 1)=n / 4 ^ k / 4 from by rw [Nat.pow_succ,Nat.div_div_eq_div_mul])
  obtain ⟨m,hme⟩:∃ m,n / 4 ^ k=m:=⟨_,rfl⟩
  rw [hme] at hm HD hm4 ⊢
  have HM:=hidp hme
  clear hme
  have HO:=hidp ho;have HOT:=hidp hot
  clear ho hot
  by_cases h4:k<4
  · have ha:=and3 m
    have hlen:(iv (ds++digs n k)).length=ds.length + k:=by rw [iv_length,List.length_append,digs_len]
    have HL:=hidp hlen
    clear hlen
    go_wp2_with ((at_builtin;(refine wpList_appO rfl (.tmp 7) (.tmp 10) 188 rfl B 3 i0 (.int .i64 0) 8 Tryz.underlying188 hi hz0 hz1 hz2 rfl _ (iv (ds++digs n k)) rfl (HO.out.alloc _) ⟨wr.heap.size,0,none⟩ _ (.int .i64 ((m % 4:Nat):Int)) rfl (cell_new1 _ _ _) rfl ?_ ?_ ?_ ?_)))
    · rw [HL.out];unfold maxLen;omega
    · rw [HL.out];omega
    · rw [heap_size_alloc];omega
    · intro v' w1 ho1 hb1 hot1
      have HOT1:=hidp (HOT.out.trans ((Oth.of_below ((Below.refl _ wr).alloc (Nat.le_refl _) _)).trans hot1))
      clear hot1
      have HO1:=hidp (show OwnV w1 B 3 v' (iv (ds++digs n (k + 1))) from by rw [HD.out,← List.append_assoc,← iv_snoc];exact ho1)
      have hb2:=hbl.trans (((Below.refl B wr).alloc (by omega) _).trans hb1)
      clear hb1 ho1
      go_wp2
      refine ⟨⟨k + 1,by go_num,by omega,by rw [hm4.out];simp,HO1.out,hb2,HOT1.out⟩,by simp [intOf];omega⟩
  · obtain rfl:k=4:=by omega
    go_wp2
    go_ret
    exact ⟨_,rfl,HO.out,hbl,HOT.out⟩
theorem lacking_any (w:World) (v:Value) (ds:List Nat) (hd:∀ d ∈ ds,d<4) (hn:ds.length≤4294967296) (hat:ValsAt w v (iv ds)) :
 Calls Tryz.prog 196 #[v] w fun e w'=>e=.returned (.int .i64 (lackN ds:Nat))∧w=w':=by
 obtain ⟨a,cap,rfl,hc⟩:=hat
 rw [iv_length]
 have HC:=hidp hc
 have HD:=hidp hd
 clear hc hd
 obtain ⟨n,hnn⟩:∃ n,ds.length=n:=⟨_,rfl⟩
 rw [hnn] at hn ⊢
 have HN:=hidp hnn
 clear hnn
 go_enter Tryz.func196,Tryz.ntmps196
 go_wp2
 go_loop [3,8] (fun t3 t8=>∃ k:Nat,t8=.int .i64 (k:Int)∧k≤n∧t3=.int .i64 ((lackN (ds.take k):Nat):Int)) (fun _ t8=>n - (intOf t8).toNat)
 case atStart=>exact ⟨0,rfl,by omega,rfl⟩
 case round =>
  obtain ⟨k,rfl,hk,rfl⟩:=hrel
  have hle:=lackN_le (ds.take k)
  have hlk:(ds.take k).length≤k:=List.length_take_le _ _
  obtain ⟨q,hq⟩:∃ q,lackN (ds.take k)=q:=⟨_,rfl⟩
  rw [hq] at hle
  by_cases hlt:k<n
  · have hk1:k<ds.length:=by rw [HN.out];exact hlt
    obtain ⟨b,off,rfl,hcell⟩:=HC.out k (by rw [iv_length];exact hk1)
    obtain ⟨d,hdd⟩:∃ d,ds[k]=d:=⟨_,rfl⟩
    have hd4:d<4:=by rw [← hdd];exact HD.out _ (List.getElem_mem _)
    have hcell2:w.cell? ⟨b,off + k,none⟩=some (.int .i64 (d:Int)):=by rw [hcell];simp [iv,hdd]
    clear hcell
    have HS:=hidp (show lackN (ds.take (k + 1))=q + (3 - d) from by
     rw [List.take_add_one,List.getElem?_eq_getElem hk1,hdd,lackN_app,hq];simp [lackN])
    rw [hq]
    have HQ:=hidp hq
    clear hq hdd
    have hi0:(0:Int)≤(k:Int):=by omega
    have hi1:(k:Int)<(n:Int):=by omega
    go_wp2
    refine ⟨⟨k + 1,by go_num,by omega,by rw [HS.out,show ((q + (3 - d):Nat):Int)=(q:Int) + (3 - (d:Int)) from by omega]⟩,by simp [intOf];omega⟩
  · have HS:=hidp (show lackN ds=q from by rw [← hq,List.take_of_length_le (by rw [HN.out];omega)])
    rw [hq]
    clear hq
    go_wp2
    go_ret
    exact ⟨by rw [HS.out];rfl,rfl⟩
theorem walk_any (w:World) (x:List UInt8) (hx:x.length≤1048576) (m:Nat) (hm:m≤4294967296) (hK:KT w) :
 Calls Tryz.prog 177 #[.string (mkS x),.int .i64 m] w fun e w'=>e=.returned (.string (mkS (walkL x m)))∧Below w.heap.size w w':=by
 have HK:=hidp hK
 have hkp:=hK.pos
 clear hK
 go_enter Tryz.func177,Tryz.ntmps177
 go_wp2
 go_loopw [0,6] (fun t0 t6 wr=>∃ k:Nat,t6=.int .i64 (k:Int)∧k≤m∧t0=.string (mkS (walkL x k))∧Below w.heap.size w wr) (fun _ t6 _=>m - (intOf t6).toNat)
 case atStart=>exact ⟨0,rfl,by omega,rfl,Below.refl _ _⟩
 case round =>
  obtain ⟨k,rfl,hk,rfl,hbw⟩:=hrel
  have hbs:=hbw.size
  have HBW:=hidp hbw
  clear hbw
  have hyl:(walkL x k).length≤1048576:=by
   cases k with
   | zero=>exact hx
   | succ k=>rw [walkL,midL_len];omega
  by_cases hlt:k<m
  · have c1:=hidp (show ∀ W,KT W→Calls Tryz.prog 178 #[.string (mkS (2 :: walkL x k))] W fun e w'=>e=.returned (.string (mkS (walkL x (k + 1))))∧Below W.heap.size W w' from fun W h=>by
     have:=mid_any W (mkS (2 :: walkL x k)) (by rw [mkS_size];simp;omega) h
     rw [mkS_data] at this
     rw [walkL];unfold midL;exact this)
    have hap:=hidp (show (⟨#[2]⟩:ByteArray)++mkS (walkL x k)=mkS (2 :: walkL x k) from mkS_append [2] _)
    obtain ⟨S,hS⟩:∃ S,mkS (walkL x k)=S:=⟨_,rfl⟩
    have hSs:S.size≤1048576:=by rw [← hS,mkS_size];exact hyl
    rw [hS] at hap ⊢
    clear hS
    go_wp2_with fail
    rw [hap.out]
    refine (c1.out _ (HK.out.below HBW.out hkp)).mono ?_
    rintro e w1 ⟨rfl,hb1⟩
    have HB1:=hidp (HBW.out.trans (hb1.mono hbs))
    clear hb1
    go_wp2_with fail
    exact ⟨⟨k + 1,by go_num,by omega,rfl,HB1.out⟩,by simp [intOf];omega⟩
  · have HM:=hidp (show k=m from by omega)
    go_wp2_with fail
    go_ret
    exact ⟨by rw [HM.out];rfl,HBW.out⟩
end
section
open Go.RowKit
theorem bytes_at (w:World) (s:ByteArray) (cs:Array Value) (fz:Nat × Nat) (b:Nat) (W:World) (hs:cs=Lib.bytesCells w 5 s) (h:W.heap[b]?=some (.cells cs 5 fz)) (j:Nat) (hj:j<s.size) :
 W.cell? ⟨b,j,none⟩=some (.int .u8 (s.data.toList.getD j 0).toNat):=by
 rw [cell_of_row W b j cs _ fz h,hs]
 simp [Lib.bytesCells,Array.getElem?_append,List.getD,hj]
theorem digits_any (w:World) (s:ByteArray) (hs:s.size≤281474976710656) (hK:KT w) :
 Calls Tryz.prog 175 #[.string s] w fun e w'=>∃ v,e=.returned v∧OwnV w' w.heap.size 3 v (iv (digL s.data.toList))∧Below w.heap.size w w':=by
 obtain ⟨i0,hi,hz0,hz1,hz2⟩:=info_parts infoInt
 have HK:=hidp hK
 have hkp:=hK.pos
 clear hK
 have c1:=hidp (show ∀ W,KT W→Calls Tryz.prog 178 #[.string s] W fun e w'=>e=.returned (.string (mkS (midL s.data.toList)))∧Below W.heap.size W w' from fun W h=>by
  have:=mid_any W s hs h;unfold midL;exact this)
 have HDL:=hidp (show digL s.data.toList=byteDigs (midL s.data.toList)++digs (lackN (byteDigs (midL s.data.toList))) 4 from rfl)
 obtain ⟨m,hm⟩:∃ m,midL s.data.toList=m:=⟨_,rfl⟩
 have hml:m.length=16:=by rw [← hm];exact midL_len _
 rw [hm] at c1 HDL
 obtain ⟨M,hM⟩:∃ M,mkS m=M:=⟨_,rfl⟩
 have hMs:M.size=16:=by rw [← hM,mkS_size,hml]
 have hMd:=hidp (show M.data.toList=m from by rw [← hM];rfl)
 rw [hM] at c1
 have HML:=hidp hml
 clear hm hM hml
 obtain ⟨C0,hC⟩:∃ C,C=madeCells (Value.int .i64 0).cells (68 * i0.size):=⟨_,rfl⟩
 have hCs:C0.size=68:=by rw [hC,size_madeCells,hz1]
 have hmk:(Instr.makeSlice 188 (.int .i64 0) (.int .i64 68)).run Tryz.prog w=.ok (.slice (some ⟨w.heap.size,0,none⟩) 0 68) (w.alloc (.cells C0 3)):=by
  have h:=run_make (P:=Tryz.prog) w 188 3 i0 (.int .i64 0) Tryz.underlying188 hi hz0 .i64 .i64 0 68 (by omega) (by omega) (by rw [hz2];omega) (by omega)
  rw [show ((68:Int).toNat)=68 from rfl,← hC] at h
  simpa using h
 have HO0:=hidp (show OwnV (w.alloc (.cells C0 3)) w.heap.size 3 (.slice (some ⟨w.heap.size,0,none⟩) 0 68) (iv (byteDigs (m.take 0))) from
  ⟨rfl,.inr ⟨w.heap.size,68,C0,rfl,Nat.le_refl _,heap_alloc_new w _,by simp [iv,byteDigs],by unfold maxLen;omega,by rw [hCs],by simp [iv,byteDigs]⟩⟩)
 have HB0:=hidp (show Below w.heap.size w (w.alloc (.cells C0 3)) from (Below.refl _ w).alloc (Nat.le_refl _) _)
 clear hC
 go_enter Tryz.func175,Tryz.ntmps175
 go_wp2_with fail
 clear hmk
 refine (c1.out _ (HK.out.below HB0.out hkp)).mono ?_
 rintro e w1 ⟨rfl,hb1⟩
 have HO1:=hidp (HO0.out.kept hb1 (Nat.le_refl _))
 have HB1:=hidp (HB0.out.trans (hb1.mono HB0.out.size))
 clear hb1
 have hs1:=HB1.out.size
 have hcv:=Lib.run_convert_string_bytes (P:=Tryz.prog) w1 9 174 5 M Tryz.underlying9 Tryz.underlying174 Tryz.underlying5
 have hbb:=bytes_below w1 M
 have HO2:=hidp (HO1.out.kept hbb (Nat.le_refl _))
 have HB2:=hidp (HB1.out.trans (hbb.mono hs1))
 have hnew:=Lib.bytesWorld_at_new w1 5 M
 obtain ⟨cs,hcs⟩:∃ cs,Lib.bytesCells w1 5 M=cs:=⟨_,rfl⟩
 obtain ⟨fz,hfz⟩:∃ fz:Nat × Nat,(cs.size,cs.size + 1)=fz:=⟨_,rfl⟩
 obtain ⟨cap,hcap⟩:∃ c,grownCap w1 M.size 0 5=c:=⟨_,rfl⟩
 obtain ⟨W2,hW2⟩:∃ W,Lib.bytesWorld w1 5 M=W:=⟨_,rfl⟩
 rw [hcs,hfz,hW2] at hnew
 rw [hcap,hW2] at hcv
 rw [hW2] at HO2 HB2 hbb
 have HNEW:=hidp hnew;have HCS:=hidp hcs;have HMS:=hidp hMs
 have hM1:16≤M.size:=by omega
 have hM2:M.size≤16:=by omega
 have hs2:w1.heap.size<W2.heap.size:=(Array.getElem?_eq_some_iff.1 hnew).1
 clear hcs hfz hcap hW2 hnew hbb hMs
 go_wp2_with fail
 clear hcv
 go_loopw [3,11] (fun t3 t11 wr=>∃ k:Nat,t11=.int .i64 (k:Int)∧k≤16∧OwnV wr w.heap.size 3 t3 (iv (byteDigs (m.take k)))∧wr.heap[w1.heap.size]?=some (.cells cs 5 fz)∧Below w.heap.size w wr) (fun _ t11 _=>16 - (intOf t11).toNat)
 case atStart=>exact ⟨0,rfl,by omega,HO2.out,HNEW.out,HB2.out⟩
 case round =>
  obtain ⟨k,rfl,hk,ho,hby,hbw⟩:=hrel
  have hbs:=hbw.size
  have HO:=hidp ho;have HBY:=hidp hby;have HBW:=hidp hbw
  clear ho hby hbw
  by_cases hlt:k<16
  · have hlt2:k<M.size:=by omega
    have hc:=bytes_at w1 M cs fz w1.heap.size wr HCS.out.symm HBY.out k hlt2
    rw [hMd.out] at hc
    obtain ⟨c,hcc⟩:∃ c,m[k]?=some c:=⟨_,List.getElem?_eq_getElem (by rw [HML.out];exact hlt)⟩
    have hcd:m.getD k 0=c:=by rw [List.getD_eq_getElem?_getD,hcc];rfl
    rw [hcd] at hc
    obtain ⟨n,hn⟩:∃ n,c.toNat=n:=⟨_,rfl⟩
    have hn256:n<256:=hn ▸ c.toNat_lt
    rw [hn] at hc
    have HT:=hidp (show m.take (k + 1)=m.take k++[c] from by rw [List.take_add_one,hcc];rfl)
    have HN:=hidp hn
    clear hcc hcd hn
    have hlen:=hidp (show (byteDigs (m.take k)).length≤64 from by rw [byteDigs_len,List.length_take];omega)
    have hi0:(0:Int)≤(k:Int):=by omega
    have hi1:(k:Int)<(M.size:Int):=by omega
    go_wp2_with fail
    refine (addDigits_own wr w.heap.size _ (byteDigs (m.take k)) n (by omega) (by have:=hlen.out;omega) HO.out hbs).mono ?_
    rintro e w3 ⟨v3,rfl,ho3,hb3,hot3⟩
    have HO3:=hidp (show OwnV w3 w.heap.size 3 v3 (iv (byteDigs (m.take (k + 1)))) from by rw [HT.out,byteDigs_snoc,HN.out];exact ho3)
    have HBY3:=hidp (hot3 _ _ _ _ HBY.out (by decide))
    have HB3:=hidp (HBW.out.trans hb3)
    clear ho3 hb3 hot3 hc
    go_wp2_with fail
    exact ⟨⟨k + 1,by go_num,by omega,HO3.out,HBY3.out,HB3.out⟩,by simp [intOf];omega⟩
  · obtain rfl:k=16:=by omega
    have hmt:=hidp (show m.take 16=m from List.take_of_length_le (by rw [HML.out];exact Nat.le_refl _))
    have HOm:=hidp (show OwnV wr w.heap.size 3 _ (iv (byteDigs m)) from by have:=HO.out;rw [hmt.out] at this;exact this)
    have hlen:=hidp (show (byteDigs m).length=64 from by rw [byteDigs_len,HML.out])
    have hlk:=lackN_le (byteDigs m)
    rw [hlen.out] at hlk
    have hge:¬ ((16:Int)<(M.size:Int)):=by omega
    go_wp2_with fail
    refine (lacking_any wr _ (byteDigs m) (byteDigs_lt m) (by have:=hlen.out;omega) HOm.out.vals).mono ?_
    rintro e w3 ⟨rfl,rfl⟩
    go_wp2_with fail
    refine (addDigits_own wr w.heap.size _ (byteDigs m) (lackN (byteDigs m)) (by omega) (by have:=hlen.out;omega) HOm.out hbs).mono ?_
    rintro e w4 ⟨v4,rfl,ho4,hb4,-⟩
    have HO4:=hidp ho4
    have HB4:=hidp (HBW.out.trans hb4)
    clear ho4 hb4
    go_wp2_with fail
    go_ret
    exact ⟨_,rfl,by rw [HDL.out];exact HO4.out,HB4.out⟩
end
section
open Go.RowKit
def startL (seed:List UInt8) (j:Nat):List UInt8:=midL (3 :: UInt8.ofNat j :: seed)
theorem startL_len (seed:List UInt8) (j:Nat):(startL seed j).length=16:=midL_len _
def catL (f:Nat→List UInt8) (n:Nat):List UInt8:=(List.range n).flatMap f
theorem catL_succ (f:Nat→List UInt8) (n:Nat):catL f (n + 1)=catL f n++f n:=by unfold catL;rw [List.range_succ,List.flatMap_append];simp
theorem catL_len (f:Nat→List UInt8) (n:Nat) (h:∀ j,(f j).length=16):(catL f n).length=16 * n:=by
 induction n with
 | zero=>rfl
 | succ n ih=>rw [catL_succ,List.length_append,ih,h];omega
theorem catL_congr (f g:Nat→List UInt8) (n:Nat) (h:∀ j,j<n→f j=g j):catL f n=catL g n:=by
 induction n with
 | zero=>rfl
 | succ n ih=>rw [catL_succ,catL_succ,ih (fun j hj=>h j (by omega)),h n (by omega)]
theorem catL_piece (f:Nat→List UInt8) (n j:Nat) (h:∀ j,(f j).length=16) (hj:j<n):((catL f n).drop (16 * j)).take 16=f j:=by
 induction n with
 | zero=>omega
 | succ n ih =>
   have hl:=catL_len f n h
   rw [catL_succ]
   by_cases e:j<n
   · rw [List.drop_append_of_le_length (by omega),List.take_append_of_le_length (by simp;omega)]
     exact ih e
   · obtain rfl:j=n:=by omega
     rw [List.drop_append,List.drop_eq_nil_of_le (by omega),hl]
     simp [List.take_of_length_le (Nat.le_of_eq (h j))]
def pieceL (sig:List UInt8) (j:Nat):List UInt8:=(sig.drop (16 * j)).take 16
def pubL (seed:List UInt8):List UInt8:=shaL (4 :: catL (fun j=>walkL (startL seed j) 3) 68)
def signL (seed t:List UInt8):List UInt8:=catL (fun j=>walkL (startL seed j) ((digL t).getD j 0)) 68
def recL (t sig:List UInt8):List UInt8:=shaL (4 :: catL (fun j=>walkL (pieceL sig j) (3 - (digL t).getD j 0)) 68)
theorem pubL_len (seed:List UInt8):(pubL seed).length=32:=shaL_len _
theorem recL_len (t sig:List UInt8):(recL t sig).length=32:=shaL_len _
theorem signL_len (seed t:List UInt8):(signL seed t).length=1088:=catL_len _ _ fun j=>walkL_len _ _ (startL_len _ _)
theorem digL_getD_lt (t:List UInt8) (j:Nat):(digL t).getD j 0<4:=by
 rw [List.getD_eq_getElem?_getD]
 cases h:(digL t)[j]? with
 | none=>simp
 | some d=>exact digL_lt t d (List.mem_of_getElem? h)
theorem rec_sign (seed t:List UInt8):recL t (signL seed t)=pubL seed:=by
 unfold recL pubL
 congr 2
 refine catL_congr _ _ _ fun j hj=>?_
 unfold pieceL signL
 rw [catL_piece _ _ _ (fun j=>walkL_len _ _ (startL_len _ _)) hj,walkL_add]
 have:=digL_getD_lt t j
 rw [show (digL t).getD j 0 + (3 - (digL t).getD j 0)=3 from by omega]
theorem cat3 (j:Nat) (seed:ByteArray):(⟨#[3]⟩:ByteArray)++mkS [UInt8.ofNat j]++seed=mkS (3 :: UInt8.ofNat j :: seed.data.toList):=by
 rw [show (⟨#[3]⟩:ByteArray)=mkS [3] from rfl,mkS_append,← mkS_of seed,mkS_append];rfl
end
section
open Go.RowKit
end
section
open Go.RowKit
def recV (t sig:List UInt8):List UInt8:=if sig.length=1088 then recL t sig else z32
def recE (sig:List UInt8):Nat:=if sig.length=1088 then 0 else 2
theorem piece_ext (s:ByteArray) (k:Nat):s.extract (16 * k) (16 * (k + 1))=mkS (pieceL s.data.toList k):=by
 apply ba_ext
 rw [extract_toList,mkS_data]
 unfold pieceL
 rw [show 16 * (k + 1) - 16 * k=16 from by omega]
theorem pieceL_len (sig:List UInt8) (k:Nat) (h:16 * (k + 1)≤sig.length):(pieceL sig k).length=16:=by unfold pieceL;simp;omega
theorem OwnV.oth {w w':World} {B e e':Nat} {v:Value} {l:List Value} (h:OwnV w B e v l) (ho:Oth e' w w') (hne:e≠e'):OwnV w' B e v l:=by
 refine ⟨h.1,?_⟩
 rcases h.2 with hn | ⟨g,cap,cur,rfl,hb',hgg,rest⟩
 · exact .inl hn
 · exact .inr ⟨g,cap,cur,rfl,hb',ho _ _ _ _ hgg hne,rest⟩
theorem wpList_appS {P:Program} {w:World} {ops:Array Oper} {rest:List Oper} {o:Oper} {a:Act} {Q:Exit→Act→World→Prop} (hgd:o.guard=none) (sl x:Operand) (t u:TypeId)
 (ho:o.op=.call { callee:=.builtin .append,args:=#[sl,x],argTypes:=#[t,u] }) (B e:Nat) (i:TypeInfo) (ht:P.underlying t=some (.slice e)) (hu:P.underlying u=some .string) (hi:P.info? e=some i)
 (hz0:i.zero=some (.int .u8 0)) (hz1:i.size=1) (hz2:i.bytes=1) (v:Value) (xs:List UInt8) (hs:a.eval sl=v) (hown:Own w B e v xs) (s:ByteArray) (hx:a.eval x=.string s)
 (hlen:xs.length + s.size≤140737488351232) (hB:B≤w.heap.size)
 (h:∀ v' w',Own w' B e v' (xs++s.data.toList)→Below B w w'→Oth e w w'→wpList P ops Q rest (a.put o.dst v') w'):wpList P ops Q (o :: rest) a w:=by
 refine Lib.wpList_append_own_string w hgd sl x t u ho B e i ht hu hi hz0 hz1 hz2 v xs.length (bv xs) hs hown s hx (by unfold maxLen;omega) (by omega) hB ?_
 intro v' w' h1 h2 _
 refine h v' w' ?_ ((Below.refl B w).grown h2 hB fun k hk=>(World.ownsRow.lt hown k hk).1) ?_
 · have e1:(xs++s.data.toList).length=xs.length + s.size:=by simp
   have e2:bv (xs++s.data.toList)=bv xs++Lib.strCells s:=by rw [bv_append];rfl
   unfold Own;rw [e1,e2];exact h1
 · intro b c t' fz hb hte
   rw [h2.block b (Array.getElem?_eq_some_iff.1 hb).1 (not_row_cells' hb hte hown)];exact hb
end
section
open Go.RowKit
theorem mk1088 (w:World):∃ C:Array Value,(Instr.makeSlice 174 (.int .i64 0) (.int .i64 1088)).run Tryz.prog w=.ok (.slice (some ⟨w.heap.size,0,none⟩) 0 1088) (w.alloc (.cells C 5)) ∧
 (∀ B,B≤w.heap.size→Own (w.alloc (.cells C 5)) B 5 (.slice (some ⟨w.heap.size,0,none⟩) 0 1088) []):=by
 obtain ⟨i0,hi,hz0,hz1,hz2⟩:=info_parts info5
 refine ⟨madeCells (Value.int .u8 0).cells (1088 * i0.size),?_,fun B hB=>?_⟩
 · have h:=run_make (P:=Tryz.prog) w 174 5 i0 (.int .u8 0) Tryz.underlying174 hi hz0 .i64 .i64 0 1088 (by omega) (by omega) (by rw [hz2];omega) (by omega)
   rw [show ((1088:Int).toNat)=1088 from rfl] at h
   simpa using h
 · refine ⟨rfl,.inr ⟨w.heap.size,1088,_,rfl,hB,heap_alloc_new w _,by simp,by unfold maxLen;omega,?_,by simp [bv]⟩⟩
   rw [size_madeCells,hz1]
theorem recover_any (w:World) (text sig:ByteArray) (ht:text.size≤281474976710656) (hg:sig.size≤281474976710656) (hK:KT w) :
 Calls Tryz.prog 152 #[.string text,.string sig] w fun e w'=>e=.returned (.tuple #[.agg (u8s (recV text.data.toList sig.data.toList)).toArray,.int .i64 (recE sig.data.toList:Nat)])∧Below w.heap.size w w':=by
 have HI:=hidp (show (Tryz.prog.info? 58).map (·.size)=some (u8s z32).toArray.size from by kernel_rfl)
 by_cases h88:sig.size=1088
 · obtain ⟨i0,hi,hz0,hz1,hz2⟩:=info_parts info5
   have HI5:=hidp hi;have HZ0:=hidp hz0;have HZ1:=hidp hz1;have HZ2:=hidp hz2
   clear hi hz0 hz1 hz2
   have HK:=hidp hK
   have hkp:=hK.pos
   clear hK
   have hrv:=hidp (show recV text.data.toList sig.data.toList=recL text.data.toList sig.data.toList∧recE sig.data.toList=0 from by
    unfold recV recE;simp [h88])
   have hne:((sig.size:Int) != 1088)=false:=by simp;omega
   have hlo:1088≤sig.size:=by omega
   have hhi:sig.size≤1088:=by omega
   rw [hrv.out.1,hrv.out.2]
   obtain ⟨D,hD⟩:∃ D,digL text.data.toList=D:=⟨_,rfl⟩
   have hDl:D.length=68:=by rw [← hD];exact digL_len _
   have hD4:∀ j,D.getD j 0<4:=by rw [← hD];exact digL_getD_lt _
   obtain ⟨f,hf⟩:∃ f,(fun j=>walkL (pieceL sig.data.toList j) (3 - D.getD j 0))=f:=⟨_,rfl⟩
   have hfl:∀ j,j<68→(f j).length=16:=fun j hj=>by rw [← hf];exact walkL_len _ _ (pieceL_len _ _ (by simp;omega))
   have hcl:∀ k,k≤68→(catL f k).length=16 * k:=by
    intro k
    induction k with
    | zero=>intro _;rfl
    | succ k ih=>intro hk;rw [catL_succ,List.length_append,ih (by omega),hfl k (by omega)];omega
   have hrl:=hidp (show recL text.data.toList sig.data.toList=shaL (4 :: catL f 68) from by rw [← hf,← hD];rfl)
   have c0:=hidp (show ∀ W,KT W→Calls Tryz.prog 175 #[.string text] W fun e w'=>∃ v,e=.returned v∧OwnV w' W.heap.size 3 v (iv D)∧Below W.heap.size W w' from fun W h=>by
    rw [← hD];exact digits_any W text ht h)
   have c2:=hidp (show ∀ W j,j<68→KT W→Calls Tryz.prog 177 #[.string (mkS (pieceL sig.data.toList j)),.int .i64 ((3 - D.getD j 0:Nat):Int)] W fun e w'=>e=.returned (.string (mkS (f j)))∧Below W.heap.size W w' from fun W j hj h=>by
    rw [← hf];exact walk_any W _ (by rw [pieceL_len _ _ (by simp;omega)];omega) (3 - D.getD j 0) (by omega) h)
   have c3:=hidp (show ∀ W,KT W→Calls Tryz.prog 146 #[.string (mkS (4 :: catL f 68))] W fun e w'=>e=.returned (.agg (u8s (recL text.data.toList sig.data.toList)).toArray)∧Below W.heap.size W w' from fun W h=>by
    have:=sum_any W (mkS (4 :: catL f 68)) (by rw [mkS_size,List.length_cons,hcl 68 (by omega)];omega) h
    rw [mkS_data] at this
    rw [hrl.out];exact this)
   have HFL:=hidp hfl;have HDL:=hidp hDl;have HD4:=hidp hD4;have HCL:=hidp hcl
   have hpx:=hidp (fun k=>piece_ext sig k)
   clear hf hfl hD hDl hD4 hcl h88
   obtain ⟨X,hX⟩:∃ X,(u8s (recL text.data.toList sig.data.toList)).toArray=X:=⟨_,rfl⟩
   have HSX:=hidp (show (Tryz.prog.info? 58).map (·.size)=some X.size from by rw [← hX];exact hash_size (recL_len _ _))
   have hone:=hidp (show X.all (·.oneCell')=true from by rw [← hX];exact u8s_one _)
   have hlen:=hidp (show (u8s z32).toArray.size=X.size from by rw [← hX];simp [u8s_length,recL_len,z32_len])
   rw [hX] at c3 ⊢
   clear hX hrl
   have HZL:=hidp (show (#[Value.int .u8 0,Value.int .u8 0,Value.int .u8 0,Value.int .u8 0,Value.int .u8 0,Value.int .u8 0,Value.int .u8 0,Value.int .u8 0,Value.int .u8 0,Value.int .u8 0,Value.int .u8 0,Value.int .u8 0,Value.int .u8 0,Value.int .u8 0,Value.int .u8 0,Value.int .u8 0,Value.int .u8 0,Value.int .u8 0,Value.int .u8 0,Value.int .u8 0,Value.int .u8 0,Value.int .u8 0,Value.int .u8 0,Value.int .u8 0,Value.int .u8 0,Value.int .u8 0,Value.int .u8 0,Value.int .u8 0,Value.int .u8 0,Value.int .u8 0,Value.int .u8 0,Value.int .u8 0]:Array Value)=(u8s z32).toArray from rfl)
   have H0:=hidp (show Arr (w.alloc (.cells #[Value.int .u8 0,Value.int .u8 0,Value.int .u8 0,Value.int .u8 0,Value.int .u8 0,Value.int .u8 0,Value.int .u8 0,Value.int .u8 0,Value.int .u8 0,Value.int .u8 0,Value.int .u8 0,Value.int .u8 0,Value.int .u8 0,Value.int .u8 0,Value.int .u8 0,Value.int .u8 0,Value.int .u8 0,Value.int .u8 0,Value.int .u8 0,Value.int .u8 0,Value.int .u8 0,Value.int .u8 0,Value.int .u8 0,Value.int .u8 0,Value.int .u8 0,Value.int .u8 0,Value.int .u8 0,Value.int .u8 0,Value.int .u8 0,Value.int .u8 0,Value.int .u8 0,Value.int .u8 0] 58)) w.heap.size 58 (u8s z32)∧Below w.heap.size w (w.alloc (.cells #[Value.int .u8 0,Value.int .u8 0,Value.int .u8 0,Value.int .u8 0,Value.int .u8 0,Value.int .u8 0,Value.int .u8 0,Value.int .u8 0,Value.int .u8 0,Value.int .u8 0,Value.int .u8 0,Value.int .u8 0,Value.int .u8 0,Value.int .u8 0,Value.int .u8 0,Value.int .u8 0,Value.int .u8 0,Value.int .u8 0,Value.int .u8 0,Value.int .u8 0,Value.int .u8 0,Value.int .u8 0,Value.int .u8 0,Value.int .u8 0,Value.int .u8 0,Value.int .u8 0,Value.int .u8 0,Value.int .u8 0,Value.int .u8 0,Value.int .u8 0,Value.int .u8 0,Value.int .u8 0] 58)) from ⟨by rw [HZL.out];exact Arr.new w _ _,(Below.refl _ w).alloc (Nat.le_refl _) _⟩)
   obtain ⟨C,hmk,hown⟩:=mk1088 (w.alloc (.cells #[Value.int .u8 0,Value.int .u8 0,Value.int .u8 0,Value.int .u8 0,Value.int .u8 0,Value.int .u8 0,Value.int .u8 0,Value.int .u8 0,Value.int .u8 0,Value.int .u8 0,Value.int .u8 0,Value.int .u8 0,Value.int .u8 0,Value.int .u8 0,Value.int .u8 0,Value.int .u8 0,Value.int .u8 0,Value.int .u8 0,Value.int .u8 0,Value.int .u8 0,Value.int .u8 0,Value.int .u8 0,Value.int .u8 0,Value.int .u8 0,Value.int .u8 0,Value.int .u8 0,Value.int .u8 0,Value.int .u8 0,Value.int .u8 0,Value.int .u8 0,Value.int .u8 0,Value.int .u8 0] 58))
   have hHO:=hidp (hown w.heap.size (by simp))
   have hB0:=hidp (show Below w.heap.size w ((w.alloc (.cells #[Value.int .u8 0,Value.int .u8 0,Value.int .u8 0,Value.int .u8 0,Value.int .u8 0,Value.int .u8 0,Value.int .u8 0,Value.int .u8 0,Value.int .u8 0,Value.int .u8 0,Value.int .u8 0,Value.int .u8 0,Value.int .u8 0,Value.int .u8 0,Value.int .u8 0,Value.int .u8 0,Value.int .u8 0,Value.int .u8 0,Value.int .u8 0,Value.int .u8 0,Value.int .u8 0,Value.int .u8 0,Value.int .u8 0,Value.int .u8 0,Value.int .u8 0,Value.int .u8 0,Value.int .u8 0,Value.int .u8 0,Value.int .u8 0,Value.int .u8 0,Value.int .u8 0,Value.int .u8 0] 58)).alloc (.cells C 5)) from H0.out.2.alloc (by simp) _)
   have hA0:=hidp (H0.out.1.alloc (.cells C 5))
   clear hown H0
   rw [heap_size_alloc] at hmk hHO
   go_enter Tryz.func152,Tryz.ntmps152
   go_wp2_with fail
   clear hmk
   refine (c0.out _ (HK.out.below hB0.out hkp)).mono ?_
   rintro e w1 ⟨v1,rfl,hv1,hb1⟩
   have HO1:=hidp (hHO.out.kept hb1 (Nat.le_refl _))
   have HA1:=hidp (hA0.out.below hb1 hA0.out.lt)
   have HB1:=hidp (hB0.out.trans (hb1.mono hB0.out.size))
   have HV1:=hidp hv1
   clear hb1 hv1 hHO hA0 hB0
   obtain ⟨a,cap,hv1e,-⟩:=HV1.out.vals
   rw [iv_length,HDL.out] at hv1e
   subst hv1e
   go_wp2_with fail
   obtain ⟨B1,hB1⟩:∃ B,((w.alloc (.cells #[Value.int .u8 0,Value.int .u8 0,Value.int .u8 0,Value.int .u8 0,Value.int .u8 0,Value.int .u8 0,Value.int .u8 0,Value.int .u8 0,Value.int .u8 0,Value.int .u8 0,Value.int .u8 0,Value.int .u8 0,Value.int .u8 0,Value.int .u8 0,Value.int .u8 0,Value.int .u8 0,Value.int .u8 0,Value.int .u8 0,Value.int .u8 0,Value.int .u8 0,Value.int .u8 0,Value.int .u8 0,Value.int .u8 0,Value.int .u8 0,Value.int .u8 0,Value.int .u8 0,Value.int .u8 0,Value.int .u8 0,Value.int .u8 0,Value.int .u8 0,Value.int .u8 0,Value.int .u8 0] 58)).alloc (.cells C 5)).heap.size=B:=⟨_,rfl⟩
   rw [hB1] at HV1
   clear hB1
   go_loopw [6,18] (fun t6 t18 wr=>∃ k:Nat,t18=.int .i64 (k:Int)∧k≤68∧Own wr w.heap.size 5 t6 (catL f k)∧OwnV wr B1 3 (.slice a 68 cap) (iv D)∧Arr wr w.heap.size 58 (u8s z32)∧Below w.heap.size w wr) (fun _ t18 _=>68 - (intOf t18).toNat)
   case atStart=>exact ⟨0,rfl,by omega,HO1.out,HV1.out,HA1.out,HB1.out⟩
   case round =>
    obtain ⟨k,rfl,hk,ho,hv,hA,hbw⟩:=hrel
    have HO:=hidp ho;have HV:=hidp hv;have HA:=hidp hA;have HBW:=hidp hbw
    have hbs:=hbw.size
    clear ho hv hA hbw
    have hcl:=hidp (HCL.out k hk)
    by_cases hlt:k<68
    · obtain ⟨a',cap',hve,hcells⟩:=HV.out.vals
      obtain ⟨b,off,hab,hcell⟩:=hcells k (by rw [iv_length,HDL.out];exact hlt)
      have haa:a=some ⟨b,off,none⟩:=by
       rw [iv_length,HDL.out] at hve
       injection hve with h1 h2 h3
       rw [h1,hab]
      subst haa
      have hcl2:wr.cell? ⟨b,off + k,none⟩=some (.int .i64 ((D.getD k 0:Nat):Int)):=by
       rw [hcell];simp [iv,List.getD_eq_getElem?_getD,HDL.out,hlt]
      have hTl:=hidp (show (mkS (f k)).data.toList=f k from rfl)
      have hcs:=hidp (catL_succ f k)
      obtain ⟨T,hT⟩:∃ T,mkS (f k)=T:=⟨_,rfl⟩
      have hTs:T.size=16:=by rw [← hT,mkS_size,HFL.out k hlt]
      have c2k:=hidp (fun W=>c2.out W k hlt)
      have hd4:=HD4.out k
      obtain ⟨d,hd⟩:∃ d,D.getD k 0=d:=⟨_,rfl⟩
      rw [hd] at hcl2 c2k hd4
      have h3d:=hidp (show ((3 - d:Nat):Int)=3 - (d:Int) from by omega)
      rw [h3d.out] at c2k
      rw [hT] at hTl c2k
      have hpk:=hidp (hpx.out k)
      have HTS:=hidp hTs
      clear hT hTs hcell hcells hve hab hd
      have hi0:(0:Int)≤(k:Int):=by omega
      have hi1:(k:Int)<68:=by omega
      have e3:(16 * (k:Int)).toNat=16 * k:=by omega
      have e4:(16 * ((k:Int) + 1)).toNat=16 * (k + 1):=by omega
      have e5:0≤16 * (k:Int):=by omega
      have e6:16 * ((k:Int) + 1)≤(sig.size:Int):=by omega
      go_wp2_with fail
      rw [hpk.out]
      refine (c2k.out _ (HK.out.below HBW.out hkp)).mono ?_
      rintro e w3 ⟨rfl,hb3⟩
      have HO3:=hidp (HO.out.kept hb3 (Nat.le_refl _))
      have HV3:=hidp (HV.out.kept hb3 (Nat.le_refl _))
      have HA3:=hidp (HA.out.below hb3 HA.out.lt)
      have HB3:=hidp (HBW.out.trans (hb3.mono hbs))
      have hs3:=HB3.out.size
      clear hb3 hcl2
      go_wp2_with (at_builtin;(refine wpList_appS rfl (.tmp 30) (.tmp 34) 174 9 rfl w.heap.size 5 i0 Tryz.underlying174 Tryz.underlying9 HI5.out HZ0.out HZ1.out HZ2.out _ (catL f k) rfl HO3.out T rfl ?_ ?_ ?_))
      · rw [hcl.out,HTS.out];omega
      · exact hs3
      · intro v' w4 ho4 hb4 hot4
        have HO4:=hidp (show Own w4 w.heap.size 5 v' (catL f (k + 1)) from by rw [hcs.out,← hTl.out];exact ho4)
        have HV4:=hidp (HV3.out.oth hot4 (by decide))
        have HA4:=hidp (show Arr w4 w.heap.size 58 (u8s z32) from hot4 _ _ _ _ HA3.out (by decide))
        have HB4:=hidp (HB3.out.trans hb4)
        clear ho4 hb4 hot4
        go_wp2_with fail
        exact ⟨⟨k + 1,by go_num,by omega,HO4.out,HV4.out,HA4.out,HB4.out⟩,by simp [intOf];omega⟩
    · obtain rfl:k=68:=by omega
      have hstr:=run_str_own (P:=Tryz.prog) (src:=174) (e:=5) (dst:=9) Tryz.underlying174 Tryz.underlying5 Tryz.underlying9 HO.out
      have happ:=hidp (show (⟨#[4]⟩:ByteArray)++mkS (catL f 68)=mkS (4 :: catL f 68) from mkS_append [4] _)
      obtain ⟨S,hS⟩:∃ S,mkS (catL f 68)=S:=⟨_,rfl⟩
      have hSs:S.size≤2000:=by rw [← hS,mkS_size,hcl.out];omega
      rw [hS] at happ hstr
      clear hS
      go_wp2_with fail
      rw [happ.out]
      clear hstr
      refine (c3.out _ (HK.out.below HBW.out hkp)).mono ?_
      rintro e w3 ⟨rfl,hb3⟩
      have HB3:=hidp (HBW.out.trans (hb3.mono hbs))
      have HA3:=hidp (HA.out.below hb3 HA.out.lt)
      clear hb3
      go_wp2_with (refine wpList_store_row rfl 58 (.tmp 4) (.tmp 40) rfl w.heap.size X rfl rfl 58 _ HA3.out HSX.out hlen.out hone.out ?_)
      have hfin:(w3.setRow w.heap.size X).heap[w.heap.size]?=some (.cells X 58 (0,0)):=setRow_heap _ _ _ _ _ _ HA3.out
      refine bodyPost_ret (results_row_tmp (P:=Tryz.prog) (p:=4) (u:=5) (ty:=58) Tryz.results152 _ _ w.heap.size 58 X (0,0) _ rfl hfin Tryz.underlying58 rfl HSX.out _ rfl) rfl ?_
      exact ⟨rfl,below_setRow HB3.out (Nat.le_refl _) _⟩
 · have hrv:=hidp (show recV text.data.toList sig.data.toList=z32∧recE sig.data.toList=2 from by
    unfold recV recE;simp [h88])
   have hne:((sig.size:Int) != 1088)=true:=by simp;omega
   rw [hrv.out.1,hrv.out.2]
   clear h88
   have hld:=hidp (show ∀ O,((w.alloc O).heap[w.heap.size]?=some O) from fun O=>heap_alloc_new w O)
   go_enter Tryz.func152,Tryz.ntmps152
   go_wp2_with (refine wpList_store_row rfl 58 (.tmp 4) (.tmp 13) rfl w.heap.size (u8s z32).toArray rfl rfl 58 _ (hld.out _) HI.out rfl (u8s_one z32) ?_)
   have hfin:=fun cur=>setRow_heap (w.alloc (.cells cur 58)) _ _ (u8s z32).toArray _ _ (hld.out (.cells cur 58))
   refine bodyPost_ret (results_row_tmp (P:=Tryz.prog) (p:=4) (u:=5) (ty:=58) Tryz.results152 _ _ w.heap.size 58 (u8s z32).toArray (0,0) _ rfl (hfin _) Tryz.underlying58 rfl HI.out _ rfl) rfl ?_
   exact ⟨rfl,below_setRow ((Below.refl _ w).alloc (Nat.le_refl _) _) (Nat.le_refl _) _⟩
end
end Go.Proofs.YtokakgjcegmabaaGreatDoor
