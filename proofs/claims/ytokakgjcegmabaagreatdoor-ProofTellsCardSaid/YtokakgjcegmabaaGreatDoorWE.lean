import Derived.Test.YtokakgjcegmabaaGreatDoorWD
import Derived.Lib.ConvBytes
import Derived.ArgAppend
import Derived.Deep.RegionHeld3
set_option linter.unusedVariables false
set_option linter.unusedSimpArgs false
set_option maxHeartbeats 64000000
set_option maxRecDepth 100000
namespace Go.Proofs.YtokakgjcegmabaaGreatDoor
section
open Go.RowKit
end
section
open Go.RowKit
def unL (l:List UInt8):List UInt8:=(List.range 32).map fun i=>UInt8.ofNat (16 * digH (l.getD (2 * i) 0) + digH (l.getD (2 * i + 1) 0))
def unP (l:List UInt8) (i:Nat):List UInt8:=(unL l).take i++List.replicate (32 - i) 0
theorem hash_size {l:List UInt8} (h:l.length=32):(Tryz.prog.info? 58).map (·.size)=some (u8s l).toArray.size:=by
 rw [show (Tryz.prog.info? 58).map (·.size)=some 32 from by kernel_rfl];simp [u8s_length,h]
theorem s_byte (s:ByteArray) (i:Nat) (h:i<s.size):s[i]'h=s.data.toList.getD i 0:=by
 rw [List.getD_eq_getElem?_getD,List.getElem?_eq_getElem (by simpa using h)];rfl
def UH (w:World) (l:List UInt8) (t14:Value) (wr:World):Prop :=
 ∃ i:Nat,t14=.int .i64 (i:Int)∧i≤32∧Arr wr (w.heap.size + 1) 58 (u8s (unP l i))∧Arr wr w.heap.size 58 (u8s z32)∧(∀ j,j<2 * i→digH (l.getD j 0)<16)∧Below w.heap.size w wr
end
section
open Go.RowKit
end
section
open Go.RowKit
theorem arr_drewN {w:World} {b t:Nat} {xs:List Value} (h:Arr w b t xs) (n:Nat):Arr (w.drewN n) b t xs :=
 Arr.grown h (row:=none) (grownBy_drewN ⟨rfl,rfl,rfl,Nat.le_refl _,fun _ _ _=>rfl⟩ n) (by simp)
end
section
open Go.RowKit
theorem AtB.below {w w':World} {a:Addr} {l:List UInt8} (h:AtB w a l) {B:Nat} (hb:Below B w w') (hB:a.block<B):AtB w' a l :=
 fun i hi=>(hb.cell (p:=⟨a.block,a.off + i,none⟩) hB).trans (h i hi)
set_option maxRecDepth 100000 in
theorem words_any (w:World) (bb off cap:Nat) (l:List UInt8) (hl:l.length=64) (hcap:64≤cap) (hb:AtB w ⟨bb,off,none⟩ l) (hbl:bb<w.heap.size) :
 Calls Tryz.prog 189 #[.slice (some ⟨bb,off,none⟩) 64 cap] w fun e w'=>e=.returned (.agg (u32s (sched l 64)).toArray)∧Below w.heap.size w w':=by
 have HBL:=hidp hb;clear hb
 have HL:=hidp hl;clear hl
 go_enter Tryz.func189,Tryz.ntmps189
 go_wp2
 go_loopw [4] (fun t12 wr=>∃ t:Nat,t12=.int .i64 t∧t≤16∧Arr wr (w.heap.size + 1) 247 (u32s (fill (sched l t)))∧Arr wr w.heap.size 247 (u32s (fill []))∧Below w.heap.size w wr) (fun t12 _=>16 - (intOf t12).toNat)
 case atStart =>
  refine ⟨0,rfl,by omega,?_,?_,((Below.refl _ w).alloc (Nat.le_refl _) _).alloc (by simp) _⟩
  · have h:=Arr.new (w.alloc (.cells (u32s (fill [])).toArray 247)) 247 (u32s (fill []))
    rw [heap_size_alloc] at h;rw [sched_zero];exact h
  · exact (Arr.new w 247 (u32s (fill []))).alloc _
 case round =>
  obtain ⟨t,rfl,ht,hA,hZ,hbw⟩:=hrel
  have hsl:=sched_len l t
  have HA:=hidp hA;have HZ:=hidp hZ;have HSL:=hidp hsl;clear hA hZ hsl
  have hlen:=hbw.size
  by_cases h16:t<16
  · have hd16:decide ((t:Int)<16)=true:=decide_eq_true (by omega)
    have hpw:=hidp (fill_snoc_zero (sched l t) (by rw [HSL.out];omega))
    go_wp2
    go_loopw [5] (fun t24 wr=>∃ j:Nat,t24=.int .i64 j∧j≤4∧Arr wr (w.heap.size + 1) 247 (u32s (fill (sched l t++[partW l t j])))∧Arr wr w.heap.size 247 (u32s (fill []))∧Below w.heap.size w wr) (fun t24 _=>4 - (intOf t24).toNat)
    case atStart=>exact ⟨0,rfl,by omega,by rw [partW,hpw.out];exact HA.out,HZ.out,hbw⟩
    case round =>
     obtain ⟨j,rfl,hj,hA,hZ,hbw2⟩:=hrel
     have hlen2:=hbw2.size
     have HA2:=hidp hA;have HZ2:=hidp hZ;clear hA hZ
     by_cases h4:j<4
     · have hcb:=(HBL.out.below hbw2 hbl) (4 * t + j) (by rw [HL.out];omega)
       have hlenA:t<(u32s (fill (sched l t++[partW l t j]))).length:=by rw [u32s_length,fill_len _ (by simp [HSL.out];omega)];omega
       have hcw:=(HA2.out.cell t hlenA).trans (congrArg some (u32s_get _ t hlenA))
       have hlast:=fill_last (sched l t) (partW l t j)
       rw [HSL.out] at hlast
       rw [hlast] at hcw
       clear hlast
       have hfz:=HA2.out.frozen t
       have hpl:partW l t j<16777216:=by
        have h1:=partW_lt l t j
        have h2:(256:Nat) ^ j≤256 ^ 3:=Nat.pow_le_pow_right (by omega) (by omega)
        have h3:(256:Nat) ^ 3=16777216:=by decide
        omega
       have hb256:=(l.getD (4 * t + j) 0).toNat_lt
       have hst:=hidp (HA2.out.set t (.int .u32 ((partW l t (j + 1):Nat):Int)))
       rw [u32s_set] at hst
       have hset:=fill_set_last (sched l t) (partW l t j) (partW l t (j + 1)) (by rw [HSL.out];omega)
       rw [HSL.out] at hset
       have hst:=hidp (hset ▸ hst.out)
       clear hset
       have hstep:=hidp (show partW l t (j + 1)=partW l t j * 256 + (l.getD (4 * t + j) 0).toNat from rfl)
       obtain ⟨pj,hpj⟩:∃ p,partW l t j=p:=⟨_,rfl⟩
       obtain ⟨bn,hbn⟩:∃ b,(l.getD (4 * t + j) 0).toNat=b:=⟨_,rfl⟩
       rw [hpj] at hcw hpl hstep
       rw [hbn] at hcb hb256 hstep
       clear hpj hbn
       have i1:(0:Int)≤4 * (t:Int) + (j:Int):=by omega
       have i2:4 * (t:Int) + (j:Int)<64:=by omega
       have i3:(4 * (t:Int) + (j:Int)).toNat=4 * t + j:=by omega
       have i4:(0:Int)≤(t:Int):=by omega
       have i5:(t:Int)<64:=by omega
       go_wp2_with fail
       go_region
       go_wp2
       rw [show ((pj:Int) * 256 + (bn:Int))=((partW l t (j + 1):Nat):Int) from by rw [hstep.out];omega]
       go_roundw
       case rel=>exact ⟨j + 1,by go_num,by omega,hst.out,HZ2.out.other ⟨w.heap.size + 1,t,none⟩ (by simp) _,(below_drewN hbw2 _).setCell (p:=⟨w.heap.size + 1,t,none⟩) (by simp) _⟩
       case measure=>simp [intOf];omega
     · obtain rfl:j=4:=by omega
       have hfin:=HA2.out
       rw [partW_four] at hfin
       have hsch:sched l (t + 1)=sched l t++[firstW l t]:=sched_first l t h16
       have hfin:=hidp (hsch ▸ hfin)
       clear hsch
       go_wp2
       refine ⟨⟨t + 1,by go_num,by omega,hfin.out,HZ2.out,hbw2⟩,by simp [intOf];omega⟩
  · have HA16:=hidp (show Arr wr (w.heap.size + 1) 247 (u32s (fill (sched l 16))) from by have h:=HA.out;rw [show t=16 from by omega] at h;exact h)
    go_wp2
    go_loopw [6] (fun t7 wr=>∃ t:Nat,t7=.int .i64 t∧16≤t∧t≤64∧Arr wr (w.heap.size + 1) 247 (u32s (fill (sched l t)))∧Arr wr w.heap.size 247 (u32s (fill []))∧Below w.heap.size w wr) (fun t7 _=>64 - (intOf t7).toNat)
    case atStart=>exact ⟨16,rfl,by omega,by omega,HA16.out,HZ.out,hbw⟩
    case round =>
     obtain ⟨t,rfl,h16,h64,hA,hZ,hbw2⟩:=hrel
     have hlen2:=hbw2.size
     have hsl2:=hidp (sched_len l t)
     have HA2:=hidp hA;have HZ2:=hidp hZ;clear hA hZ HSL
     by_cases hlt:t<64
     · have cellf:Hid (∀ i,i<t→wr.cell? ⟨w.heap.size + 1,i,none⟩=some (.int .u32 (((sched l t).getD i 0:Nat):Int))):=hidp fun i hi=>by
        have hlenA:i<(u32s (fill (sched l t))).length:=by rw [u32s_length,fill_len _ (by rw [hsl2.out];omega)];omega
        rw [HA2.out.cell i hlenA,u32s_get,fill_getD _ _ (by rw [hsl2.out];omega)]
       have c15:=cellf.out (t - 15) (by omega)
       have c2:=cellf.out (t - 2) (by omega)
       have c16:=cellf.out (t - 16) (by omega)
       have c7:=cellf.out (t - 7) (by omega)
       have hold:∃ v,wr.cell? ⟨w.heap.size + 1,t,none⟩=some v:=⟨_,HA2.out.cell t (by rw [u32s_length,fill_len _ (by rw [hsl2.out];omega)];omega)⟩
       obtain ⟨vold,hold⟩:=hold
       have hfz:=HA2.out.frozen t
       have b15:=sched_getD_lt l t (t - 15)
       have b2:=sched_getD_lt l t (t - 2)
       have b16:=sched_getD_lt l t (t - 16)
       have b7:=sched_getD_lt l t (t - 7)
       have hnext:=hidp (show sched l (t + 1)=sched l t++[nextW (sched l t) t] from sched_next l t (by omega))
       have hnw:=hidp (show nextW (sched l t) t=add32 (add32 (add32 ((sched l t).getD (t - 16) 0) (sg0 ((sched l t).getD (t - 15) 0))) ((sched l t).getD (t - 7) 0)) (sg1 ((sched l t).getD (t - 2) 0)) from nextW_eq _ _)
       have hst:=hidp (HA2.out.set t (.int .u32 ((nextW (sched l t) t:Nat):Int)))
       obtain ⟨x,hx⟩:∃ x,(sched l t).getD (t - 15) 0=x:=⟨_,rfl⟩
       obtain ⟨y,hy⟩:∃ y,(sched l t).getD (t - 2) 0=y:=⟨_,rfl⟩
       obtain ⟨p,hp⟩:∃ p,(sched l t).getD (t - 16) 0=p:=⟨_,rfl⟩
       obtain ⟨q,hq⟩:∃ q,(sched l t).getD (t - 7) 0=q:=⟨_,rfl⟩
       rw [hx] at c15 b15
       rw [hy] at c2 b2
       rw [hp] at c16 b16
       rw [hq] at c7 b7
       have hnw:=hidp (show nextW (sched l t) t=add32 (add32 (add32 p (sg0 x)) q) (sg1 y) from by rw [← hx,← hy,← hp,← hq];exact hnw.out)
       clear hx hy hp hq
       have i15:((t:Int) - 15).toNat=t - 15:=by omega
       have i2:((t:Int) - 2).toNat=t - 2:=by omega
       have i16:((t:Int) - 16).toNat=t - 16:=by omega
       have i7:((t:Int) - 7).toNat=t - 7:=by omega
       have k1:(0:Int)≤(t:Int) - 15:=by omega
       have k2:(t:Int) - 15<64:=by omega
       have k3:(0:Int)≤(t:Int) - 2:=by omega
       have k4:(t:Int) - 2<64:=by omega
       have hs0:=sg0_eq x b15
       have hs1:=sg1_eq y b2
       have n0:=sg0_lt x b15
       have n1:=sg1_lt y b2
       have m1:=mod_add32 p (sg0 x)
       have m2:=mod_add32 (add32 p (sg0 x)) q
       have m3:=mod_add32 (add32 (add32 p (sg0 x)) q) (sg1 y)
       have n2:=add32_lt p (sg0 x)
       have n3:=add32_lt (add32 p (sg0 x)) q
       go_wp2
       go_quiet (fail)
       go_wp2_with (first|(go_at_call 190;refine (turned_any _ _ (by assumption) (by unfold IsRot;omega) _).mono ?_;rintro e w9 ⟨rfl,nn,rfl⟩)|(go_at_call 207;refine (shifted_any _ _ (by assumption) (by omega) _).mono ?_;rintro e w9 ⟨rfl,rfl⟩))
       have hst2:=hst.out
       rw [u32s_set] at hst2
       have hsetl:=fill_set (sched l t) (nextW (sched l t) t) (by rw [hsl2.out];omega)
       rw [hsl2.out] at hsetl
       rw [hsetl,← hnext.out,hnw.out] at hst2
       have HST:=hidp hst2
       clear hst2 hsetl
       go_region
       go_wp2
       go_roundw
       case rel=>exact ⟨t + 1,by go_num,by omega,by omega,HST.out,(HZ2.out.other ⟨w.heap.size + 1,t,none⟩ (by simp) _),(below_drewN hbw2 _).setCell (p:=⟨w.heap.size + 1,t,none⟩) (by simp) _⟩
       case measure=>simp [intOf];omega
     · obtain rfl:t=64:=by omega
       have hfull:fill (sched l 64)=sched l 64:=by unfold fill;rw [sched_len];simp
       rw [hfull] at HA2
       have hi64:(Tryz.prog.info? 247).map (·.size)=some (u32s (sched l 64)).toArray.size:=by
        have h1:(Tryz.prog.info? 247).map (·.size)=some 64:=by kernel_rfl
        rw [h1];simp [u32s,sched_len]
       obtain ⟨xs,hxs⟩:∃ xs,(u32s (sched l 64)).toArray=xs:=⟨_,rfl⟩
       have hg1:=HA2.out
       have hg2:=HZ2.out
       unfold Arr at hg1 hg2
       rw [hxs] at hg1 hi64
       have HXS:=hidp hxs
       have hlenx:=hidp (show (u32s (fill [])).toArray.size=xs.size from by rw [← hxs];simp [u32s,sched_len,fill])
       have hone:=hidp (show xs.all (·.oneCell')=true from by rw [← hxs];simp [u32s,Value.oneCell'])
       clear hxs
       have H1:=hidp hg1;have H2:=hidp hg2;have HI:=hidp hi64
       clear hg1 hg2 hi64
       go_wp2_with (first
        | (refine wpList_load_row rfl 247 (.tmp 3) rfl (w.heap.size + 1) rfl 247 xs (0,0) _ H1.out Tryz.underlying247 rfl HI.out ?_)
        | (refine wpList_store_row rfl 247 (.tmp 2) (.tmp 77) rfl w.heap.size xs rfl rfl 247 _ H2.out HI.out hlenx.out hone.out ?_))
       have hfin:(wr.setRow w.heap.size xs).heap[w.heap.size]?=some (.cells xs 247 (0,0)):=setRow_heap _ _ _ _ _ _ H2.out
       refine bodyPost_ret (results_cell_row (P:=Tryz.prog) (p:=2) (ty:=247) Tryz.results189 _ _ w.heap.size 247 xs (0,0) _ rfl hfin Tryz.underlying247 rfl HI.out) rfl ?_
       exact ⟨by rw [HXS.out],below_setRow hbw2 (Nat.le_refl _) _⟩
end
section
open Go.RowKit
theorem wpList_built {P:Program} {ops:Array Oper} {rest:List Oper} {o:Oper} {a:Act} {w:World} {Q:Exit→Act→World→Prop} (hg:o.guard=none) (t:TypeId) (parts:Array (Nat × Operand)) (ho:o.op=.build t parts) (xs:Array Value)
 (hf:P.built t (parts.map fun (i,x)=>(i,a.eval x)).toList=some xs) (h:wpList P ops Q rest (a.put o.dst (.agg xs)) w):wpList P ops Q (o :: rest) a w :=
 wpList_build hg t parts ho (by rw [hf];rfl) (by rw [hf];exact h)
set_option maxRecDepth 100000 in
theorem constants_any (w:World):Calls Tryz.prog 188 #[] w fun e w'=>e=.returned (.agg (u32s kk).toArray)∧Below w.heap.size w w':=by
 obtain ⟨xs,hxs⟩:∃ xs,xs=(u32s kk).toArray:=⟨_,rfl⟩
 have hlen:=hidp (show xs.size=64 from by rw [hxs];kernel_rfl)
 have hone:=hidp (show xs.all (·.oneCell')=true from by rw [hxs];simp [u32s,Value.oneCell'])
 have HI:=hidp (show (Tryz.prog.info? 247).map (·.size)=some xs.size from by rw [hlen.out];kernel_rfl)
 rw [← hxs]
 have HXS:=hidp hxs
 clear hxs
 go_enter Tryz.func188,Tryz.ntmps188
 go_wp2_with (first|(refine wpList_built rfl _ _ rfl xs (by rw [HXS.out];kernel_rfl) ?_)|(refine wpList_store_row rfl 247 (.tmp 0) (.tmp 1) rfl w.heap.size xs rfl rfl 247 _ (heap_alloc_new w _) HI.out (by rw [hlen.out];rfl) hone.out ?_))
 have hfin:∀ cur,((w.alloc (.cells cur 247)).setRow w.heap.size xs).heap[w.heap.size]?=some (.cells xs 247 (0,0)):=fun cur=>setRow_heap _ _ _ _ _ _ (heap_alloc_new w _)
 refine bodyPost_ret (results_cell_row (P:=Tryz.prog) (p:=0) (ty:=247) Tryz.results188 _ _ w.heap.size 247 xs (0,0) _ rfl (hfin _) Tryz.underlying247 rfl HI.out) rfl ?_
 exact ⟨rfl,below_setRow ((Below.refl _ w).alloc (Nat.le_refl _) _) (Nat.le_refl _) _⟩
end
section
open Go.RowKit
def OwnB (w:World) (B e:Nat) (v:Value) (l:List UInt8):Prop :=
 ∃ g cap cur fz,v=.slice (some ⟨g,0,none⟩) l.length cap∧B≤g∧w.heap[g]?=some (.cells cur e fz)∧(fz=(0,0)∨cap≤fz.1)∧l.length≤cap∧cap≤maxLen∧cur.size=cap∧cur.toList.take l.length=bv l
theorem OwnB.alloc {w:World} {B e:Nat} {v:Value} {l:List UInt8} (h:OwnB w B e v l) (o:Obj):OwnB (w.alloc o) B e v l:=by
 obtain ⟨g,cap,cur,fz,rfl,hB,hg,rest⟩:=h
 exact ⟨g,cap,cur,fz,rfl,hB,(Below.heap_alloc w o g (Array.getElem?_eq_some_iff.1 hg).1).trans hg,rest⟩
theorem OwnB.of_row {w:World} {B B' e n:Nat} {v:Value} {l:List UInt8} (h:w.ownsRow B' e 1 v n (bv l)) (hn:n=l.length) (h0:0<n) (hB:B≤B'):OwnB w B e v l:=by
 subst hn
 rcases h.2 with ⟨_,hz⟩ | ⟨g,cap,cur,rfl,hb,hg,h1,h2,h3,h4⟩
 · omega
 · exact ⟨g,cap,cur,(0,0),rfl,by omega,hg,.inl rfl,h1,h2,by simpa using h3,by simpa using h4⟩
theorem OwnB.at {w:World} {B e:Nat} {v:Value} {l:List UInt8} (h:OwnB w B e v l):∃ g cap,v=.slice (some ⟨g,0,none⟩) l.length cap∧l.length≤cap∧g<w.heap.size∧B≤g∧AtB w ⟨g,0,none⟩ l:=by
 obtain ⟨g,cap,cur,fz,rfl,hB,hg,_,hlc,_,hs,ht⟩:=h
 refine ⟨g,cap,rfl,hlc,(Array.getElem?_eq_some_iff.1 hg).1,hB,fun i hi=>?_⟩
 have e:w.cell? ⟨g,0 + i,none⟩=cur[i]?:=by rw [Nat.zero_add];exact cell_of_row w g i cur e fz hg
 show w.cell? ⟨g,0 + i,none⟩=_
 rw [e,← Array.getElem?_toList]
 have:=congrArg (fun x=>x[i]?) ht
 simp only [List.getElem?_take,hi,if_true] at this
 rw [this]
 simp [bv,hi,List.getD_eq_getElem?_getD]
theorem wpList_appB {P:Program} {w:World} {ops:Array Oper} {rest:List Oper} {o:Oper} {a:Act} {Q:Exit→Act→World→Prop} (hgd:o.guard=none) (s x:Operand) (t:TypeId)
 (ho:o.op=.call { callee:=.builtin .append,args:=#[s,x],argTypes:=#[t,t] }) (B e:Nat) (i:TypeInfo) (ht:P.underlying t=some (.slice e)) (hi:P.info? e=some i)
 (hz0:i.zero=some (.int .u8 0)) (hz1:i.size=1) (hz2:i.bytes=1) (v:Value) (l:List UInt8) (hs:a.eval s=v) (hown:OwnB w B e v l) (ad:Addr) (c:Nat) (z:Int) (b:UInt8)
 (hx:a.eval x=.slice (some ad) 1 c) (hc:w.cell? ad=some (.int .u8 z)) (hz:z=b.toNat) (hlen:l.length + 1≤140737488351232) (hB:B≤w.heap.size)
 (h:∀ v' w',OwnB w' B e v' (l++[b])→Below B w w'→wpList P ops Q rest (a.put o.dst v') w'):wpList P ops Q (o :: rest) a w:=by
 subst hz
 obtain ⟨g,cap,cur,fz,rfl,hBg,hg,hfz,hlc,hcm,hcs,htk⟩:=hown
 have hcell:∀ j,w.cell? ⟨g,j,none⟩=cur[j]?:=fun j=>cell_of_row w g j cur e fz hg
 have hgl:=(Array.getElem?_eq_some_iff.1 hg).1
 refine wpList_append_arg w hgd s x t ho e i (.int .u8 0) 1 1 ht hi hz0 hz1 hz2 rfl (by decide) g 0 l.length cap (bv l) hs (by simp [bv]) ?_ ad 1 c [.int .u8 b.toNat] hx rfl ?_ ?_ ?_ (by unfold maxLen;omega) (by omega) ?_ ?_
 · intro j u hj
   rw [Nat.zero_add,hcell,← Array.getElem?_toList]
   rw [← htk,List.getElem?_take] at hj
   split at hj
   · exact hj
   · cases hj
 · intro j u hj
   match j,hj with
   | 0,hj=>simp at hj;subst hj;simpa [Addr.add] using hc
 · intro u hu;simp at hu;subst hu;rfl
 · intro hr j hj
   obtain rfl:j=0:=by simpa using hj
   simp only [Nat.zero_add,Nat.mul_one,Nat.add_zero]
   refine ⟨?_,?_⟩
   · rw [hcell,Array.getElem?_eq_getElem (by omega)];rfl
   · unfold World.frozen?
     simp only [hg]
     rcases hfz with rfl | hf
     · simp
     · simp;intro;omega
 · intro hr
   refine h _ _ ?_ ?_
   · simp only [World.setCells,Nat.zero_add,Nat.mul_one]
     rw [setCell_eq_setRow w g l.length cur e fz _ hg]
     refine ⟨g,cap,_,fz,by simp,hBg,setRow_heap w g cur _ e fz hg,hfz,by simp;omega,hcm,by simp [hcs],?_⟩
     rw [bv_append,bv_one,List.length_append]
     simp only [Array.toList_setIfInBounds,List.length_cons,List.length_nil,Nat.zero_add]
     rw [List.take_set,← htk,List.take_add_one]
     have hl:l.length<cur.toList.length:=by simp;omega
     rw [List.getElem?_eq_getElem hl]
     simp only [Option.toList]
     rw [List.set_append_right _ _ (by simp;omega)]
     simp [List.length_take,Nat.min_eq_left (Nat.le_of_lt hl)]
     rw [show l.length - min l.length cur.size=0 from by omega]
     rfl
   · simp only [World.setCells]
     exact (Below.refl B w).setCell (by simpa using hBg) _
 · intro hr v' w' h1 h2
   refine h v' w' (OwnB.of_row (l:=l++[b]) (n:=l.length + 1) (by rw [bv_append,bv_one];exact h1) (by simp) (by omega) hB) ?_
   exact (Below.refl B w).grown h2 hB (fun k hk=>by cases hk)
def padn (n:Nat):Nat:=(119 - n % 64) % 64
def fillL (l:List UInt8):List UInt8:=l++128 :: (List.replicate (padn l.length) 0++len8 l.length)
theorem bytesB (w:World) (s:ByteArray) (hs:s.size≤281474976710656):OwnB (Lib.bytesWorld w 5 s) w.heap.size 5 (.slice (some ⟨w.heap.size,0,none⟩) s.size (grownCap w s.size 0 5)) s.data.toList:=by
 have hge:=grownCap_ge w s.size 0 5
 refine ⟨w.heap.size,_,_,_,by simp,Nat.le_refl _,Lib.bytesWorld_at_new w 5 s,.inr ?_,by simpa using hge,grownCap_le_maxLen w s.size 0 5 (by unfold maxLen;omega),?_,?_⟩
 · simp [Lib.bytesCells];omega
 · simp [Lib.bytesCells];first | done | omega
 · simp [Lib.bytesCells,bv]
theorem rep_snoc (n:Nat):List.replicate n (0:UInt8)++[0]=List.replicate (n + 1) 0:=by rw [List.replicate_succ']
def sliceLen:Value→Nat
 | .slice _ n _=>n
 | _=>0
set_option maxRecDepth 100000 in
theorem filled_any (w:World) (s:ByteArray) (hs:s.size≤281474976710656 / 4) :
 Calls Tryz.prog 187 #[.string s] w fun e w'=>∃ v,e=.returned v∧OwnB w' w.heap.size 5 v (fillL s.data.toList)∧Below w.heap.size w w':=by
 obtain ⟨i0,hi,hz0,hz1,hz2⟩:=info_parts info5
 obtain ⟨l,hl⟩:∃ l,s.data.toList=l:=⟨_,rfl⟩
 have hll:=hidp (show l.length=s.size from by rw [← hl];simp)
 have HI:=hidp hi;have HZ0:=hidp hz0;have HZ1:=hidp hz1;have HZ2:=hidp hz2
 clear hi hz0 hz1 hz2
 have hcv:=Lib.run_convert_string_bytes (P:=Tryz.prog) w 9 174 5 s Tryz.underlying9 Tryz.underlying174 Tryz.underlying5
 have HO1:=hidp (bytesB w s (by omega))
 have HB1:=hidp (bytes_below w s)
 obtain ⟨cap,hcap⟩:∃ c,grownCap w s.size 0 5=c:=⟨_,rfl⟩
 obtain ⟨W1,hW1⟩:∃ W,Lib.bytesWorld w 5 s=W:=⟨_,rfl⟩
 rw [hl,hcap,hW1] at HO1
 rw [hW1] at HB1
 rw [hcap,hW1] at hcv
 rw [hl]
 have HL:=hidp hl
 clear hcap hW1 hl
 have hbs1:=HB1.out.size
 go_enter Tryz.func187,Tryz.ntmps187
 go_wp2_with ((refine wpList_appB rfl (.tmp 7) (.tmp 8) 174 rfl w.heap.size 5 i0 Tryz.underlying174 HI.out HZ0.out HZ1.out HZ2.out _ l rfl (HO1.out.alloc _) _ 1 128 128 rfl (cell_new1 W1 _ _) rfl ?_ ?_ ?_))
 · have:=hll.out;first | omega|(simp;omega)
 · first | omega|(simp;omega)
 · intro v' w' h1 h2
   have HO2:=hidp h1
   have HB2:=hidp (HB1.out.trans (((Below.refl w.heap.size W1).alloc hbs1 _).trans h2))
   clear h1 h2 hcv HO1
   go_wp2_with fail
   go_loopw [3] (fun t3 wr=>∃ (v:Value) (k:Nat),t3=v∧OwnB wr w.heap.size 5 v (l++128 :: List.replicate k 0)∧k≤padn l.length∧Below w.heap.size w wr) (fun t3 _=>padn l.length + (l.length + 1) - sliceLen t3)
   case atStart=>exact ⟨v',0,rfl,HO2.out,by omega,HB2.out⟩
   case round =>
    obtain ⟨v,k,rfl,hO,hk,hbw⟩:=hrel
    have hbsr:=hbw.size
    obtain ⟨g,cp,hv,hle,hgl,hBg,hat⟩:=hO.at
    have hlen:(l++128 :: List.replicate k (0:UInt8)).length=s.size + 1 + k:=by simp [hll.out];omega
    have hpad:padn l.length≤63:=by unfold padn;omega
    rw [hlen] at hv
    have HO:=hidp hO;have HBW:=hidp hbw;have HV:=hidp hv
    clear hO hbw hat hle
    by_cases hlt:k<padn l.length
    · have hc:(((s.size:Int) + 1 + k) % 64 != 56)=true:=by
       unfold padn at hlt;rw [hll.out] at hlt;rw [bne_iff_ne];omega
      have hc':((((s.size + 1 + k:Nat):Int)) % 64 != 56)=true:=by push_cast;exact hc
      clear hlen
      subst hv
      go_wp2_with ((refine wpList_appB rfl (.tmp 14) (.tmp 15) 174 rfl w.heap.size 5 i0 Tryz.underlying174 HI.out HZ0.out HZ1.out HZ2.out _ (l++128 :: List.replicate k 0) rfl (HO.out.alloc _) _ 1 0 0 rfl (cell_new1 wr _ _) rfl ?_ ?_ ?_))
      · have:=hll.out;first | omega|(simp;omega)
      · first | omega|(simp;omega)
      · intro v2 w2 h1 h2
        have HO2:=hidp (show OwnB w2 w.heap.size 5 v2 (l++128 :: List.replicate (k + 1) 0) from by rw [← rep_snoc];simpa using h1)
        have HB2:=hidp (HBW.out.trans (((Below.refl w.heap.size wr).alloc hbsr _).trans h2))
        obtain ⟨g2,cp2,hv2,_⟩:=HO2.out.at
        have hlen2:(l++128 :: List.replicate (k + 1) (0:UInt8)).length=s.size + 1 + (k + 1):=by simp [hll.out];omega
        have hm:=hidp (show sliceLen v2=s.size + 1 + (k + 1) from by rw [hv2,hlen2];rfl)
        clear h1 h2 hv2 hlen2
        go_wp2_with fail
        refine ⟨⟨v2,k + 1,rfl,HO2.out,by omega,HB2.out⟩,?_⟩
        have:=hll.out
        rw [hm.out]
        simp only [sliceLen]
        omega
    · obtain rfl:k=padn l.length:=by omega
      have hc:(((s.size:Int) + 1 + (padn l.length:Nat)) % 64 != 56)=false:=by
       rw [bne_eq_false_iff_eq];unfold padn;rw [hll.out];omega
      have hc':((((s.size + 1 + padn l.length:Nat):Int)) % 64 != 56)=false:=by push_cast;exact hc
      clear hlen
      obtain ⟨p,hp⟩:∃ p,padn l.length=p:=⟨_,rfl⟩
      rw [hp] at HO hv hpad hc hc'
      have HP:=hidp hp
      clear hp hlt hk
      subst hv
      go_wp2_with fail
      go_loopw [3,5] (fun t3 t5 wq=>∃ (v:Value) (j:Nat),t3=v∧t5=.int .i64 (56 - 8 * (j:Int))∧j≤8∧OwnB wq w.heap.size 5 v (l++128 :: (List.replicate p 0++(len8 l.length).take j))∧Below w.heap.size w wq) (fun _ t5 _=>(intOf t5 + 8).toNat)
      case atStart=>exact ⟨_,0,rfl,rfl,by omega,by simpa using HO.out,HBW.out⟩
      case round =>
       obtain ⟨v,j,rfl,rfl,hj,hO,hbw⟩:=hrel
       have hbsq:=hbw.size
       have HO4:=hidp hO;have HBW4:=hidp hbw
       clear hO hbw
       by_cases hj8:j<8
       · obtain ⟨c,hc⟩:∃ c,(len8 l.length)[j]?=some c:=⟨_,List.getElem?_eq_getElem (by rw [len8_len];exact hj8)⟩
         have hcv:((s.size:Int) * 8 / 2 ^ (56 - 8 * j) % 256)=(c.toNat:Int):=by
          have h:=len8_get l.length j hj8
          rw [List.getD_eq_getElem?_getD,hc] at h
          simp only [Option.getD_some] at h
          rw [h,hll.out,show 8 * (7 - j)=56 - 8 * j from by omega]
          simp
         have hto:(56 - 8 * (j:Int)).toNat=56 - 8 * j:=by omega
         have hge:0≤56 - 8 * (j:Int):=by omega
         have hlt64:56 - 8 * (j:Int)<64:=by omega
         have HC:=hidp hc
         have HCV:=hidp hcv
         clear hc hcv
         go_wp2_with ((refine wpList_appB rfl (.tmp 25) (.tmp 30) 174 rfl w.heap.size 5 i0 Tryz.underlying174 HI.out HZ0.out HZ1.out HZ2.out _ (l++128 :: (List.replicate p 0++(len8 l.length).take j)) rfl (HO4.out.alloc _) _ 1 _ c rfl (cell_new1 wr _ _) HCV.out ?_ ?_ ?_))
         · have:=hll.out;have:=len8_len l.length;simp;omega
         · first | omega|(simp;omega)
         · intro v2 w2 h1 h2
           have HO2:=hidp (show OwnB w2 w.heap.size 5 v2 (l++128 :: (List.replicate p 0++(len8 l.length).take (j + 1))) from by
            rw [List.take_add_one,HC.out];simpa using h1)
           have HB2:=hidp (HBW4.out.trans (((Below.refl w.heap.size wr).alloc hbsq _).trans h2))
           clear h1 h2
           go_wp2_with fail
           exact ⟨⟨v2,j + 1,rfl,by rw [show (56 - 8 * ((j + 1:Nat):Int))=56 - 8 * (j:Int) - 8 from by omega],by omega,HO2.out,HB2.out⟩,by simp [intOf];omega⟩
       · obtain rfl:j=8:=by omega
         have HF:=hidp (show l++128 :: (List.replicate p 0++(len8 l.length).take 8)=fillL l from by
          rw [List.take_of_length_le (by rw [len8_len];omega),← HP.out];rfl)
         go_wp2_with fail
         go_ret
         exact ⟨_,rfl,by rw [← HF.out];exact HO4.out,HBW4.out⟩
end
section
open Go.RowKit
theorem fillL_len (l:List UInt8):(fillL l).length=64 * (l.length / 64 + if 55<l.length % 64 then 2 else 1):=by
 unfold fillL padn
 simp only [List.length_append,List.length_cons,List.length_replicate,len8_len]
 split <;> omega
theorem blk_fill (l:List UInt8) (i:Nat) (h:i≤l.length / 64):blk (fillL l) i=blk l i:=by
 induction i with
 | zero=>rw [blk_zero,blk_zero]
 | succ i ih =>
   rw [blk_succ,blk_succ,ih (by omega)]
   congr 1
   unfold fillL
   rw [List.drop_append_of_le_length (by omega),List.take_append_of_le_length (by simp;omega)]
theorem sha_fill (l:List UInt8):blk (fillL l) ((fillL l).length / 64)=shaS l:=by
 have hl:=fillL_len l
 have hd:(l.drop (64 * (l.length / 64))).length=l.length % 64:=by simp;omega
 have hL8:=len8_len l.length
 have hfd:(fillL l).drop (64 * (l.length / 64))=l.drop (64 * (l.length / 64))++128 :: (List.replicate (padn l.length) 0++len8 l.length):=by
  unfold fillL;rw [List.drop_append_of_le_length (by omega)]
 by_cases h:55<l.length % 64
 · rw [shaS_long l (by rw [hd];exact h),hl,if_pos h,Nat.mul_div_cancel_left _ (by omega)]
   show blk _ (l.length / 64 + 1 + 1)=_
   rw [blk_succ,blk_succ,blk_fill l _ (Nat.le_refl _)]
   have hp:padn l.length=(63 - l.length % 64) + 56:=by unfold padn;omega
   congr 1
   · congr 1
     rw [hfd]
     unfold ended
     rw [hd]
     generalize l.drop (64 * (l.length / 64))=r at hd ⊢
     rw [hp,← List.replicate_append_replicate]
     rw [show r++128 :: (List.replicate (63 - l.length % 64) 0++List.replicate 56 0++len8 l.length)=(r++128 :: List.replicate (63 - l.length % 64) 0)++(List.replicate 56 0++len8 l.length) from by simp]
     rw [List.take_append_of_le_length (by simp;omega),List.take_of_length_le (by simp;omega)]
   · rw [show 64 * (l.length / 64 + 1)=64 * (l.length / 64) + 64 from by omega,← List.drop_drop,hfd]
     generalize l.drop (64 * (l.length / 64))=r at hd ⊢
     rw [hp,← List.replicate_append_replicate]
     rw [show r++128 :: (List.replicate (63 - l.length % 64) 0++List.replicate 56 0++len8 l.length)=(r++128 :: List.replicate (63 - l.length % 64) 0)++(List.replicate 56 0++len8 l.length) from by simp]
     rw [List.drop_append_of_le_length (by simp;omega),List.drop_eq_nil_of_le (by simp;omega),List.nil_append,List.take_of_length_le (by simp [hL8])]
     unfold sized
     rfl
 · rw [shaS_short l (by rw [hd];exact h),hl,if_neg h,Nat.mul_div_cancel_left _ (by omega),blk_succ,blk_fill l _ (Nat.le_refl _)]
   have hp:padn l.length=55 - l.length % 64:=by unfold padn;omega
   congr 1
   rw [hfd]
   unfold ended sized
   rw [hd]
   generalize l.drop (64 * (l.length / 64))=r at hd ⊢
   rw [hp,List.take_of_length_le (by simp [hL8];omega)]
   rw [show 63 - l.length % 64=(55 - l.length % 64) + 8 from by omega,← List.replicate_append_replicate]
   rw [show r++128 :: (List.replicate (55 - l.length % 64) 0++List.replicate 8 0)=(r++128 :: List.replicate (55 - l.length % 64) 0)++List.replicate 8 0 from by simp]
   rw [List.take_append_of_le_length (by simp;omega),List.take_of_length_le (by simp;omega)]
   simp
theorem t2_eq (a b c d e f g h:Nat):(((bs0 a:Nat):Int) + ((maj a b c:Nat):Int)) % 4294967296=((t2f ⟨a,b,c,d,e,f,g,h⟩:Nat):Int):=by
 simp only [t2f,add32];omega
def RS (w:World) (g kb:Nat) (F:List UInt8) (v:S8) (wr:World):Prop :=
 Arr wr (w.heap.size + 1) 234 (u32s v.list)∧Arr wr kb 247 (u32s kk)∧Arr wr w.heap.size 58 (u8s z32)∧AtB wr ⟨g,0,none⟩ F∧g<wr.heap.size∧w.heap.size + 1<g∧w.heap.size + 1<kb∧Below w.heap.size w wr
theorem RS.below {w:World} {g kb:Nat} {F:List UInt8} {v:S8} {wr wr':World} (h:RS w g kb F v wr) (hb:Below wr.heap.size wr wr'):RS w g kb F v wr':=by
 obtain ⟨h1,h2,h3,h4,h5,h6,h7,h8⟩:=h
 exact ⟨h1.below hb h1.lt,h2.below hb h2.lt,h3.below hb h3.lt,h4.below hb h5,Nat.lt_of_lt_of_le h5 hb.size,h6,h7,h8.trans (hb.mono h8.size)⟩
theorem RS.drewN {w:World} {g kb:Nat} {F:List UInt8} {v:S8} {wr:World} (h:RS w g kb F v wr) (n:Nat):RS w g kb F v (wr.drewN n):=h.below (below_drewN (Below.refl _ _) n)
theorem RS.row {w:World} {g kb:Nat} {F:List UInt8} {v:S8} {wr:World} (h:RS w g kb F v wr) {x t:Nat} {xs:List Value} (hx:Arr wr x t xs) (h0:x≠w.heap.size) (h1:x≠w.heap.size + 1) (h2:x≠kb) (h3:x≠g) (hw:w.heap.size≤x) (ys:Array Value):RS w g kb F v (wr.setRow x ys):=by
 obtain ⟨a1,a2,a3,a4,a5,a6,a7,a8⟩:=h
 refine ⟨a1.row_other x (Ne.symm h1) ys,a2.row_other x (Ne.symm h2) ys,a3.row_other x (Ne.symm h0) ys,fun i hi=>?_,by simpa using a5,a6,a7,below_setRow a8 hw ys⟩
 rw [← a4 i hi]
 exact World.cell?_of_block (setRow_other wr x g ys (Ne.symm h3))
theorem stp_row (a b c d e f g h k w:Nat):#[Value.int .u32 ((((t1f ⟨a,b,c,d,e,f,g,h⟩ k w:Nat):Int) + ((t2f ⟨a,b,c,d,e,f,g,h⟩:Nat):Int)) % 4294967296),.int .u32 (a:Int),.int .u32 (b:Int),.int .u32 (c:Int),
 .int .u32 (((d:Int) + ((t1f ⟨a,b,c,d,e,f,g,h⟩ k w:Nat):Int)) % 4294967296),.int .u32 (e:Int),.int .u32 (f:Int),.int .u32 (g:Int)]=(u32s (stp ⟨a,b,c,d,e,f,g,h⟩ k w).list).toArray:=by
 rw [mod_add32,mod_add32];rfl
end
section
open Go.RowKit
theorem wpList_slice_from {P:Program} {ops:Array Oper} {rest:List Oper} {o:Oper} {a:Act} {w:World} {Q:Exit→Act→World→Prop} (hgd:o.guard=none) (t:TypeId) (x y:Operand)
 (ho:o.op=.slice t x (some y) none none) (hu:P.underlying t=some (.slice (P.elem t))) (i:TypeInfo) (hi:P.info? (P.elem t)=some i) (hz1:i.size=1) (g off n c k:Nat)
 (hx:a.eval x=.slice (some ⟨g,off,none⟩) n c) (hy:a.eval y=.int .i64 (k:Int)) (hk:k≤n) (hnc:n≤c)
 (h:∀ off':Nat,(k<n→off'=off + k)→wpList P ops Q rest (a.put o.dst (.slice (some ⟨g,off',none⟩) (n - k) (c - k))) w):wpList P ops Q (o :: rest) a w:=by
 refine wpList_plain hgd fun K hK=>?_
 have hsz:(sizeOf (P.elem t)).run P w=.ok 1 w:=by simp [sizeOf,typeInfo,hi,hz1]
 have hr:=run_slice_l (P:=P) (w:=w) t (some ⟨g,off,none⟩) n c hu .i64 (k:Int) (by omega) (by omega)
 rw [hsz] at hr
 simp only [Result.andThen,sliced,Int.toNat_natCast,Nat.mul_one] at hr
 by_cases hc:c=k
 · rw [if_pos hc] at hr
   have:=hK _ _ (h off (fun hlt=>by omega))
   unfold Oper.wp execOp
   simp [ho,hx,hy,run_sliceAt_slice (P:=P) (w:=w) t _ _ _ _ hu,hr,Result.andThen]
   exact this
 · rw [if_neg hc] at hr
   have:=hK _ _ (h (off + k) (fun _=>rfl))
   unfold Oper.wp execOp
   have e:(⟨g,off,none⟩:Addr).add k=⟨g,off + k,none⟩:=by unfold Addr.add;split <;> simp_all
   simp [ho,hx,hy,run_sliceAt_slice (P:=P) (w:=w) t _ _ _ _ hu,hr,Result.andThen,e]
   exact this
end
section
open Go.RowKit
def RT (w:World) (g kb:Nat) (F:List UInt8) (vs:List Nat) (wr:World):Prop :=
 Arr wr (w.heap.size + 1) 234 (u32s vs)∧Arr wr kb 247 (u32s kk)∧Arr wr w.heap.size 58 (u8s z32)∧AtB wr ⟨g,0,none⟩ F∧g<wr.heap.size∧w.heap.size + 1<g∧w.heap.size + 1<kb∧Below w.heap.size w wr
theorem RT.set {w:World} {g kb:Nat} {F:List UInt8} {vs:List Nat} {wr:World} (h:RT w g kb F vs wr) (k n:Nat):RT w g kb F (vs.set k n) (wr.setCell ⟨w.heap.size + 1,k,none⟩ (.int .u32 (n:Int))):=by
 obtain ⟨a1,a2,a3,a4,a5,a6,a7,a8⟩:=h
 refine ⟨by rw [← u32s_set];exact a1.set k _,a2.other _ (by simp;omega) _,a3.other _ (by simp) _,fun i hi=>?_,by simpa using a5,a6,a7,a8.setCell (by simp) _⟩
 rw [← a4 i hi]
 exact World.cell?_of_block (Below.heap_setCell wr _ _ g (by simp;omega))
theorem RT.drewN {w:World} {g kb:Nat} {F:List UInt8} {vs:List Nat} {wr:World} (h:RT w g kb F vs wr) (n:Nat):RT w g kb F vs (wr.drewN n):=by
 obtain ⟨a1,a2,a3,a4,a5,a6,a7,a8⟩:=h
 exact ⟨arr_drewN a1 n,arr_drewN a2 n,arr_drewN a3 n,a4.below (below_drewN (Below.refl _ _) n) a5,by simpa using a5,a6,a7,below_drewN a8 n⟩
theorem t1_eq2 (e f g h k w:Nat) (a b c d:Nat):(((h:Int) + ((bs1 e:Nat):Int) + ((chf e f g:Nat):Int) + (k:Int)) % 4294967296 + (w:Int)) % 4294967296=((t1f ⟨a,b,c,d,e,f,g,h⟩ k w:Nat):Int):=by
 simp only [t1f,add32];omega
theorem turned_q (x:Nat) (N:Int) (hx:x<4294967296) (hN:IsRot N) (w:World):Calls Tryz.prog 190 #[.int .u32 x,.int .i64 N] w fun e w'=>e=.returned (.int .u32 (rotr N.toNat x:Nat))∧∃ n,w'=w.drewN n:=turned_any x N hx hN w
set_option maxRecDepth 100000 in
theorem rsum_any (w:World) (s:ByteArray) (hs:s.size≤281474976710656 / 4) :
 Calls Tryz.prog 165 #[.string s] w fun e w'=>e=.returned (.agg (u8s (shaL s.data.toList)).toArray)∧Below w.heap.size w w':=by
 obtain ⟨i0,hi5,hz0,hz1,hz2⟩:=info_parts info5
 have HI5:=hidp hi5;have HZ1:=hidp hz1
 clear hi5 hz0 hz1 hz2
 have HZ64:=hidp (show (Tryz.prog.info? 247).map (·.size)=some 64 from by kernel_rfl)
 have HZ8:=hidp (show (Tryz.prog.info? 234).map (·.size)=some 8 from by kernel_rfl)
 have HFL:=hidp (filled_any · s hs)
 have hfl:=fillL_len s.data.toList
 have HSF:=hidp (sha_fill s.data.toList)
 have hFs:(fillL s.data.toList).length≤s.size + 128:=by
  rw [hfl];simp;split <;> omega
 obtain ⟨F,hF⟩:∃ F,fillL s.data.toList=F:=⟨_,rfl⟩
 rw [hF] at hfl HSF hFs
 have hF64:F.length % 64=0:=by rw [hfl];omega
 clear hfl
 have HF:=hidp hF;clear hF
 go_enter Tryz.func165,Tryz.ntmps165
 go_wp2_with fail
 conv in (Obj.cells _ 58)=>(change Obj.cells (u8s (List.replicate 32 0)).toArray 58;rw [← z32_eq])
 conv in (Obj.cells _ 234)=>change Obj.cells (u32s init8.list).toArray 234
 obtain ⟨W0,hW0⟩:∃ W,(w.alloc (.cells (u8s z32).toArray 58)).alloc (.cells (u32s init8.list).toArray 234)=W:=⟨_,rfl⟩
 rw [hW0]
 have hb0:Below w.heap.size w W0:=by rw [← hW0];exact ((Below.refl _ w).alloc (Nat.le_refl _) _).alloc (by simp) _
 have ha0:Arr W0 (w.heap.size + 1) 234 (u32s init8.list):=by
  rw [← hW0]
  have h:=Arr.new (w.alloc (.cells (u8s z32).toArray 58)) 234 (u32s init8.list)
  rw [heap_size_alloc] at h;exact h
 have hz0:Arr W0 w.heap.size 58 (u8s z32):=by rw [← hW0];exact (Arr.new w 58 (u8s z32)).alloc _
 have hsz0:W0.heap.size=w.heap.size + 2:=by rw [← hW0];simp
 have HW0:=hidp hW0;have HB0:=hidp hb0;have HA0:=hidp ha0;have HZ0:=hidp hz0;have HS0:=hidp hsz0
 clear hW0 hb0 ha0 hz0 hsz0
 refine (HFL.out W0).mono ?_
 rintro e w1 ⟨v1,rfl,ho1,hb1⟩
 obtain ⟨g,cp,rfl,hle,hgl,hBg,hat⟩:=ho1.at
 rw [HF.out] at hle hat ⊢
 have hs1:=hb1.size
 have HS1:=hidp (show w.heap.size + 2≤w1.heap.size from by rw [← HS0.out];exact hs1)
 have HB1:=hidp hb1;have HAT:=hidp hat
 have hg2:w.heap.size + 1<g:=by have:=HS0.out;omega
 clear hb1 hat ho1 hs1 hBg
 go_wp2_with fail
 refine (constants_any w1).mono ?_
 rintro e w2 ⟨rfl,hb2⟩
 have hs2:=hb2.size
 have HB2:=hidp hb2
 clear hb2
 obtain ⟨kx,hkx⟩:∃ kx,(u32s kk).toArray=kx:=⟨_,rfl⟩
 rw [hkx]
 have hkl:=hidp (show kx.size=64 from by rw [← hkx];kernel_rfl)
 have hk1:=hidp (show kx.all (·.oneCell')=true from by rw [← hkx];simp [u32s,Value.oneCell'])
 have HKX:=hidp hkx
 clear hkx
 go_wp2_with (refine wpList_store_row rfl 247 (.tmp 5) (.tmp 17) rfl w2.heap.size kx rfl rfl 247 _ (heap_alloc_new w2 _) (by rw [hkl.out];exact HZ64.out) (by rw [hkl.out];rfl) hk1.out ?_)
 have hrs:=hidp (show RS w g w2.heap.size F (blk F 0) ((w2.alloc (.cells (u32s (fill [])).toArray 247)).setRow w2.heap.size kx) from by
  have hB:=(HB0.out.trans (HB1.out.mono HB0.out.size)).trans (HB2.out.mono (by have:=HS1.out;omega))
  have h1:Below w1.heap.size w1 ((w2.alloc (.cells (u32s (fill [])).toArray 247)).setRow w2.heap.size kx):=below_setRow (HB2.out.alloc hs2 _) hs2 _
  have h2:Below W0.heap.size W0 ((w2.alloc (.cells (u32s (fill [])).toArray 247)).setRow w2.heap.size kx):=HB1.out.trans (h1.mono (by have:=HS1.out;have:=HS0.out;omega))
  refine ⟨?_,?_,HZ0.out.below h2 HZ0.out.lt,HAT.out.below h1 hgl,?_,hg2,by have:=HS1.out;omega,HB0.out.trans (h2.mono HB0.out.size)⟩
  · rw [blk_zero];exact HA0.out.below h2 HA0.out.lt
  · rw [← HKX.out];exact Arr.row (xs:=u32s (fill [])) (heap_alloc_new w2 _) (u32s kk)
  · simp;omega)
 conv in (Obj.cells _ 247)=>change Obj.cells (u32s (fill [])).toArray 247
 have hkb:w.heap.size + 1<w2.heap.size:=by have:=HS1.out;omega
 obtain ⟨kb,hkbe⟩:∃ kb,w2.heap.size=kb:=⟨_,rfl⟩
 obtain ⟨W3,hW3⟩:∃ W,(w2.alloc (.cells (u32s (fill [])).toArray 247)).setRow w2.heap.size kx=W:=⟨_,rfl⟩
 rw [hW3] at hrs
 rw [hW3,hkbe]
 rw [hkbe] at hrs hkb
 clear hW3 hkbe hs2 HB2 HB1 HAT HS1 HKX hkl hk1
 have H0:=hidp (show ∃ (i n off c:Nat),Value.slice (some ⟨g,0,none⟩) F.length cp=.slice (some ⟨g,off,none⟩) n c∧n + 64 * i=F.length∧(0<n→off=64 * i)∧n≤c∧RS w g kb F (blk F i) W3 from ⟨0,F.length,0,cp,rfl,by omega,fun _=>rfl,hle,hrs.out⟩)
 go_simp
 go_loopw [4] (fun t4 wr=>∃ (i n off c:Nat),t4=.slice (some ⟨g,off,none⟩) n c∧n + 64 * i=F.length∧(0<n→off=64 * i)∧n≤c∧RS w g kb F (blk F i) wr) (fun t4 _=>sliceLen t4)
 case atStart=>exact H0.out
 case round =>
  obtain ⟨i,n,off,c,rfl,hn,hoff,hnc,hrs⟩:=hrel
  have HN:=hidp hn;have HRS:=hidp hrs
  have hn64:n % 64=0:=by omega
  clear hn hrs H0 HFL
  by_cases h0:0<n
  · obtain rfl:=hoff h0
    have h64:64≤n:=by omega
    obtain ⟨bl,hbl⟩:∃ bl,(F.drop (64 * i)).take 64=bl:=⟨_,rfl⟩
    have hbll:=hidp (show bl.length=64 from by rw [← hbl];have:=HN.out;simp;omega)
    have hatb:=hidp (show AtB wr ⟨g,64 * i,none⟩ bl from by
     intro j hj
     rw [hbll.out] at hj
     have h:=HRS.out.2.2.2.1 (64 * i + j) (by have:=HN.out;omega)
     simp only [Nat.zero_add] at h
     rw [h,← hbl]
     simp [List.getD_eq_getElem?_getD,List.getElem?_take,hj])
    have hgr:=HRS.out.2.2.2.2.1
    have HBL:=hidp hbl
    clear hbl
    go_wp2_with fail
    refine (words_any wr g (64 * i) c bl hbll.out (by omega) hatb.out hgr).mono ?_
    rintro e w4 ⟨rfl,hb4⟩
    have hs4:=hb4.size
    have HB4:=hidp hb4
    clear hb4
    obtain ⟨wx,hwx⟩:∃ kx,(u32s (sched bl 64)).toArray=kx:=⟨_,rfl⟩
    rw [hwx]
    have hwl:=hidp (show wx.size=64 from by rw [← hwx];simp [u32s,sched_len])
    have hw1:=hidp (show wx.all (·.oneCell')=true from by rw [← hwx];simp [u32s,Value.oneCell'])
    have HWX:=hidp hwx
    clear hwx
    have hxlen:=hidp (show (u32s (blk F i).list).toArray.size=8 from by simp [u32s,S8.list])
    have hxone:=hidp (show (u32s (blk F i).list).toArray.all (·.oneCell')=true from by simp [u32s,Value.oneCell'])
    have HRS5:=hidp (show RS w g kb F (blk F i) ((w4.alloc (.cells (u32s (fill [])).toArray 247)).setRow w4.heap.size wx)∧Arr ((w4.alloc (.cells (u32s (fill [])).toArray 247)).setRow w4.heap.size wx) w4.heap.size 247 (u32s (sched bl 64))∧((w4.alloc (.cells (u32s (fill [])).toArray 247)).setRow w4.heap.size wx).heap.size=w4.heap.size + 1 from by
     refine ⟨HRS.out.below (HB4.out.trans ((below_setRow ((Below.refl w4.heap.size w4).alloc (Nat.le_refl _) _) (Nat.le_refl _) _).mono hs4)),?_,by simp⟩
     rw [← HWX.out];exact Arr.row (xs:=u32s (fill [])) (heap_alloc_new w4 _) (u32s (sched bl 64)))
    obtain ⟨vx,hvx⟩:∃ kx,(u32s (blk F i).list).toArray=kx:=⟨_,rfl⟩
    have hlv:=hidp (show ∀ W,RS w g kb F (blk F i) W→W.heap[w.heap.size + 1]?=some (.cells vx 234 (0,0)) from fun W h=>by rw [← hvx];exact h.1)
    rw [hvx] at hxlen hxone
    have hnx:=hidp (show ∀ O,(((w4.alloc (.cells (u32s (fill [])).toArray 247)).setRow w4.heap.size wx).alloc O).heap[w4.heap.size + 1]?=some O from fun O=>by
     have h:=heap_alloc_new ((w4.alloc (.cells (u32s (fill [])).toArray 247)).setRow w4.heap.size wx) O
     rw [HRS5.out.2.2] at h;exact h)
    have H6:=hidp (show ∀ zs:List Value,RS w g kb F (blk F i) ((((w4.alloc (.cells (u32s (fill [])).toArray 247)).setRow w4.heap.size wx).alloc (.cells zs.toArray 234)).setRow (w4.heap.size + 1) vx) ∧
     Arr ((((w4.alloc (.cells (u32s (fill [])).toArray 247)).setRow w4.heap.size wx).alloc (.cells zs.toArray 234)).setRow (w4.heap.size + 1) vx) w4.heap.size 247 (u32s (sched bl 64)) ∧
     Arr ((((w4.alloc (.cells (u32s (fill [])).toArray 247)).setRow w4.heap.size wx).alloc (.cells zs.toArray 234)).setRow (w4.heap.size + 1) vx) (w4.heap.size + 1) 234 (u32s (blk F i).list) from fun zs=>by
     have hbw:Below (w4.heap.size + 1) ((w4.alloc (.cells (u32s (fill [])).toArray 247)).setRow w4.heap.size wx) ((((w4.alloc (.cells (u32s (fill [])).toArray 247)).setRow w4.heap.size wx).alloc (.cells zs.toArray 234)).setRow (w4.heap.size + 1) vx) :=
      below_setRow ((Below.refl _ _).alloc (by rw [HRS5.out.2.2];exact Nat.le_refl _) _) (Nat.le_refl _) _
     refine ⟨HRS5.out.1.below (by rw [HRS5.out.2.2];exact hbw),HRS5.out.2.1.below hbw (by omega),?_⟩
     rw [← hvx];exact Arr.row (xs:=zs) (hnx.out _) (u32s (blk F i).list))
    have HVX:=hidp hvx
    clear hvx
    go_wp2_with (first
     | (refine wpList_store_row rfl 247 (.tmp 6) (.tmp 23) rfl w4.heap.size wx rfl rfl 247 _ (heap_alloc_new w4 _) (by rw [hwl.out];exact HZ64.out) (by rw [hwl.out];rfl) hw1.out ?_)
     | (refine wpList_slice_from rfl 174 (.tmp 24) (.const (.int .i64 64)) rfl Tryz.underlying174 i0 HI5.out HZ1.out g (64 * i) n c 64 rfl rfl h64 hnc ?_;intro off' hoff')
     | (refine wpList_load_row rfl 234 (.tmp 3) rfl (w.heap.size + 1) rfl 234 vx (0,0) _ (hlv.out _ HRS5.out.1) Tryz.underlying234 rfl (by rw [hxlen.out];exact HZ8.out) ?_)
     | (refine wpList_store_row rfl 234 (.tmp 7) (.tmp 26) rfl (w4.heap.size + 1) vx rfl rfl 234 _ (hnx.out _) (by rw [hxlen.out];exact HZ8.out) (by rw [hxlen.out];rfl) hxone.out ?_))
    conv in (Obj.cells _ 234)=>change Obj.cells (u32s (List.replicate 8 0)).toArray 234
    conv in (Obj.cells _ 247)=>change Obj.cells (u32s (fill [])).toArray 247
    have HRS6:=hidp (H6.out (u32s (List.replicate 8 0)))
    obtain ⟨W6,hW6⟩:∃ W,(((w4.alloc (.cells (u32s (fill [])).toArray 247)).setRow w4.heap.size wx).alloc (.cells (u32s (List.replicate 8 0)).toArray 234)).setRow (w4.heap.size + 1) vx=W:=⟨_,rfl⟩
    rw [hW6] at HRS6 ⊢
    have hmul:n - 64 + 64 * (i + 1)=F.length:=by have:=HN.out;omega
    have HMUL:=hidp hmul
    have hoff2:0<n - 64→off'=64 * (i + 1):=by intro h;rw [hoff' (by omega)];omega
    have HOFF:=hidp hoff2
    have hkb4:kb<w4.heap.size:=by have:=HRS.out.2.1.lt;omega
    have hg4:g<w4.heap.size:=by omega
    clear hW6 hmul hoff2 hoff' H6 hnx hlv HRS5 hatb
    go_simp
    have hwb:w.heap.size + 1<w4.heap.size:=by omega
    obtain ⟨wb,hwbe⟩:∃ b,w4.heap.size=b:=⟨_,rfl⟩
    obtain ⟨v0,hv0⟩:∃ v,blk F i=v:=⟨_,rfl⟩
    have HV0OK:=hidp (show v0.ok from by rw [← hv0];exact blk_ok _ _)
    rw [hwbe] at HRS6 hwb hkb4 hg4 ⊢
    rw [hv0] at HRS6
    have HV0:=hidp hv0
    clear hwbe hv0
    go_loopw [8] (fun t8 wr=>∃ (t:Nat) (st:S8),t8=.int .i64 (t:Int)∧t≤64∧st=rounds8 (sched bl 64) t v0∧RS w g kb F v0 wr∧Arr wr wb 247 (u32s (sched bl 64))∧Arr wr (wb + 1) 234 (u32s st.list)) (fun t8 _=>64 - (intOf t8).toNat)
    case atStart=>exact ⟨0,v0,rfl,by omega,(rounds8_zero _ _).symm,HRS6.out.1,HRS6.out.2.1,HRS6.out.2.2⟩
    case round =>
     obtain ⟨t,st,rfl,ht,hst,hrs,hwr,hxr⟩:=hrel
     have hok:st.ok:=by rw [hst];exact rounds8_ok _ _ _ HV0OK.out
     have HST:=hidp hst;have HRS:=hidp hrs;have HWR:=hidp hwr;have HXR:=hidp hxr
     clear hst hrs hwr hxr HRS6
     by_cases hlt:t<64
     · obtain ⟨a,b,c',d,e,f,g',h8⟩:=st
       unfold S8.ok S8.list at hok
       simp only [List.mem_cons,List.not_mem_nil,or_false,forall_eq_or_imp,forall_eq] at hok
       obtain ⟨ha,hb,hc,hd,he,hf,hg,hh⟩:=hok
       have hca:wr.cell? ⟨wb + 1,0,none⟩=some (.int .u32 (a:Int)):=HXR.out.cell 0 (by simp [u32s,S8.list])
       have hcb:wr.cell? ⟨wb + 1,1,none⟩=some (.int .u32 (b:Int)):=HXR.out.cell 1 (by simp [u32s,S8.list])
       have hcc:wr.cell? ⟨wb + 1,2,none⟩=some (.int .u32 (c':Int)):=HXR.out.cell 2 (by simp [u32s,S8.list])
       have hcd:wr.cell? ⟨wb + 1,3,none⟩=some (.int .u32 (d:Int)):=HXR.out.cell 3 (by simp [u32s,S8.list])
       have hce:wr.cell? ⟨wb + 1,4,none⟩=some (.int .u32 (e:Int)):=HXR.out.cell 4 (by simp [u32s,S8.list])
       have hcf:wr.cell? ⟨wb + 1,5,none⟩=some (.int .u32 (f:Int)):=HXR.out.cell 5 (by simp [u32s,S8.list])
       have hcg:wr.cell? ⟨wb + 1,6,none⟩=some (.int .u32 (g':Int)):=HXR.out.cell 6 (by simp [u32s,S8.list])
       have hch:wr.cell? ⟨wb + 1,7,none⟩=some (.int .u32 (h8:Int)):=HXR.out.cell 7 (by simp [u32s,S8.list])
       have hlen64:t<(u32s (sched bl 64)).length:=by rw [u32s_length,sched_len];exact hlt
       have hcw:=(HWR.out.cell t hlen64).trans (congrArg some (u32s_get _ t hlen64))
       have hlenk:t<(u32s kk).length:=by rw [u32s_length,show kk.length=64 from by kernel_rfl];exact hlt
       have hck:=(HRS.out.2.1.cell t hlenk).trans (congrArg some (u32s_get _ t hlenk))
       have hbk:=kk_lt t
       have hbw:=sched_getD_lt bl 64 t
       have hstep:=rounds8_succ (sched bl 64) t v0
       obtain ⟨kt,hkt⟩:∃ k,kk.getD t 0=k:=⟨_,rfl⟩
       obtain ⟨wt,hwt⟩:∃ k,(sched bl 64).getD t 0=k:=⟨_,rfl⟩
       rw [hkt] at hck hbk hstep
       rw [hwt] at hcw hbw hstep
       rw [← HST.out] at hstep
       have HSTEP:=hidp hstep
       clear hkt hwt hstep hlen64 hlenk
       have i1:(0:Int)≤(t:Int):=by omega
       have i2:(t:Int)<64:=by omega
       go_wp2_with fail
       go_quiet ((go_at_call 190;exact Calls.quiet_of (turned_q _ _ (by assumption) (by unfold IsRot;omega) _)))
       rw [bs1_eq e he,chf_eq e f g' he hf hg,t1_eq2 e f g' h8 kt wt a b c' d]
       clear hca hcb hcc hcd hce hcf hcg hch hcw hck
       have HRS7:=hidp (HRS.out.drewN nq);have HWR7:=hidp (arr_drewN HWR.out nq);have HXR7:=hidp (arr_drewN HXR.out nq)
       obtain ⟨W7,hW7⟩:∃ W,wr.drewN nq=W:=⟨_,rfl⟩
       obtain ⟨T1,hT1⟩:∃ T,t1f ⟨a,b,c',d,e,f,g',h8⟩ kt wt=T:=⟨_,rfl⟩
       rw [hW7] at HRS7 HWR7 HXR7 ⊢
       rw [hT1]
       have hT1l:T1<4294967296:=by rw [← hT1];exact t1f_lt _ _ _
       have HT1:=hidp hT1
       clear hW7 hT1
       have hca:W7.cell? ⟨wb + 1,0,none⟩=some (.int .u32 (a:Int)):=HXR7.out.cell 0 (by simp [u32s,S8.list])
       have hcb:W7.cell? ⟨wb + 1,1,none⟩=some (.int .u32 (b:Int)):=HXR7.out.cell 1 (by simp [u32s,S8.list])
       have hcc:W7.cell? ⟨wb + 1,2,none⟩=some (.int .u32 (c':Int)):=HXR7.out.cell 2 (by simp [u32s,S8.list])
       go_wp2_with fail
       go_quiet ((go_at_call 190;exact Calls.quiet_of (turned_q _ _ (by assumption) (by unfold IsRot;omega) _)))
       rw [bs0_eq a ha,maj_eq a b c' ha hb hc,t2_eq a b c' d e f g' h8]
       clear hca hcb hcc
       have HRS8:=hidp (HRS7.out.drewN nq);have HWR8:=hidp (arr_drewN HWR7.out nq);have HXR8:=hidp (arr_drewN HXR7.out nq)
       obtain ⟨W8,hW8⟩:∃ W,W7.drewN nq=W:=⟨_,rfl⟩
       obtain ⟨T2,hT2⟩:∃ T,t2f ⟨a,b,c',d,e,f,g',h8⟩=T:=⟨_,rfl⟩
       rw [hW8] at HRS8 HWR8 HXR8 ⊢
       rw [hT2]
       have hT2l:T2<4294967296:=by rw [← hT2];exact add32_lt _ _
       have HT2:=hidp hT2
       clear hW8 hT2
       have hca:W8.cell? ⟨wb + 1,0,none⟩=some (.int .u32 (a:Int)):=HXR8.out.cell 0 (by simp [u32s,S8.list])
       have hcb:W8.cell? ⟨wb + 1,1,none⟩=some (.int .u32 (b:Int)):=HXR8.out.cell 1 (by simp [u32s,S8.list])
       have hcc:W8.cell? ⟨wb + 1,2,none⟩=some (.int .u32 (c':Int)):=HXR8.out.cell 2 (by simp [u32s,S8.list])
       have hcd:W8.cell? ⟨wb + 1,3,none⟩=some (.int .u32 (d:Int)):=HXR8.out.cell 3 (by simp [u32s,S8.list])
       have hce:W8.cell? ⟨wb + 1,4,none⟩=some (.int .u32 (e:Int)):=HXR8.out.cell 4 (by simp [u32s,S8.list])
       have hcf:W8.cell? ⟨wb + 1,5,none⟩=some (.int .u32 (f:Int)):=HXR8.out.cell 5 (by simp [u32s,S8.list])
       have hcg:W8.cell? ⟨wb + 1,6,none⟩=some (.int .u32 (g':Int)):=HXR8.out.cell 6 (by simp [u32s,S8.list])
       have hrow:=hidp (show #[Value.int .u32 (((T1:Int) + (T2:Int)) % 4294967296),.int .u32 (a:Int),.int .u32 (b:Int),.int .u32 (c':Int),.int .u32 (((d:Int) + (T1:Int)) % 4294967296),.int .u32 (e:Int),.int .u32 (f:Int),.int .u32 (g':Int)]=(u32s (rounds8 (sched bl 64) (t + 1) v0).list).toArray from by
        rw [HSTEP.out,← HT1.out,← HT2.out];exact stp_row a b c' d e f g' h8 kt wt)
       have hl8:=hidp (show (u32s (S8.list ⟨a,b,c',d,e,f,g',h8⟩)).toArray.size=(#[Value.int .u32 (((T1:Int) + (T2:Int)) % 4294967296),.int .u32 (a:Int),.int .u32 (b:Int),.int .u32 (c':Int),.int .u32 (((d:Int) + (T1:Int)) % 4294967296),.int .u32 (e:Int),.int .u32 (f:Int),.int .u32 (g':Int)]).size from rfl)
       have ho8:=hidp (show (#[Value.int .u32 (((T1:Int) + (T2:Int)) % 4294967296),.int .u32 (a:Int),.int .u32 (b:Int),.int .u32 (c':Int),.int .u32 (((d:Int) + (T1:Int)) % 4294967296),.int .u32 (e:Int),.int .u32 (f:Int),.int .u32 (g':Int)]).all (·.oneCell')=true from by simp [Value.oneCell'])
       go_wp2_with (refine wpList_store_row rfl 234 (.tmp 7) (.tmp 114) rfl (wb + 1) #[Value.int .u32 (((T1:Int) + (T2:Int)) % 4294967296),.int .u32 (a:Int),.int .u32 (b:Int),.int .u32 (c':Int),.int .u32 (((d:Int) + (T1:Int)) % 4294967296),.int .u32 (e:Int),.int .u32 (f:Int),.int .u32 (g':Int)] rfl rfl 234 _ HXR8.out HZ8.out hl8.out ho8.out ?_)
       rw [hrow.out]
       have hkb1:wb + 1≠kb:=by omega
       have hg1:wb + 1≠g:=by omega
       have HRS9:=hidp (HRS8.out.row HXR8.out (by omega) (by omega) hkb1 hg1 (by omega) (u32s (rounds8 (sched bl 64) (t + 1) v0).list).toArray)
       have HWR9:=hidp (HWR8.out.row_other (wb + 1) (by omega) (u32s (rounds8 (sched bl 64) (t + 1) v0).list).toArray)
       have HXR9:=hidp (HXR8.out.row (u32s (rounds8 (sched bl 64) (t + 1) v0).list))
       exact ⟨⟨t + 1,rounds8 (sched bl 64) (t + 1) v0,by go_num,by omega,rfl,HRS9.out,HWR9.out,HXR9.out⟩,by simp [intOf];omega⟩
     · have ht64:=hidp (show t=64 from by omega)
       have hrok:=hok
       have HRT:=hidp (show RT w g kb F (mixl v0 st 0) wr from by rw [mixl_zero];exact HRS.out)
       have hmix:=hidp (show mixl v0 st 8=(comp v0 bl).list from by rw [HST.out,ht64.out];exact mixl_eight _ _)
       go_wp2_with fail
       go_loopw [11] (fun t11 wr=>∃ k:Nat,t11=.int .i64 (k:Int)∧k≤8∧RT w g kb F (mixl v0 st k) wr∧Arr wr (wb + 1) 234 (u32s st.list)) (fun t11 _=>8 - (intOf t11).toNat)
       case atStart=>exact ⟨0,rfl,by omega,HRT.out,HXR.out⟩
       case round =>
        obtain ⟨k,rfl,hk8,hrt,hxr⟩:=hrel
        have HRT2:=hidp hrt;have HXR2:=hidp hxr
        clear hrt hxr
        by_cases hk:k<8
        · have hlenv:k<(u32s (mixl v0 st k)).length:=by rw [u32s_length,mixl_len _ _ _ (by omega)];exact hk
          have hcv:=(HRT2.out.1.cell k hlenv).trans (congrArg some (u32s_get _ k hlenv))
          have hlenx:k<(u32s st.list).length:=by rw [u32s_length];exact hk
          have hcx:=(HXR2.out.cell k hlenx).trans (congrArg some (u32s_get _ k hlenx))
          rw [mixl_get _ _ _ hk] at hcv
          have hfz:=HRT2.out.1.frozen k
          have hset:=HRT2.out.set k (add32 (v0.list.getD k 0) (st.list.getD k 0))
          rw [mixl_set _ _ _ hk] at hset
          have b1:=list_getD_lt v0 HV0OK.out k hk
          have b2:=list_getD_lt st hrok k hk
          have hm:=mod_add32 (v0.list.getD k 0) (st.list.getD k 0)
          obtain ⟨x,hx⟩:∃ x,v0.list.getD k 0=x:=⟨_,rfl⟩
          obtain ⟨y,hy⟩:∃ y,st.list.getD k 0=y:=⟨_,rfl⟩
          rw [hx] at hcv hset b1 hm
          rw [hy] at hcx hset b2 hm
          have HSET:=hidp hset
          clear hx hy hset hlenv hlenx
          have i1:(0:Int)≤(k:Int):=by omega
          have i2:(k:Int)<8:=by omega
          go_wp2_with fail
          go_region
          go_wp2
          go_roundw
          case rel=>exact ⟨k + 1,by go_num,by omega,HSET.out.drewN 1,arr_drewN (HXR2.out.other ⟨w.heap.size + 1,k,none⟩ (by simp;omega) _) 1⟩
          case measure=>simp [intOf];omega
        · obtain rfl:k=8:=by omega
          have HEND:=hidp (show RS w g kb F (blk F (i + 1)) wr from by
           rw [blk_succ,HBL.out,HV0.out]
           have h:=HRT2.out
           rw [hmix.out] at h
           exact h)
          go_wp2_with fail
          refine ⟨⟨i + 1,n - 64,off',c - 64,rfl,HMUL.out,HOFF.out,by omega,HEND.out⟩,by simp [sliceLen];omega⟩
  · have hfin:=hidp (show blk F i=shaS s.data.toList from by
     rw [← HSF.out];congr 1;have:=HN.out;omega)
    have hSok:=hidp (show (shaS s.data.toList).ok from shaS_ok _)
    obtain ⟨S,hS⟩:∃ S,shaS s.data.toList=S:=⟨_,rfl⟩
    have HSL:=hidp (show shaL s.data.toList=joinL S from by rw [← hS];rfl)
    rw [hS] at hfin hSok
    have hA:=HRS.out.1
    rw [hfin.out] at hA
    have HA:=hidp hA
    have HSS:=hidp hS
    have hb:=HRS.out.2.2.2.2.2.2.2
    have hbs:=hb.size
    have HB:=hidp hb
    have hal:=HA.out.lt
    have HZ:=hidp HRS.out.2.2.1
    clear hA hS hb
    go_wp2_with fail
    conv in (Obj.cells _ 58)=>(change Obj.cells (u8s (List.replicate 32 0)).toArray 58;rw [← z32_eq])
    have H0:=hidp (show Arr (wr.alloc (.cells (u8s z32).toArray 58)) wr.heap.size 58 (u8s (fillB (joinL S) 0))∧Arr (wr.alloc (.cells (u8s z32).toArray 58)) (w.heap.size + 1) 234 (u32s S.list)∧Arr (wr.alloc (.cells (u8s z32).toArray 58)) w.heap.size 58 (u8s z32)∧Below w.heap.size w (wr.alloc (.cells (u8s z32).toArray 58)) from by
     refine ⟨?_,HA.out.alloc _,HZ.out.alloc _,HB.out.alloc hbs _⟩
     rw [fillB_zero,joinL_len,← z32_eq];exact Arr.new wr 58 (u8s z32))
    obtain ⟨ob,hob⟩:∃ o,wr.heap.size=o:=⟨_,rfl⟩
    obtain ⟨W6,hW6⟩:∃ W,wr.alloc (.cells (u8s z32).toArray 58)=W:=⟨_,rfl⟩
    rw [hW6,hob] at H0
    rw [hW6,hob]
    rw [hob] at hal hbs
    clear hW6 hob
    go_loopw [13] (fun t13 wr=>∃ k:Nat,t13=.int .i64 (k:Int)∧k≤32∧Arr wr ob 58 (u8s (fillB (joinL S) k))∧Arr wr (w.heap.size + 1) 234 (u32s S.list)∧Arr wr w.heap.size 58 (u8s z32)∧Below w.heap.size w wr) (fun t13 _=>32 - (intOf t13).toNat)
    case atStart=>exact ⟨0,rfl,by omega,H0.out.1,H0.out.2.1,H0.out.2.2.1,H0.out.2.2.2⟩
    case round =>
     obtain ⟨k,rfl,hk32,hO,hA,hZ,hB⟩:=hrel
     have HO:=hidp hO;have HA4:=hidp hA;have HZ4:=hidp hZ;have HB4:=hidp hB
     clear hO hA hZ hB H0
     by_cases hk:k<32
     · have hlen4:k / 4<(u32s S.list).length:=by rw [u32s_length];show k / 4<8;omega
       have hc:=(HA4.out.cell (k / 4) hlen4).trans (congrArg some (u32s_get _ (k / 4) hlen4))
       have hco:=HO.out.cell k (by rw [u8s_length,fillB_len _ _ (by rw [joinL_len];omega),joinL_len];omega)
       have hfo:=HO.out.frozen k
       have hjg:=joinL_get S (k / 4) (k % 4) (by omega) (by omega)
       rw [show 4 * (k / 4) + k % 4=k from by omega] at hjg
       have hset:=HO.out.set k (.int .u8 (((joinL S).getD k 0).toNat:Int))
       rw [u8s_set,fillB_set _ _ (by rw [joinL_len];omega)] at hset
       have hx32:=list_getD_lt S hSok.out (k / 4) (by omega)
       obtain ⟨x,hx⟩:∃ x,S.list.getD (k / 4) 0=x:=⟨_,rfl⟩
       rw [hx] at hc hjg hx32
       have HJG:=hidp hjg;have HSET:=hidp hset
       clear hjg hset hx hlen4
       have e1:((k:Int) / 4).toNat=k / 4:=by omega
       have e2:(24 - 8 * ((k:Int) % 4)).toNat=24 - 8 * (k % 4):=by omega
       have e3:0≤(k:Int) / 4:=by omega
       have e4:(k:Int) / 4<8:=by omega
       have e5:0≤24 - 8 * ((k:Int) % 4):=by omega
       have e6:24 - 8 * ((k:Int) % 4)<32:=by omega
       go_wp2_with fail
       rw [show ((x:Int) / 2 ^ (24 - 8 * (k % 4)) % 256)=(((joinL S).getD k 0).toNat:Int) from by rw [HJG.out];simp]
       exact ⟨⟨k + 1,by simp,by omega,HSET.out,HA4.out.other _ (by simp;omega) _,HZ4.out.other _ (by simp;omega) _,HB4.out.setCell (by simp;omega) _⟩,by simp [intOf];omega⟩
     · obtain rfl:k=32:=by omega
       have hO:=HO.out
       rw [show (32:Nat)=(joinL S).length from (joinL_len S).symm,fillB_all] at hO
       obtain ⟨X,hX⟩:∃ X,(u8s (joinL S)).toArray=X:=⟨_,rfl⟩
       have HSX:=hidp (show (Tryz.prog.info? 58).map (·.size)=some X.size from by rw [← hX];exact hash_size (joinL_len S))
       have hone:=hidp (show X.all (·.oneCell')=true from by rw [← hX];exact u8s_one _)
       have hlen:=hidp (show (u8s z32).toArray.size=X.size from by rw [← hX];simp [u8s_length,joinL_len,z32_len])
       unfold Arr at hO
       rw [hX] at hO
       have HO2:=hidp hO;have HX:=hidp hX
       clear hO hX
       go_wp2_with (first|(refine wpList_load_row rfl 58 (.tmp 12) rfl ob rfl 58 X (0,0) _ HO2.out Tryz.underlying58 rfl HSX.out ?_)|(refine wpList_store_row rfl 58 (.tmp 2) (.tmp 143) rfl w.heap.size X rfl rfl 58 _ HZ4.out HSX.out hlen.out hone.out ?_))
       have hfin2:(wr.setRow w.heap.size X).heap[w.heap.size]?=some (.cells X 58 (0,0)):=setRow_heap _ _ _ _ _ _ HZ4.out
       refine bodyPost_ret (results_cell_row (P:=Tryz.prog) (p:=2) (ty:=58) Tryz.results165 _ _ w.heap.size 58 X (0,0) _ rfl hfin2 Tryz.underlying58 rfl HSX.out) rfl ?_
       exact ⟨by rw [HSL.out,HX.out],below_setRow HB4.out (Nat.le_refl _) _⟩
end
section
open Go.RowKit
def schedF (l:List UInt8):Nat→List Nat→List Nat
 | 0,ws=>ws
 | n + 1,ws=>schedF l n (ws++[if ws.length<16 then firstW l ws.length else nextW ws ws.length])
theorem schedF_eq (l:List UInt8) (n t:Nat):schedF l n (sched l t)=sched l (t + n):=by
 induction n generalizing t with
 | zero=>rfl
 | succ n ih =>
   have h:sched l (t + 1)=sched l t++[if t<16 then firstW l t else nextW (sched l t) t]:=by
    by_cases h:t<16
    · rw [if_pos h,sched_first l t h]
    · rw [if_neg h,sched_next l t h]
   rw [schedF,sched_len,← h,ih,show t + 1 + n=t + (n + 1) from by omega]
def roundsF:List Nat→List Nat→S8→S8
 | k :: ks,w :: ws,s=>roundsF ks ws (stp s k w)
 | _,_,s=>s
theorem roundsF_eq (ws:List Nat) (hw:ws.length=64) (n t:Nat) (h:t + n=64) (s:S8):roundsF (kk.drop t) (ws.drop t) (rounds8 ws t s)=rounds8 ws 64 s:=by
 induction n generalizing t with
 | zero =>
   obtain rfl:t=64:=by omega
   rw [List.drop_eq_nil_of_le (show kk.length≤64 by rw [show kk.length=64 from by kernel_rfl];omega)]
   rfl
 | succ n ih =>
   have hk:kk.length=64:=by kernel_rfl
   rw [List.drop_eq_getElem_cons (show t<kk.length by omega),List.drop_eq_getElem_cons (show t<ws.length by omega),roundsF]
   have e:stp (rounds8 ws t s) kk[t] ws[t]=rounds8 ws (t + 1) s:=by
    rw [rounds8_succ]
    congr 1 <;> simp [List.getD_eq_getElem?_getD,hk,hw,show t<64 from by omega]
   rw [e,ih (t + 1) (by omega)]
def compF (v:S8) (l:List UInt8):S8 :=
 let r:=roundsF kk (schedF l 64 []) v
 ⟨add32 v.a r.a,add32 v.b r.b,add32 v.c r.c,add32 v.d r.d,add32 v.e r.e,add32 v.f r.f,add32 v.g r.g,add32 v.h r.h⟩
theorem compF_eq (v:S8) (l:List UInt8):comp v l=compF v l:=by
 have h1:schedF l 64 []=sched l 64:=by have:=schedF_eq l 64 0;rw [sched_zero] at this;simpa using this
 have h2:=roundsF_eq (sched l 64) (sched_len l 64) 64 0 rfl v
 rw [rounds8_zero] at h2
 simp only [List.drop_zero] at h2
 unfold comp compF
 rw [h1,h2]
end
section
open Go.RowKit
set_option maxRecDepth 100000 in
theorem rmid_any (w:World) (s:ByteArray) (hs:s.size≤281474976710656 / 4) :
 Calls Tryz.prog 162 #[.string s] w fun e w'=>e=.returned (.string (mkS ((shaL s.data.toList).take 16)))∧Below w.heap.size w w':=by
 have HS:=hidp fun W=>rsum_any W s hs
 go_enter Tryz.func162,Tryz.ntmps162
 go_wp2_with fail
 refine (HS.out w).mono ?_
 rintro e w1 ⟨rfl,hb1⟩
 obtain ⟨xs,hxs⟩:∃ xs,(u8s (shaL s.data.toList)).toArray=xs:=⟨_,rfl⟩
 rw [hxs]
 have hl32:=hidp (show xs.size=32 from by rw [← hxs];simp [u8s,shaL_len])
 have HI:=hidp (show (Tryz.prog.info? 58).map (·.size)=some xs.size from by
  rw [show (Tryz.prog.info? 58).map (·.size)=some 32 from by kernel_rfl,hl32.out])
 have hone:=hidp (show xs.all (·.oneCell')=true from by rw [← hxs];exact u8s_one _)
 have hrow:∀ cur,Arr ((w1.alloc (.cells cur 58)).setRow w1.heap.size xs) w1.heap.size 58 (u8s (shaL s.data.toList)):=by
  intro cur
  rw [← hxs]
  exact Arr.row (xs:=cur.toList) (heap_alloc_new w1 _) (u8s (shaL s.data.toList))
 have hstr:∀ cur,(convert 174 9 (.slice (some ⟨w1.heap.size,0,none⟩) 16 32)).run Tryz.prog ((w1.alloc (.cells cur 58)).setRow w1.heap.size xs)=.ok (.string (mkS ((shaL s.data.toList).take 16))) ((w1.alloc (.cells cur 58)).setRow w1.heap.size xs):=by
  intro cur
  have hl:=shaL_len s.data.toList
  have h:=run_str_at (P:=Tryz.prog) (src:=174) (e:=5) (dst:=9) Tryz.underlying174 Tryz.underlying5 Tryz.underlying9 w1.heap.size 0 32 ((shaL s.data.toList).take 16) (w:=(w1.alloc (.cells cur 58)).setRow w1.heap.size xs) (by
   intro i hi
   rw [List.length_take,hl] at hi
   rw [show (⟨w1.heap.size,0,none⟩:Addr).off + i=i from Nat.zero_add _]
   rw [(hrow cur).cell i (by rw [u8s_length,hl];omega)]
   simp [u8s,List.getD_eq_getElem?_getD,List.getElem?_take,show i<16 from by omega,hl,show i<32 from by omega])
  rw [List.length_take,hl] at h
  exact h
 have HXS:=hidp hxs;have HB1:=hidp hb1;have HR:=hidp hrow
 clear hxs hb1 hrow
 go_wp2_with (refine wpList_store_row rfl 58 (.tmp 3) (.tmp 5) rfl w1.heap.size xs rfl rfl 58 _ (heap_alloc_new w1 _) HI.out (by rw [hl32.out];rfl) hone.out ?_)
 go_ret
 have hs1:=HB1.out.size
 exact ⟨rfl,below_setRow (HB1.out.alloc hs1 _) hs1 _⟩
end
section
open Go.RowKit
theorem eqin_hash (W:World) (a b:List UInt8) (ha:a.length=32) (hb:b.length=32) :
 (Op.equalIn 10000 58 (.agg (u8s a).toArray) (.agg (u8s b).toArray)).run Tryz.prog W=.ok (decide (a=b)) W:=by
 obtain ⟨i0,hi,hz0,hz1,hz2⟩:=info_parts info5
 have hu:Tryz.prog.underlying 58=some (.array 32 5):=by kernel_rfl
 have hu8:Tryz.prog.underlying 5=some (.int .u8):=Tryz.underlying5
 have hsz:∀ W,(sizeOf 5).run Tryz.prog W=.ok 1 W:=by intro W;simp [sizeOf,typeInfo,hi,hz1]
 have hpart:∀ (l:List UInt8) (i:Nat) (W:World),l.length=32→i<32→(part 5 (u8s l).toArray (i * 1)).run Tryz.prog W=.ok (.int .u8 ((l.getD i 0).toNat:Int)) W:=by
  intro l i W hl hlt
  simp [part,sizeOf,typeInfo,hi,hz0,hz1,hz2,hl,hlt,u8s,List.getD_eq_getElem?_getD]
 have hdec:decide (a=b)=(List.range' 0 32).all (fun i=>a.getD i 0 == b.getD i 0):=by
  rw [Bool.eq_iff_iff,decide_eq_true_iff,List.all_eq_true]
  constructor
  · rintro rfl i _;simp
  · intro h
    apply List.ext_getElem (by omega)
    intro i h1 h2
    have:=h i (by simp [List.mem_range'];omega)
    simpa [List.getD_eq_getElem?_getD,h1,h2] using this
 rw [hdec]
 unfold Op.equalIn
 simp only [Sem.run_bind,run_underlying hu,Result.andThen_ok,hsz]
 rw [Std.Legacy.Range.forIn_eq_forIn_range']
 have hall:∀ i ∈ List.range' 0 32,i<32:=by intro i h;simp [List.mem_range'] at h;omega
 show ((Sem.run Tryz.prog (forIn (List.range' 0 32) _ _) W).andThen _)=_
 generalize List.range' 0 32=is at hall ⊢
 induction is generalizing W with
 | nil=>simp
 | cons i is ih =>
   have hi32:=hall i (by simp)
   have ih:=ih W (fun j hj=>hall j (by simp [hj]))
   simp only [List.forIn_cons,Sem.run_bind,hpart a i _ ha hi32,hpart b i _ hb hi32,Result.andThen_ok,run_equalIn_int _ _ _ _ _ _ _ hu8,Sem.run_ite,List.all_cons]
   have hbeq:(((a.getD i 0).toNat:Int) == ((b.getD i 0).toNat:Int))=(a.getD i 0 == b.getD i 0):=by
    rw [Bool.eq_iff_iff,beq_iff_eq,beq_iff_eq,← UInt8.toNat_inj];omega
   rw [hbeq]
   cases a.getD i 0 == b.getD i 0
   · simp
   · simpa using ih
theorem eql_hash (W:World) (a b:List UInt8) (ha:a.length=32) (hb:b.length=32) :
 (binOp .eql 58 (.agg (u8s a).toArray) (.agg (u8s b).toArray)).run Tryz.prog W=.ok (.bool (decide (a=b))) W:=by
 rw [run_eql_struct,eqin_hash W a b ha hb];rfl
theorem neq_hash (W:World) (a b:List UInt8) (ha:a.length=32) (hb:b.length=32) :
 (binOp .neq 58 (.agg (u8s a).toArray) (.agg (u8s b).toArray)).run Tryz.prog W=.ok (.bool (!decide (a=b))) W:=by
 rw [run_neq_struct,eqin_hash W a b ha hb];rfl
end
section
open Go.RowKit
section
variable {P:Program} {ops:Array Oper} {C:World→Prop} {Q:Act→Prop} {a:Act} {o:Oper} {rest:List Oper}
end
theorem Cls.kt {N:Nat} {W w:World} (h:Cls N W w) (hK:KT W) (hN:2<N):KT w:=hK.below h hN
end
section
open Go.RowKit
end
section
open Go.RowKit
end
end Go.Proofs.YtokakgjcegmabaaGreatDoor
