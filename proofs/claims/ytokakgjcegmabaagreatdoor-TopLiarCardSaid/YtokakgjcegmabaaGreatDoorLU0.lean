import Derived.Test.YtokakgjcegmabaaGreatDoorLS4
import Derived.Test.YtokakgjcegmabaaGreatDoorLW
set_option linter.unusedVariables false
set_option linter.unusedSimpArgs false
set_option maxHeartbeats 64000000
set_option maxRecDepth 100000
namespace Go.Proofs.YtokakgjcegmabaaGreatDoor.Hd
open Go.RowKit
open En (cnt num4 num4_back num4_some e4_len z32e)
structure Hd where
 r:ByteArray
 e:Int
 i:Int
 p:List UInt8
 g:ByteArray
def Hd.row (x:Hd):List Value:=[.string x.r,.int .i64 x.e,.int .i64 x.i]++u8s x.p++[.string x.g]
structure Hd.ok (x:Hd):Prop where
 r:x.r.size≤140737488351232
 p:x.p.length=32
 g:x.g.size≤140737488351232
def zHd:Hd:=⟨⟨#[]⟩,0,0,z32e,⟨#[]⟩⟩
theorem Hd.len {x:Hd} (h:x.p.length=32):x.row.length=36:=by unfold Hd.row;simp [u8s_length,h]
theorem Hd.one (x:Hd):∀ u ∈ x.row,u.oneCell'=true:=by
 intro u hu
 unfold Hd.row at hu
 simp only [List.mem_append,List.mem_cons,List.not_mem_nil,or_false] at hu
 rcases hu with ((rfl | rfl | rfl) | hu) | rfl
 · rfl
 · rfl
 · rfl
 · exact (List.all_eq_true.1 (by have:=u8s_one x.p;rwa [List.all_toArray] at this)) u hu
 · rfl
theorem Hd.get0 (x:Hd):x.row[0]?=some (.string x.r):=rfl
theorem Hd.get1 (x:Hd):x.row[1]?=some (.int .i64 x.e):=rfl
theorem Hd.get2 (x:Hd):x.row[2]?=some (.int .i64 x.i):=rfl
theorem Hd.get35 {x:Hd} (h:x.p.length=32):x.row[35]?=some (.string x.g):=by
 unfold Hd.row
 rw [List.getElem?_append_right (by simp [u8s_length,h])];simp [u8s_length,h]
theorem Hd.set35 {x:Hd} (h:x.p.length=32) (s:ByteArray):x.row.set 35 (.string s)=(⟨x.r,x.e,x.i,x.p,s⟩:Hd).row:=by
 unfold Hd.row
 rw [List.append_assoc,List.set_append];simp [u8s_length,h,List.set_append]
theorem Hd.mid (x:Hd):x.row.drop 3=u8s x.p++[.string x.g]:=rfl
def wHead:ByteArray:=⟨#[104,101,97,100]⟩
def jOk (x:Hd):Bool:=(who 2 x.r).isSome && cnt x.e && cnt x.i && decide (x.g.size≤8192)
def jE (x:Hd):Int:=if jOk x=true then 0 else 2
def jL (x:Hd):List ByteArray:=[wHead,x.r,mkS (encN x.e.toNat),mkS (encN x.i.toNat),mkS x.p]
def jT (x:Hd):ByteArray:=if jOk x=true then mkS (encL (jL x)) else ByteArray.empty
def jB (x:Hd):ByteArray:=if jOk x=true then listS [jT x,x.g] else ByteArray.empty
def jrL:List ByteArray→Option Hd
 | [a, b, c, d, e] => if a = wHead ∧ e.size = 32 then (match num4 c, num4 d with
   | some w,some x=>if jOk ⟨b,w,x,e.data.toList,⟨#[]⟩⟩=true then some ⟨b,w,x,e.data.toList,⟨#[]⟩⟩ else none
   | _,_=>none) else none
 | _=>none
def jr (t:ByteArray):Option Hd:=if (al t).2=0 then jrL (al t).1 else none
def wSigJ (x:Hd) (g:ByteArray):Hd:=⟨x.r,x.e,x.i,x.p,g⟩
theorem jE_yes {x:Hd} (h:jOk x=true):jE x=0:=by unfold jE;rw [if_pos h]
theorem jE_no {x:Hd} (h:jOk x=false):jE x=2:=by unfold jE;rw [h];rfl
theorem jT_yes {x:Hd} (h:jOk x=true):jT x=mkS (encL (jL x)):=by unfold jT;rw [if_pos h]
theorem jT_no {x:Hd} (h:jOk x=false):jT x=ByteArray.empty:=by unfold jT;rw [h];rfl
theorem jOk_parts {x:Hd} (h:jOk x=true):(∃ n,who 2 x.r=some n)∧(0≤x.e∧x.e≤4096)∧(0≤x.i∧x.i≤4096)∧x.g.size≤8192:=by
 unfold jOk cnt at h
 simp only [Bool.and_eq_true,decide_eq_true_eq] at h
 obtain ⟨⟨⟨h1,h2⟩,h3⟩,h5⟩:=h
 exact ⟨Option.isSome_iff_exists.1 h1,h2,h3,h5⟩
theorem jOk_mk {x:Hd} (h1:(who 2 x.r).isSome=true) (h2:0≤x.e∧x.e≤4096) (h3:0≤x.i∧x.i≤4096) (h5:x.g.size≤8192):jOk x=true:=by
 unfold jOk cnt
 simp only [Bool.and_eq_true,decide_eq_true_eq]
 exact ⟨⟨⟨h1,h2⟩,h3⟩,h5⟩
theorem jL_ok {x:Hd} (h:jOk x=true) (hp:x.p.length=32):okL (jL x):=by
 obtain ⟨⟨n,h1⟩,h2,h3,h5⟩:=jOk_parts h
 refine ⟨by simp [jL],fun s hs=>?_⟩
 have g1:=who_size h1;have e1:=e4_len h2.1 h2.2;have e2:=e4_len h3.1 h3.2
 simp only [jL,List.mem_cons,List.not_mem_nil,or_false] at hs
 rcases hs with rfl | rfl | rfl | rfl | rfl
 · show (wHead).size≤8192;decide
 · omega
 · rw [mkS_size];omega
 · rw [mkS_size];omega
 · rw [mkS_size];omega
theorem jr_back {x:Hd} (h:jOk x=true) (hp:x.p.length=32):jr (jT x)=some (wSigJ x ⟨#[]⟩):=by
 obtain ⟨h1,h2,h3,h5⟩:=jOk_parts h
 unfold jr
 rw [jT_yes h,al_back _ (jL_ok h hp)]
 simp only [if_true,jL,jrL]
 rw [if_pos ⟨by trivial,by rw [mkS_size];exact hp⟩,num4_back (by omega),num4_back (by omega)]
 simp only [Int.toNat_of_nonneg h2.1,Int.toNat_of_nonneg h3.1,mkS_data]
 exact if_pos (jOk_mk (x:=wSigJ x ⟨#[]⟩) (Option.isSome_iff_exists.2 h1) h2 h3 (by show (⟨#[]⟩:ByteArray).size≤8192;decide))
theorem jr_some {t:ByteArray} {x:Hd} (h:jr t=some x):jOk x=true∧jT x=t∧x.g=⟨#[]⟩∧x.p.length=32:=by
 unfold jr at h
 split at h
 · rename_i h0
   obtain ⟨g3,-⟩:=al_again h0
   unfold jrL at h
   split at h
   · rename_i a b c d e hL'
     split at h
     · rename_i hae
       split at h
       · rename_i w y e1 e2
         split at h
         · rename_i hok
           simp only [Option.some.injEq] at h
           subst h
           refine ⟨hok,?_,rfl,by rw [size_toList];exact hae.2⟩
           rw [jT_yes hok,← g3,hL']
           have i1:=(num4_some e1).1;have i2:=(num4_some e2).1
           simp only [jL,Int.toNat_natCast]
           rw [i1,i2,mkS_of,← hae.1]
         · cases h
       · cases h
     · cases h
   · cases h
 · cases h
theorem wSigJ_ok {x:Hd} (h:jOk x=true) {g:ByteArray} (hg:g.size≤8192):jOk (wSigJ x g)=true:=by
 obtain ⟨h1,h2,h3,h5⟩:=jOk_parts h
 exact jOk_mk (Option.isSome_iff_exists.2 h1) h2 h3 hg
theorem jT_sig {x:Hd} (h:jOk x=true) {g:ByteArray} (hg:g.size≤8192):jT (wSigJ x g)=jT x:=by
 rw [jT_yes h,jT_yes (wSigJ_ok h hg)];rfl
theorem jT_size (x:Hd) (hp:x.p.length=32):(jT x).size≤65536:=by
 cases h:jOk x with
 | false=>rw [jT_no h];exact Nat.zero_le _
 | true =>
   have h0:=jL_ok h hp
   rw [jT_yes h,mkS_size];unfold encL
   have e1:(encTs (jL x)).length≤5 * 8202:=by
    have e3:∀ s ∈ jL x,(encT s).length≤8202:=by
     intro s hs
     have:=h0.2 s hs
     unfold encT
     rw [List.length_append,size_toList]
     have:=encN_len64 s.size (by omega);omega
    unfold encTs
    simp only [jL,List.flatMap_cons,List.flatMap_nil,List.length_append,List.length_nil]
    have q0:=e3 wHead (by simp [jL]);have q1:=e3 x.r (by simp [jL]);have q2:=e3 (mkS (encN x.e.toNat)) (by simp [jL]);have q3:=e3 (mkS (encN x.i.toNat)) (by simp [jL]);have q4:=e3 (mkS x.p) (by simp [jL])
    omega
   have e2:=encN_len64 (jL x).length (by simp [jL])
   rw [List.length_append];omega
end Go.Proofs.YtokakgjcegmabaaGreatDoor.Hd
namespace Go.Proofs.YtokakgjcegmabaaGreatDoor.Hd
open Go.RowKit
open List (getElem_toArray getElem_cons_zero getElem_cons_succ setIfInBounds_toArray set_cons_zero set_cons_succ)
open En (cnt num4 num4_in z32e naS naI rtH u8_one hsV hsE hsV_len ohash_any s_cnv wpL_slc or4 or4_zero or4_any four s_bld wpL_bsE4)
theorem rtHd:Rt.RT Tryz.prog 67 36 zHd.row:=⟨by decide,.inl ⟨_,Tryz.underlying67⟩,by kernel_rfl⟩
theorem Hd.getp {x:Hd} (h:x.p.length=32) (i:Nat) (hi:i<32):x.row[3 + i]?=(u8s x.p)[i]?:=by
 unfold Hd.row
 rw [List.append_assoc,List.getElem?_append_right (by simp),List.getElem?_append_left (by simp [u8s_length,h];omega)]
 congr 1;simp
theorem Hd.same0 (x:Hd):x.row.set 0 (.string x.r)=x.row:=rfl
theorem Hd.same35 {x:Hd} (h:x.p.length=32):x.row.set 35 (.string x.g)=x.row:=Hd.set35 h x.g
theorem Hd.sig35 {x:Hd} (h:x.p.length=32) {s:ByteArray}:x.row.set 35 (.string s)=(wSigJ x s).row:=Hd.set35 h s
theorem conv32 (W:World) (b:Nat) (x:Hd) (hp:x.p.length=32) (ha:Arr W b 67 x.row):(convert 174 9 (.slice (some ⟨b,3,none⟩) 32 32)).run Tryz.prog W=.ok (.string (mkS x.p)) W:=by
 have h:=run_str_at (P:=Tryz.prog) (src:=174) (e:=5) (dst:=9) Tryz.underlying174 Tryz.underlying5 Tryz.underlying9 b 3 32 x.p (w:=W) (fun i hi=>by
  have hi':i<32:=by rw [← hp];exact hi
  have e:=Hd.getp hp i hi'
  have hl:3 + i<x.row.length:=by rw [Hd.len hp];omega
  have hc:=ha.cell (3 + i) hl
  rw [List.getElem?_eq_getElem hl] at e
  rw [show (⟨b,3,none⟩:Addr).off + i=3 + i from rfl]
  rw [hc,e]
  simp [u8s,List.getD_eq_getElem?_getD,hi])
 rw [hp] at h;exact h
theorem jE_of {x:Hd} (h:¬ jOk x=true):jE x=2:=by unfold jE;rw [if_neg h]
theorem jcheck_any (w:World) (x:Hd) (hx:x.ok) (hI:IT w):Calls Tryz.prog 104 #[.agg x.row.toArray] w fun e w'=>e=.returned (.int .i64 (jE x))∧Below w.heap.size w w':=by
 have H:=hidp (Mm.M.nil w)
 have HP:=hidp hx.p
 have cr:=hidp (fun W (h:IT W)=>room_any W x.r (by have:=hx.r;omega) h)
 have HI:=hidp hI;clear hI
 clear hx
 have HOK:=hidp (show jOk x=((who 2 x.r).isSome && cnt x.e && cnt x.i && decide (x.g.size≤8192)) from rfl)
 cases hw:who 2 x.r with
 | none =>
   have HF:=hidp (show jE x=2 from jE_of (by rw [HOK.out,hw];simp))
   rw [hw] at cr;unfold whoV at cr
   clear hw
   go_enter Tryz.func104,Tryz.ntmps104
   have tk0:=hT
   go_wp2_with (first|(clear tk0;(refine Mm.box 67 H rfl (.tmp 0) rfl x.row rfl ?_;clear H;intro b1 _ H nw;clear nw);(try simp only [aR]);have tk1:=hT)|(clear tk1;(refine Mm.ld0 naS H rfl (.tmp 6) 0 (.string x.r) rfl rfl (Hd.get0 _) ?_);(try simp only [aR]);have tk2:=hT)|(clear tk2;(go_at_call 105;refine (cr.out _ (HI.out.below H.out.below (Nat.le_refl _))).mono ?_;rintro e _ ⟨rfl,hb⟩;replace H:=hidp (H.out.call hb);clear hb);(try simp only [aR]);have tk3:=hT))
   try clear tk3
   go_ret
   exact ⟨by rw [HF.out];first | done | rfl,H.out.below⟩
 | some nn =>
   rw [hw] at cr;unfold whoV at cr
   by_cases a1:x.e<0
   · have HF:=hidp (show jE x=2 from jE_of (by rw [HOK.out,show cnt x.e=false from decide_eq_false (by omega)];simp))
     have e1:decide (x.e<0)=true:=by simpa using a1
     clear hw
     go_enter Tryz.func104,Tryz.ntmps104
     have tk0:=hT
     go_wp2_with (first|(clear tk0;(refine Mm.box 67 H rfl (.tmp 0) rfl x.row rfl ?_;clear H;intro b1 _ H nw;clear nw);(try simp only [aR]);have tk1:=hT)|(clear tk1;(refine Mm.ld0 naS H rfl (.tmp 6) 0 (.string x.r) rfl rfl (Hd.get0 _) ?_);(try simp only [aR]);have tk2:=hT)|(clear tk2;(go_at_call 105;refine (cr.out _ (HI.out.below H.out.below (Nat.le_refl _))).mono ?_;rintro e _ ⟨rfl,hb⟩;replace H:=hidp (H.out.call hb);clear hb);(try simp only [aR]);have tk3:=hT)|(clear tk3;(refine Mm.ld0 naI H rfl (.tmp 14) 1 (.int .i64 x.e) rfl rfl (Hd.get1 _) ?_);(try simp only [aR]);have tk4:=hT))
     try clear tk4
     go_ret
     exact ⟨by rw [HF.out];first | done | rfl,H.out.below⟩
   have e1:decide (x.e<0)=false:=by simpa using a1
   by_cases a2:x.e > 4096
   · have HF:=hidp (show jE x=2 from jE_of (by rw [HOK.out,show cnt x.e=false from decide_eq_false (by omega)];simp))
     have e2:decide (x.e > 4096)=true:=by simpa using a2
     have n2:(4096:Int)<x.e:=a2
     clear hw
     go_enter Tryz.func104,Tryz.ntmps104
     have tk0:=hT
     go_wp2_with (first|(clear tk0;(refine Mm.box 67 H rfl (.tmp 0) rfl x.row rfl ?_;clear H;intro b1 _ H nw;clear nw);(try simp only [aR]);have tk1:=hT)|(clear tk1;(refine Mm.ld0 naS H rfl (.tmp 6) 0 (.string x.r) rfl rfl (Hd.get0 _) ?_);(try simp only [aR]);have tk2:=hT)|(clear tk2;(go_at_call 105;refine (cr.out _ (HI.out.below H.out.below (Nat.le_refl _))).mono ?_;rintro e _ ⟨rfl,hb⟩;replace H:=hidp (H.out.call hb);clear hb);(try simp only [aR]);have tk3:=hT)|(clear tk3;(refine Mm.ld0 naI H rfl (.tmp 14) 1 (.int .i64 x.e) rfl rfl (Hd.get1 _) ?_);(try simp only [aR]);have tk4:=hT)|(clear tk4;(refine Mm.ld0 naI H rfl (.tmp 19) 1 (.int .i64 x.e) rfl rfl (Hd.get1 _) ?_);(try simp only [aR]);have tk5:=hT))
     try clear tk5
     go_ret
     exact ⟨by rw [HF.out];first | done | rfl,H.out.below⟩
   have e2:decide (x.e > 4096)=false:=by simpa using a2
   have n2:¬ (4096:Int)<x.e:=a2
   by_cases a3:x.i<0
   · have HF:=hidp (show jE x=2 from jE_of (by rw [HOK.out,show cnt x.i=false from decide_eq_false (by omega)];simp))
     have e3:decide (x.i<0)=true:=by simpa using a3
     clear hw
     go_enter Tryz.func104,Tryz.ntmps104
     have tk0:=hT
     go_wp2_with (first|(clear tk0;(refine Mm.box 67 H rfl (.tmp 0) rfl x.row rfl ?_;clear H;intro b1 _ H nw;clear nw);(try simp only [aR]);have tk1:=hT)|(clear tk1;(refine Mm.ld0 naS H rfl (.tmp 6) 0 (.string x.r) rfl rfl (Hd.get0 _) ?_);(try simp only [aR]);have tk2:=hT)|(clear tk2;(go_at_call 105;refine (cr.out _ (HI.out.below H.out.below (Nat.le_refl _))).mono ?_;rintro e _ ⟨rfl,hb⟩;replace H:=hidp (H.out.call hb);clear hb);(try simp only [aR]);have tk3:=hT)|(clear tk3;(refine Mm.ld0 naI H rfl (.tmp 14) 1 (.int .i64 x.e) rfl rfl (Hd.get1 _) ?_);(try simp only [aR]);have tk4:=hT)|(clear tk4;(refine Mm.ld0 naI H rfl (.tmp 19) 1 (.int .i64 x.e) rfl rfl (Hd.get1 _) ?_);(try simp only [aR]);have tk5:=hT)|(clear tk5;(refine Mm.ld0 naI H rfl (.tmp 24) 2 (.int .i64 x.i) rfl rfl (Hd.get2 _) ?_);(try simp only [aR]);have tk6:=hT))
     try clear tk6
     go_ret
     exact ⟨by rw [HF.out];first | done | rfl,H.out.below⟩
   have e3:decide (x.i<0)=false:=by simpa using a3
   by_cases a4:x.i > 4096
   · have HF:=hidp (show jE x=2 from jE_of (by rw [HOK.out,show cnt x.i=false from decide_eq_false (by omega)];simp))
     have e4:decide (x.i > 4096)=true:=by simpa using a4
     have n4:(4096:Int)<x.i:=a4
     clear hw
     go_enter Tryz.func104,Tryz.ntmps104
     have tk0:=hT
     go_wp2_with (first|(clear tk0;(refine Mm.box 67 H rfl (.tmp 0) rfl x.row rfl ?_;clear H;intro b1 _ H nw;clear nw);(try simp only [aR]);have tk1:=hT)|(clear tk1;(refine Mm.ld0 naS H rfl (.tmp 6) 0 (.string x.r) rfl rfl (Hd.get0 _) ?_);(try simp only [aR]);have tk2:=hT)|(clear tk2;(go_at_call 105;refine (cr.out _ (HI.out.below H.out.below (Nat.le_refl _))).mono ?_;rintro e _ ⟨rfl,hb⟩;replace H:=hidp (H.out.call hb);clear hb);(try simp only [aR]);have tk3:=hT)|(clear tk3;(refine Mm.ld0 naI H rfl (.tmp 14) 1 (.int .i64 x.e) rfl rfl (Hd.get1 _) ?_);(try simp only [aR]);have tk4:=hT)|(clear tk4;(refine Mm.ld0 naI H rfl (.tmp 19) 1 (.int .i64 x.e) rfl rfl (Hd.get1 _) ?_);(try simp only [aR]);have tk5:=hT)|(clear tk5;(refine Mm.ld0 naI H rfl (.tmp 24) 2 (.int .i64 x.i) rfl rfl (Hd.get2 _) ?_);(try simp only [aR]);have tk6:=hT)|(clear tk6;(refine Mm.ld0 naI H rfl (.tmp 29) 2 (.int .i64 x.i) rfl rfl (Hd.get2 _) ?_);(try simp only [aR]);have tk7:=hT))
     try clear tk7
     go_ret
     exact ⟨by rw [HF.out];first | done | rfl,H.out.below⟩
   have e4:decide (x.i > 4096)=false:=by simpa using a4
   have n4:¬ (4096:Int)<x.i:=a4
   by_cases hg:x.g.size≤8192
   · have e6:decide ((x.g.size:Int) > 8192)=false:=by simp;omega
     have n6:¬ (8192:Int)<(x.g.size:Int):=by omega
     have HF:=hidp (show jE x=0 from jE_yes (by rw [HOK.out,hw,show cnt x.e=true from decide_eq_true (by omega),show cnt x.i=true from decide_eq_true (by omega)];simp [hg]))
     clear hw hg
     go_enter Tryz.func104,Tryz.ntmps104
     have tk0:=hT
     go_wp2_with (first|(clear tk0;(refine Mm.box 67 H rfl (.tmp 0) rfl x.row rfl ?_;clear H;intro b1 _ H nw;clear nw);(try simp only [aR]);have tk1:=hT)|(clear tk1;(refine Mm.ld0 naS H rfl (.tmp 6) 0 (.string x.r) rfl rfl (Hd.get0 _) ?_);(try simp only [aR]);have tk2:=hT)|(clear tk2;(go_at_call 105;refine (cr.out _ (HI.out.below H.out.below (Nat.le_refl _))).mono ?_;rintro e _ ⟨rfl,hb⟩;replace H:=hidp (H.out.call hb);clear hb);(try simp only [aR]);have tk3:=hT)|(clear tk3;(refine Mm.ld0 naI H rfl (.tmp 14) 1 (.int .i64 x.e) rfl rfl (Hd.get1 _) ?_);(try simp only [aR]);have tk4:=hT)|(clear tk4;(refine Mm.ld0 naI H rfl (.tmp 19) 1 (.int .i64 x.e) rfl rfl (Hd.get1 _) ?_);(try simp only [aR]);have tk5:=hT)|(clear tk5;(refine Mm.ld0 naI H rfl (.tmp 24) 2 (.int .i64 x.i) rfl rfl (Hd.get2 _) ?_);(try simp only [aR]);have tk6:=hT)|(clear tk6;(refine Mm.ld0 naI H rfl (.tmp 29) 2 (.int .i64 x.i) rfl rfl (Hd.get2 _) ?_);(try simp only [aR]);have tk7:=hT)|(clear tk7;(refine Mm.ld0 naS H rfl (.tmp 34) 35 (.string x.g) rfl rfl (Hd.get35 HP.out) ?_);(try simp only [aR]);have tk8:=hT))
     try clear tk8
     go_ret
     exact ⟨by rw [HF.out];first | done | rfl,H.out.below⟩
   · have e6:decide ((x.g.size:Int) > 8192)=true:=by simp;omega
     have n6:(8192:Int)<(x.g.size:Int):=by omega
     have HF:=hidp (show jE x=2 from jE_of (by rw [HOK.out];simp [hg]))
     clear hw hg
     go_enter Tryz.func104,Tryz.ntmps104
     have tk0:=hT
     go_wp2_with (first|(clear tk0;(refine Mm.box 67 H rfl (.tmp 0) rfl x.row rfl ?_;clear H;intro b1 _ H nw;clear nw);(try simp only [aR]);have tk1:=hT)|(clear tk1;(refine Mm.ld0 naS H rfl (.tmp 6) 0 (.string x.r) rfl rfl (Hd.get0 _) ?_);(try simp only [aR]);have tk2:=hT)|(clear tk2;(go_at_call 105;refine (cr.out _ (HI.out.below H.out.below (Nat.le_refl _))).mono ?_;rintro e _ ⟨rfl,hb⟩;replace H:=hidp (H.out.call hb);clear hb);(try simp only [aR]);have tk3:=hT)|(clear tk3;(refine Mm.ld0 naI H rfl (.tmp 14) 1 (.int .i64 x.e) rfl rfl (Hd.get1 _) ?_);(try simp only [aR]);have tk4:=hT)|(clear tk4;(refine Mm.ld0 naI H rfl (.tmp 19) 1 (.int .i64 x.e) rfl rfl (Hd.get1 _) ?_);(try simp only [aR]);have tk5:=hT)|(clear tk5;(refine Mm.ld0 naI H rfl (.tmp 24) 2 (.int .i64 x.i) rfl rfl (Hd.get2 _) ?_);(try simp only [aR]);have tk6:=hT)|(clear tk6;(refine Mm.ld0 naI H rfl (.tmp 29) 2 (.int .i64 x.i) rfl rfl (Hd.get2 _) ?_);(try simp only [aR]);have tk7:=hT)|(clear tk7;(refine Mm.ld0 naS H rfl (.tmp 34) 35 (.string x.g) rfl rfl (Hd.get35 HP.out) ?_);(try simp only [aR]);have tk8:=hT))
     try clear tk8
     go_ret
     exact ⟨by rw [HF.out];first | done | rfl,H.out.below⟩
end Go.Proofs.YtokakgjcegmabaaGreatDoor.Hd
