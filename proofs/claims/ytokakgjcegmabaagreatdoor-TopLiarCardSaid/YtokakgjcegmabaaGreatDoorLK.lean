import Derived.Test.YtokakgjcegmabaaGreatDoorLE
import Derived.Test.YtokakgjcegmabaaGreatDoorCards
import Derived.Test.YtokakgjcegmabaaGreatDoorTie
import Derived.ProofKit
import Derived.OpenShut
import Derived.ShutString
import Derived.SliceStrings
import Derived.SizedLaws
import Derived.Deep.DeepHandedRow
import Derived.Lib.LaidTab
import Derived.Test.YtokakgjcegmabaaGreatDoorLG
import Derived.Test.YtokakgjcegmabaaGreatDoorLH
import Derived.BigQuiet
import Derived.Deep.QuietTactic
import Derived.Test.YtokakgjcegmabaaGreatDoorLI
import Derived.Test.YtokakgjcegmabaaGreatDoorLA
import Derived.Test.YtokakgjcegmabaaGreatDoorLJ
import Derived.Test.YtokakgjcegmabaaGreatDoorIdLib
set_option linter.unusedVariables false
set_option linter.unusedSimpArgs false
set_option maxHeartbeats 64000000
set_option maxRecDepth 100000
namespace Go.Proofs.YtokakgjcegmabaaGreatDoor
section
open Go.RowKit Go.ChangeShapes Go.WideShapes Go.ChangeAt
def hashD {H:Type} (l:List UInt8):DataW H:=.agg (l.map fun b=>.lit (.int .u8 (b.toNat:Int)))
section
variable {H:Type} {enc:TypeId × Value→H} {w:World} {base:Nat} {spare:Nat→Bool} {held:Bool}
end
def kkI:List Int:=kk.map fun (n:Nat)=>(n:Int)
theorem gTab : Tryz.prog.globalNamed "palaver/sha.constants" = some 2 := by kernel_rfl
theorem gTabType:(Tryz.prog.globals[2]?).map (·.type)=some 247:=by kernel_rfl
theorem cellsTab:Tryz.prog.cellsOf 247=64:=by kernel_rfl
theorem cells32:Tryz.prog.cellsOf 233=1:=by kernel_rfl
theorem tabData_eq {H:Type}:(Rows.laid_palaver_sha_constants:DataW H)=Lib.tabData .u32 kkI:=by kernel_rfl
theorem kt_of_laid {W : World} {rest : List (String × DataW Unit)} (h : laidMet Tryz.prog (("palaver/sha.constants", Rows.laid_palaver_sha_constants) :: rest) W) : KT W := by
 rw [tabData_eq] at h
 have t : Lib.TabIs Tryz.prog W "palaver/sha.constants" .u32 kkI := Lib.tabIs_of_head gTab gTabType Tryz.underlying247 Tryz.underlying233 cells32 cellsTab h
 intro i hi
 have hk:kkI.length=64:=by kernel_rfl
 have:=t.cell gTab i (by omega)
 rw [this]
 congr 2
 simp [kkI,List.getD_eq_getElem?_getD,show kk.length=64 from by kernel_rfl,hi]
end
section
open Go.RowKit
def hiK (H:Int):Bool:=decide (0≤H∧H≤7)
def kyOk (S:ByteArray) (H N:Int):Bool:=decide (1≤S.size∧S.size≤64) && hiK H && decide (0≤N∧N≤((2 ^ H.toNat:Nat):Int))
def kyE (S:ByteArray) (H N:Int):Int:=if kyOk S H N=true then 0 else 2
def seedL (S:List UInt8) (i:Nat):List UInt8:=midL (5 :: UInt8.ofNat i :: S)
def leafL (S:List UInt8) (h:Nat):List (List UInt8):=(List.range (2 ^ h)).map fun i=>pubL (seedL S i)
theorem seedL_len (S:List UInt8) (i:Nat):(seedL S i).length=16:=midL_len _
theorem leafL_len (S:List UInt8) (h:Nat):(leafL S h).length=2 ^ h:=by simp [leafL]
theorem leafL_32 (S:List UInt8) (h:Nat):All32 (leafL S h):=by
 intro x hx
 simp only [leafL,List.mem_map] at hx
 obtain ⟨i,_,rfl⟩:=hx
 exact pubL_len _
theorem leafL_get (S:List UInt8) (h i:Nat) (hi:i<2 ^ h):(leafL S h)[i]'(by rw [leafL_len];exact hi)=pubL (seedL S i):=by simp [leafL]
theorem pow_le7 {h:Nat} (hh:h≤7):2 ^ h≤128:=by
 have:=Nat.pow_le_pow_right (show 0<2 by omega) hh
 have e:(2:Nat) ^ 7=128:=by decide
 omega
theorem pow_pos2 (h:Nat):0<2 ^ h:=Nat.pow_pos (by omega)
theorem fit_pow:∀ h,h≤7→fitN (2 ^ h)=true:=by
 intro h hh
 have:∀ k:Fin 8,fitN (2 ^ k.val)=true:=by decide +kernel
 exact this ⟨h,by omega⟩
theorem rootE_leaf (S:List UInt8) {h:Nat} (hh:h≤7):rootE (leafL S h).length=0:=by rw [leafL_len];exact if_pos (fit_pow h hh)
theorem okP_leaf (S:List UInt8) {h i:Nat} (hh:h≤7) (hi:i<2 ^ h):okP (leafL S h).length (i:Int)=true:=by
 unfold okP
 rw [leafL_len,fit_pow h hh]
 obtain ⟨P,hP⟩:∃ P,2 ^ h=P:=⟨_,rfl⟩
 rw [hP] at hi ⊢
 exact decide_eq_true (show (0:Int)≤(i:Int)∧(i:Int)<(P:Int) from ⟨by omega,by omega⟩)
theorem pathE_leaf (S:List UInt8) {h i:Nat} (hh:h≤7) (hi:i<2 ^ h):pathE (leafL S h).length (i:Int)=0:=if_pos (okP_leaf S hh hi)
def keyR (S:ByteArray) (H N:Int):List UInt8:=if kyOk S H N=true then rootV (leafL S.data.toList H.toNat) else z32
theorem keyR_len (S:ByteArray) (H N:Int):(keyR S H N).length=32:=by
 unfold keyR;split
 · exact rootV_len _ (leafL_32 _ _)
 · rfl
def flat (p:List (List UInt8)):List UInt8:=p.flatMap id
theorem flat_snoc (p:List (List UInt8)) (x:List UInt8):flat (p++[x])=flat p++x:=by simp [flat]
theorem flat_len {p:List (List UInt8)} (h:All32 p):(flat p).length=32 * p.length:=by
 induction p with
 | nil=>rfl
 | cons a p ih =>
   have e:flat (a :: p)=a++flat p:=rfl
   rw [e,List.length_append,ih h.tail,h a (by simp),List.length_cons];omega
def sigH (S:List UInt8) (i:Nat) (t:List UInt8):List UInt8:=UInt8.ofNat i :: signL (seedL S i) t
def sigL (S:List UInt8) (h i:Nat) (t:List UInt8):List UInt8:=sigH S i t++flat (pathV (leafL S h) i)
def sgE (S:ByteArray) (H N:Int):Int:=if kyOk S H N=true then (if N=((2 ^ H.toNat:Nat):Int) then 10 else 0) else 2
def plV (H:Int) (g:ByteArray):Option Nat:=if hiK H=true∧(g.size:Int)=1089 + 32 * H∧(g.data.toList.getD 0 0).toNat<2 ^ H.toNat then some (g.data.toList.getD 0 0).toNat else none
def hashesL (l:List UInt8):List (List UInt8):=(List.range (l.length / 32)).map fun i=>(l.drop (32 * i)).take 32
theorem hashesL_len (l:List UInt8):(hashesL l).length=l.length / 32:=by simp [hashesL]
theorem hashesL_32 (l:List UInt8):All32 (hashesL l):=by
 intro x hx
 simp only [hashesL,List.mem_map,List.mem_range] at hx
 obtain ⟨i,hi,rfl⟩:=hx
 rw [List.length_take,List.length_drop];omega
def vfE (root:List UInt8) (H:Int) (t g:ByteArray):Int :=
 match plV H g with
 | none=>2
 | some i=>if climbV (recV t.data.toList ((g.data.toList.drop 1).take 1088)) i (hashesL (g.data.toList.drop 1089))=root then 0 else 9
theorem plV_some {H:Int} {g:ByteArray} {i:Nat} (h:plV H g=some i):hiK H=true∧(g.size:Int)=1089 + 32 * H∧i<2 ^ H.toNat∧(g.data.toList.getD 0 0).toNat=i:=by
 unfold plV at h
 split at h
 · rename_i hh
   simp only [Option.some.injEq] at h
   subst h
   exact ⟨hh.1,hh.2.1,hh.2.2,rfl⟩
 · cases h
theorem hiK_yes {H:Int} (h:hiK H=true):0≤H∧H≤7:=of_decide_eq_true h
theorem kyOk_parts {S:ByteArray} {H N:Int} (h:kyOk S H N=true):(1≤S.size∧S.size≤64)∧(0≤H∧H≤7)∧0≤N∧N≤((2 ^ H.toNat:Nat):Int):=by
 unfold kyOk at h
 simp only [Bool.and_eq_true,decide_eq_true_eq] at h
 exact ⟨h.1.1,hiK_yes h.1.2,h.2⟩
end
section
open Go.RowKit
theorem arr3k {w:World} {b T:Nat} {x0 x1 x2:Value} (h:Arr w b T [x0,x1,x2]):w.cell? ⟨b,0,none⟩=some x0∧w.cell? ⟨b,1,none⟩=some x1∧w.cell? ⟨b,2,none⟩=some x2∧∀ i,w.frozen? ⟨b,i,none⟩=false :=
 ⟨h.cell 0 (by simp),h.cell 1 (by simp),h.cell 2 (by simp),h.frozen⟩
theorem drewB {W w:World} (h:Below W.heap.size W w) (n:Nat):Below W.heap.size W (w.drewN n):=below_drewN h n
theorem permitted_any (w:World) (H:Int) :
 Calls Tryz.prog 115 #[.int .i64 H] w fun e w'=>e=.returned (.bool (hiK H))∧w'=w:=by
 by_cases h0:0≤H
 · have e0:decide (0≤H)=true:=by simpa using h0
   by_cases h7:H≤7
   · have e1:decide (H≤7)=true:=by simpa using h7
     have HF:=hidp (show hiK H=true from decide_eq_true ⟨h0,h7⟩)
     go_enter Tryz.func115,Tryz.ntmps115
     go_wp2
     go_ret
     exact ⟨by rw [HF.out];rfl,rfl⟩
   · have e1:decide (H≤7)=false:=by simpa using h7
     have HF:=hidp (show hiK H=false from decide_eq_false (fun h=>h7 h.2))
     go_enter Tryz.func115,Tryz.ntmps115
     go_wp2
     go_ret
     exact ⟨by rw [HF.out];rfl,rfl⟩
 · have e0:decide (0≤H)=false:=by simpa using h0
   have HF:=hidp (show hiK H=false from decide_eq_false (fun h=>h0 h.1))
   go_enter Tryz.func115,Tryz.ntmps115
   go_wp2
   go_ret
   exact ⟨by rw [HF.out];rfl,rfl⟩
theorem shl_pow {h:Nat} (hh:h≤7):IntKind.i64.wrap (1 * 2 ^ h)=((2 ^ h:Nat):Int):=by
 have h1:=pow_le7 hh
 have e:(1:Int) * 2 ^ h=((2 ^ h:Nat):Int):=by simp
 rw [e]
 obtain ⟨P,hP⟩:∃ P,2 ^ h=P:=⟨_,rfl⟩
 rw [hP] at h1 ⊢
 rw [IntKind.wrap_i64];omega
theorem indices_any (w:World) (h:Nat) (hh:h≤7) :
 Calls Tryz.prog 116 #[.int .i64 (h:Int)] w fun e w'=>e=.returned (.int .i64 ((2 ^ h:Nat):Int))∧w'=w:=by
 have hs:=shl_pow hh
 have hs2:IntKind.i64.wrap (2 ^ h)=((2 ^ h:Nat):Int):=by rw [← hs];simp
 obtain ⟨P,hP⟩:∃ P,2 ^ h=P:=⟨_,rfl⟩
 rw [hP] at hs hs2 ⊢
 have h0:(0:Int)≤(h:Int):=by omega
 have h7:(h:Int)<64:=by omega
 have ht:((h:Int)).toNat=h:=by simp
 go_enter Tryz.func116,Tryz.ntmps116
 go_wp2
 go_ret
 exact ⟨rfl,rfl⟩
theorem empty_factsk {y:ByteArray} (h:y.size=0):y.toList=[]∧y.toList.isEmpty=true∧(y.toList == (⟨#[]⟩:ByteArray).toList)=true:=by
 have h1:y.toList=[]:=by rw [ByteArray.toList_eq];exact List.eq_nil_of_length_eq_zero ((size_toList y).trans h)
 exact ⟨h1,by rw [h1];rfl,by rw [h1,ByteArray.toList_eq];rfl⟩
theorem full_factsk {y:ByteArray} (h:¬ y.size=0):¬ y.toList=[]∧y.toList.isEmpty=false∧(y.toList == (⟨#[]⟩:ByteArray).toList)=false:=by
 have h1:¬ y.toList=[]:=fun e=>h (by rw [← size_toList,← ByteArray.toList_eq,e];rfl)
 refine ⟨h1,?_,toList_no (fun e=>h (by rw [e];rfl))⟩
 cases hq:y.toList with
 | nil=>exact absurd hq h1
 | cons a r=>rfl
theorem kyCheck_any (w:World) (S:ByteArray) (H N:Int) :
 Calls Tryz.prog 61 #[.agg #[.string S,.int .i64 H,.int .i64 N]] w fun e w'=>e=.returned (.int .i64 (kyE S H N))∧Below w.heap.size w w':=by
 have c1:=hidp (fun W=>permitted_any W H)
 have hSz:S.size=0∨¬ S.size=0:=by omega
 by_cases h0:S.size=0
 · obtain ⟨f1,f2,f3⟩:=empty_factsk h0
   have g0:decide ((S.size:Int)<1)=true:=by simp;omega
   have gn0:(S.size:Int)<1:=by omega
   have HF:=hidp (show kyE S H N=2 from by unfold kyE kyOk;rw [decide_eq_false (show ¬ (1≤S.size∧S.size≤64) from by omega)];rfl)
   clear h0 hSz
   have HX:=hidp ((Below.refl w.heap.size w).alloc (Nat.le_refl _) (.cells #[.string S,.int .i64 H,.int .i64 N] 23))
   go_enter Tryz.func61,Tryz.ntmps61
   go_wp2_with fail
   go_ret
   exact ⟨by rw [HF.out];rfl,HX.out⟩
 · obtain ⟨f1,f2,f3⟩:=full_factsk h0
   have g0:decide ((S.size:Int)<1)=false:=by simp;omega
   have gn0:¬ (S.size:Int)<1:=by omega
   by_cases h64:64<S.size
   · have e1:decide ((64:Int)<(S.size:Int))=true:=by simp;omega
     have n1:(64:Int)<(S.size:Int):=by omega
     have HF:=hidp (show kyE S H N=2 from by unfold kyE kyOk;rw [decide_eq_false (show ¬ (1≤S.size∧S.size≤64) from by omega)];rfl)
     clear h0 hSz h64
     have HX:=hidp ((Below.refl w.heap.size w).alloc (Nat.le_refl _) (.cells #[.string S,.int .i64 H,.int .i64 N] 23))
     go_enter Tryz.func61,Tryz.ntmps61
     go_wp2_with fail
     go_ret
     exact ⟨by rw [HF.out];rfl,HX.out⟩
   · have e1:decide ((64:Int)<(S.size:Int))=false:=by simp;omega
     have n1:¬ (64:Int)<(S.size:Int):=by omega
     cases hH:hiK H with
     | false =>
       rw [hH] at c1
       have HF:=hidp (show kyE S H N=2 from by unfold kyE kyOk;rw [hH];simp)
       clear h0 hSz h64 hH
       have HX:=hidp ((Below.refl w.heap.size w).alloc (Nat.le_refl _) (.cells #[.string S,.int .i64 H,.int .i64 N] 23))
       go_enter Tryz.func61,Tryz.ntmps61
       go_wp2_with (go_at_call 115;(refine (c1.out _).mono ?_);rintro e w' ⟨rfl,rfl⟩)
       go_ret
       exact ⟨by rw [HF.out];rfl,HX.out⟩
     | true =>
       rw [hH] at c1
       obtain ⟨hH0,hH7⟩:=hiK_yes hH
       obtain ⟨h,rfl⟩:∃ h:Nat,H=h:=⟨H.toNat,by omega⟩
       have c2:=hidp (fun W=>indices_any W h (by omega))
       have hP:=pow_le7 (h:=h) (by omega)
       have hE:kyE S h N=if 0≤N∧N≤((2 ^ h:Nat):Int) then 0 else 2:=by
        unfold kyE kyOk
        rw [hH,decide_eq_true (show (1≤S.size∧S.size≤64) from by omega),Int.toNat_natCast]
        by_cases hq:0≤N∧N≤((2 ^ h:Nat):Int)
        · rw [decide_eq_true hq,if_pos hq];rfl
        · rw [decide_eq_false hq,if_neg hq];rfl
       obtain ⟨P,hPP⟩:∃ P,2 ^ h=P:=⟨_,rfl⟩
       rw [hPP] at c2 hE hP
       clear h0 hSz h64 hPP hH
       by_cases hN0:N<0
       · have e2:decide (N<0)=true:=by simpa using hN0
         have HF:=hidp (show kyE S h N=2 from by rw [hE,if_neg (by omega)])
         clear hE
         have HX:=hidp ((Below.refl w.heap.size w).alloc (Nat.le_refl _) (.cells #[.string S,.int .i64 (h:Int),.int .i64 N] 23))
         go_enter Tryz.func61,Tryz.ntmps61
         go_wp2_with (go_at_call 115;(refine (c1.out _).mono ?_);rintro e w' ⟨rfl,rfl⟩)
         go_quiet ((go_at_call 116;exact Calls.quiet_of_same (c2.out _)))
         go_wp2
         go_ret
         exact ⟨by rw [HF.out];rfl,drewB HX.out _⟩
       · have e2:decide (N<0)=false:=by simpa using hN0
         by_cases hNP:(P:Int)<N
         · have e3:decide ((P:Int)<N)=true:=by simpa using hNP
           have HF:=hidp (show kyE S h N=2 from by rw [hE,if_neg (by omega)])
           clear hE
           have HX:=hidp ((Below.refl w.heap.size w).alloc (Nat.le_refl _) (.cells #[.string S,.int .i64 (h:Int),.int .i64 N] 23))
           go_enter Tryz.func61,Tryz.ntmps61
           go_wp2_with (go_at_call 115;(refine (c1.out _).mono ?_);rintro e w' ⟨rfl,rfl⟩)
           go_quiet ((go_at_call 116;exact Calls.quiet_of_same (c2.out _)))
           go_wp2
           go_ret
           exact ⟨by rw [HF.out];rfl,drewB HX.out _⟩
         · have e3:decide ((P:Int)<N)=false:=by simpa using hNP
           have HF:=hidp (show kyE S h N=0 from by rw [hE,if_pos (by omega)])
           clear hE
           have HX:=hidp ((Below.refl w.heap.size w).alloc (Nat.le_refl _) (.cells #[.string S,.int .i64 (h:Int),.int .i64 N] 23))
           go_enter Tryz.func61,Tryz.ntmps61
           go_wp2_with (go_at_call 115;(refine (c1.out _).mono ?_);rintro e w' ⟨rfl,rfl⟩)
           go_quiet ((go_at_call 116;exact Calls.quiet_of_same (c2.out _)))
           go_wp2
           go_ret
           exact ⟨by rw [HF.out];rfl,drewB HX.out _⟩
end
section
open Go.RowKit
theorem seed_cat (S:ByteArray) (i:Nat):(⟨#[5]⟩:ByteArray)++mkS [UInt8.ofNat i]++S=mkS (5 :: UInt8.ofNat i :: S.data.toList):=by
 have e:(⟨#[5]⟩:ByteArray)=mkS [5]:=rfl
 rw [e,← mkS_of S,mkS_append,mkS_append,mkS_data];rfl
theorem kseed_any (w:World) (S:ByteArray) (h:Nat) (N:Int) (hS:S.size≤64) (i:Nat) (hi:i<256) (hK:KT w) :
 Calls Tryz.prog 142 #[.agg #[.string S,.int .i64 (h:Int),.int .i64 N],.int .i64 (i:Int)] w fun e w'=>e=.returned (.string (mkS (seedL S.data.toList i)))∧Below w.heap.size w w':=by
 have HX:=hidp ((Below.refl w.heap.size w).alloc (Nat.le_refl _) (.cells #[.string S,.int .i64 (h:Int),.int .i64 N] 23))
 have HA:=hidp (Arr.new w 23 [.string S,.int .i64 (h:Int),.int .i64 N])
 have hw1:IntKind.u8.wrap (i:Int)=(i:Int):=by unfold IntKind.wrap;simp [IntKind.bits,IntKind.signed];omega
 have hc:=run_str_one (P:=Tryz.prog) (w:=w.alloc (.cells #[.string S,.int .i64 (h:Int),.int .i64 N] 23)) Tryz.underlying174 Tryz.underlying5 Tryz.underlying9 (i:Int) (UInt8.ofNat i) (by rw [u8n _ hi])
 rw [heap_size_alloc] at hc
 have hcat:=seed_cat S i
 have hX2:=hidp (HX.out.alloc HX.out.size (.cells #[.int .u8 (i:Int)] 5))
 have hA2:=hidp (HA.out.alloc (.cells #[.int .u8 (i:Int)] 5))
 obtain ⟨B1,hB1⟩:∃ x,mkS [UInt8.ofNat i]=x:=⟨_,rfl⟩
 have hB1s:B1.size=1:=by rw [← hB1,mkS_size];rfl
 have h5s:(⟨#[5]⟩:ByteArray).size=1:=rfl
 rw [hB1] at hc hcat
 obtain ⟨X,hX⟩:∃ x,(⟨#[5]⟩:ByteArray)++B1++S=x:=⟨_,rfl⟩
 have hXs:X.size≤66:=by rw [← hX,ByteArray.size_append,ByteArray.size_append,hB1s,h5s];omega
 have hm:mkS ((shaL X.data.toList).take 16)=mkS (seedL S.data.toList i):=by rw [← hX,hcat,mkS_data];unfold seedL midL;rfl
 obtain ⟨M,hM⟩:∃ x,mkS (seedL S.data.toList i)=x:=⟨_,rfl⟩
 rw [hM] at hm ⊢
 have cm:=hidp (show ∀ W,KT W→Calls Tryz.prog 178 #[.string X] W fun e w'=>e=.returned (.string M)∧Below W.heap.size W w' from fun W k=>by
  have:=mid_any W X (by omega) k
  rw [hm] at this;exact this)
 clear hm hM hB1 hcat
 have HK:=hidp hK;have hkp:=hK.pos;clear hK
 have hX0:=hX
 obtain ⟨x0,x1,x2,-⟩:=arr3k hA2.out
 go_enter Tryz.func142,Tryz.ntmps142
 go_wp2_with fail
 refine (cm.out _ (HK.out.below hX2.out hkp)).mono ?_
 rintro e w1 ⟨rfl,hb1⟩
 have HB1:=hidp (hX2.out.trans (hb1.mono hX2.out.size))
 clear hb1
 go_wp2_with fail
 go_ret
 exact ⟨rfl,HB1.out⟩
theorem key_row:∃ fs,Tryz.prog.underlying 23=some (.struct fs):=⟨_,Tryz.underlying23⟩
theorem publics_any (w:World) (S:ByteArray) (h:Nat) (N:Int) (hS:S.size≤64) (hh:h≤7) (hK:KT w) :
 Calls Tryz.prog 130 #[.agg #[.string S,.int .i64 (h:Int),.int .i64 N]] w fun e w'=>∃ v,e=.returned v∧HsAt w' v (leafL S.data.toList h)∧Below w.heap.size w w':=by
 have HK:=hidp hK;have hkp:=hK.pos
 clear hK
 have ci:=hidp (fun W=>indices_any W h hh)
 have hP128:=pow_le7 hh;have hP1:=pow_pos2 h
 have hLl:=leafL_len S.data.toList h
 have hL32:=hidp (leafL_32 S.data.toList h)
 have hLg:=hidp (fun i hi=>leafL_get S.data.toList h i hi)
 obtain ⟨P,hP⟩:∃ P,2 ^ h=P:=⟨_,rfl⟩
 obtain ⟨L,hL⟩:∃ L,leafL S.data.toList h=L:=⟨_,rfl⟩
 have HLg:=hidp (show ∀ i (hi:i<L.length),L[i]'hi=pubL (seedL S.data.toList i) from fun i hi=>by
  subst hL
  exact hLg.out i (by rw [hLl] at hi;exact hi))
 rw [hP] at ci hP128 hP1 hLl
 rw [hL] at hLl hL32 ⊢
 have HLL:=hidp hLl
 clear hL hLg hP hLl
 have cs:=hidp (fun W i (hi:i<256) (k:KT W)=>kseed_any W S h N hS i hi k)
 have cp:=hidp (fun W (s:ByteArray) (hs:s.size≤1048576) (k:KT W)=>public_any W s hs k)
 go_enter Tryz.func130,Tryz.ntmps130
 go_wp2_with (first
  | (go_at_call 116;(refine (ci.out _).mono ?_);rintro e w' ⟨rfl,rfl⟩)
  | (refine wpL_mk rfl (.tmp 7) rfl P rfl (by omega) ?_;intro b3 w3 n3))
 have HX:=hidp ((Below.refl w.heap.size w).alloc (Nat.le_refl _) (.cells #[.string S,.int .i64 (h:Int),.int .i64 N] 23))
 have hB3:=hidp (HX.out.trans (n3.below.mono HX.out.size))
 have hA1:=hidp (n3.old (Arr.new w 23 [.string S,.int .i64 (h:Int),.int .i64 N]))
 have hA3:=hidp n3.arr
 have h3w:=hidp (show w.heap.size≤b3 from Nat.le_trans HX.out.size n3.le)
 have h13:=hidp (show w.heap.size≠b3 from by have:=n3.at_;have:=HX.out.size;rw [heap_size_alloc] at *;omega)
 clear n3
 go_loopw [11] (fun t11 wr=>∃ i:Nat,t11=.int .i64 (i:Int)∧i≤P∧Arr wr b3 58 (cat32 (L.take i++List.replicate (P - i) z32))∧Arr wr w.heap.size 23 [.string S,.int .i64 (h:Int),.int .i64 N]∧Below w.heap.size w wr) (fun t11 _=>P - (intOf t11).toNat)
 case atStart=>exact ⟨0,rfl,by omega,by simpa using hA3.out,hA1.out,hB3.out⟩
 case round =>
  obtain ⟨i,rfl,hi,hc,ha1,hbw⟩:=hrel
  have HC:=hidp hc;have HA1:=hidp ha1;have HBW:=hidp hbw
  clear hc ha1 hbw hA1 hA3 hB3 HX
  by_cases hlt:i<P
  · have e0:decide ((i:Int)<(P:Int))=true:=by simp;omega
    have n0:i<P:=hlt
    have hil:i<L.length:=by rw [HLL.out];exact hlt
    have hrs:=row_set L P i HLL.out hlt
    rw [HLg.out i hil] at hrs
    have HRS:=hidp hrs
    have hzl:=hidp (pubL_len (seedL S.data.toList i))
    obtain ⟨z,hz⟩:∃ z,pubL (seedL S.data.toList i)=z:=⟨_,rfl⟩
    obtain ⟨sd,hsd⟩:∃ z,mkS (seedL S.data.toList i)=z:=⟨_,rfl⟩
    have hsz:sd.size≤1048576:=by rw [← hsd,mkS_size,seedL_len];omega
    have c1:=hidp (fun W (k:KT W)=>cs.out W i (by omega) k)
    have c2:=hidp (fun W (k:KT W)=>cp.out W sd hsz k)
    have hsd2:sd.data.toList=seedL S.data.toList i:=by rw [← hsd,mkS_data]
    rw [hsd] at c1
    rw [hsd2,hz] at c2
    rw [hz] at hzl HRS
    clear hrs hz hsd hsd2
    obtain ⟨x0,x1,x2,-⟩:=arr3k HA1.out
    go_wp2_with fail
    clear x0 x1 x2
    refine (c1.out _ (HK.out.below HBW.out hkp)).mono ?_
    rintro e w4 ⟨rfl,hb4⟩
    have HB4:=hidp (HBW.out.trans (hb4.mono HBW.out.size));have HC4:=hidp (HC.out.below hb4 HC.out.lt);have HA4:=hidp (HA1.out.below hb4 HA1.out.lt)
    clear hb4
    go_wp2_with fail
    refine (c2.out _ (HK.out.below HB4.out hkp)).mono ?_
    rintro e w5 ⟨rfl,hb5⟩
    have HB5:=hidp (HB4.out.trans (hb5.mono HB4.out.size));have HC5:=hidp (HC4.out.below hb5 HC4.out.lt);have HA5:=hidp (HA4.out.below hb5 HA4.out.lt)
    clear hb5
    have hrl:=hidp (show All32 (L.take i++List.replicate (P - i) z32) from (hL32.out.take i).app (All32.rep _))
    have hin:=hidp (show i<(L.take i++List.replicate (P - i) z32).length from by rw [List.length_append,List.length_take,List.length_replicate,HLL.out];omega)
    go_wp2_with (first
     | (refine wpL_idx rfl (.tmp 14) (.tmp 15) rfl b3 0 _ _ i rfl rfl hlt ?_)
     | (refine wpL_putAt rfl (.tmp 20) (.tmp 19) rfl b3 i z _ rfl rfl hzl.out hrl.out hin.out HC5.out ?_;intro w6 ha6 hp6
        have ha6:=hidp ha6))
    exact ⟨⟨i + 1,by go_num,by omega,by rw [← HRS.out];exact ha6.out,hp6.arr h13.out HA5.out,hp6.below' HB5.out h3w.out⟩,by simp [intOf];omega⟩
  · have e0:decide ((i:Int)<(P:Int))=false:=by simp;omega
    have n0:¬ i<P:=hlt
    have hiP:i=P:=by omega
    have hF:=HC.out
    rw [hiP,List.take_of_length_le (by rw [HLL.out];omega),Nat.sub_self] at hF
    have hF2:=hidp (show Arr wr b3 58 (cat32 L) from by simpa using hF)
    clear hF
    go_wp2_with fail
    go_ret
    refine ⟨_,rfl,⟨hL32.out,.inr ⟨b3,0,P,by rw [HLL.out];rfl,by rw [HLL.out];omega,hF2.out.lt,hF2.out.range⟩⟩,HBW.out⟩
end
section
open Go.RowKit
theorem kroot_any (w:World) (S:ByteArray) (H N:Int) (hK:KT w) :
 Calls Tryz.prog 78 #[.agg #[.string S,.int .i64 H,.int .i64 N]] w fun e w'=>e=.returned (.tuple #[.agg (u8s (keyR S H N)).toArray,.int .i64 (kyE S H N)])∧Below w.heap.size w w':=by
 have HK:=hidp hK;have hkp:=hK.pos;clear hK
 have c1:=hidp (fun W=>kyCheck_any W S H N)
 cases hok:kyOk S H N with
 | false =>
   have hE:kyE S H N=2:=by unfold kyE;rw [hok];rfl
   have hR:keyR S H N=z32:=by unfold keyR;rw [hok];rfl
   rw [hE] at c1
   rw [hE,hR]
   clear hE hR hok
   go_enter Tryz.func78,Tryz.ntmps78
   go_wp2_with (refine wpL_new rfl rfl ?_;intro b0 w0 n0;obtain ⟨x0,x1,x2,-⟩:=arr3k (n0.old (Arr.new w 23 [.string S,.int .i64 H,.int .i64 N])))
   clear x0 x1 x2
   have HX:=hidp ((Below.refl w.heap.size w).alloc (Nat.le_refl _) (.cells #[.string S,.int .i64 H,.int .i64 N] 23))
   have HB0:=hidp (HX.out.trans (n0.below.mono HX.out.size));have HA0:=hidp (n0.old (Arr.new w 23 [.string S,.int .i64 H,.int .i64 N]));have HR0:=hidp n0.arr
   have h0w:=hidp (show w.heap.size≤b0 from Nat.le_trans HX.out.size n0.le)
   have hne:=hidp (show w.heap.size≠b0 from by have:=n0.at_;have:=HX.out.size;rw [heap_size_alloc] at *;omega)
   clear n0
   refine (c1.out _).mono ?_
   rintro e w1 ⟨rfl,hb1⟩
   have HB1:=hidp (HB0.out.trans (hb1.mono HB0.out.size));have HA1:=hidp (HA0.out.below hb1 HA0.out.lt);have HR1:=hidp (HR0.out.below hb1 HR0.out.lt)
   clear hb1
   go_wp2_with (first
    | (refine wpL_zero rfl rfl ?_)
    | (refine wpL_put rfl (.tmp 2) (.tmp 9) rfl b0 z32 rfl rfl rfl (u8s z32) rfl HR1.out ?_;intro w9 ha9 hp9))
   have HBZ:=HB1
   refine bodyPost_ret (results_row_tmp (P:=Tryz.prog) (p:=2) (u:=3) (ty:=58) Tryz.results78 _ _ b0 58 (u8s z32).toArray (0,0) _ rfl ha9 hash_row rfl (hash_size rfl) _ rfl) rfl ?_
   exact ⟨rfl,hp9.below' HBZ.out h0w.out⟩
 | true =>
   have hE:kyE S H N=0:=by unfold kyE;rw [hok];rfl
   have hR:keyR S H N=rootV (leafL S.data.toList H.toNat):=by unfold keyR;rw [hok];rfl
   obtain ⟨⟨s1,s2⟩,⟨q1,q2⟩,q3,q4⟩:=kyOk_parts hok
   obtain ⟨h,rfl⟩:∃ h:Nat,H=h:=⟨H.toNat,by omega⟩
   rw [Int.toNat_natCast] at hR
   rw [hE] at c1
   rw [hE,hR]
   have c2:=hidp (fun W (k:KT W)=>publics_any W S h N s2 (by omega) k)
   have hrE:=rootE_leaf S.data.toList (h:=h) (by omega)
   have hLl:=hidp (show (leafL S.data.toList h).length≤4611686018427387904 from by rw [leafL_len];have:=pow_le7 (h:=h) (by omega);omega)
   have hrl:=hidp (rootV_len _ (leafL_32 S.data.toList h))
   obtain ⟨L,hL⟩:∃ L,leafL S.data.toList h=L:=⟨_,rfl⟩
   rw [hL] at c2 hrE hLl hrl ⊢
   have c3:=hidp (show ∀ W v,HsAt W v L→KT W→Calls Tryz.prog 129 #[v] W fun e w'=>e=.returned (.tuple #[.agg (u8s (rootV L)).toArray,.int .i64 0])∧Below W.heap.size W w' from fun W v hv k=>by
    have:=root_any W v L hv hLl.out k
    rw [hrE] at this;exact this)
   obtain ⟨z,hz⟩:∃ z,rootV L=z:=⟨_,rfl⟩
   rw [hz] at c3 hrl ⊢
   clear hE hR hok hrE hL hz q3 q4
   go_enter Tryz.func78,Tryz.ntmps78
   go_wp2_with (refine wpL_new rfl rfl ?_;intro b0 w0 n0;obtain ⟨x0,x1,x2,-⟩:=arr3k (n0.old (Arr.new w 23 [.string S,.int .i64 (h:Int),.int .i64 N])))
   clear x0 x1 x2
   have HX:=hidp ((Below.refl w.heap.size w).alloc (Nat.le_refl _) (.cells #[.string S,.int .i64 (h:Int),.int .i64 N] 23))
   have HB0:=hidp (HX.out.trans (n0.below.mono HX.out.size));have HA0:=hidp (n0.old (Arr.new w 23 [.string S,.int .i64 (h:Int),.int .i64 N]));have HR0:=hidp n0.arr
   have h0w:=hidp (show w.heap.size≤b0 from Nat.le_trans HX.out.size n0.le)
   have hne:=hidp (show w.heap.size≠b0 from by have:=n0.at_;have:=HX.out.size;rw [heap_size_alloc] at *;omega)
   clear n0
   refine (c1.out _).mono ?_
   rintro e w1 ⟨rfl,hb1⟩
   have HB1:=hidp (HB0.out.trans (hb1.mono HB0.out.size));have HA1:=hidp (HA0.out.below hb1 HA0.out.lt);have HR1:=hidp (HR0.out.below hb1 HR0.out.lt)
   clear hb1
   obtain ⟨x0,x1,x2,-⟩:=arr3k HA1.out
   go_wp2_with fail
   clear x0 x1 x2
   refine (c2.out _ (HK.out.below HB1.out hkp)).mono ?_
   rintro e w2 ⟨v2,rfl,hv2,hb2⟩
   have HB2:=hidp (HB1.out.trans (hb2.mono HB1.out.size));have HR2:=hidp (HR1.out.below hb2 HR1.out.lt);have HV2:=hidp hv2
   clear hb2 hv2
   go_wp2_with fail
   refine (c3.out _ _ HV2.out (HK.out.below HB2.out hkp)).mono ?_
   rintro e w3 ⟨rfl,hb3⟩
   have HB3:=hidp (HB2.out.trans (hb3.mono HB2.out.size));have HR3:=hidp (HR2.out.below hb3 HR2.out.lt)
   clear hb3
   go_wp2_with (refine wpL_put rfl (.tmp 2) (.tmp 14) rfl b0 z rfl rfl hrl.out (u8s z32) rfl HR3.out ?_;intro w9 ha9 hp9)
   have HBZ:=HB3
   refine bodyPost_ret (results_row_tmp (P:=Tryz.prog) (p:=2) (u:=3) (ty:=58) Tryz.results78 _ _ b0 58 (u8s z).toArray (0,0) _ rfl ha9 hash_row rfl (hash_size hrl.out) _ rfl) rfl ?_
   exact ⟨rfl,hp9.below' HBZ.out h0w.out⟩
def plT:Option Nat→Value
 | some n=>.tuple #[.int .i64 (n:Int),.int .i64 0]
 | none=>.tuple #[.int .i64 0,.int .i64 2]
theorem getD0 (g:ByteArray) (h:0<g.size):(g.data.toList.getD 0 0)=g[0]'h:=by
 have e:g.data.toList.length=g.size:=size_toList g
 rw [List.getD_eq_getElem?_getD,List.getElem?_eq_getElem (by omega)];rfl
theorem size_any (w:World) (h:Nat) (hh:h≤7):Calls Tryz.prog 182 #[.int .i64 (h:Int)] w fun e w'=>e=.returned (.int .i64 (1089 + (h:Int) * 32))∧w'=w:=by
 have hw1:IntKind.i64.wrap ((h:Int) * 32)=(h:Int) * 32:=by rw [IntKind.wrap_i64];omega
 have hw2:IntKind.i64.wrap (1089 + (h:Int) * 32)=1089 + (h:Int) * 32:=by rw [IntKind.wrap_i64];omega
 go_enter Tryz.func182,Tryz.ntmps182
 go_wp2
 go_ret
 exact ⟨rfl,rfl⟩
theorem place_any (w:World) (H:Int) (g:ByteArray) (hg:g.size≤281474976710656) :
 Calls Tryz.prog 151 #[.int .i64 H,.string g] w fun e w'=>e=.returned (plT (plV H g))∧Below w.heap.size w w':=by
 have c1:=hidp (fun W=>permitted_any W H)
 cases hH:hiK H with
 | false =>
   rw [hH] at c1
   have HF:=hidp (show plV H g=none from by unfold plV;rw [hH];simp)
   clear hH
   go_enter Tryz.func151,Tryz.ntmps151
   go_wp2_with (go_at_call 115;(refine (c1.out _).mono ?_);rintro e w' ⟨rfl,rfl⟩)
   go_ret2
   exact ⟨by rw [HF.out];rfl,Below.refl _ _⟩
 | true =>
   rw [hH] at c1
   obtain ⟨hH0,hH7⟩:=hiK_yes hH
   obtain ⟨h,rfl⟩:∃ h:Nat,H=h:=⟨H.toNat,by omega⟩
   have c2:=hidp (fun W=>indices_any W h (by omega))
   have c3:=hidp (fun W=>size_any W h (by omega))
   have hw1:IntKind.i64.wrap ((h:Int) * 32)=(h:Int) * 32:=by rw [IntKind.wrap_i64];omega
   have hw1':IntKind.i64.wrap (32 * (h:Int))=32 * (h:Int):=by rw [IntKind.wrap_i64];omega
   have hw2:IntKind.i64.wrap (1089 + (h:Int) * 32)=1089 + (h:Int) * 32:=by rw [IntKind.wrap_i64];omega
   have hw2':IntKind.i64.wrap (1089 + 32 * (h:Int))=1089 + 32 * (h:Int):=by rw [IntKind.wrap_i64];omega
   by_cases hz:(g.size:Int)=1089 + 32 * (h:Int)
   · have e1:((g.size:Int) != 1089 + (h:Int) * 32)=false:=by rw [bne_eq_false_iff_eq];omega
     have e1':((g.size:Int) != 1089 + 32 * (h:Int))=false:=by rw [bne_eq_false_iff_eq];omega
     have hl0:0<g.size:=by omega
     obtain ⟨bn,hbn⟩:∃ bn,(g[0]'hl0).toNat=bn:=⟨_,rfl⟩
     have hb:bn<256:=by rw [← hbn];exact UInt8.toNat_lt _
     have c4:(0:Int)<(g.size:Int):=by omega
     have hP:=pow_le7 (h:=h) (by omega)
     have hpl:plV h g=if bn<2 ^ h then some bn else none:=by
      unfold plV
      rw [getD0 g hl0,hbn,Int.toNat_natCast]
      by_cases hq:bn<2 ^ h
      · rw [if_pos ⟨hH,hz,hq⟩,if_pos hq]
      · rw [if_neg (fun x=>hq x.2.2),if_neg hq]
     obtain ⟨P,hPP⟩:∃ P,2 ^ h=P:=⟨_,rfl⟩
     rw [hPP] at c2 hP hpl
     clear hPP hH
     have hw3:IntKind.i64.wrap (bn:Int)=(bn:Int):=by rw [IntKind.wrap_i64];omega
     by_cases hq:bn<P
     · have e2:decide ((P:Int)≤(bn:Int))=false:=by simp;omega
       have n2:¬ P≤bn:=by omega
       rw [if_pos hq] at hpl
       have HF:=hidp hpl
       clear hpl hz
       go_enter Tryz.func151,Tryz.ntmps151
       go_wp2_with (first|(go_at_call 115;(refine (c1.out _).mono ?_);rintro e w' ⟨rfl,rfl⟩)|(go_at_call 182;(refine (c3.out _).mono ?_);rintro e w' ⟨rfl,rfl⟩)|(go_at_call 116;(refine (c2.out _).mono ?_);rintro e w' ⟨rfl,rfl⟩))
       go_ret2
       exact ⟨by rw [HF.out];rfl,Below.refl _ _⟩
     · have e2:decide ((P:Int)≤(bn:Int))=true:=by simp;omega
       have n2:P≤bn:=by omega
       rw [if_neg hq] at hpl
       have HF:=hidp hpl
       clear hpl hz
       go_enter Tryz.func151,Tryz.ntmps151
       go_wp2_with (first|(go_at_call 115;(refine (c1.out _).mono ?_);rintro e w' ⟨rfl,rfl⟩)|(go_at_call 182;(refine (c3.out _).mono ?_);rintro e w' ⟨rfl,rfl⟩)|(go_at_call 116;(refine (c2.out _).mono ?_);rintro e w' ⟨rfl,rfl⟩))
       go_ret2
       exact ⟨by rw [HF.out];rfl,Below.refl _ _⟩
   · have e1:((g.size:Int) != 1089 + (h:Int) * 32)=true:=by rw [bne_iff_ne];omega
     have e1':((g.size:Int) != 1089 + 32 * (h:Int))=true:=by rw [bne_iff_ne];omega
     have n1:¬ (g.size:Int)=1089 + (h:Int) * 32:=by omega
     have HF:=hidp (show plV h g=none from by unfold plV;rw [if_neg (fun x=>hz x.2.1)])
     clear hH
     go_enter Tryz.func151,Tryz.ntmps151
     go_wp2_with (first|(go_at_call 115;(refine (c1.out _).mono ?_);rintro e w' ⟨rfl,rfl⟩)|(go_at_call 182;(refine (c3.out _).mono ?_);rintro e w' ⟨rfl,rfl⟩))
     go_ret2
     exact ⟨by rw [HF.out];rfl,Below.refl _ _⟩
end
section
open Go.RowKit
section
variable {P:Program} {ops:Array Oper} {md:Region.Mode} {Q:Exit→Act→World→Prop}
variable {S:World→Prop} {k:Nat} {o:Oper} {s:Scr} {a:Act} {w:World} {K:Act→World→Prop}
end
end
section
open Go.RowKit
theorem run_copy_mid {P:Program} (w:World) (dT sT ty elem:TypeId) (g o dLen dCap:Nat) (s:ByteArray) (cur:Array Value) (t:TypeId)
 (hu:P.underlying dT=some (.slice elem)) (hs:(P.info? elem).map (·.size)=some 1) (hg:w.heap[g]?=some (.cells cur t (0,0))) (hle:dLen≤s.size) (hfit:o + dLen≤cur.size) :
 (Builtin.copy_ #[dT,sT] ty #[.slice (some ⟨g,o,none⟩) dLen dCap,.string s]).run P w =
   .ok (goInt dLen) (w.setRow g (cur.toList.take o++Lib.byteCells (s.data.toList.take dLen)++cur.toList.drop (o + dLen)).toArray):=by
 have hlen:(Lib.byteCells (s.data.toList.take dLen)).length=dLen:=by rw [Lib.byteCells_length];simp;omega
 have hst:=run_storeCells_at P g o t (Lib.byteCells (s.data.toList.take dLen)) 0 cur w hg (by rw [hlen];simpa using hfit) (Lib.byteCells_one _)
 have hmin:Nat.min s.size dLen=dLen:=Nat.min_eq_right hle
 have htk:List.take dLen (List.map (fun b:UInt8=>Value.int IntKind.u8 (b.toNat:Int)) s.data.toList)=Lib.byteCells (s.data.toList.take dLen):=by
  unfold Lib.byteCells;rw [List.map_take]
 rw [hlen] at hst
 simp only [Nat.add_zero] at hst
 cases hq:P.info? elem with
 | none=>simp [hq] at hs
 | some i =>
   simp [Builtin.copy_,run_underlying hu,Builtin.lenOf,Builtin.firstCells,sizeOf,typeInfo,hq,hmin]
   rw [htk,hst]
   simp [Result.andThen]
theorem o_copy {P:Program} {ops:Array Oper} {Q:Exit→Act→World→Prop} {S:World→Prop} {k:Nat} {K:Act→World→Prop} {a:Act} {w:World} {o:Oper} (ho:ops[k]?=some o) (hw:Region.wanted o (yielded ops a.tmps)=true) (d x:Operand) (t u:TypeId)
 (hop:o.op=.call { callee:=.builtin .copy,args:=#[d,x],argTypes:=#[t,u] }) (dv xv v:Value) (w':World) (hd:a.eval d=dv) (hx:a.eval x=xv)
 (hrun:(Builtin.copy_ #[t,u] o.type #[dv,xv]).run P w=.ok v w') (hS:S w') (h:K (a.put o.dst v) w'):opW P ops Q S k K a w:=by
 refine ⟨o,ho,hw,?_⟩
 unfold Oper.wp
 simp [execOp,hop,resolve,invoke,builtin,hd,hx,hrun,Result.andThen]
 exact ⟨hS,h⟩
theorem ex_list (g:ByteArray) (a b:Nat):(g.extract a b).data.toList=(g.data.toList.drop a).take (b - a):=by
 rw [ByteArray.data_extract]
 simp only [Array.toList_extract,List.extract_eq_take_drop]
theorem slice32 (b off:Nat) (W:World):(Instr.sliceAt 58 (.pointer (some ⟨b,off,none⟩)) none none none).run Tryz.prog W=.ok (.slice (some ⟨b,off,none⟩) 32 32) W:=by
 have he:Tryz.prog.elem 58=5:=by kernel_rfl
 have hu:=hash_row
 obtain ⟨i0,hi,hz0,hz1,hz2⟩:=info_parts info5
 simp [Instr.sliceAt,run_underlying hu,he,sizeOf,typeInfo,hi,hz1,Result.andThen,addr_add]
 all_goals (try rfl)
theorem hashesL_get (l:List UInt8) (i:Nat) (h:i<(hashesL l).length):(hashesL l)[i]'h=(l.drop (32 * i)).take 32:=by simp [hashesL]
theorem s_idx {ops:Array Oper} {Q:Exit→Act→World→Prop} {S:World→Prop} {k:Nat} {o:Oper} {s:Scr} {a:Act} {w:World} (ho:ops[k]?=some o) (hw:Region.wanted o (yielded ops a.tmps)=true) (x y:Operand) (hop:o.op=.indexAddr 37 x y)
 (B off n c i:Nat) (hx:a.eval x=.slice (some ⟨B,off,none⟩) n c) (hy:a.eval y=.int .i64 (i:Int)) (hi:i<n) (h:wpScr Tryz.prog ops Q s S (a.put o.dst (.pointer (some ⟨B,off + 32 * i,none⟩))) w):wpScr Tryz.prog ops Q (.take k s) S a w :=
 s_val ho hw (fun w _=>by
  unfold execOp
  simp only [hop,hx,hy,Sem.run_bind,run_idx B off n c i hi,Result.andThen_ok]
  rfl) h
theorem s_slc {ops:Array Oper} {Q:Exit→Act→World→Prop} {S:World→Prop} {k:Nat} {o:Oper} {s:Scr} {a:Act} {w:World} (ho:ops[k]?=some o) (hw:Region.wanted o (yielded ops a.tmps)=true) (x:Operand) (hop:o.op=.slice 58 x none none none)
 (b off:Nat) (hx:a.eval x=.pointer (some ⟨b,off,none⟩)) (h:wpScr Tryz.prog ops Q s S (a.put o.dst (.slice (some ⟨b,off,none⟩) 32 32)) w):wpScr Tryz.prog ops Q (.take k s) S a w :=
 s_val ho hw (fun w _=>by
  unfold execOp
  simp only [hop,hx,Option.map_none,Sem.run_bind,slice32 b off,Result.andThen_ok]
  rfl) h
end
section
open Go.RowKit
theorem hashes_any (w:World) (s:ByteArray) (hs:s.size≤1048576) :
 Calls Tryz.prog 154 #[.string s] w fun e w'=>∃ v,e=.returned v∧HsAt w' v (hashesL s.data.toList)∧Below w.heap.size w w':=by
 have hsl:s.data.toList.length=s.size:=size_toList s
 have hLl:=hashesL_len s.data.toList
 have hL32:=hidp (hashesL_32 s.data.toList)
 have hLg:=hidp (fun i hi=>hashesL_get s.data.toList i hi)
 rw [hsl] at hLl
 obtain ⟨n,hn⟩:∃ n,s.size / 32=n:=⟨_,rfl⟩
 obtain ⟨L,hL⟩:∃ L,hashesL s.data.toList=L:=⟨_,rfl⟩
 have HLg:=hidp (show ∀ i (hi:i<L.length),L[i]'hi=(s.data.toList.drop (32 * i)).take 32 from fun i hi=>by
  subst hL
  exact hLg.out i hi)
 rw [hL] at hLl hL32 ⊢
 rw [hn] at hLl
 have HLL:=hidp hLl
 have hq:IntKind.i64.wrap (Int.tdiv (s.size:Int) 32)=(n:Int):=by rw [Int.tdiv_eq_ediv_of_nonneg (by omega),IntKind.wrap_i64,← hn];omega
 have hq2:Int.tdiv (s.size:Int) 32=(n:Int):=by rw [Int.tdiv_eq_ediv_of_nonneg (by omega),← hn];omega
 have h32n:32 * n≤s.size:=by omega
 clear hL hLg hLl hn
 go_enter Tryz.func154,Tryz.ntmps154
 go_wp2_with (refine wpL_mk rfl (.tmp 7) rfl n rfl (by omega) ?_;intro b3 w3 n3)
 have hB3:=hidp n3.below
 have hA3:=hidp n3.arr
 have h3w:=hidp n3.le
 clear n3
 go_loopw [11] (fun t11 wr=>∃ i:Nat,t11=.int .i64 (i:Int)∧i≤n∧Arr wr b3 58 (cat32 (L.take i++List.replicate (n - i) z32))∧Below w.heap.size w wr) (fun t11 _=>n - (intOf t11).toNat)
 case atStart=>exact ⟨0,rfl,by omega,by simpa using hA3.out,hB3.out⟩
 case round =>
  obtain ⟨i,rfl,hi,hc,hbw⟩:=hrel
  have HC:=hidp hc;have HBW:=hidp hbw
  clear hc hbw hA3 hB3
  by_cases hlt:i<n
  · have e0:decide ((i:Int)<(n:Int))=true:=by simp;omega
    have n0:i<n:=hlt
    have hil:i<L.length:=by rw [HLL.out];exact hlt
    have hrs:=row_set L n i HLL.out hlt
    rw [HLg.out i hil] at hrs
    have HRS:=hidp hrs
    clear hrs
    have hw1:IntKind.i64.wrap (32 * (i:Int))=32 * (i:Int):=by rw [IntKind.wrap_i64];omega
    have hle1:32 * i + 32≤s.size:=by omega
    have hb1:0≤32 * (i:Int)∧32 * (i:Int)≤(s.size:Int):=by omega
    have htn:(32 * (i:Int)).toNat=32 * i:=by omega
    have hrl:=hidp (show All32 (L.take i++List.replicate (n - i) z32) from (hL32.out.take i).app (All32.rep _))
    have hin:=hidp (show i<(L.take i++List.replicate (n - i) z32).length from by rw [List.length_append,List.length_take,List.length_replicate,HLL.out];omega)
    obtain ⟨X,hX⟩:∃ X,s.extract (32 * i) s.size=X:=⟨_,rfl⟩
    have hXs:32≤X.size:=by rw [← hX,ByteArray.size_extract];omega
    have HI1:=hidp (show (Tryz.prog.info? 5).map (·.size)=some 1 from by kernel_rfl)
    go_wp2_with fail
    obtain ⟨U,hU⟩:∃ U,({ wr with drawn:=wr.drawn + 1 }:World)=U:=⟨_,rfl⟩
    have bU:Below wr.heap.size wr U:=by rw [← hU];exact (Below.refl _ _).drew
    have HBU:=hidp (HBW.out.trans (bU.mono HBW.out.size));have HCU:=hidp (HC.out.below bU HC.out.lt)
    clear bU
    refine wp_region_noPanic ?_
    refine wp_region_scr (S:=fun _=>True) (.take 0 (.take 1 (.take 2 (.take 3 (.take 4 (.take 5 (.take 6 (.take 7 (.one 8 .done))))))))) (by kernel_rfl) (by kernel_rfl) (fun _ _ _ _ _ h=>h) (by simp [Scr.depth]) (by kernel_rfl) trivial ?_
    simp only [hU]
    clear hU
    iterate 2
     apply s_val
     case ho=>rfl
     case hw=>rfl
     case hv=>intro w hw;go_simp;first | done | with_reducible rfl | rfl
     simp only [aS]
    refine s_idx rfl rfl (.tmp 14) (.tmp 15) rfl b3 0 n n i rfl rfl hlt ?_
    simp only [aS]
    refine s_slc rfl rfl (.tmp 16) rfl b3 (0 + 32 * i) rfl ?_
    iterate 3
     simp only [aS]
     apply s_val
     case ho=>rfl
     case hw=>rfl
     case hv=>intro w hw;go_simp;first | done | with_reducible rfl | rfl
    simp only [aS]
    apply s_val (v:=.string X)
    case ho=>rfl
    case hw=>rfl
    case hv=>intro w hw;go_simp
    simp only [aS]
    have hcy:=run_copy_mid (P:=Tryz.prog) U 174 9 3 5 b3 (0 + 32 * i) 32 32 X _ 58 Tryz.underlying174 HI1.out HCU.out (by omega) (by simp [cat32_len hrl.out];omega)
    have hXX:Lib.byteCells (X.data.toList.take 32)=u8s ((s.data.toList.drop (32 * i)).take 32):=by
     rw [← hX,ex_list,List.take_take,Nat.min_eq_left (by omega)];rfl
    have hce:((cat32 (L.take i++List.replicate (n - i) z32)).toArray.toList.take (0 + 32 * i)++Lib.byteCells (X.data.toList.take 32)++(cat32 (L.take i++List.replicate (n - i) z32)).toArray.toList.drop (0 + 32 * i + 32))=cat32 (L.take (i + 1)++List.replicate (n - (i + 1)) z32):=by
     rw [← HRS.out,cat32_set hrl.out i hin.out,hXX]
     simp
    rw [hce] at hcy
    have hA9:=hidp (Arr.row HCU.out (cat32 (L.take (i + 1)++List.replicate (n - (i + 1)) z32)))
    have hS9:=hidp (Stp.setRow U b3 (cat32 (L.take (i + 1)++List.replicate (n - (i + 1)) z32)).toArray)
    generalize hW9:U.setRow b3 (cat32 (L.take (i + 1)++List.replicate (n - (i + 1)) z32)).toArray=W9 at hcy hA9 hS9
    refine o_copy rfl rfl (.tmp 17) (.tmp 21) 174 9 rfl _ _ _ W9 rfl rfl hcy trivial ?_
    simp only [aS]
    refine NoPanic.normal ?_
    have HB9:=hidp (hS9.out.below' HBU.out h3w.out)
    clear hW9 hcy hce
    go_wp2_with fail
    exact ⟨⟨i + 1,by go_num,by omega,hA9.out,HB9.out⟩,by simp [intOf];omega⟩
  · have e0:decide ((i:Int)<(n:Int))=false:=by simp;omega
    have n0:¬ i<n:=hlt
    have hiP:i=n:=by omega
    have hF:=HC.out
    rw [hiP,List.take_of_length_le (by rw [HLL.out];omega),Nat.sub_self] at hF
    have hF2:=hidp (show Arr wr b3 58 (cat32 L) from by simpa using hF)
    clear hF
    go_wp2_with fail
    go_ret
    refine ⟨_,rfl,⟨hL32.out,.inr ⟨b3,0,n,by rw [HLL.out];rfl,by rw [HLL.out];omega,hF2.out.lt,hF2.out.range⟩⟩,HBW.out⟩
end
section
open Go.RowKit
section
variable {ops:Array Oper} {Q:Exit→Act→World→Prop} {S:World→Prop} {k:Nat} {o:Oper} {s:Scr} {a:Act} {w:World} {K:Act→World→Prop}
theorem s_getH (ho:ops[k]?=some o) (hw:Region.wanted o (yielded ops a.tmps)=true) (x:Operand) (hop:o.op=.load 58 x) (b:Nat) (l:List UInt8) (hx:a.eval x=.pointer (some ⟨b,0,none⟩)) (hl:l.length=32) (hg:∀ w,S w→Arr w b 58 (u8s l))
 (h:wpScr Tryz.prog ops Q s S (a.put o.dst (.agg (u8s l).toArray)) w):wpScr Tryz.prog ops Q (.take k s) S a w :=
 s_val ho hw (fun w hS=>by
  unfold execOp
  simp only [hop,hx,Instr.loadAt,Instr.sureAddr,Sem.run_bind,Sem.run_pure,Result.andThen_ok,run_loadVar_row (P:=Tryz.prog) w b 58 58 _ (0,0) _ (hg w hS) hash_row rfl (hash_size hl)]) h
theorem o_newH (ho:ops[k]?=some o) (hw:Region.wanted o (yielded ops a.tmps)=true) (hop:o.op=.alloc 58)
 (h:∀ b W,NewAt w W b 58 (u8s z32)→S W∧K (a.put o.dst (.pointer (some ⟨b,0,none⟩))) W):opW Tryz.prog ops Q S k K a w:=by
 refine ⟨o,ho,hw,?_⟩
 have:=h w.heap.size (w.alloc (.cells (u8s z32).toArray 58)) (NewAt.mk' _ _ _)
 unfold Oper.wp execOp
 simp only [hop,Instr.alloc,Sem.run_bind,Result.andThen_ok,zero_hash w]
 simp [newVar,newRow,Value.cells]
 exact this
theorem o_putH (ho:ops[k]?=some o) (hw:Region.wanted o (yielded ops a.tmps)=true) (x y:Operand) (hop:o.op=.store 58 x y) (b:Nat) (l:List UInt8) (hx:a.eval x=.pointer (some ⟨b,0,none⟩)) (hy:a.eval y=.agg (u8s l).toArray) (hl:l.length=32)
 (old:List Value) (hold:old.length=32) (hg:Arr w b 58 old)
 (h:∀ W,Arr W b 58 (u8s l)→Stp b w W→S W∧K (a.put o.dst undef) W):opW Tryz.prog ops Q S k K a w :=
 ⟨o,ho,hw,wp_store_row (P:=Tryz.prog) 58 x y hop b (u8s l).toArray hx hy 58 _ hg (hash_size hl) (by simp [u8s_length,hl,hold]) (u8s_one _) (h _ (Arr.row hg _) (Stp.setRow _ _ _))⟩
theorem o_callE (ho:ops[k]?=some o) (hw:Region.wanted o (yielded ops a.tmps)=true) (f:FuncId) (args:Array Value) (hop:(execOp a.eval o).run Tryz.prog w=.ok (.enter f args) w) {R:Value→World→Prop} (hc:Calls Tryz.prog f args w fun e w'=>∃ v,e=.returned v∧R v w')
 (h:∀ v w',R v w'→S w'∧K (a.put o.dst v) w'):opW Tryz.prog ops Q S k K a w:=by
 refine ⟨o,ho,hw,?_⟩
 unfold Oper.wp
 rw [hop]
 exact hc.mono fun e w' ⟨v,he,hr⟩=>by subst he;exact h v w' hr
end
theorem plV_facts {H:Int} {g:ByteArray} {i:Nat} (h:plV H g=some i):∃ n:Nat,H=(n:Int)∧n≤7∧g.size=1089 + 32 * n∧i<2 ^ n:=by
 obtain ⟨h1,h2,h3,h4⟩:=plV_some h
 obtain ⟨h5,h6⟩:=hiK_yes h1
 exact ⟨H.toNat,by omega,by omega,by omega,h3⟩
theorem okC_pow {n i:Nat} (h:n≤7) (hi:i<2 ^ n):okC n (i:Int)=true:=by
 unfold okC
 have:((2 ^ n:Nat):Int)=(2:Int) ^ n:=by simp
 exact decide_eq_true ⟨h,by omega,by rw [← this];exact_mod_cast hi⟩
theorem verify_any (w:World) (root:List UInt8) (hr:root.length=32) (H:Int) (t g:ByteArray) (ht:t.size≤281474976710656) (hg:g.size≤281474976710656) (hK:KT w) :
 Calls Tryz.prog 110 #[.agg (u8s root).toArray,.int .i64 H,.string t,.string g] w fun e w'=>e=.returned (.int .i64 (vfE root H t g))∧Below w.heap.size w w':=by
 have HK:=hidp hK;have hkp:=hK.pos;clear hK
 have c1:=hidp (fun W=>place_any W H g hg)
 cases hp:plV H g with
 | none =>
   have HF:=hidp (show vfE root H t g=2 from by unfold vfE;rw [hp])
   rw [hp] at c1
   unfold plT at c1
   clear hp
   go_enter Tryz.func110,Tryz.ntmps110
   go_wp2_with (refine wpL_box rfl _ rfl (u8s root) rfl ?_;intro b4 w4 n4)
   have hB4:=hidp n4.below
   have hA4:=hidp n4.arr
   have h4w:=hidp n4.le
   clear n4
   refine (c1.out _).mono ?_
   rintro e w5 ⟨rfl,hb5⟩
   have HB5:=hidp (hB4.out.trans (hb5.mono hB4.out.size));have HA5:=hidp (hA4.out.below hb5 hA4.out.lt)
   clear hb5 hB4 hA4
   go_wp2_with fail
   go_ret
   exact ⟨by rw [HF.out];rfl,HB5.out⟩
 | some i =>
   obtain ⟨n,rfl,hn7,hgs,hin⟩:=plV_facts hp
   have hgl:g.data.toList.length=g.size:=size_toList g
   obtain ⟨L,hL⟩:∃ L,hashesL (g.data.toList.drop 1089)=L:=⟨_,rfl⟩
   have hL32:=hidp (show All32 L from by rw [← hL];exact hashesL_32 _)
   have hLl:L.length=n:=by rw [← hL,hashesL_len,List.length_drop,hgl,hgs];omega
   obtain ⟨G1,hG1⟩:∃ G,g.extract 1 1089=G:=⟨_,rfl⟩
   obtain ⟨G2,hG2⟩:∃ G,g.extract 1089 g.size=G:=⟨_,rfl⟩
   have d1:G1.data.toList=(g.data.toList.drop 1).take 1088:=by rw [← hG1,ex_list]
   have d2:G2.data.toList=g.data.toList.drop 1089:=by rw [← hG2,ex_list,List.take_of_length_le (by rw [List.length_drop,hgl];exact Nat.le_refl _)]
   have l1:G1.data.toList.length=1088:=by rw [d1,List.length_take,List.length_drop,hgl];omega
   have s1:G1.size=1088:=by rw [← size_toList,l1]
   have s2:G2.size=32 * n:=by rw [← size_toList,d2,List.length_drop,hgl];omega
   obtain ⟨rc,hrc⟩:∃ r,recV t.data.toList ((g.data.toList.drop 1).take 1088)=r:=⟨_,rfl⟩
   have hrl:=hidp (show rc.length=32 from by rw [← hrc,← d1,recV_yes _ _ l1];exact recL_len _ _)
   obtain ⟨fd,hfd⟩:∃ r,climbV rc i L=r:=⟨_,rfl⟩
   have hfl:=hidp (show fd.length=32 from by rw [← hfd];exact climbV_len _ _ _ hrl.out)
   have HF:=hidp (show vfE root n t g=if fd=root then 0 else 9 from by unfold vfE;rw [hp];simp only;rw [hrc,hL,hfd])
   have c2:=hidp (show ∀ W,KT W→Calls Tryz.prog 152 #[.string t,.string G1] W fun e w'=>e=.returned (.tuple #[.agg (u8s rc).toArray,.int .i64 0])∧Below W.heap.size W w' from fun W k=>by
    have:=recover_any W t G1 ht (by omega) k
    rw [recE_yes _ l1,d1,hrc] at this;exact this)
   have c3:=hidp (show ∀ W,Calls Tryz.prog 154 #[.string G2] W fun e w'=>∃ v,e=.returned v∧HsAt w' v L∧Below W.heap.size W w' from fun W=>by
    have:=hashes_any W G2 (by omega)
    rw [d2,hL] at this;exact this)
   have hP:=pow_le7 hn7
   have hi128:i<128:=by omega
   have c4:=hidp (show ∀ W v,HsAt W v L→KT W→Calls Tryz.prog 153 #[.agg (u8s rc).toArray,.int .i64 (i:Int),v] W fun e w'=>e=.returned (.tuple #[.agg (u8s fd).toArray,.int .i64 0])∧Below W.heap.size W w' from fun W v hv k=>by
    have:=climb_any W rc hrl.out i (by simp [Lit.wf,IntKind.min,IntKind.max,IntKind.signed,IntKind.bits];omega) v L hv k
    rw [hfd,show climbE L.length (i:Int)=0 from if_pos (by rw [hLl];exact okC_pow hn7 hin)] at this;exact this)
   rw [hp] at c1
   have q1:1089≤g.size:=by omega
   have q2:(1089:Int)≤(g.size:Int):=by omega
   unfold plT at c1
   clear hp hL hgs hgl d1 d2 l1 hrc hfd hin hP
   go_enter Tryz.func110,Tryz.ntmps110
   go_wp2_with (refine wpL_box rfl _ rfl (u8s root) rfl ?_;intro b4 w4 n4)
   have hB4:=hidp n4.below
   have hA4:=hidp n4.arr
   have h4w:=hidp n4.le
   clear n4
   refine (c1.out _).mono ?_
   rintro e w5 ⟨rfl,hb5⟩
   have HB5:=hidp (hB4.out.trans (hb5.mono hB4.out.size));have HA5:=hidp (hA4.out.below hb5 hA4.out.lt)
   clear hb5 hB4 hA4
   have hp5:=HB5.out.size
   go_wp2_with fail
   refine (c2.out _ (HK.out.below HB5.out hkp)).mono ?_
   rintro e w6 ⟨rfl,hb6⟩
   have HB6:=hidp (HB5.out.trans (hb6.mono HB5.out.size));have HA6:=hidp (HA5.out.below hb6 HA5.out.lt)
   clear hb6
   go_wp2_with (first|(refine wpL_new rfl rfl ?_;intro b11 w7 n7)|(refine wpL_put rfl (.tmp 11) (.tmp 27) rfl b11 rc rfl rfl hrl.out (u8s z32) rfl n7.arr ?_;intro w8 ha8 hp8))
   have hn:=n7.at_
   have h411:=hidp (show b4<b11 from by have:=HA6.out.lt;omega)
   have h11w:=hidp (show w.heap.size≤b11 from by have:=HB6.out.size;omega)
   have hs8:=(n7.put hp8).size
   have HB8:=hidp (HB6.out.trans ((n7.put hp8).mono HB6.out.size));have HA8:=hidp (hp8.old (n7.old HA6.out) h411.out);have HR8:=hidp ha8
   clear hn ha8 hp8 n7 hs8
   obtain ⟨U,hU⟩:∃ U,({ w8 with drawn:=w8.drawn + 1 }:World)=U:=⟨_,rfl⟩
   have bU:Below w8.heap.size w8 U:=by rw [← hU];exact (Below.refl _ _).drew
   have HB:=hidp (HB8.out.trans (bU.mono HB8.out.size));have HA:=hidp (HA8.out.below bU HA8.out.lt);have HR:=hidp (HR8.out.below bU HR8.out.lt)
   clear bU HB8 HA8 HR8
   refine wp_region_noPanic ?_
   refine wp_region_scr (S:=fun W=>Arr W b11 58 (u8s rc)) (.take 0 (.take 1 (.take 2 (.take 3 (.two 4 (.two 5 (.take 6 (.take 7 (.take 8 (.one 9 (.one 10 (.take 11 .done)))))) 9 (.one 5 (.take 6 (.take 7 (.take 8 (.one 10 (.take 11 .done))))))) 9 (.one 4 (.one 5 (.take 6 (.take 7 (.take 8 (.one 10 (.take 11 .done)))))))))))) (by kernel_rfl) (by kernel_rfl) (fun _ _ _ _ _ h=>h) (by simp [Scr.depth]) (by kernel_rfl) (by rw [hU];exact HR.out) ?_
   simp only [hU]
   clear hU
   refine s_getH rfl rfl (.tmp 11) rfl b11 rc rfl hrl.out (fun _ h=>h) ?_
   iterate 3
    simp only [aS]
    apply s_val
    case ho=>rfl
    case hw=>rfl
    case hv=>intro w hw;go_simp;first | done | with_reducible rfl | rfl
   simp only [aS]
   refine ⟨?_,?_⟩
   · apply o_callE (f:=154) (args:=#[.string G2]) (hc:=c3.out _)
     case ho=>rfl
     case hw=>rfl
     case hop=>go_simp;first | done | rfl
     rintro v W' ⟨hv,hb⟩
     refine ⟨HR.out.below hb HR.out.lt,?_⟩
     have HB':=hidp (HB.out.trans (hb.mono HB.out.size));have HA':=hidp (HA.out.below hb HA.out.lt);have HR':=hidp (HR.out.below hb HR.out.lt)
     have HV:=hidp hv
     clear hv hb HB HA HR
     have HB:=HB';have HA:=HA';have HR:=HR'
     clear HB' HA' HR'
     simp only [aS]
     refine ⟨?_,?_⟩
     · apply o_call (f:=153) (args:=#[.agg (u8s rc).toArray,.int .i64 (i:Int),v]) (v:=.tuple #[.agg (u8s fd).toArray,.int .i64 0]) (hc:=c4.out _ _ HV.out (HK.out.below HB.out hkp))
       case ho=>rfl
       case hw=>rfl
       case hop=>go_simp;first | done | rfl
       rintro W' hb
       refine ⟨HR.out.below hb HR.out.lt,?_⟩
       have HB':=hidp (HB.out.trans (hb.mono HB.out.size));have HA':=hidp (HA.out.below hb HA.out.lt);have HR':=hidp (HR.out.below hb HR.out.lt)
       clear hb HB HA HR HV
       have HB:=HB';have HA:=HA';have HR:=HR'
       clear HB' HA' HR'
       iterate 3
        simp only [aS]
        apply s_val
        case ho=>rfl
        case hw=>rfl
        case hv=>intro w hw;go_simp;first | done | with_reducible rfl | rfl
       simp only [aS]
       refine o_newH rfl rfl rfl ?_
       rintro b12 W' nn
       have hb:=nn.below
       refine ⟨HR.out.below hb HR.out.lt,?_⟩
       have HB':=hidp (HB.out.trans (hb.mono HB.out.size));have HA':=hidp (HA.out.below hb HA.out.lt);have HR':=hidp (HR.out.below hb HR.out.lt);have HN:=hidp nn.arr
       have h12:=hidp (show b4<b12 from by have:=nn.at_;have:=HA.out.lt;omega);have h13:=hidp (show b11<b12 from by have:=nn.at_;have:=HR.out.lt;omega)
       have h12w:=hidp (show w.heap.size≤b12 from by have:=nn.at_;have:=HB.out.size;omega)
       skip
       clear hb HB HA HR nn
       have HB:=HB';have HA:=HA';have HR:=HR'
       clear HB' HA' HR'
       simp only [aS]
       refine o_putH rfl rfl (.tmp 12) (.tmp 39) rfl b12 fd rfl rfl hfl.out (u8s z32) rfl HN.out ?_
       rintro W' ha hp
       refine ⟨hp.old HR.out h13.out,?_⟩
       have HB':=hidp (hp.below' HB.out h12w.out);have HA':=hidp (hp.old HA.out h12.out);have HN':=hidp ha
       clear ha hp HB HA HR HN
       have HBZ:=HB';have HAZ:=HA';have HNZ:=HN'
       clear HB' HA' HN'
       simp only [aS]
       apply s_val
       case ho=>rfl
       case hw=>rfl
       case hv=>intro w hw;go_simp;first | done | with_reducible rfl | rfl
       simp only [aS]
       refine NoPanic.normal ?_
       by_cases he:fd=root
       · have e2:(!decide (fd=root))=false:=by simp [he]
         go_wp2_with (first|(refine wpL_get rfl (.tmp 12) rfl b12 fd rfl hfl.out HNZ.out ?_)|(refine wpL_get rfl (.tmp 4) rfl b4 root rfl hr HAZ.out ?_)|(refine wpL_neqg rfl (.tmp 44) (.tmp 45) _ rfl fd root rfl rfl hfl.out hr _ e2 ?_))
         go_ret
         exact ⟨by rw [HF.out,if_pos he];rfl,HBZ.out⟩
       · have e2:(!decide (fd=root))=true:=by simp [he]
         go_wp2_with (first|(refine wpL_get rfl (.tmp 12) rfl b12 fd rfl hfl.out HNZ.out ?_)|(refine wpL_get rfl (.tmp 4) rfl b4 root rfl hr HAZ.out ?_)|(refine wpL_neqg rfl (.tmp 44) (.tmp 45) _ rfl fd root rfl rfl hfl.out hr _ e2 ?_))
         go_ret
         exact ⟨by rw [HF.out,if_neg he];rfl,HBZ.out⟩
     · refine o_newH rfl rfl rfl ?_
       rintro b12 W' nn
       have hb:=nn.below
       refine ⟨HR.out.below hb HR.out.lt,?_⟩
       have HB':=hidp (HB.out.trans (hb.mono HB.out.size));have HA':=hidp (HA.out.below hb HA.out.lt);have HR':=hidp (HR.out.below hb HR.out.lt);have HN:=hidp nn.arr
       have h12:=hidp (show b4<b12 from by have:=nn.at_;have:=HA.out.lt;omega);have h13:=hidp (show b11<b12 from by have:=nn.at_;have:=HR.out.lt;omega)
       have h12w:=hidp (show w.heap.size≤b12 from by have:=nn.at_;have:=HB.out.size;omega)
       have HV':=hidp (HV.out.below hb (Nat.le_refl _) hb.size)
       clear hb HB HA HR nn HV
       have HB:=HB';have HA:=HA';have HR:=HR';have HV:=HV'
       clear HB' HA' HR' HV'
       simp only [aS]
       apply o_call (f:=153) (args:=#[.agg (u8s rc).toArray,.int .i64 (i:Int),v]) (v:=.tuple #[.agg (u8s fd).toArray,.int .i64 0]) (hc:=c4.out _ _ HV.out (HK.out.below HB.out hkp))
       case ho=>rfl
       case hw=>rfl
       case hop=>go_simp;first | done | rfl
       rintro W' hb
       refine ⟨HR.out.below hb HR.out.lt,?_⟩
       have HB':=hidp (HB.out.trans (hb.mono HB.out.size));have HA':=hidp (HA.out.below hb HA.out.lt);have HR':=hidp (HR.out.below hb HR.out.lt);have HN':=hidp (HN.out.below hb HN.out.lt)
       clear hb HB HA HR HV HN
       have HB:=HB';have HA:=HA';have HR:=HR';have HN:=HN'
       clear HB' HA' HR' HN'
       iterate 3
        simp only [aS]
        apply s_val
        case ho=>rfl
        case hw=>rfl
        case hv=>intro w hw;go_simp;first | done | with_reducible rfl | rfl
       simp only [aS]
       refine o_putH rfl rfl (.tmp 12) (.tmp 39) rfl b12 fd rfl rfl hfl.out (u8s z32) rfl HN.out ?_
       rintro W' ha hp
       refine ⟨hp.old HR.out h13.out,?_⟩
       have HB':=hidp (hp.below' HB.out h12w.out);have HA':=hidp (hp.old HA.out h12.out);have HN':=hidp ha
       clear ha hp HB HA HR HN
       have HBZ:=HB';have HAZ:=HA';have HNZ:=HN'
       clear HB' HA' HN'
       simp only [aS]
       apply s_val
       case ho=>rfl
       case hw=>rfl
       case hv=>intro w hw;go_simp;first | done | with_reducible rfl | rfl
       simp only [aS]
       refine NoPanic.normal ?_
       by_cases he:fd=root
       · have e2:(!decide (fd=root))=false:=by simp [he]
         go_wp2_with (first|(refine wpL_get rfl (.tmp 12) rfl b12 fd rfl hfl.out HNZ.out ?_)|(refine wpL_get rfl (.tmp 4) rfl b4 root rfl hr HAZ.out ?_)|(refine wpL_neqg rfl (.tmp 44) (.tmp 45) _ rfl fd root rfl rfl hfl.out hr _ e2 ?_))
         go_ret
         exact ⟨by rw [HF.out,if_pos he];rfl,HBZ.out⟩
       · have e2:(!decide (fd=root))=true:=by simp [he]
         go_wp2_with (first|(refine wpL_get rfl (.tmp 12) rfl b12 fd rfl hfl.out HNZ.out ?_)|(refine wpL_get rfl (.tmp 4) rfl b4 root rfl hr HAZ.out ?_)|(refine wpL_neqg rfl (.tmp 44) (.tmp 45) _ rfl fd root rfl rfl hfl.out hr _ e2 ?_))
         go_ret
         exact ⟨by rw [HF.out,if_neg he];rfl,HBZ.out⟩
   · refine o_newH rfl rfl rfl ?_
     rintro b12 W' nn
     have hb:=nn.below
     refine ⟨HR.out.below hb HR.out.lt,?_⟩
     have HB':=hidp (HB.out.trans (hb.mono HB.out.size));have HA':=hidp (HA.out.below hb HA.out.lt);have HR':=hidp (HR.out.below hb HR.out.lt);have HN:=hidp nn.arr
     have h12:=hidp (show b4<b12 from by have:=nn.at_;have:=HA.out.lt;omega);have h13:=hidp (show b11<b12 from by have:=nn.at_;have:=HR.out.lt;omega)
     have h12w:=hidp (show w.heap.size≤b12 from by have:=nn.at_;have:=HB.out.size;omega)
     skip
     clear hb HB HA HR nn
     have HB:=HB';have HA:=HA';have HR:=HR'
     clear HB' HA' HR'
     simp only [aS]
     apply o_callE (f:=154) (args:=#[.string G2]) (hc:=c3.out _)
     case ho=>rfl
     case hw=>rfl
     case hop=>go_simp;first | done | rfl
     rintro v W' ⟨hv,hb⟩
     refine ⟨HR.out.below hb HR.out.lt,?_⟩
     have HB':=hidp (HB.out.trans (hb.mono HB.out.size));have HA':=hidp (HA.out.below hb HA.out.lt);have HR':=hidp (HR.out.below hb HR.out.lt);have HN':=hidp (HN.out.below hb HN.out.lt)
     have HV:=hidp hv
     clear hv hb HB HA HR HN
     have HB:=HB';have HA:=HA';have HR:=HR';have HN:=HN'
     clear HB' HA' HR' HN'
     simp only [aS]
     apply o_call (f:=153) (args:=#[.agg (u8s rc).toArray,.int .i64 (i:Int),v]) (v:=.tuple #[.agg (u8s fd).toArray,.int .i64 0]) (hc:=c4.out _ _ HV.out (HK.out.below HB.out hkp))
     case ho=>rfl
     case hw=>rfl
     case hop=>go_simp;first | done | rfl
     rintro W' hb
     refine ⟨HR.out.below hb HR.out.lt,?_⟩
     have HB':=hidp (HB.out.trans (hb.mono HB.out.size));have HA':=hidp (HA.out.below hb HA.out.lt);have HR':=hidp (HR.out.below hb HR.out.lt);have HN':=hidp (HN.out.below hb HN.out.lt)
     clear hb HB HA HR HV HN
     have HB:=HB';have HA:=HA';have HR:=HR';have HN:=HN'
     clear HB' HA' HR' HN'
     iterate 3
      simp only [aS]
      apply s_val
      case ho=>rfl
      case hw=>rfl
      case hv=>intro w hw;go_simp;first | done | with_reducible rfl | rfl
     simp only [aS]
     refine o_putH rfl rfl (.tmp 12) (.tmp 39) rfl b12 fd rfl rfl hfl.out (u8s z32) rfl HN.out ?_
     rintro W' ha hp
     refine ⟨hp.old HR.out h13.out,?_⟩
     have HB':=hidp (hp.below' HB.out h12w.out);have HA':=hidp (hp.old HA.out h12.out);have HN':=hidp ha
     clear ha hp HB HA HR HN
     have HBZ:=HB';have HAZ:=HA';have HNZ:=HN'
     clear HB' HA' HN'
     simp only [aS]
     apply s_val
     case ho=>rfl
     case hw=>rfl
     case hv=>intro w hw;go_simp;first | done | with_reducible rfl | rfl
     simp only [aS]
     refine NoPanic.normal ?_
     by_cases he:fd=root
     · have e2:(!decide (fd=root))=false:=by simp [he]
       go_wp2_with (first|(refine wpL_get rfl (.tmp 12) rfl b12 fd rfl hfl.out HNZ.out ?_)|(refine wpL_get rfl (.tmp 4) rfl b4 root rfl hr HAZ.out ?_)|(refine wpL_neqg rfl (.tmp 44) (.tmp 45) _ rfl fd root rfl rfl hfl.out hr _ e2 ?_))
       go_ret
       exact ⟨by rw [HF.out,if_pos he];rfl,HBZ.out⟩
     · have e2:(!decide (fd=root))=true:=by simp [he]
       go_wp2_with (first|(refine wpL_get rfl (.tmp 12) rfl b12 fd rfl hfl.out HNZ.out ?_)|(refine wpL_get rfl (.tmp 4) rfl b4 root rfl hr HAZ.out ?_)|(refine wpL_neqg rfl (.tmp 44) (.tmp 45) _ rfl fd root rfl rfl hfl.out hr _ e2 ?_))
       go_ret
       exact ⟨by rw [HF.out,if_neg he];rfl,HBZ.out⟩
end
section
open Go.RowKit
theorem infoKey:(Tryz.prog.info? 23).map (fun i=>(i.zero,i.size))=some (some (.agg #[.string ⟨#[]⟩,.int .i64 0,.int .i64 0]),3):=by kernel_rfl
theorem key_size (x y z:Value):(Tryz.prog.info? 23).map (·.size)=some #[x,y,z].size:=by
 rw [show (Tryz.prog.info? 23).map (·.size)=some 3 from by kernel_rfl];rfl
theorem zero_key (w:World):(zeroValue 23).run Tryz.prog w=.ok (.agg #[.string ⟨#[]⟩,.int .i64 0,.int .i64 0]) w:=by
 have hi0:=infoKey
 cases hi:Tryz.prog.info? 23 with
 | none=>rw [hi] at hi0;cases hi0
 | some i0 =>
   rw [hi] at hi0
   simp only [Option.map_some,Option.some.injEq,Prod.mk.injEq] at hi0
   obtain ⟨hz0,-⟩:=hi0
   simp [zeroValue,typeInfo,hi,hz0]
section
variable {ops:Array Oper} {rest:List Oper} {o:Oper} {a:Act} {w:World} {Q:Exit→Act→World→Prop}
theorem wpL_newK (hgd:o.guard=none) (ho:o.op=.alloc 23)
 (h:∀ b W,NewAt w W b 23 [.string ⟨#[]⟩,.int .i64 0,.int .i64 0]→wpList Tryz.prog ops Q rest (a.put o.dst (.pointer (some ⟨b,0,none⟩))) W) :
 wpList Tryz.prog ops Q (o :: rest) a w:=by
 refine wpList_plain hgd fun K hK=>?_
 have:=hK _ _ (h w.heap.size (w.alloc (.cells #[.string ⟨#[]⟩,.int .i64 0,.int .i64 0] 23)) (NewAt.mk' _ _ _))
 unfold Oper.wp execOp
 simp only [ho,Instr.alloc,Sem.run_bind,Result.andThen_ok,zero_key w]
 simp [newVar,newRow,Value.cells]
 exact this
theorem wpL_boxK (hgd:o.guard=none) (x:Operand) (ho:o.op=.box 23 x) (xs:List Value) (hx:a.eval x=.agg xs.toArray)
 (h:∀ b W,NewAt w W b 23 xs→wpList Tryz.prog ops Q rest (a.put o.dst (.pointer (some ⟨b,0,none⟩))) W) :
 wpList Tryz.prog ops Q (o :: rest) a w:=by
 refine wpList_plain hgd fun K hK=>?_
 have:=hK _ _ (h w.heap.size (w.alloc (.cells xs.toArray 23)) (NewAt.mk' _ _ _))
 unfold Oper.wp execOp
 simp only [ho,Instr.box,Sem.run_bind,Result.andThen_ok,hx]
 simp [newVar,newRow,Value.cells]
 exact this
theorem wpL_putK (hgd:o.guard=none) (x y:Operand) (ho:o.op=.store 23 x y) (b:Nat) (x0 x1 x2:Value) (hx:a.eval x=.pointer (some ⟨b,0,none⟩)) (hy:a.eval y=.agg #[x0,x1,x2])
 (h1:#[x0,x1,x2].all (·.oneCell')=true) (y0 y1 y2:Value) (hg:Arr w b 23 [y0,y1,y2])
 (h:∀ W,Arr W b 23 [x0,x1,x2]→Stp b w W→wpList Tryz.prog ops Q rest (a.put o.dst undef) W):wpList Tryz.prog ops Q (o :: rest) a w :=
 wpList_store_row hgd 23 x y ho b #[x0,x1,x2] hx hy 23 _ hg (key_size _ _ _) rfl h1 (h _ (Arr.row hg _) (Stp.setRow _ _ _))
theorem wpL_getK (hgd:o.guard=none) (x:Operand) (ho:o.op=.load 23 x) (b:Nat) (x0 x1 x2:Value) (hx:a.eval x=.pointer (some ⟨b,0,none⟩)) (hg:Arr w b 23 [x0,x1,x2])
 (h:wpList Tryz.prog ops Q rest (a.put o.dst (.agg #[x0,x1,x2])) w):wpList Tryz.prog ops Q (o :: rest) a w:=by
 obtain ⟨fs,hu⟩:=key_row
 exact wpList_load_row hgd 23 x ho b hx 23 _ (0,0) _ hg hu rfl (key_size _ _ _) h
end
def sgA (S:ByteArray) (H N:Int):List Value:=if kyOk S H N=true then (if N=((2 ^ H.toNat:Nat):Int) then [.string S,.int .i64 H,.int .i64 N] else [.string S,.int .i64 H,.int .i64 (N + 1)]) else [.string ⟨#[]⟩,.int .i64 0,.int .i64 0]
def sgS (S:ByteArray) (H N:Int) (t:List UInt8):ByteArray:=if sgE S H N=0 then mkS (sigL S.data.toList H.toNat N.toNat t) else ⟨#[]⟩
theorem sg_no {S:ByteArray} {H N:Int} (t:List UInt8) (h:kyOk S H N=false):sgA S H N=[.string ⟨#[]⟩,.int .i64 0,.int .i64 0]∧sgS S H N t=⟨#[]⟩∧sgE S H N=2:=by
 have h':¬ kyOk S H N=true:=by rw [h];simp
 have e:sgE S H N=2:=if_neg h'
 refine ⟨if_neg h',?_,e⟩
 unfold sgS;rw [e];rfl
theorem sg_over {S:ByteArray} {H N:Int} (t:List UInt8) (h:kyOk S H N=true) (hn:N=((2 ^ H.toNat:Nat):Int)):sgA S H N=[.string S,.int .i64 H,.int .i64 N]∧sgS S H N t=⟨#[]⟩∧sgE S H N=10:=by
 have e:sgE S H N=10:=by unfold sgE;rw [if_pos h,if_pos hn]
 refine ⟨by unfold sgA;rw [if_pos h,if_pos hn],?_,e⟩
 unfold sgS;rw [e];rfl
theorem sg_yes {S:ByteArray} {H N:Int} (t:List UInt8) (h:kyOk S H N=true) (hn:N≠((2 ^ H.toNat:Nat):Int)):sgA S H N=[.string S,.int .i64 H,.int .i64 (N + 1)]∧sgS S H N t=mkS (sigL S.data.toList H.toNat N.toNat t)∧sgE S H N=0:=by
 have e:sgE S H N=0:=by unfold sgE;rw [if_pos h,if_neg hn]
 refine ⟨by unfold sgA;rw [if_pos h,if_neg hn],?_,e⟩
 unfold sgS;rw [if_pos e]
theorem kclone_any (s:ByteArray) (w:World) (hlim:s.size≤281474976710656) :
 Calls Tryz.prog 69 #[.string s] w fun e w'=>e=.returned (.string s)∧Below w.heap.size w w':=by
 go_enter Tryz.func69,Tryz.ntmps69
 go_wp2_with (go_at_call 123;refine (Tryz.stringslite_Clone _ _ hlim).mono ?_;rintro e w1 ⟨rfl,hb1⟩)
 go_ret
 exact ⟨rfl,hb1⟩
theorem owned_any (w:World) (S:ByteArray) (H N:Int) (hS:S.size≤281474976710656) :
 Calls Tryz.prog 62 #[.agg #[.string S,.int .i64 H,.int .i64 N]] w fun e w'=>e=.returned (.agg #[.string S,.int .i64 H,.int .i64 N])∧Below w.heap.size w w':=by
 go_enter Tryz.func62,Tryz.ntmps62
 go_wp2_with (first|(refine wpL_boxK rfl _ rfl [.string S,.int .i64 H,.int .i64 N] rfl ?_;intro b1 w1 n1)|(refine wpL_newK rfl rfl ?_;intro b2 w2 n2;have HA1:=hidp (n2.old n1.arr);have HA2:=hidp n2.arr;have HB2:=hidp (n1.below.trans (n2.below.mono n1.below.size));have h1w:=hidp n1.le;have h12:=hidp (show b1<b2 from by have:=n2.at_;have:=n1.lt;omega);clear n1 n2;obtain ⟨x0,x1,x2,xf⟩:=arr3k HA1.out))
 refine (kclone_any S _ hS).mono ?_
 rintro e w3 ⟨rfl,hb3⟩
 have HA3:=hidp (HA1.out.below hb3 HA1.out.lt);have HA4:=hidp (HA2.out.below hb3 HA2.out.lt);have HB3:=hidp (HB2.out.trans (hb3.mono HB2.out.size))
 clear hb3 x0 x1 x2 xf
 obtain ⟨x0,x1,x2,xf⟩:=arr3k HA3.out
 obtain ⟨y0,y1,y2,yf⟩:=arr3k HA4.out
 have hne:b1≠b2:=by have:=h12.out;omega
 have hne':b2≠b1:=Ne.symm hne
 have f0:=xf 0;have g0:=yf 0;have g1:=yf 1;have g2:=yf 2
 clear xf yf
 go_wp2_with fail
 refine bodyPost_ret (v:=.agg #[.string S,.int .i64 H,.int .i64 N]) (by simp [results,Tryz.results62,go_sem,x0,x1,x2,y0,y1,y2,hne,hne']) rfl ⟨rfl,?_⟩
 repeat (refine Below.setCell ?_ (by first | exact h1w.out|(have:=h1w.out;have:=h12.out;simp;omega)) _)
 exact HB3.out
end
section
open Go.RowKit
end
end Go.Proofs.YtokakgjcegmabaaGreatDoor
