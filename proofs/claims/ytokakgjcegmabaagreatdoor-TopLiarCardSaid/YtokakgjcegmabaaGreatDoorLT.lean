import Derived.Test.YtokakgjcegmabaaGreatDoorLC
import Derived.Test.YtokakgjcegmabaaGreatDoorCards
import Derived.Test.YtokakgjcegmabaaGreatDoorTie
import Derived.ProofKit
import Derived.OpenShut
import Derived.ShutString
import Derived.SliceStrings
import Derived.SizedLaws
import Derived.Lib.SmallJoins
import Derived.Stop.LaidErr
import Derived.Deep.DeepHandedRow
import Derived.Test.YtokakgjcegmabaaGreatDoorLH
import Derived.Test.YtokakgjcegmabaaGreatDoorLK
import Derived.Deep.Slices
import Derived.Test.YtokakgjcegmabaaGreatDoorLS4
import Derived.Test.YtokakgjcegmabaaGreatDoorLM
set_option linter.unusedVariables false
set_option linter.unusedSimpArgs false
set_option maxHeartbeats 64000000
set_option maxRecDepth 100000
namespace Go.Proofs.YtokakgjcegmabaaGreatDoor
section
open Go.RowKit Go.ChangeShapes Go.WideShapes Go.ChangeAt
theorem gERange : Tryz.prog.globalNamed "strconv.ErrRange" = some 6 := by kernel_rfl
theorem gERangeT:(Tryz.prog.globals[6]?).map (·.type)=some 263:=by kernel_rfl
theorem gESyn : Tryz.prog.globalNamed "strconv.ErrSyntax" = some 5 := by kernel_rfl
theorem gESynT:(Tryz.prog.globals[5]?).map (·.type)=some 263:=by kernel_rfl
theorem gMarks : Tryz.prog.globalNamed "palaver/ident.marks" = some 3 := by kernel_rfl
theorem gMarksT:(Tryz.prog.globals[3]?).map (·.type)=some 183:=by kernel_rfl
theorem starEs : "*" ++ "errors.errorString" = "*errors.errorString" := by decide
theorem rowEs (u : TypeId) (h : Tryz.prog.typeName? 3 u = some "*errors.errorString") : u = 295 :=
 typeName_ptr_named (nm := "errors.errorString") (by rw [starEs];kernel_rfl) (by kernel_rfl) (by decide) u (by rw [starEs];exact h)
theorem cellsEs:Tryz.prog.cellsOf 297=1:=by kernel_rfl
theorem cellsStr:Tryz.prog.cellsOf 9=1:=by kernel_rfl
theorem sized_agg {H:Type} {P:Program} {ts:List TypeId} {ds:List (DataW H)} (h:(DataW.weightsEach P ts ds).all (·≤reachBytes)=true) {j:Nat} {t:TypeId} {parts:List (DataW H)} {fs:Array Field}
 (ht:ts[j]?=some t) (hd:ds[j]?=some (.agg parts)) (hu:P.underlying t=some (.struct fs)):(DataW.weightsEach P (fs.toList.map (·.type)) parts).all (·≤reachBytes)=true:=by
 rw [List.all_eq_true]
 intro x hx
 exact List.all_eq_true.1 h x (DataW.weights_mem_each ht hd x (by simp only [DataW.weights,hu];exact hx))
theorem strTab_of_head {W:World} {nm:String} {g:Nat} {t:TypeId} {n:Nat} {texts:List (List UInt8)} {rest:List (String × DataW Unit)}
 (h:laidMet Tryz.prog ((nm,.agg (texts.map fun l=>.lit (.string l))) :: rest) W) (hg:Tryz.prog.globalNamed nm=some g) (ht:(Tryz.prog.globals[g]?).map (·.type)=some t)
 (hu:Tryz.prog.underlying t=some (.array n 9)) (hn:texts.length=n) (i:Nat) (hi:i<n):W.cell? ⟨g,i,none⟩=some (.string (mkS (texts.getD i []))):=by
 obtain ⟨ps,⟨g0,t0,cs0,f0,p0,q0,hg0,ht0,hv0,hd0,_,_⟩,_,_⟩:=h
 obtain rfl:=Option.some.inj (hg.symm.trans hg0)
 obtain rfl:=Option.some.inj (ht.symm.trans ht0)
 obtain ⟨xs,m,rfl,hx,hl,hxl,hel⟩:=DataW.trod_array hu hd0
 rw [cellsStr] at hel
 have h1:=hel i hi
 have hxi:i<xs.length:=by omega
 rw [List.getElem?_eq_getElem hxi] at h1
 obtain ⟨s,hs,hx1,_⟩:=DataW.trod_string Tryz.underlying9 h1
 have hcell:=World.var?_cell hg hv0 i
 simp only [Nat.mul_one] at hs
 have hc:cs0[i]?=some (.string s):=by
  have:=congrArg (·[0]?) hs
  simp only [List.getElem?_take,List.getElem?_drop] at this
  simpa using this
 have hd:DataW.lit (H:=Unit) (.string (texts.getD i []))=.lit (.string s.data.toList):=by
  have e:=congrArg Prod.fst hx
  simp only [DataW.agg.injEq] at e
  have e1:=congrArg (·[i]?) e
  simp only [List.getElem?_map,List.getElem?_eq_getElem hxi,List.getElem?_eq_getElem (show i<texts.length from by omega),Option.map_some,Option.some.injEq] at e1
  rw [hx1] at e1
  rw [List.getD_eq_getElem?_getD,List.getElem?_eq_getElem (show i<texts.length from by omega)]
  exact e1
 simp only [DataW.lit.injEq,Lit.string.injEq] at hd
 rw [hc] at hcell
 rw [hcell,hd,mkS_of]
theorem it_of_laid {W:World} {x0 x1 x2:String × DataW Unit} {rest:List (String × DataW Unit)}
 (h : laidMet Tryz.prog (x0 :: x1 :: x2 :: ("strconv.ErrRange", Rows.laid_strconv_ErrRange) :: ("strconv.ErrSyntax", Rows.laid_strconv_ErrSyntax) :: ("palaver/ident.marks", Rows.laid_palaver_ident_marks) :: rest) W) : IT W := by
 have h3:=h.tail.tail.tail
 have h4:=h3.tail
 have h5:=h4.tail
 obtain ⟨a0,s0,hv0,-,-,-⟩:=laid_sentinel h3 gERange gERangeT Tryz.underlying263 rowEs Tryz.underlying295 Tryz.underlying297 rfl rfl Tryz.underlying9 cellsEs cellsStr
 obtain ⟨a1,s1,hv1,-,-,-⟩:=laid_sentinel h4 gESyn gESynT Tryz.underlying263 rowEs Tryz.underlying295 Tryz.underlying297 rfl rfl Tryz.underlying9 cellsEs cellsStr
 have h5' : laidMet Tryz.prog (("palaver/ident.marks", .agg (([[], [64], [33]] : List (List UInt8)).map fun l => .lit (.string l))) :: rest) W := h5
 have e1:W.cell? ⟨5,0,none⟩=some (.iface 295 (.pointer (some a1))):=by have h0:=World.var?_cell gESyn hv1 0;simpa using h0
 have e2:W.cell? ⟨6,0,none⟩=some (.iface 295 (.pointer (some a0))):=by have h0:=World.var?_cell gERange hv0 0;simpa using h0
 exact ⟨⟨strTab_of_head h5' gMarks gMarksT Tryz.underlying183 rfl 1 (by omega),strTab_of_head h5' gMarks gMarksT Tryz.underlying183 rfl 2 (by omega)⟩,⟨_,_,e1⟩,⟨_,_,e2⟩⟩
section
variable {H:Type} {enc:TypeId × Value→H} {w:World} {base:Nat} {spare:Nat→Bool} {held:Bool}
end
end
section
open Go.RowKit Go.ChangeShapes Go.WideShapes Go.ChangeAt
section
variable {H:Type} {enc:TypeId × Value→H} {w:World} {base:Nat} {spare:Nat→Bool} {held:Bool}
set_option maxRecDepth 100000 in
theorem trod_hash {fuel:Nat} {cs:List Value} {x:DataW H × List MemPlace} (hlen:cs.length=32) (hf:DataW.trod enc Tryz.prog w base spare held fuel 58 cs=some x):∃ l:List UInt8,cs=u8s l∧l.length=32:=by
 have ht:Tryz.prog.underlying 58=some (.array 32 5):=by kernel_rfl
 have he:Tryz.prog.underlying 5=some (.int .u8):=Tryz.underlying5
 have hce:Tryz.prog.cellsOf 5=1:=by kernel_rfl
 obtain ⟨xs,m,rfl,hx,hl,hxl,hel⟩:=DataW.trod_array ht hf
 rw [hce] at hel
 have hone:∀ i (hi:i<32),∃ b:UInt8,cs[i]?=some (.int .u8 (b.toNat:Int)):=by
  intro i hi
  have h:=hel i hi
  have hxi:i<xs.length:=by omega
  rw [List.getElem?_eq_getElem hxi] at h
  obtain ⟨z,hc,hz,hw⟩:=DataW.trod_int he h
  have hcz:cs[i]?=some (.int .u8 z):=by
   have:=congrArg (·[0]?) hc
   simp [List.getElem?_take,List.getElem?_drop] at this
   exact this
  have hzr:0≤z∧z<256:=by simp [Lit.wf,IntKind.min,IntKind.max,IntKind.signed,IntKind.bits] at hw;omega
  refine ⟨UInt8.ofNat z.toNat,?_⟩
  rw [u8n _ (by omega),show ((z.toNat:Nat):Int)=z from by omega]
  exact hcz
 have hall:∀ n,n≤32→∃ l:List UInt8,l.length=n∧∀ i,i<n→∃ b:UInt8,l[i]?=some b∧cs[i]?=some (.int .u8 (b.toNat:Int)):=by
  intro n
  induction n with
  | zero=>intro _;exact ⟨[],rfl,fun i hi=>by omega⟩
  | succ n ih =>
    intro hn
    obtain ⟨l,hl1,hl2⟩:=ih (by omega)
    obtain ⟨b,hb1⟩:=hone n (by omega)
    refine ⟨l++[b],by simp [hl1],fun i hi=>?_⟩
    rcases (by omega:i<n∨i=n) with h | rfl
    · obtain ⟨c,h1,h2⟩:=hl2 i h
      exact ⟨c,by rw [List.getElem?_append_left (by omega)];exact h1,h2⟩
    · exact ⟨b,by rw [List.getElem?_append_right (by omega),hl1];simp,hb1⟩
 obtain ⟨l,hll,hlg⟩:=hall 32 (Nat.le_refl _)
 refine ⟨l,?_,hll⟩
 apply List.ext_getElem?
 intro i
 by_cases hi:i<32
 · obtain ⟨c,h1,h2⟩:=hlg i hi
   rw [h2]
   simp [u8s,h1]
 · rw [List.getElem?_eq_none (by omega),List.getElem?_eq_none (by simp [u8s,hll];omega)]
end
end
end Go.Proofs.YtokakgjcegmabaaGreatDoor
namespace Go.Proofs.YtokakgjcegmabaaGreatDoor.En
open Go.RowKit Go.ChangeShapes Go.WideShapes Go.ChangeAt
theorem split37 {l:List Value} (h:l.length=37):∃ c0 c1 c2 M c35 c36,M.length=32∧l=c0 :: c1 :: c2 :: (M++[c35,c36]):=by
 match l,h with
 | c0 :: c1 :: c2 :: t, h =>
   have ht:t.length=34:=by simpa using h
   have h2:(t.drop 32).length=2:=by simp [ht]
   match hd:t.drop 32,h2 with
   | [a,b],_=>exact ⟨c0,c1,c2,t.take 32,a,b,by simp [ht],by rw [← hd,List.take_append_drop]⟩
section
variable {H:Type} {enc:TypeId × Value→H} {w:World} {base:Nat} {spare:Nat→Bool} {held:Bool}
theorem open_entry {r:Reach} {b0:Nat} {v:Value} {d:DataW H} {ps:List MemPlace} (hval:Value.okWide Tryz.prog w r b0 103 v) (hd:DataW.Trod enc Tryz.prog w base spare held 103 v d ps) :
 ∃ (x : En) (dh : DataW H), v = .agg x.row.toArray ∧ x.p.length = 32 ∧
   d=.agg [.lit (.string x.r.data.toList),.lit (.int .i64 x.e),.lit (.int .i64 x.i),dh,.lit (.string x.v.data.toList),.lit (.string x.g.data.toList)]:=by
 have he:=Tryz.underlying103
 have hce:Tryz.prog.cellsOf 103=37:=by kernel_rfl
 have hci:Tryz.prog.cellsOf 3=1:=by kernel_rfl
 have hch:Tryz.prog.cellsOf 58=32:=by kernel_rfl
 obtain ⟨cs,rfl,hsz⟩:=okWide_struct he hval
 rw [hce] at hsz
 obtain ⟨l⟩:=cs
 simp only [List.size_toArray] at hsz
 obtain ⟨fuel,hf⟩:=hd
 obtain ⟨ys,n',hn',hy,hlen,hyl,hfl⟩:=DataW.trod_struct he hf
 have hyl6:ys.length=6:=hyl
 obtain ⟨c0,c1,c2,M,c35,c36,hM,rfl⟩:=split37 hsz
 match ys,hyl6,hfl,hy with
 | [y0, y1, y2, y3, y4, y5], _, hfl, hy =>
   have g0:DataW.trod enc Tryz.prog w base spare held n' 9 (List.take (Tryz.prog.cellsOf 9) (List.drop 0 (c0 :: c1 :: c2 :: (M++[c35,c36]))))=some y0:=hfl 0 _ rfl
   rw [show List.take (Tryz.prog.cellsOf 9) (List.drop 0 (c0 :: c1 :: c2 :: (M++[c35,c36])))=[c0] from by rw [cellsStr];rfl] at g0
   have g1:DataW.trod enc Tryz.prog w base spare held n' 3 (List.take (Tryz.prog.cellsOf 3) (List.drop 1 (c0 :: c1 :: c2 :: (M++[c35,c36]))))=some y1:=hfl 1 _ rfl
   rw [show List.take (Tryz.prog.cellsOf 3) (List.drop 1 (c0 :: c1 :: c2 :: (M++[c35,c36])))=[c1] from by rw [hci];rfl] at g1
   have g2:DataW.trod enc Tryz.prog w base spare held n' 3 (List.take (Tryz.prog.cellsOf 3) (List.drop 2 (c0 :: c1 :: c2 :: (M++[c35,c36]))))=some y2:=hfl 2 _ rfl
   rw [show List.take (Tryz.prog.cellsOf 3) (List.drop 2 (c0 :: c1 :: c2 :: (M++[c35,c36])))=[c2] from by rw [hci];rfl] at g2
   have g3:DataW.trod enc Tryz.prog w base spare held n' 58 (List.take (Tryz.prog.cellsOf 58) (List.drop 3 (c0 :: c1 :: c2 :: (M++[c35,c36]))))=some y3:=hfl 3 _ rfl
   rw [show List.take (Tryz.prog.cellsOf 58) (List.drop 3 (c0 :: c1 :: c2 :: (M++[c35,c36])))=M from by rw [hch];show List.take 32 (M++[c35,c36])=M;rw [List.take_append_of_le_length (by omega),List.take_of_length_le (by omega)]] at g3
   have g4:DataW.trod enc Tryz.prog w base spare held n' 9 (List.take (Tryz.prog.cellsOf 9) (List.drop 35 (c0 :: c1 :: c2 :: (M++[c35,c36]))))=some y4:=hfl 4 _ rfl
   rw [show List.take (Tryz.prog.cellsOf 9) (List.drop 35 (c0 :: c1 :: c2 :: (M++[c35,c36])))=[c35] from by rw [cellsStr];show List.take 1 (List.drop 32 (M++[c35,c36]))=[c35];rw [List.drop_left' hM];rfl] at g4
   have g5:DataW.trod enc Tryz.prog w base spare held n' 9 (List.take (Tryz.prog.cellsOf 9) (List.drop 36 (c0 :: c1 :: c2 :: (M++[c35,c36]))))=some y5:=hfl 5 _ rfl
   rw [show List.take (Tryz.prog.cellsOf 9) (List.drop 36 (c0 :: c1 :: c2 :: (M++[c35,c36])))=[c36] from by rw [cellsStr];show List.take 1 (List.drop 33 (M++[c35,c36]))=[c36];rw [show 33=32 + 1 from rfl,← List.drop_drop,List.drop_left' hM];rfl] at g5
   obtain ⟨a0,e0,z0,w0⟩:=DataW.trod_string Tryz.underlying9 g0
   obtain ⟨a1,e1,z1,w1⟩:=DataW.trod_int Tryz.underlying3 g1
   obtain ⟨a2,e2,z2,w2⟩:=DataW.trod_int Tryz.underlying3 g2
   obtain ⟨p,e3,w3⟩:=trod_hash hM g3
   obtain ⟨a4,e4,z4,w4⟩:=DataW.trod_string Tryz.underlying9 g4
   obtain ⟨a5,e5,z5,w5⟩:=DataW.trod_string Tryz.underlying9 g5
   simp only [List.cons.injEq,and_true] at e0 e1 e2 e4 e5
   subst e0 e1 e2 e3 e4 e5 z0 z1 z2 z4 z5
   refine ⟨⟨a0,a1,a2,p,a4,a5⟩,y3.1,rfl,w3,?_⟩
   have e:=congrArg Prod.fst hy
   simpa using e
end
theorem all_of_laid {W:World} {x0 x1 x2:String × DataW Unit} {rest:List (String × DataW Unit)}
 (h : laidMet Tryz.prog (x0 :: x1 :: x2 :: ("palaver/sha.constants", Rows.laid_palaver_sha_constants) :: ("strconv.ErrRange", Rows.laid_strconv_ErrRange) :: ("strconv.ErrSyntax", Rows.laid_strconv_ErrSyntax) :: ("palaver/ident.marks", Rows.laid_palaver_ident_marks) :: rest) W) : IT W ∧ KT W :=
 ⟨it_of_laid h.tail,kt_of_laid h.tail.tail.tail⟩
end Go.Proofs.YtokakgjcegmabaaGreatDoor.En
namespace Go.Proofs.YtokakgjcegmabaaGreatDoor
open Go.RowKit Go.ChangeShapes Go.WideShapes Go.ChangeAt
section
variable {H:Type} {enc:TypeId × Value→H} {w:World} {base:Nat} {spare:Nat→Bool} {held:Bool}
theorem open_key {r:Reach} {b0:Nat} {v:Value} {d:DataW H} {ps:List MemPlace} (hval:Value.okWide Tryz.prog w r b0 23 v) (hd:DataW.Trod enc Tryz.prog w base spare held 23 v d ps) :
 ∃ (s:ByteArray) (x y:Int),v=.agg #[.string s,.int .i64 x,.int .i64 y]∧(Lit.int .i64 x).wf=true∧(Lit.int .i64 y).wf=true∧d=.agg [.lit (.string s.data.toList),.lit (.int .i64 x),.lit (.int .i64 y)]:=by
 obtain ⟨v0,v1,v2,y0,y1,y2,n,rfl,hd1,-,h0,h1,h2⟩:=Go.Joins.open_agg3 Tryz.underlying23 (by kernel_rfl) (by kernel_rfl) hval hd
 obtain ⟨s,hs,hy0,_⟩:=DataW.trod_string Tryz.underlying9 h0
 obtain ⟨x,hx,hy1,wx⟩:=DataW.trod_int Tryz.underlying3 h1
 obtain ⟨y,hy,hy2,wy⟩:=DataW.trod_int Tryz.underlying3 h2
 simp at hs hx hy
 subst hs hx hy
 exact ⟨s,x,y,rfl,wx,wy,by rw [hd1,hy0,hy1,hy2]⟩
end
end Go.Proofs.YtokakgjcegmabaaGreatDoor
