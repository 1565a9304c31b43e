import Derived.Test.YtokakgjcegmabaaGreatDoorWC
import Derived.Test.YtokakgjcegmabaaGreatDoorCards
import Derived.Test.YtokakgjcegmabaaGreatDoorTie
import Derived.ProofKit
import Derived.OpenShut
import Derived.ShutString
import Derived.SliceStrings
import Derived.SizedLaws
import Derived.Lib.SmallJoins
import Derived.Stop.LaidErr
import Derived.Deep.DeepHandedRow
import Derived.Test.YtokakgjcegmabaaGreatDoorWH
import Derived.Test.YtokakgjcegmabaaGreatDoorWK
import Derived.Deep.Slices
import Derived.Test.YtokakgjcegmabaaGreatDoorWS4
import Derived.Test.YtokakgjcegmabaaGreatDoorWN
import Derived.Test.YtokakgjcegmabaaGreatDoorWPM
set_option linter.unusedVariables false
set_option linter.unusedSimpArgs false
set_option maxHeartbeats 64000000
set_option maxRecDepth 100000
namespace Go.Proofs.YtokakgjcegmabaaGreatDoor
section
open Go.RowKit Go.ChangeShapes Go.WideShapes Go.ChangeAt
theorem gERange : Tryz.prog.globalNamed "strconv.ErrRange" = some 6 := by kernel_rfl
theorem gERangeT:(Tryz.prog.globals[6]?).map (·.type)=some 263:=by kernel_rfl
theorem gESyn : Tryz.prog.globalNamed "strconv.ErrSyntax" = some 5 := by kernel_rfl
theorem gESynT:(Tryz.prog.globals[5]?).map (·.type)=some 263:=by kernel_rfl
theorem gMarks : Tryz.prog.globalNamed "palaver/ident.marks" = some 3 := by kernel_rfl
theorem gMarksT:(Tryz.prog.globals[3]?).map (·.type)=some 183:=by kernel_rfl
theorem starEs : "*" ++ "errors.errorString" = "*errors.errorString" := by decide
theorem rowEs (u : TypeId) (h : Tryz.prog.typeName? 3 u = some "*errors.errorString") : u = 295 :=
 typeName_ptr_named (nm := "errors.errorString") (by rw [starEs];kernel_rfl) (by kernel_rfl) (by decide) u (by rw [starEs];exact h)
theorem cellsEs:Tryz.prog.cellsOf 297=1:=by kernel_rfl
theorem cellsStr:Tryz.prog.cellsOf 9=1:=by kernel_rfl
theorem sized_agg {H:Type} {P:Program} {ts:List TypeId} {ds:List (DataW H)} (h:(DataW.weightsEach P ts ds).all (·≤reachBytes)=true) {j:Nat} {t:TypeId} {parts:List (DataW H)} {fs:Array Field}
 (ht:ts[j]?=some t) (hd:ds[j]?=some (.agg parts)) (hu:P.underlying t=some (.struct fs)):(DataW.weightsEach P (fs.toList.map (·.type)) parts).all (·≤reachBytes)=true:=by
 rw [List.all_eq_true]
 intro x hx
 exact List.all_eq_true.1 h x (DataW.weights_mem_each ht hd x (by simp only [DataW.weights,hu];exact hx))
theorem strTab_of_head {W:World} {nm:String} {g:Nat} {t:TypeId} {n:Nat} {texts:List (List UInt8)} {rest:List (String × DataW Unit)}
 (h:laidMet Tryz.prog ((nm,.agg (texts.map fun l=>.lit (.string l))) :: rest) W) (hg:Tryz.prog.globalNamed nm=some g) (ht:(Tryz.prog.globals[g]?).map (·.type)=some t)
 (hu:Tryz.prog.underlying t=some (.array n 9)) (hn:texts.length=n) (i:Nat) (hi:i<n):W.cell? ⟨g,i,none⟩=some (.string (mkS (texts.getD i []))):=by
 obtain ⟨ps,⟨g0,t0,cs0,f0,p0,q0,hg0,ht0,hv0,hd0,_,_⟩,_,_⟩:=h
 obtain rfl:=Option.some.inj (hg.symm.trans hg0)
 obtain rfl:=Option.some.inj (ht.symm.trans ht0)
 obtain ⟨xs,m,rfl,hx,hl,hxl,hel⟩:=DataW.trod_array hu hd0
 rw [cellsStr] at hel
 have h1:=hel i hi
 have hxi:i<xs.length:=by omega
 rw [List.getElem?_eq_getElem hxi] at h1
 obtain ⟨s,hs,hx1,_⟩:=DataW.trod_string Tryz.underlying9 h1
 have hcell:=World.var?_cell hg hv0 i
 simp only [Nat.mul_one] at hs
 have hc:cs0[i]?=some (.string s):=by
  have:=congrArg (·[0]?) hs
  simp only [List.getElem?_take,List.getElem?_drop] at this
  simpa using this
 have hd:DataW.lit (H:=Unit) (.string (texts.getD i []))=.lit (.string s.data.toList):=by
  have e:=congrArg Prod.fst hx
  simp only [DataW.agg.injEq] at e
  have e1:=congrArg (·[i]?) e
  simp only [List.getElem?_map,List.getElem?_eq_getElem hxi,List.getElem?_eq_getElem (show i<texts.length from by omega),Option.map_some,Option.some.injEq] at e1
  rw [hx1] at e1
  rw [List.getD_eq_getElem?_getD,List.getElem?_eq_getElem (show i<texts.length from by omega)]
  exact e1
 simp only [DataW.lit.injEq,Lit.string.injEq] at hd
 rw [hc] at hcell
 rw [hcell,hd,mkS_of]
theorem it_of_laid {W:World} {x0 x1 x2:String × DataW Unit} {rest:List (String × DataW Unit)}
 (h : laidMet Tryz.prog (x0 :: x1 :: x2 :: ("strconv.ErrRange", Rows.laid_strconv_ErrRange) :: ("strconv.ErrSyntax", Rows.laid_strconv_ErrSyntax) :: ("palaver/ident.marks", Rows.laid_palaver_ident_marks) :: rest) W) : IT W := by
 have h3:=h.tail.tail.tail
 have h4:=h3.tail
 have h5:=h4.tail
 obtain ⟨a0,s0,hv0,-,-,-⟩:=laid_sentinel h3 gERange gERangeT Tryz.underlying263 rowEs Tryz.underlying295 Tryz.underlying297 rfl rfl Tryz.underlying9 cellsEs cellsStr
 obtain ⟨a1,s1,hv1,-,-,-⟩:=laid_sentinel h4 gESyn gESynT Tryz.underlying263 rowEs Tryz.underlying295 Tryz.underlying297 rfl rfl Tryz.underlying9 cellsEs cellsStr
 have h5' : laidMet Tryz.prog (("palaver/ident.marks", .agg (([[], [64], [33]] : List (List UInt8)).map fun l => .lit (.string l))) :: rest) W := h5
 have e1:W.cell? ⟨5,0,none⟩=some (.iface 295 (.pointer (some a1))):=by have h0:=World.var?_cell gESyn hv1 0;simpa using h0
 have e2:W.cell? ⟨6,0,none⟩=some (.iface 295 (.pointer (some a0))):=by have h0:=World.var?_cell gERange hv0 0;simpa using h0
 exact ⟨⟨strTab_of_head h5' gMarks gMarksT Tryz.underlying183 rfl 1 (by omega),strTab_of_head h5' gMarks gMarksT Tryz.underlying183 rfl 2 (by omega)⟩,⟨_,_,e1⟩,⟨_,_,e2⟩⟩
section
variable {H:Type} {enc:TypeId × Value→H} {w:World} {base:Nat} {spare:Nat→Bool} {held:Bool}
end
end
section
open Go.RowKit Go.ChangeShapes Go.WideShapes Go.ChangeAt
section
variable {H:Type} {enc:TypeId × Value→H} {w:World} {base:Nat} {spare:Nat→Bool} {held:Bool}
set_option maxRecDepth 100000 in
theorem trod_hash {fuel:Nat} {cs:List Value} {x:DataW H × List MemPlace} (hlen:cs.length=32) (hf:DataW.trod enc Tryz.prog w base spare held fuel 58 cs=some x):∃ l:List UInt8,cs=u8s l∧l.length=32:=by
 have ht:Tryz.prog.underlying 58=some (.array 32 5):=by kernel_rfl
 have he:Tryz.prog.underlying 5=some (.int .u8):=Tryz.underlying5
 have hce:Tryz.prog.cellsOf 5=1:=by kernel_rfl
 obtain ⟨xs,m,rfl,hx,hl,hxl,hel⟩:=DataW.trod_array ht hf
 rw [hce] at hel
 have hone:∀ i (hi:i<32),∃ b:UInt8,cs[i]?=some (.int .u8 (b.toNat:Int)):=by
  intro i hi
  have h:=hel i hi
  have hxi:i<xs.length:=by omega
  rw [List.getElem?_eq_getElem hxi] at h
  obtain ⟨z,hc,hz,hw⟩:=DataW.trod_int he h
  have hcz:cs[i]?=some (.int .u8 z):=by
   have:=congrArg (·[0]?) hc
   simp [List.getElem?_take,List.getElem?_drop] at this
   exact this
  have hzr:0≤z∧z<256:=by simp [Lit.wf,IntKind.min,IntKind.max,IntKind.signed,IntKind.bits] at hw;omega
  refine ⟨UInt8.ofNat z.toNat,?_⟩
  rw [u8n _ (by omega),show ((z.toNat:Nat):Int)=z from by omega]
  exact hcz
 have hall:∀ n,n≤32→∃ l:List UInt8,l.length=n∧∀ i,i<n→∃ b:UInt8,l[i]?=some b∧cs[i]?=some (.int .u8 (b.toNat:Int)):=by
  intro n
  induction n with
  | zero=>intro _;exact ⟨[],rfl,fun i hi=>by omega⟩
  | succ n ih =>
    intro hn
    obtain ⟨l,hl1,hl2⟩:=ih (by omega)
    obtain ⟨b,hb1⟩:=hone n (by omega)
    refine ⟨l++[b],by simp [hl1],fun i hi=>?_⟩
    rcases (by omega:i<n∨i=n) with h | rfl
    · obtain ⟨c,h1,h2⟩:=hl2 i h
      exact ⟨c,by rw [List.getElem?_append_left (by omega)];exact h1,h2⟩
    · exact ⟨b,by rw [List.getElem?_append_right (by omega),hl1];simp,hb1⟩
 obtain ⟨l,hll,hlg⟩:=hall 32 (Nat.le_refl _)
 refine ⟨l,?_,hll⟩
 apply List.ext_getElem?
 intro i
 by_cases hi:i<32
 · obtain ⟨c,h1,h2⟩:=hlg i hi
   rw [h2]
   simp [u8s,h1]
 · rw [List.getElem?_eq_none (by omega),List.getElem?_eq_none (by simp [u8s,hll];omega)]
end
end
end Go.Proofs.YtokakgjcegmabaaGreatDoor
namespace Go.Proofs.YtokakgjcegmabaaGreatDoor.En
open Go.RowKit Go.ChangeShapes Go.WideShapes Go.ChangeAt
section
variable {H:Type} {enc:TypeId × Value→H} {w:World} {base:Nat} {spare:Nat→Bool} {held:Bool}
end
theorem all_of_laid {W:World} {x0 x1 x2:String × DataW Unit} {rest:List (String × DataW Unit)}
 (h : laidMet Tryz.prog (x0 :: x1 :: x2 :: ("palaver/sha.constants", Rows.laid_palaver_sha_constants) :: ("strconv.ErrRange", Rows.laid_strconv_ErrRange) :: ("strconv.ErrSyntax", Rows.laid_strconv_ErrSyntax) :: ("palaver/ident.marks", Rows.laid_palaver_ident_marks) :: rest) W) : IT W ∧ KT W :=
 ⟨it_of_laid h.tail,kt_of_laid h.tail.tail.tail⟩
end Go.Proofs.YtokakgjcegmabaaGreatDoor.En
namespace Go.Proofs.YtokakgjcegmabaaGreatDoor.En
open Go.RowKit Go.ChangeShapes Go.WideShapes Go.ChangeAt
theorem split36 {l:List Value} (h:l.length=36):∃ c0 c1 c2 c3 M,M.length=32∧l=c0 :: c1 :: c2 :: c3 :: M:=by
 match l,h with
 | c0 :: c1 :: c2 :: c3 :: t,h=>exact ⟨c0,c1,c2,c3,t,by simpa using h,rfl⟩
section
variable {H:Type} {enc:TypeId × Value→H} {w:World} {base:Nat} {spare:Nat→Bool} {held:Bool}
theorem trod_gr {fuel:Nat} {cs:List Value} {x:DataW H × List MemPlace} (hlen:cs.length=36) (hf:DataW.trod enc Tryz.prog w base spare held fuel 61 cs=some x):∃ g:Gr,g.ok∧cs=g.row:=by
 have he:=Tryz.underlying61
 have hci:Tryz.prog.cellsOf 3=1:=by kernel_rfl
 have hcj:Tryz.prog.cellsOf 2=1:=by kernel_rfl
 have hch:Tryz.prog.cellsOf 58=32:=by kernel_rfl
 obtain ⟨ys,n',hn',hy,hl',hyl,hfl⟩:=DataW.trod_struct he hf
 have hyl5:ys.length=5:=hyl
 obtain ⟨c0,c1,c2,c3,M,hM,rfl⟩:=split36 hlen
 match ys,hyl5,hfl,hy with
 | [y0, y1, y2, y3, y4], _, hfl, hy =>
   have g0:DataW.trod enc Tryz.prog w base spare held n' 3 (List.take (Tryz.prog.cellsOf 3) (List.drop 0 (c0 :: c1 :: c2 :: c3 :: M)))=some y0:=hfl 0 _ rfl
   rw [show List.take (Tryz.prog.cellsOf 3) (List.drop 0 (c0 :: c1 :: c2 :: c3 :: M))=[c0] from by rw [hci];rfl] at g0
   obtain ⟨a0,e0,z0,w0⟩:=DataW.trod_int Tryz.underlying3 g0
   have g1:DataW.trod enc Tryz.prog w base spare held n' 2 (List.take (Tryz.prog.cellsOf 2) (List.drop 1 (c0 :: c1 :: c2 :: c3 :: M)))=some y1:=hfl 1 _ rfl
   rw [show List.take (Tryz.prog.cellsOf 2) (List.drop 1 (c0 :: c1 :: c2 :: c3 :: M))=[c1] from by rw [hcj];rfl] at g1
   obtain ⟨a1,e1,z1,w1⟩:=DataW.trod_int Tryz.underlying2 g1
   have g2:DataW.trod enc Tryz.prog w base spare held n' 2 (List.take (Tryz.prog.cellsOf 2) (List.drop 2 (c0 :: c1 :: c2 :: c3 :: M)))=some y2:=hfl 2 _ rfl
   rw [show List.take (Tryz.prog.cellsOf 2) (List.drop 2 (c0 :: c1 :: c2 :: c3 :: M))=[c2] from by rw [hcj];rfl] at g2
   obtain ⟨a2,e2,z2,w2⟩:=DataW.trod_int Tryz.underlying2 g2
   have g3:DataW.trod enc Tryz.prog w base spare held n' 3 (List.take (Tryz.prog.cellsOf 3) (List.drop 3 (c0 :: c1 :: c2 :: c3 :: M)))=some y3:=hfl 3 _ rfl
   rw [show List.take (Tryz.prog.cellsOf 3) (List.drop 3 (c0 :: c1 :: c2 :: c3 :: M))=[c3] from by rw [hci];rfl] at g3
   obtain ⟨a3,e3,z3,w3⟩:=DataW.trod_int Tryz.underlying3 g3
   have g4:DataW.trod enc Tryz.prog w base spare held n' 58 (List.take (Tryz.prog.cellsOf 58) (List.drop 4 (c0 :: c1 :: c2 :: c3 :: M)))=some y4:=hfl 4 _ rfl
   rw [show List.take (Tryz.prog.cellsOf 58) (List.drop 4 (c0 :: c1 :: c2 :: c3 :: M))=M from by rw [hch];show List.take 32 M=M;exact List.take_of_length_le (by omega)] at g4
   obtain ⟨p,e4,w4⟩:=trod_hash hM g4
   simp only [List.cons.injEq,and_true] at e0 e1 e2 e3
   subst e0 e1 e2 e3 e4
   exact ⟨⟨a0,a1,a2,a3,p⟩,w4,rfl⟩
theorem rows_flat:∀ (gs:List Gr),(∀ g ∈ gs,g.ok)→(rows gs).flatten.length=36 * gs.length
 | [],_=>rfl
 | a :: l, h => by
   have e1:=rows_flat l fun g hg=>h g (List.mem_cons_of_mem _ hg)
   have e2:=Gr.len (h a (by simp))
   have e3:(rows (a :: l)).flatten.length=a.row.length + (rows l).flatten.length:=by simp [rows]
   rw [e3,e2,e1,List.length_cons];omega
theorem grants_up (b o:Nat):∀ n,(∀ i,i<n→∃ g:Gr,g.ok∧w.rangeAt b (o + 36 * i) g.row)→∃ gs:List Gr,gs.length=n∧(∀ g ∈ gs,g.ok)∧w.rangeAt b o (rows gs).flatten
 | 0,_=>⟨[],rfl,fun g hg=>(by cases hg),fun j u hj=>by simp [rows] at hj⟩
 | n + 1, h => by
   obtain ⟨hs,h1,h2,h3⟩:=grants_up b o n fun i hi=>h i (by omega)
   obtain ⟨g,h4,h5⟩:=h n (by omega)
   have hlen:(rows hs).flatten.length=36 * n:=by rw [rows_flat hs h2,h1]
   refine ⟨hs++[g],by simp [h1],fun x hx=>?_,?_⟩
   · rcases List.mem_append.1 hx with hx | hx
     · exact h2 x hx
     · rw [List.mem_singleton.1 hx];exact h4
   · rw [show (rows (hs++[g])).flatten=(rows hs).flatten++g.row from by simp [rows],rangeAt_app]
     refine ⟨h3,?_⟩
     rw [hlen]
     exact h5
set_option maxRecDepth 100000 in
theorem open_grants {ts:List TypeId} {ds:List (DataW H)} (hsz:(DataW.weightsEach Tryz.prog ts ds).all (·≤reachBytes)=true) {j:Nat} {t:TypeId} (htj:ts[j]?=some t) {r:Reach} {b0:Nat} {v:Value} {d:DataW H} {ps:List MemPlace}
 (hval:Value.okWide Tryz.prog w r b0 t v) (hd:DataW.Trod enc Tryz.prog w base (fun _=>true) held t v d ps) (hdj:ds[j]?=some d) (hu:Tryz.prog.underlying t=some (.slice 61)) :
 ∃ gs,GsAt w v gs∧gs.length≤4611686018427387904:=by
 obtain ⟨a,len,cap,rfl⟩:=okWide_slice hu hval
 obtain ⟨fuel,hf⟩:=hd
 have hce:Tryz.prog.cellsOf 61=36:=by kernel_rfl
 have hby:Tryz.prog.bytesOf 61=64:=by kernel_rfl
 rcases Go.Deep.open_slice hu hf with ⟨hcs,_⟩ | ⟨a',len',cap',m,n,D,Pl,hcs,_,hl,hm,hmm,hx,hel⟩
 · simp [Value.cells] at hcs
   obtain ⟨rfl,rfl,rfl⟩:=hcs
   exact ⟨[],⟨RwK.RsAt.nil _,fun g hg=>by cases hg⟩,by simp⟩
 simp [Value.cells] at hcs
 obtain ⟨rfl,rfl,rfl⟩:=hcs
 have hmc:m=cap:=by simpa using hmm
 subst hmc
 obtain ⟨hd1,-⟩:=Prod.mk.injEq .. ▸ hx
 have hs1:=sized_slice hsz htj (by rw [hdj,hd1]) hu
 rw [hby] at hs1
 simp only [List.length_map,List.length_range,reachBytes] at hs1
 have hlive:a'.spot=none∧a'.block<w.heap.size:=by
  simp only [Value.okWide,hu,Cell.okWide,Cell.ok] at hval
  obtain ⟨_,_,_,hsp,row,cells,hsh,_⟩:=hval
  refine ⟨hsp,?_⟩
  unfold World.shape? at hsh
  split at hsh
  · rename_i h;exact (Array.getElem?_eq_some_iff.1 h).1
  · cases hsh
 obtain ⟨b,o,sp⟩:=a'
 obtain ⟨rfl,hb⟩:=hlive
 obtain ⟨hs,h1,h2,h3⟩:=grants_up (w:=w) b o len fun i hi=>by
  obtain ⟨cs',hc,ht⟩:=hel i (by omega)
  rw [hce] at hc
  obtain ⟨_,hcl,hcg⟩:=World.cells?_some hc
  obtain ⟨g,hg,rfl⟩:=trod_gr hcl ht
  refine ⟨g,hg,fun k u hk=>?_⟩
  have hk32:k<36:=by have:=(List.getElem?_eq_some_iff.1 hk).1;rw [hcl] at this;exact this
  have:=hcg k hk32
  rw [hk,addr_add,addr_add,Nat.mul_comm i 36] at this
  exact this
 exact ⟨hs,⟨⟨rows_all h2,.inr ⟨b,o,_,by rw [rows_len,h1],by rw [rows_len];omega,hb,h3⟩⟩,h2⟩,by omega⟩
end
end Go.Proofs.YtokakgjcegmabaaGreatDoor.En
namespace Go.Proofs.YtokakgjcegmabaaGreatDoor.Pf
open Go.RowKit Go.ChangeShapes Go.WideShapes Go.ChangeAt
section
variable {H:Type} {enc:TypeId × Value→H} {w:World} {base:Nat} {spare:Nat→Bool} {held:Bool}
theorem open_proof {r:Reach} {b0:Nat} {v:Value} {d:DataW H} {ps:List MemPlace} (hval:Value.okWide Tryz.prog w r b0 65 v) (hd:DataW.Trod enc Tryz.prog w base spare held 65 v d ps) :
 ∃ e : Pr, v = .agg e.row.toArray ∧ (Lit.int .i64 e.s).wf ∧
   d=.agg [.lit (.int .i64 e.s),.lit (.string e.a.data.toList),.lit (.string e.sa.data.toList),.lit (.string e.b.data.toList),.lit (.string e.sb.data.toList)]:=by
 have he:=Tryz.underlying65
 have hce:Tryz.prog.cellsOf 65=5:=by kernel_rfl
 have hci:Tryz.prog.cellsOf 3=1:=by kernel_rfl
 obtain ⟨cs,rfl,hsz⟩:=okWide_struct he hval
 rw [hce] at hsz
 obtain ⟨l⟩:=cs
 simp only [List.size_toArray] at hsz
 obtain ⟨fuel,hf⟩:=hd
 obtain ⟨ys,n',hn',hy,hlen,hyl,hfl⟩:=DataW.trod_struct he hf
 have hyl6:ys.length=5:=hyl
 match l,hsz,ys,hyl6,hfl,hy with
 | [v0, v1, v2, v3, v4], _, [y0, y1, y2, y3, y4], _, hfl, hy =>
   have g0:=hfl 0 _ rfl
   have g1:=hfl 1 _ rfl
   have g2:=hfl 2 _ rfl
   have g3:=hfl 3 _ rfl
   have g4:=hfl 4 _ rfl
   simp only [Value.cells,List.getElem?_cons_zero,List.getElem?_cons_succ,List.drop_zero,List.drop_succ_cons,List.take_zero,List.take_succ_cons,cellsStr,hci] at g0 g1 g2 g3 g4
   obtain ⟨a0,c0,z0,w0⟩:=DataW.trod_int Tryz.underlying3 g0
   obtain ⟨a1,c1,z1,w1⟩:=DataW.trod_string Tryz.underlying9 g1
   obtain ⟨a2,c2,z2,w2⟩:=DataW.trod_string Tryz.underlying9 g2
   obtain ⟨a3,c3,z3,w3⟩:=DataW.trod_string Tryz.underlying9 g3
   obtain ⟨a4,c4,z4,w4⟩:=DataW.trod_string Tryz.underlying9 g4
   have d0:[v0]=[Value.int .i64 a0]:=by
    have h:List.take (Tryz.prog.cellsOf 3) (List.drop 0 [v0,v1,v2,v3,v4])=_:=c0
    rw [hci] at h;exact h
   have d1:[v1]=[Value.string a1]:=by
    have h:List.take (Tryz.prog.cellsOf 9) (List.drop 1 [v0,v1,v2,v3,v4])=_:=c1
    rw [cellsStr] at h;exact h
   have d2:[v2]=[Value.string a2]:=by
    have h:List.take (Tryz.prog.cellsOf 9) (List.drop 2 [v0,v1,v2,v3,v4])=_:=c2
    rw [cellsStr] at h;exact h
   have d3:[v3]=[Value.string a3]:=by
    have h:List.take (Tryz.prog.cellsOf 9) (List.drop 3 [v0,v1,v2,v3,v4])=_:=c3
    rw [cellsStr] at h;exact h
   have d4:[v4]=[Value.string a4]:=by
    have h:List.take (Tryz.prog.cellsOf 9) (List.drop 4 [v0,v1,v2,v3,v4])=_:=c4
    rw [cellsStr] at h;exact h
   clear c0 c1 c2 c3 c4 g0 g1 g2 g3 g4 hfl
   simp only [List.cons.injEq,and_true] at d0 d1 d2 d3 d4
   subst d0 d1 d2 d3 d4 z0 z1 z2 z3 z4
   refine ⟨⟨a0,a1,a2,a3,a4⟩,rfl,w0,?_⟩
   have e:=congrArg Prod.fst hy
   simpa using e
end
end Go.Proofs.YtokakgjcegmabaaGreatDoor.Pf
