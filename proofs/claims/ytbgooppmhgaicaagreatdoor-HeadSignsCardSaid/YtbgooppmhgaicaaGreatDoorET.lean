import Derived.Test.YtbgooppmhgaicaaGreatDoorEC
import Derived.Test.YtbgooppmhgaicaaGreatDoorCards
import Derived.Test.YtbgooppmhgaicaaGreatDoorTie
import Derived.ProofKit
import Derived.OpenShut
import Derived.ShutString
import Derived.SliceStrings
import Derived.SizedLaws
import Derived.Lib.SmallJoins
import Derived.Stop.LaidErr
import Derived.Deep.DeepHandedRow
import Derived.Test.YtbgooppmhgaicaaGreatDoorEH
import Derived.Test.YtbgooppmhgaicaaGreatDoorEK
import Derived.Deep.Slices
import Derived.Test.YtbgooppmhgaicaaGreatDoorES4
set_option linter.unusedVariables false
set_option linter.unusedSimpArgs false
set_option maxHeartbeats 64000000
set_option maxRecDepth 100000
namespace Go.Proofs.YtbgooppmhgaicaaGreatDoor
section
open Go.RowKit Go.ChangeShapes Go.WideShapes Go.ChangeAt
theorem gERange : Tryz.prog.globalNamed "strconv.ErrRange" = some 4 := by kernel_rfl
theorem gERangeT : (Tryz.prog.globals[4]?).map (·.type) = some 177 := by kernel_rfl
theorem gESyn : Tryz.prog.globalNamed "strconv.ErrSyntax" = some 3 := by kernel_rfl
theorem gESynT : (Tryz.prog.globals[3]?).map (·.type) = some 177 := by kernel_rfl
theorem gMarks : Tryz.prog.globalNamed "palaver/ident.marks" = some 1 := by kernel_rfl
theorem gMarksT : (Tryz.prog.globals[1]?).map (·.type) = some 188 := by kernel_rfl
theorem starEs : "*" ++ "errors.errorString" = "*errors.errorString" := by decide
theorem rowEs (u : TypeId) (h : Tryz.prog.typeName? 3 u = some "*errors.errorString") : u = 211 :=
 typeName_ptr_named (nm := "errors.errorString") (by rw [starEs]; kernel_rfl) (by kernel_rfl) (by decide) u (by rw [starEs]; exact h)
theorem cellsEs : Tryz.prog.cellsOf 213 = 1 := by kernel_rfl
theorem cellsStr : Tryz.prog.cellsOf 9 = 1 := by kernel_rfl
theorem sized_agg {H : Type} {P : Program} {ts : List TypeId} {ds : List (DataW H)} (h : (DataW.weightsEach P ts ds).all (· ≤ reachBytes) = true) {j : Nat} {t : TypeId} {parts : List (DataW H)} {fs : Array Field}
 (ht : ts[j]? = some t) (hd : ds[j]? = some (.agg parts)) (hu : P.underlying t = some (.struct fs)) : (DataW.weightsEach P (fs.toList.map (·.type)) parts).all (· ≤ reachBytes) = true := by
 rw [List.all_eq_true]
 intro x hx
 exact List.all_eq_true.1 h x (DataW.weights_mem_each ht hd x (by simp only [DataW.weights, hu]; exact hx))
theorem strTab_of_head {W : World} {nm : String} {g : Nat} {t : TypeId} {n : Nat} {texts : List (List UInt8)} {rest : List (String × DataW Unit)}
 (h : laidMet Tryz.prog ((nm, .agg (texts.map fun l => .lit (.string l))) :: rest) W) (hg : Tryz.prog.globalNamed nm = some g) (ht : (Tryz.prog.globals[g]?).map (·.type) = some t)
 (hu : Tryz.prog.underlying t = some (.array n 9)) (hn : texts.length = n) (i : Nat) (hi : i < n) : W.cell? ⟨g, i, none⟩ = some (.string (mkS (texts.getD i []))) := by
 obtain ⟨ps, ⟨g0, t0, cs0, f0, p0, q0, hg0, ht0, hv0, hd0, _, _⟩, _, _⟩ := h
 obtain rfl := Option.some.inj (hg.symm.trans hg0)
 obtain rfl := Option.some.inj (ht.symm.trans ht0)
 obtain ⟨xs, m, rfl, hx, hl, hxl, hel⟩ := DataW.trod_array hu hd0
 rw [cellsStr] at hel
 have h1 := hel i hi
 have hxi : i < xs.length := by omega
 rw [List.getElem?_eq_getElem hxi] at h1
 obtain ⟨s, hs, hx1, _⟩ := DataW.trod_string Tryz.underlying9 h1
 have hcell := World.var?_cell hg hv0 i
 simp only [Nat.mul_one] at hs
 have hc : cs0[i]? = some (.string s) := by
  have := congrArg (·[0]?) hs
  simp only [List.getElem?_take, List.getElem?_drop] at this
  simpa using this
 have hd : DataW.lit (H := Unit) (.string (texts.getD i [])) = .lit (.string s.data.toList) := by
  have e := congrArg Prod.fst hx
  simp only [DataW.agg.injEq] at e
  have e1 := congrArg (·[i]?) e
  simp only [List.getElem?_map, List.getElem?_eq_getElem hxi, List.getElem?_eq_getElem (show i < texts.length from by omega), Option.map_some, Option.some.injEq] at e1
  rw [hx1] at e1
  rw [List.getD_eq_getElem?_getD, List.getElem?_eq_getElem (show i < texts.length from by omega)]
  exact e1
 simp only [DataW.lit.injEq, Lit.string.injEq] at hd
 rw [hc] at hcell
 rw [hcell, hd, mkS_of]
theorem it_of_laid {W : World} {x0 x1 x2 : String × DataW Unit} {rest : List (String × DataW Unit)}
 (h : laidMet Tryz.prog (x0 :: x1 :: x2 :: ("strconv.ErrRange", Rows.laid_strconv_ErrRange) :: ("strconv.ErrSyntax", Rows.laid_strconv_ErrSyntax) :: ("palaver/ident.marks", Rows.laid_palaver_ident_marks) :: rest) W) : IT W := by
 have h3 := h.tail.tail.tail
 have h4 := h3.tail
 have h5 := h4.tail
 obtain ⟨a0, s0, hv0, -, -, -⟩ := laid_sentinel h3 gERange gERangeT Tryz.underlying177 rowEs Tryz.underlying211 Tryz.underlying213 rfl rfl Tryz.underlying9 cellsEs cellsStr
 obtain ⟨a1, s1, hv1, -, -, -⟩ := laid_sentinel h4 gESyn gESynT Tryz.underlying177 rowEs Tryz.underlying211 Tryz.underlying213 rfl rfl Tryz.underlying9 cellsEs cellsStr
 have h5' : laidMet Tryz.prog (("palaver/ident.marks", .agg (([[], [64], [33]] : List (List UInt8)).map fun l => .lit (.string l))) :: rest) W := h5
 have e1 : W.cell? ⟨3, 0, none⟩ = some (.iface 211 (.pointer (some a1))) := by have h0 := World.var?_cell gESyn hv1 0; simpa using h0
 have e2 : W.cell? ⟨4, 0, none⟩ = some (.iface 211 (.pointer (some a0))) := by have h0 := World.var?_cell gERange hv0 0; simpa using h0
 exact ⟨⟨strTab_of_head h5' gMarks gMarksT Tryz.underlying188 rfl 1 (by omega), strTab_of_head h5' gMarks gMarksT Tryz.underlying188 rfl 2 (by omega)⟩, ⟨_, _, e1⟩, ⟨_, _, e2⟩⟩
section
variable {H : Type} {enc : TypeId × Value → H} {w : World} {base : Nat} {spare : Nat → Bool} {held : Bool}
end
end
section
open Go.RowKit Go.ChangeShapes Go.WideShapes Go.ChangeAt
section
variable {H : Type} {enc : TypeId × Value → H} {w : World} {base : Nat} {spare : Nat → Bool} {held : Bool}
set_option maxRecDepth 100000 in
theorem trod_hash {fuel : Nat} {cs : List Value} {x : DataW H × List MemPlace} (hlen : cs.length = 32) (hf : DataW.trod enc Tryz.prog w base spare held fuel 25 cs = some x) : ∃ l : List UInt8, cs = u8s l ∧ l.length = 32 := by
 have ht : Tryz.prog.underlying 25 = some (.array 32 5) := by kernel_rfl
 have he : Tryz.prog.underlying 5 = some (.int .u8) := Tryz.underlying5
 have hce : Tryz.prog.cellsOf 5 = 1 := by kernel_rfl
 obtain ⟨xs, m, rfl, hx, hl, hxl, hel⟩ := DataW.trod_array ht hf
 rw [hce] at hel
 have hone : ∀ i (hi : i < 32), ∃ b : UInt8, cs[i]? = some (.int .u8 (b.toNat : Int)) := by
  intro i hi
  have h := hel i hi
  have hxi : i < xs.length := by omega
  rw [List.getElem?_eq_getElem hxi] at h
  obtain ⟨z, hc, hz, hw⟩ := DataW.trod_int he h
  have hcz : cs[i]? = some (.int .u8 z) := by
   have := congrArg (·[0]?) hc
   simp [List.getElem?_take, List.getElem?_drop] at this
   exact this
  have hzr : 0 ≤ z ∧ z < 256 := by simp [Lit.wf, IntKind.min, IntKind.max, IntKind.signed, IntKind.bits] at hw; omega
  refine ⟨UInt8.ofNat z.toNat, ?_⟩
  rw [u8n _ (by omega), show ((z.toNat : Nat) : Int) = z from by omega]
  exact hcz
 have hall : ∀ n, n ≤ 32 → ∃ l : List UInt8, l.length = n ∧ ∀ i, i < n → ∃ b : UInt8, l[i]? = some b ∧ cs[i]? = some (.int .u8 (b.toNat : Int)) := by
  intro n
  induction n with
  | zero => intro _; exact ⟨[], rfl, fun i hi => by omega⟩
  | succ n ih =>
    intro hn
    obtain ⟨l, hl1, hl2⟩ := ih (by omega)
    obtain ⟨b, hb1⟩ := hone n (by omega)
    refine ⟨l ++ [b], by simp [hl1], fun i hi => ?_⟩
    rcases (by omega : i < n ∨ i = n) with h | rfl
    · obtain ⟨c, h1, h2⟩ := hl2 i h
      exact ⟨c, by rw [List.getElem?_append_left (by omega)]; exact h1, h2⟩
    · exact ⟨b, by rw [List.getElem?_append_right (by omega), hl1]; simp, hb1⟩
 obtain ⟨l, hll, hlg⟩ := hall 32 (Nat.le_refl _)
 refine ⟨l, ?_, hll⟩
 apply List.ext_getElem?
 intro i
 by_cases hi : i < 32
 · obtain ⟨c, h1, h2⟩ := hlg i hi
   rw [h2]
   simp [u8s, h1]
 · rw [List.getElem?_eq_none (by omega), List.getElem?_eq_none (by simp [u8s, hll]; omega)]
end
end
end Go.Proofs.YtbgooppmhgaicaaGreatDoor
namespace Go.Proofs.YtbgooppmhgaicaaGreatDoor.En
open Go.RowKit Go.ChangeShapes Go.WideShapes Go.ChangeAt
section
variable {H : Type} {enc : TypeId × Value → H} {w : World} {base : Nat} {spare : Nat → Bool} {held : Bool}
end
theorem all_of_laid {W : World} {x0 x1 x2 : String × DataW Unit} {rest : List (String × DataW Unit)}
 (h : laidMet Tryz.prog (x0 :: x1 :: x2 :: ("palaver/sha.constants", Rows.laid_palaver_sha_constants) :: ("strconv.ErrRange", Rows.laid_strconv_ErrRange) :: ("strconv.ErrSyntax", Rows.laid_strconv_ErrSyntax) :: ("palaver/ident.marks", Rows.laid_palaver_ident_marks) :: rest) W) : IT W ∧ KT W :=
 ⟨it_of_laid h.tail, kt_of_laid h.tail.tail.tail⟩
end Go.Proofs.YtbgooppmhgaicaaGreatDoor.En
