
/-
  An identifier among a law's arguments; the tables and the errors' values out of a row's list.
-/
import Derived.Test.YtglfdenlgglccaaDoorIdB
import Derived.Test.YtglfdenlgglccaaDoorCards
import Derived.Test.YtglfdenlgglccaaDoorTie
import Derived.ProofKit
import Derived.OpenShut
import Derived.ShutString
import Derived.SliceStrings
import Derived.SizedLaws
import Derived.Lib.SmallJoins
import Derived.Stop.LaidErr
import Derived.Deep.DeepHandedRow
namespace Go.Proofs.YtglfdenlgglccaaDoor
set_option maxRecDepth 100000
set_option linter.unusedVariables false
set_option linter.unusedSimpArgs false
open Go.RowKit Go.ChangeShapes Go.WideShapes Go.ChangeAt

theorem gERange : Tryd.prog.globalNamed "strconv.ErrRange" = some 4 := by kernel_rfl
theorem gERangeT : (Tryd.prog.globals[4]?).map (·.type) = some 63 := by kernel_rfl
theorem gESyn : Tryd.prog.globalNamed "strconv.ErrSyntax" = some 3 := by kernel_rfl
theorem gESynT : (Tryd.prog.globals[3]?).map (·.type) = some 63 := by kernel_rfl
theorem gMarks : Tryd.prog.globalNamed "palaver/ident.marks" = some 1 := by kernel_rfl
theorem gMarksT : (Tryd.prog.globals[1]?).map (·.type) = some 68 := by kernel_rfl
theorem starEs : "*" ++ "errors.errorString" = "*errors.errorString" := by decide
theorem rowEs (u : TypeId) (h : Tryd.prog.typeName? 3 u = some "*errors.errorString") : u = 120 :=
  typeName_ptr_named (nm := "errors.errorString") (by rw [starEs]; kernel_rfl) (by kernel_rfl) (by decide) u (by rw [starEs]; exact h)
theorem cellsEs : Tryd.prog.cellsOf 122 = 1 := by kernel_rfl
theorem cellsStr : Tryd.prog.cellsOf 9 = 1 := by kernel_rfl

theorem sized_agg {H : Type} {P : Program} {ts : List TypeId} {ds : List (DataW H)} (h : (DataW.weightsEach P ts ds).all (· ≤ reachBytes) = true) {j : Nat} {t : TypeId} {parts : List (DataW H)} {fs : Array Field}
    (ht : ts[j]? = some t) (hd : ds[j]? = some (.agg parts)) (hu : P.underlying t = some (.struct fs)) : (DataW.weightsEach P (fs.toList.map (·.type)) parts).all (· ≤ reachBytes) = true := by
  rw [List.all_eq_true]
  intro x hx
  exact List.all_eq_true.1 h x (DataW.weights_mem_each ht hd x (by simp only [DataW.weights, hu]; exact hx))
/-- A table of texts at the head of a row's list. -/
theorem strTab_of_head {W : World} {nm : String} {g : Nat} {t : TypeId} {n : Nat} {texts : List (List UInt8)} {rest : List (String × DataW Unit)}
    (h : laidMet Tryd.prog ((nm, .agg (texts.map fun l => .lit (.string l))) :: rest) W) (hg : Tryd.prog.globalNamed nm = some g) (ht : (Tryd.prog.globals[g]?).map (·.type) = some t)
    (hu : Tryd.prog.underlying t = some (.array n 9)) (hn : texts.length = n) (i : Nat) (hi : i < n) : W.cell? ⟨g, i, none⟩ = some (.string (mkS (texts.getD i []))) := by
  obtain ⟨ps, ⟨g0, t0, cs0, f0, p0, q0, hg0, ht0, hv0, hd0, _, _⟩, _, _⟩ := h
  obtain rfl := Option.some.inj (hg.symm.trans hg0)
  obtain rfl := Option.some.inj (ht.symm.trans ht0)
  obtain ⟨xs, m, rfl, hx, hl, hxl, hel⟩ := DataW.trod_array hu hd0
  rw [cellsStr] at hel
  have h1 := hel i hi
  have hxi : i < xs.length := by omega
  rw [List.getElem?_eq_getElem hxi] at h1
  obtain ⟨s, hs, hx1, _⟩ := DataW.trod_string Tryd.underlying9 h1
  have hcell := World.var?_cell hg hv0 i
  simp only [Nat.mul_one] at hs
  have hc : cs0[i]? = some (.string s) := by
    have := congrArg (·[0]?) hs
    simp only [List.getElem?_take, List.getElem?_drop] at this
    simpa using this
  have hd : DataW.lit (H := Unit) (.string (texts.getD i [])) = .lit (.string s.data.toList) := by
    have e := congrArg Prod.fst hx
    simp only [DataW.agg.injEq] at e
    have e1 := congrArg (·[i]?) e
    simp only [List.getElem?_map, List.getElem?_eq_getElem hxi, List.getElem?_eq_getElem (show i < texts.length from by omega), Option.map_some, Option.some.injEq] at e1
    rw [hx1] at e1
    rw [List.getD_eq_getElem?_getD, List.getElem?_eq_getElem (show i < texts.length from by omega)]
    exact e1
  simp only [DataW.lit.injEq, Lit.string.injEq] at hd
  rw [hc] at hcell
  rw [hcell, hd, mkS_of]

theorem it_of_laid {W : World} {x0 x1 x2 : String × DataW Unit} {rest : List (String × DataW Unit)}
    (h : laidMet Tryd.prog (x0 :: x1 :: x2 :: ("strconv.ErrRange", Rows.laid_strconv_ErrRange) :: ("strconv.ErrSyntax", Rows.laid_strconv_ErrSyntax) :: ("palaver/ident.marks", Rows.laid_palaver_ident_marks) :: rest) W) : IT W := by
  have h3 := h.tail.tail.tail
  have h4 := h3.tail
  have h5 := h4.tail
  obtain ⟨a0, s0, hv0, -, -, -⟩ := laid_sentinel h3 gERange gERangeT Tryd.underlying63 rowEs Tryd.underlying120 Tryd.underlying122 rfl rfl Tryd.underlying9 cellsEs cellsStr
  obtain ⟨a1, s1, hv1, -, -, -⟩ := laid_sentinel h4 gESyn gESynT Tryd.underlying63 rowEs Tryd.underlying120 Tryd.underlying122 rfl rfl Tryd.underlying9 cellsEs cellsStr
  have h5' : laidMet Tryd.prog (("palaver/ident.marks", .agg (([[], [64], [33]] : List (List UInt8)).map fun l => .lit (.string l))) :: rest) W := h5
  have e1 : W.cell? ⟨3, 0, none⟩ = some (.iface 120 (.pointer (some a1))) := by have h0 := World.var?_cell gESyn hv1 0; simpa using h0
  have e2 : W.cell? ⟨4, 0, none⟩ = some (.iface 120 (.pointer (some a0))) := by have h0 := World.var?_cell gERange hv0 0; simpa using h0
  exact ⟨⟨strTab_of_head h5' gMarks gMarksT Tryd.underlying68 rfl 1 (by omega), strTab_of_head h5' gMarks gMarksT Tryd.underlying68 rfl 2 (by omega)⟩, ⟨_, _, e1⟩, ⟨_, _, e2⟩⟩

section
variable {H : Type} {enc : TypeId × Value → H} {w : World} {base : Nat} {spare : Nat → Bool} {held : Bool}
theorem u8_nat {a : Int} (h : (Lit.int .u8 a).wf = true) : ∃ n : Nat, a = n ∧ n < 256 := by
  have hx : 0 ≤ a ∧ a ≤ 255 := by simpa [Lit.wf, IntKind.min, IntKind.max, IntKind.signed, IntKind.bits] using h
  exact ⟨a.toNat, by omega, by omega⟩
theorem open_ident {r : Reach} {b0 : Nat} {v : Value} {d : DataW H} {ps : List MemPlace} (hval : Value.okWide Tryd.prog w r b0 38 v) (hd : DataW.Trod enc Tryd.prog w base spare held 38 v d ps) :
    ∃ (k : Nat) (s : ByteArray) (y : Int), v = .agg #[.int .u8 (k : Int), .string s, .int .i64 y] ∧ k < 256 ∧ d = .agg [.lit (.int .u8 (k : Int)), .lit (.string s.data.toList), .lit (.int .i64 y)] := by
  obtain ⟨v0, v1, v2, y0, y1, y2, n, rfl, hd1, -, h0, h1, h2⟩ := Go.Joins.open_agg3 Tryd.underlying38 (by kernel_rfl) (by kernel_rfl) hval hd
  obtain ⟨k, hk, hy0, wk⟩ := DataW.trod_int Tryd.underlying36 h0
  obtain ⟨s, hs, hy1, _⟩ := DataW.trod_string Tryd.underlying9 h1
  obtain ⟨y, hy, hy2, wy⟩ := DataW.trod_int Tryd.underlying3 h2
  simp at hk hs hy
  subst hk hs hy
  obtain ⟨kn, rfl, hkn⟩ := u8_nat wk
  exact ⟨kn, s, y, rfl, hkn, by rw [hd1, hy0, hy1, hy2]⟩
end
end Go.Proofs.YtglfdenlgglccaaDoor
