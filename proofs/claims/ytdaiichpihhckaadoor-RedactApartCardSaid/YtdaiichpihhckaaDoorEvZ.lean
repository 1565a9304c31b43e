/-
  Events and identifiers among a law's arguments; tables out of a row's list.
-/
import Derived.Test.YtdaiichpihhckaaDoorIdX
import Derived.Test.YtdaiichpihhckaaDoorCards
import Derived.Test.YtdaiichpihhckaaDoorTie
import Derived.ProofKit
import Derived.OpenShut
import Derived.ShutString
import Derived.SliceStrings
import Derived.SizedLaws
import Derived.Lib.SmallJoins
import Derived.Stop.LaidErr
import Derived.Deep.DeepHandedRow
import Derived.Test.YtdaiichpihhckaaDoorEvX

namespace Go.Proofs.YtdaiichpihhckaaDoor
set_option maxRecDepth 100000
set_option linter.unusedVariables false
set_option linter.unusedSimpArgs false
open Go.RowKit Go.ChangeShapes Go.WideShapes Go.ChangeAt

theorem gERange : Tryd.prog.globalNamed "strconv.ErrRange" = some 5 := by kernel_rfl
theorem gERangeT : (Tryd.prog.globals[5]?).map (·.type) = some 118 := by kernel_rfl
theorem gESyn : Tryd.prog.globalNamed "strconv.ErrSyntax" = some 4 := by kernel_rfl
theorem gESynT : (Tryd.prog.globals[4]?).map (·.type) = some 118 := by kernel_rfl
theorem gMarks : Tryd.prog.globalNamed "palaver/ident.marks" = some 2 := by kernel_rfl
theorem gMarksT : (Tryd.prog.globals[2]?).map (·.type) = some 125 := by kernel_rfl
theorem starEs : "*" ++ "errors.errorString" = "*errors.errorString" := by decide
theorem rowEs (u : TypeId) (h : Tryd.prog.typeName? 3 u = some "*errors.errorString") : u = 148 :=
  typeName_ptr_named (nm := "errors.errorString") (by rw [starEs]; kernel_rfl) (by kernel_rfl) (by decide) u (by rw [starEs]; exact h)
theorem cellsEs : Tryd.prog.cellsOf 150 = 1 := by kernel_rfl
theorem cellsStr : Tryd.prog.cellsOf 9 = 1 := by kernel_rfl

theorem sized_agg {H : Type} {P : Program} {ts : List TypeId} {ds : List (DataW H)} (h : (DataW.weightsEach P ts ds).all (· ≤ reachBytes) = true) {j : Nat} {t : TypeId} {parts : List (DataW H)} {fs : Array Field}
    (ht : ts[j]? = some t) (hd : ds[j]? = some (.agg parts)) (hu : P.underlying t = some (.struct fs)) : (DataW.weightsEach P (fs.toList.map (·.type)) parts).all (· ≤ reachBytes) = true := by
  rw [List.all_eq_true]
  intro x hx
  exact List.all_eq_true.1 h x (DataW.weights_mem_each ht hd x (by simp only [DataW.weights, hu]; exact hx))
/-- A table of texts at the head of a row's list. -/
theorem strTab_of_head {W : World} {nm : String} {g : Nat} {t : TypeId} {n : Nat} {texts : List (List UInt8)} {rest : List (String × DataW Unit)}
    (h : laidMet Tryd.prog ((nm, .agg (texts.map fun l => .lit (.string l))) :: rest) W) (hg : Tryd.prog.globalNamed nm = some g) (ht : (Tryd.prog.globals[g]?).map (·.type) = some t)
    (hu : Tryd.prog.underlying t = some (.array n 9)) (hn : texts.length = n) (i : Nat) (hi : i < n) : W.cell? ⟨g, i, none⟩ = some (.string (mkS (texts.getD i []))) := by
  obtain ⟨ps, ⟨g0, t0, cs0, f0, p0, q0, hg0, ht0, hv0, hd0, _, _⟩, _, _⟩ := h
  obtain rfl := Option.some.inj (hg.symm.trans hg0)
  obtain rfl := Option.some.inj (ht.symm.trans ht0)
  obtain ⟨xs, m, rfl, hx, hl, hxl, hel⟩ := DataW.trod_array hu hd0
  rw [cellsStr] at hel
  have h1 := hel i hi
  have hxi : i < xs.length := by omega
  rw [List.getElem?_eq_getElem hxi] at h1
  obtain ⟨s, hs, hx1, _⟩ := DataW.trod_string Tryd.underlying9 h1
  have hcell := World.var?_cell hg hv0 i
  simp only [Nat.mul_one] at hs
  have hc : cs0[i]? = some (.string s) := by
    have := congrArg (·[0]?) hs
    simp only [List.getElem?_take, List.getElem?_drop] at this
    simpa using this
  have hd : DataW.lit (H := Unit) (.string (texts.getD i [])) = .lit (.string s.data.toList) := by
    have e := congrArg Prod.fst hx
    simp only [DataW.agg.injEq] at e
    have e1 := congrArg (·[i]?) e
    simp only [List.getElem?_map, List.getElem?_eq_getElem hxi, List.getElem?_eq_getElem (show i < texts.length from by omega), Option.map_some, Option.some.injEq] at e1
    rw [hx1] at e1
    rw [List.getD_eq_getElem?_getD, List.getElem?_eq_getElem (show i < texts.length from by omega)]
    exact e1
  simp only [DataW.lit.injEq, Lit.string.injEq] at hd
  rw [hc] at hcell
  rw [hcell, hd, mkS_of]

theorem it_of_laid {W : World} {x0 x1 x2 : String × DataW Unit} {rest : List (String × DataW Unit)}
    (h : laidMet Tryd.prog (x0 :: x1 :: x2 :: ("strconv.ErrRange", Rows.laid_strconv_ErrRange) :: ("strconv.ErrSyntax", Rows.laid_strconv_ErrSyntax) :: ("palaver/ident.marks", Rows.laid_palaver_ident_marks) :: rest) W) : IT W := by
  have h3 := h.tail.tail.tail
  have h4 := h3.tail
  have h5 := h4.tail
  obtain ⟨a0, s0, hv0, -, -, -⟩ := laid_sentinel h3 gERange gERangeT Tryd.underlying118 rowEs Tryd.underlying148 Tryd.underlying150 rfl rfl Tryd.underlying9 cellsEs cellsStr
  obtain ⟨a1, s1, hv1, -, -, -⟩ := laid_sentinel h4 gESyn gESynT Tryd.underlying118 rowEs Tryd.underlying148 Tryd.underlying150 rfl rfl Tryd.underlying9 cellsEs cellsStr
  have h5' : laidMet Tryd.prog (("palaver/ident.marks", .agg (([[], [64], [33]] : List (List UInt8)).map fun l => .lit (.string l))) :: rest) W := h5
  have e1 : W.cell? ⟨4, 0, none⟩ = some (.iface 148 (.pointer (some a1))) := by have h0 := World.var?_cell gESyn hv1 0; simpa using h0
  have e2 : W.cell? ⟨5, 0, none⟩ = some (.iface 148 (.pointer (some a0))) := by have h0 := World.var?_cell gERange hv0 0; simpa using h0
  exact ⟨⟨strTab_of_head h5' gMarks gMarksT Tryd.underlying125 rfl 1 (by omega), strTab_of_head h5' gMarks gMarksT Tryd.underlying125 rfl 2 (by omega)⟩, ⟨_, _, e1⟩, ⟨_, _, e2⟩⟩

section
variable {H : Type} {enc : TypeId × Value → H} {w : World} {base : Nat} {spare : Nat → Bool} {held : Bool}
theorem u8_nat {a : Int} (h : (Lit.int .u8 a).wf = true) : ∃ n : Nat, a = n ∧ n < 256 := by
  have hx : 0 ≤ a ∧ a ≤ 255 := by simpa [Lit.wf, IntKind.min, IntKind.max, IntKind.signed, IntKind.bits] using h
  exact ⟨a.toNat, by omega, by omega⟩
theorem open_ident {r : Reach} {b0 : Nat} {v : Value} {d : DataW H} {ps : List MemPlace} (hval : Value.okWide Tryd.prog w r b0 100 v) (hd : DataW.Trod enc Tryd.prog w base spare held 100 v d ps) :
    ∃ (k : Nat) (s : ByteArray) (y : Int), v = .agg #[.int .u8 (k : Int), .string s, .int .i64 y] ∧ k < 256 ∧ d = .agg [.lit (.int .u8 (k : Int)), .lit (.string s.data.toList), .lit (.int .i64 y)] := by
  obtain ⟨v0, v1, v2, y0, y1, y2, n, rfl, hd1, -, h0, h1, h2⟩ := Go.Joins.open_agg3 Tryd.underlying100 (by kernel_rfl) (by kernel_rfl) hval hd
  obtain ⟨k, hk, hy0, wk⟩ := DataW.trod_int Tryd.underlying89 h0
  obtain ⟨s, hs, hy1, _⟩ := DataW.trod_string Tryd.underlying9 h1
  obtain ⟨y, hy, hy2, wy⟩ := DataW.trod_int Tryd.underlying3 h2
  simp at hk hs hy
  subst hk hs hy
  obtain ⟨kn, rfl, hkn⟩ := u8_nat wk
  exact ⟨kn, s, y, rfl, hkn, by rw [hd1, hy0, hy1, hy2]⟩
end
end Go.Proofs.YtdaiichpihhckaaDoor

namespace Go.Proofs.YtdaiichpihhckaaDoor
set_option maxRecDepth 100000
set_option linter.unusedVariables false
set_option linter.unusedSimpArgs false
open Go.RowKit Go.ChangeShapes Go.WideShapes Go.ChangeAt

theorem gWords : Tryd.prog.globalNamed "palaver/event.words" = some 0 := by kernel_rfl
theorem gWordsT : (Tryd.prog.globals[0]?).map (·.type) = some 104 := by kernel_rfl
theorem wt_of_laid {W : World} {x0 x1 x2 x3 x4 x5 : String × DataW Unit} {rest : List (String × DataW Unit)}
    (h : laidMet Tryd.prog (x0 :: x1 :: x2 :: x3 :: x4 :: x5 :: ("palaver/event.words", Rows.laid_palaver_event_words) :: rest) W) : WT W := by
  have h6 := h.tail.tail.tail.tail.tail.tail
  have h6' : laidMet Tryd.prog (("palaver/event.words", .agg (wordsL.map fun l => .lit (.string l))) :: rest) W := h6
  intro i hi
  exact strTab_of_head h6' gWords gWordsT Tryd.underlying104 rfl i hi

section
variable {H : Type} {enc : TypeId × Value → H} {w : World} {base : Nat} {spare : Nat → Bool} {held : Bool}
theorem open_event {r : Reach} {b0 : Nat} {v : Value} {d : DataW H} {ps : List MemPlace} (hval : Value.okWide Tryd.prog w r b0 24 v) (hd : DataW.Trod enc Tryd.prog w base spare held 24 v d ps) :
    ∃ e : Ev, v = .agg #[.string e.room, .string e.sender, .int .u8 (e.kind : Int), .string e.key, .string e.body, .int .i64 e.nonce] ∧ e.kind < 256 ∧ (Lit.int .i64 e.nonce).wf = true ∧
      d = .agg [.lit (.string e.room.data.toList), .lit (.string e.sender.data.toList), .lit (.int .u8 (e.kind : Int)), .lit (.string e.key.data.toList), .lit (.string e.body.data.toList), .lit (.int .i64 e.nonce)] := by
  have he := Tryd.underlying24
  have hce : Tryd.prog.cellsOf 24 = 6 := by kernel_rfl
  have hci : Tryd.prog.cellsOf 2 = 1 := by kernel_rfl
  have hck : Tryd.prog.cellsOf 22 = 1 := by kernel_rfl
  obtain ⟨cs, rfl, hsz⟩ := okWide_struct he hval
  rw [hce] at hsz
  obtain ⟨l⟩ := cs
  simp only [List.size_toArray] at hsz
  obtain ⟨fuel, hf⟩ := hd
  obtain ⟨ys, n', hn', hy, hlen, hyl, hfl⟩ := DataW.trod_struct he hf
  have hyl6 : ys.length = 6 := hyl
  match l, hsz, ys, hyl6, hfl, hy with
  | [v0, v1, v2, v3, v4, v5], _, [y0, y1, y2, y3, y4, y5], _, hfl, hy =>
    have g0 := hfl 0 _ rfl
    have g1 := hfl 1 _ rfl
    have g2 := hfl 2 _ rfl
    have g3 := hfl 3 _ rfl
    have g4 := hfl 4 _ rfl
    have g5 := hfl 5 _ rfl
    simp only [Value.cells, List.getElem?_cons_zero, List.getElem?_cons_succ, List.drop_zero, List.drop_succ_cons, List.take_zero, List.take_succ_cons, cellsStr, hci, hck] at g0 g1 g2 g3 g4 g5
    obtain ⟨a0, c0, z0, _⟩ := DataW.trod_string Tryd.underlying9 g0
    obtain ⟨a1, c1, z1, _⟩ := DataW.trod_string Tryd.underlying9 g1
    obtain ⟨a2, c2, z2, w2⟩ := DataW.trod_int Tryd.underlying22 g2
    obtain ⟨a3, c3, z3, _⟩ := DataW.trod_string Tryd.underlying9 g3
    obtain ⟨a4, c4, z4, _⟩ := DataW.trod_string Tryd.underlying9 g4
    obtain ⟨a5, c5, z5, w5⟩ := DataW.trod_int Tryd.underlying2 g5
    have d0 : [v0] = [Value.string a0] := by
      have h : List.take (Tryd.prog.cellsOf 9) (List.drop 0 [v0, v1, v2, v3, v4, v5]) = _ := c0
      rw [cellsStr] at h; exact h
    have d1 : [v1] = [Value.string a1] := by
      have h : List.take (Tryd.prog.cellsOf 9) (List.drop 1 [v0, v1, v2, v3, v4, v5]) = _ := c1
      rw [cellsStr] at h; exact h
    have d2 : [v2] = [Value.int .u8 a2] := by
      have h : List.take (Tryd.prog.cellsOf 22) (List.drop 2 [v0, v1, v2, v3, v4, v5]) = _ := c2
      rw [hck] at h; exact h
    have d3 : [v3] = [Value.string a3] := by
      have h : List.take (Tryd.prog.cellsOf 9) (List.drop 3 [v0, v1, v2, v3, v4, v5]) = _ := c3
      rw [cellsStr] at h; exact h
    have d4 : [v4] = [Value.string a4] := by
      have h : List.take (Tryd.prog.cellsOf 9) (List.drop 4 [v0, v1, v2, v3, v4, v5]) = _ := c4
      rw [cellsStr] at h; exact h
    have d5 : [v5] = [Value.int .i64 a5] := by
      have h : List.take (Tryd.prog.cellsOf 2) (List.drop 5 [v0, v1, v2, v3, v4, v5]) = _ := c5
      rw [hci] at h; exact h
    clear c0 c1 c2 c3 c4 c5 g0 g1 g2 g3 g4 g5 hfl
    simp only [List.cons.injEq, and_true] at d0 d1 d2 d3 d4 d5
    subst d0 d1 d2 d3 d4 d5 z0 z1 z2 z3 z4 z5
    obtain ⟨k, rfl, hk⟩ := u8_nat w2
    refine ⟨⟨a0, a1, k, a3, a4, a5⟩, rfl, hk, w5, ?_⟩
    have e := congrArg Prod.fst hy
    simpa using e
end
end Go.Proofs.YtdaiichpihhckaaDoor
