import Derived.Test.YtokakgjcegmabaaGreatDoorJC
import Derived.Test.YtokakgjcegmabaaGreatDoorCards
import Derived.Test.YtokakgjcegmabaaGreatDoorTie
import Derived.ProofKit
import Derived.OpenShut
import Derived.ShutString
import Derived.SliceStrings
import Derived.SizedLaws
import Derived.Lib.SmallJoins
import Derived.Stop.LaidErr
import Derived.Deep.DeepHandedRow
import Derived.Test.YtokakgjcegmabaaGreatDoorJH
import Derived.Test.YtokakgjcegmabaaGreatDoorJK
import Derived.Deep.Slices
import Derived.Test.YtokakgjcegmabaaGreatDoorJO
import Derived.Lib.LaidTab
set_option linter.unusedVariables false
set_option linter.unusedSimpArgs false
set_option maxHeartbeats 64000000
set_option maxRecDepth 100000
namespace Go.Proofs.YtokakgjcegmabaaGreatDoor
section
open Go.RowKit Go.ChangeShapes Go.WideShapes Go.ChangeAt
theorem gERange : Tryz.prog.globalNamed "strconv.ErrRange" = some 6 := by kernel_rfl
theorem gERangeT : (Tryz.prog.globals[6]?).map (·.type) = some 263 := by kernel_rfl
theorem gESyn : Tryz.prog.globalNamed "strconv.ErrSyntax" = some 5 := by kernel_rfl
theorem gESynT : (Tryz.prog.globals[5]?).map (·.type) = some 263 := by kernel_rfl
theorem gMarks : Tryz.prog.globalNamed "palaver/ident.marks" = some 3 := by kernel_rfl
theorem gMarksT : (Tryz.prog.globals[3]?).map (·.type) = some 183 := by kernel_rfl
theorem starEs : "*" ++ "errors.errorString" = "*errors.errorString" := by decide
theorem rowEs (u : TypeId) (h : Tryz.prog.typeName? 3 u = some "*errors.errorString") : u = 295 :=
 typeName_ptr_named (nm := "errors.errorString") (by rw [starEs]; kernel_rfl) (by kernel_rfl) (by decide) u (by rw [starEs]; exact h)
theorem cellsEs : Tryz.prog.cellsOf 297 = 1 := by kernel_rfl
theorem cellsStr : Tryz.prog.cellsOf 9 = 1 := by kernel_rfl
theorem sized_agg {H : Type} {P : Program} {ts : List TypeId} {ds : List (DataW H)} (h : (DataW.weightsEach P ts ds).all (· ≤ reachBytes) = true) {j : Nat} {t : TypeId} {parts : List (DataW H)} {fs : Array Field}
 (ht : ts[j]? = some t) (hd : ds[j]? = some (.agg parts)) (hu : P.underlying t = some (.struct fs)) : (DataW.weightsEach P (fs.toList.map (·.type)) parts).all (· ≤ reachBytes) = true := by
 rw [List.all_eq_true]
 intro x hx
 exact List.all_eq_true.1 h x (DataW.weights_mem_each ht hd x (by simp only [DataW.weights, hu]; exact hx))
theorem strTab_of_head {W : World} {nm : String} {g : Nat} {t : TypeId} {n : Nat} {texts : List (List UInt8)} {rest : List (String × DataW Unit)}
 (h : laidMet Tryz.prog ((nm, .agg (texts.map fun l => .lit (.string l))) :: rest) W) (hg : Tryz.prog.globalNamed nm = some g) (ht : (Tryz.prog.globals[g]?).map (·.type) = some t)
 (hu : Tryz.prog.underlying t = some (.array n 9)) (hn : texts.length = n) (i : Nat) (hi : i < n) : W.cell? ⟨g, i, none⟩ = some (.string (mkS (texts.getD i []))) := by
 obtain ⟨ps, ⟨g0, t0, cs0, f0, p0, q0, hg0, ht0, hv0, hd0, _, _⟩, _, _⟩ := h
 obtain rfl := Option.some.inj (hg.symm.trans hg0)
 obtain rfl := Option.some.inj (ht.symm.trans ht0)
 obtain ⟨xs, m, rfl, hx, hl, hxl, hel⟩ := DataW.trod_array hu hd0
 rw [cellsStr] at hel
 have h1 := hel i hi
 have hxi : i < xs.length := by omega
 rw [List.getElem?_eq_getElem hxi] at h1
 obtain ⟨s, hs, hx1, _⟩ := DataW.trod_string Tryz.underlying9 h1
 have hcell := World.var?_cell hg hv0 i
 simp only [Nat.mul_one] at hs
 have hc : cs0[i]? = some (.string s) := by
  have := congrArg (·[0]?) hs
  simp only [List.getElem?_take, List.getElem?_drop] at this
  simpa using this
 have hd : DataW.lit (H := Unit) (.string (texts.getD i [])) = .lit (.string s.data.toList) := by
  have e := congrArg Prod.fst hx
  simp only [DataW.agg.injEq] at e
  have e1 := congrArg (·[i]?) e
  simp only [List.getElem?_map, List.getElem?_eq_getElem hxi, List.getElem?_eq_getElem (show i < texts.length from by omega), Option.map_some, Option.some.injEq] at e1
  rw [hx1] at e1
  rw [List.getD_eq_getElem?_getD, List.getElem?_eq_getElem (show i < texts.length from by omega)]
  exact e1
 simp only [DataW.lit.injEq, Lit.string.injEq] at hd
 rw [hc] at hcell
 rw [hcell, hd, mkS_of]
theorem it_of_laid {W : World} {x0 x1 x2 : String × DataW Unit} {rest : List (String × DataW Unit)}
 (h : laidMet Tryz.prog (x0 :: x1 :: x2 :: ("strconv.ErrRange", Rows.laid_strconv_ErrRange) :: ("strconv.ErrSyntax", Rows.laid_strconv_ErrSyntax) :: ("palaver/ident.marks", Rows.laid_palaver_ident_marks) :: rest) W) : IT W := by
 have h3 := h.tail.tail.tail
 have h4 := h3.tail
 have h5 := h4.tail
 obtain ⟨a0, s0, hv0, -, -, -⟩ := laid_sentinel h3 gERange gERangeT Tryz.underlying263 rowEs Tryz.underlying295 Tryz.underlying297 rfl rfl Tryz.underlying9 cellsEs cellsStr
 obtain ⟨a1, s1, hv1, -, -, -⟩ := laid_sentinel h4 gESyn gESynT Tryz.underlying263 rowEs Tryz.underlying295 Tryz.underlying297 rfl rfl Tryz.underlying9 cellsEs cellsStr
 have h5' : laidMet Tryz.prog (("palaver/ident.marks", .agg (([[], [64], [33]] : List (List UInt8)).map fun l => .lit (.string l))) :: rest) W := h5
 have e1 : W.cell? ⟨5, 0, none⟩ = some (.iface 295 (.pointer (some a1))) := by have h0 := World.var?_cell gESyn hv1 0; simpa using h0
 have e2 : W.cell? ⟨6, 0, none⟩ = some (.iface 295 (.pointer (some a0))) := by have h0 := World.var?_cell gERange hv0 0; simpa using h0
 exact ⟨⟨strTab_of_head h5' gMarks gMarksT Tryz.underlying183 rfl 1 (by omega), strTab_of_head h5' gMarks gMarksT Tryz.underlying183 rfl 2 (by omega)⟩, ⟨_, _, e1⟩, ⟨_, _, e2⟩⟩
section
variable {H : Type} {enc : TypeId × Value → H} {w : World} {base : Nat} {spare : Nat → Bool} {held : Bool}
theorem u8_nat {a : Int} (h : (Lit.int .u8 a).wf = true) : ∃ n : Nat, a = n ∧ n < 256 := by
 have hx : 0 ≤ a ∧ a ≤ 255 := by simpa [Lit.wf, IntKind.min, IntKind.max, IntKind.signed, IntKind.bits] using h
 exact ⟨a.toNat, by omega, by omega⟩
end
end
section
open Go.RowKit Go.ChangeShapes Go.WideShapes Go.ChangeAt
section
variable {H : Type} {enc : TypeId × Value → H} {w : World} {base : Nat} {spare : Nat → Bool} {held : Bool}
set_option maxRecDepth 100000 in
theorem trod_hash {fuel : Nat} {cs : List Value} {x : DataW H × List MemPlace} (hlen : cs.length = 32) (hf : DataW.trod enc Tryz.prog w base spare held fuel 58 cs = some x) : ∃ l : List UInt8, cs = u8s l ∧ l.length = 32 := by
 have ht : Tryz.prog.underlying 58 = some (.array 32 5) := by kernel_rfl
 have he : Tryz.prog.underlying 5 = some (.int .u8) := Tryz.underlying5
 have hce : Tryz.prog.cellsOf 5 = 1 := by kernel_rfl
 obtain ⟨xs, m, rfl, hx, hl, hxl, hel⟩ := DataW.trod_array ht hf
 rw [hce] at hel
 have hone : ∀ i (hi : i < 32), ∃ b : UInt8, cs[i]? = some (.int .u8 (b.toNat : Int)) := by
  intro i hi
  have h := hel i hi
  have hxi : i < xs.length := by omega
  rw [List.getElem?_eq_getElem hxi] at h
  obtain ⟨z, hc, hz, hw⟩ := DataW.trod_int he h
  have hcz : cs[i]? = some (.int .u8 z) := by
   have := congrArg (·[0]?) hc
   simp [List.getElem?_take, List.getElem?_drop] at this
   exact this
  have hzr : 0 ≤ z ∧ z < 256 := by simp [Lit.wf, IntKind.min, IntKind.max, IntKind.signed, IntKind.bits] at hw; omega
  refine ⟨UInt8.ofNat z.toNat, ?_⟩
  rw [u8n _ (by omega), show ((z.toNat : Nat) : Int) = z from by omega]
  exact hcz
 have hall : ∀ n, n ≤ 32 → ∃ l : List UInt8, l.length = n ∧ ∀ i, i < n → ∃ b : UInt8, l[i]? = some b ∧ cs[i]? = some (.int .u8 (b.toNat : Int)) := by
  intro n
  induction n with
  | zero => intro _; exact ⟨[], rfl, fun i hi => by omega⟩
  | succ n ih =>
    intro hn
    obtain ⟨l, hl1, hl2⟩ := ih (by omega)
    obtain ⟨b, hb1⟩ := hone n (by omega)
    refine ⟨l ++ [b], by simp [hl1], fun i hi => ?_⟩
    rcases (by omega : i < n ∨ i = n) with h | rfl
    · obtain ⟨c, h1, h2⟩ := hl2 i h
      exact ⟨c, by rw [List.getElem?_append_left (by omega)]; exact h1, h2⟩
    · exact ⟨b, by rw [List.getElem?_append_right (by omega), hl1]; simp, hb1⟩
 obtain ⟨l, hll, hlg⟩ := hall 32 (Nat.le_refl _)
 refine ⟨l, ?_, hll⟩
 apply List.ext_getElem?
 intro i
 by_cases hi : i < 32
 · obtain ⟨c, h1, h2⟩ := hlg i hi
   rw [h2]
   simp [u8s, h1]
 · rw [List.getElem?_eq_none (by omega), List.getElem?_eq_none (by simp [u8s, hll]; omega)]
end
end
end Go.Proofs.YtokakgjcegmabaaGreatDoor
namespace Go.Proofs.YtokakgjcegmabaaGreatDoor.Ho
open Go.RowKit Go.ChangeShapes Go.WideShapes Go.ChangeAt
section
variable {H : Type} {enc : TypeId × Value → H} {w : World} {base : Nat} {spare : Nat → Bool} {held : Bool}
theorem open_deal {r : Reach} {b0 : Nat} {v : Value} {d : DataW H} {ps : List MemPlace} (hval : Value.okWide Tryz.prog w r b0 26 v) (hd : DataW.Trod enc Tryz.prog w base spare held 26 v d ps) :
 ∃ e : De, v = .agg e.row.toArray ∧ e.k < 256 ∧
   d = .agg [.lit (.int .u8 (e.k : Int)), .lit (.string e.r.data.toList), .lit (.int .i64 e.e), .lit (.int .i64 e.i), .lit (.int .i64 e.h), .lit (.int .i64 e.n), .lit (.string e.g.data.toList)] := by
 have he := Tryz.underlying26
 have hce : Tryz.prog.cellsOf 26 = 7 := by kernel_rfl
 have hci : Tryz.prog.cellsOf 3 = 1 := by kernel_rfl
 have hck : Tryz.prog.cellsOf 24 = 1 := by kernel_rfl
 obtain ⟨cs, rfl, hsz⟩ := okWide_struct he hval
 rw [hce] at hsz
 obtain ⟨l⟩ := cs
 simp only [List.size_toArray] at hsz
 obtain ⟨fuel, hf⟩ := hd
 obtain ⟨ys, n', hn', hy, hlen, hyl, hfl⟩ := DataW.trod_struct he hf
 have hyl6 : ys.length = 7 := hyl
 match l, hsz, ys, hyl6, hfl, hy with
 | [v0, v1, v2, v3, v4, v5, v6], _, [y0, y1, y2, y3, y4, y5, y6], _, hfl, hy =>
   have g0 := hfl 0 _ rfl
   have g1 := hfl 1 _ rfl
   have g2 := hfl 2 _ rfl
   have g3 := hfl 3 _ rfl
   have g4 := hfl 4 _ rfl
   have g5 := hfl 5 _ rfl
   have g6 := hfl 6 _ rfl
   simp only [Value.cells, List.getElem?_cons_zero, List.getElem?_cons_succ, List.drop_zero, List.drop_succ_cons, List.take_zero, List.take_succ_cons, cellsStr, hci, hck] at g0 g1 g2 g3 g4 g5 g6
   obtain ⟨a0, c0, z0, w0⟩ := DataW.trod_int Tryz.underlying24 g0
   obtain ⟨a1, c1, z1, w1⟩ := DataW.trod_string Tryz.underlying9 g1
   obtain ⟨a2, c2, z2, w2⟩ := DataW.trod_int Tryz.underlying3 g2
   obtain ⟨a3, c3, z3, w3⟩ := DataW.trod_int Tryz.underlying3 g3
   obtain ⟨a4, c4, z4, w4⟩ := DataW.trod_int Tryz.underlying3 g4
   obtain ⟨a5, c5, z5, w5⟩ := DataW.trod_int Tryz.underlying3 g5
   obtain ⟨a6, c6, z6, w6⟩ := DataW.trod_string Tryz.underlying9 g6
   have d0 : [v0] = [Value.int .u8 a0] := by
    have h : List.take (Tryz.prog.cellsOf 24) (List.drop 0 [v0, v1, v2, v3, v4, v5, v6]) = _ := c0
    rw [hck] at h; exact h
   have d1 : [v1] = [Value.string a1] := by
    have h : List.take (Tryz.prog.cellsOf 9) (List.drop 1 [v0, v1, v2, v3, v4, v5, v6]) = _ := c1
    rw [cellsStr] at h; exact h
   have d2 : [v2] = [Value.int .i64 a2] := by
    have h : List.take (Tryz.prog.cellsOf 3) (List.drop 2 [v0, v1, v2, v3, v4, v5, v6]) = _ := c2
    rw [hci] at h; exact h
   have d3 : [v3] = [Value.int .i64 a3] := by
    have h : List.take (Tryz.prog.cellsOf 3) (List.drop 3 [v0, v1, v2, v3, v4, v5, v6]) = _ := c3
    rw [hci] at h; exact h
   have d4 : [v4] = [Value.int .i64 a4] := by
    have h : List.take (Tryz.prog.cellsOf 3) (List.drop 4 [v0, v1, v2, v3, v4, v5, v6]) = _ := c4
    rw [hci] at h; exact h
   have d5 : [v5] = [Value.int .i64 a5] := by
    have h : List.take (Tryz.prog.cellsOf 3) (List.drop 5 [v0, v1, v2, v3, v4, v5, v6]) = _ := c5
    rw [hci] at h; exact h
   have d6 : [v6] = [Value.string a6] := by
    have h : List.take (Tryz.prog.cellsOf 9) (List.drop 6 [v0, v1, v2, v3, v4, v5, v6]) = _ := c6
    rw [cellsStr] at h; exact h
   clear c0 c1 c2 c3 c4 c5 c6 g0 g1 g2 g3 g4 g5 g6 hfl
   simp only [List.cons.injEq, and_true] at d0 d1 d2 d3 d4 d5 d6
   subst d0 d1 d2 d3 d4 d5 d6 z0 z1 z2 z3 z4 z5 z6
   obtain ⟨k, rfl, hk⟩ := u8_nat w0
   refine ⟨⟨k, a1, a2, a3, a4, a5, a6⟩, rfl, hk, ?_⟩
   have e := congrArg Prod.fst hy
   simpa using e
end
theorem gMost : Tryz.prog.globalNamed "palaver/handover.most" = some 1 := by kernel_rfl
theorem gMostT : (Tryz.prog.globals[1]?).map (·.type) = some 181 := by kernel_rfl
theorem gWordsH : Tryz.prog.globalNamed "palaver/handover.words" = some 0 := by kernel_rfl
theorem gWordsHT : (Tryz.prog.globals[0]?).map (·.type) = some 183 := by kernel_rfl
theorem cellsInt : Tryz.prog.cellsOf 3 = 1 := by kernel_rfl
theorem cellsNums : Tryz.prog.cellsOf 181 = 4 := by kernel_rfl
theorem mostData_eq {H : Type} : (Rows.laid_palaver_handover_most : DataW H) = Lib.tabData .i64 [4096, 4096, 63, 63] := by kernel_rfl
theorem ht_of_laid {W : World} {x0 x1 x2 x3 x4 x5 x6 : String × DataW Unit} {rest : List (String × DataW Unit)}
 (h : laidMet Tryz.prog (x0 :: x1 :: x2 :: x3 :: x4 :: x5 :: x6 :: ("palaver/handover.most", Rows.laid_palaver_handover_most) :: ("palaver/handover.words", Rows.laid_palaver_handover_words) :: rest) W) : HT W := by
 have h7 := h.tail.tail.tail.tail.tail.tail.tail
 have h8 := h7.tail
 rw [mostData_eq] at h7
 have t : Lib.TabIs Tryz.prog W "palaver/handover.most" .i64 [4096, 4096, 63, 63] := Lib.tabIs_of_head gMost gMostT Tryz.underlying181 Tryz.underlying3 cellsInt cellsNums h7
 have h8' : laidMet Tryz.prog (("palaver/handover.words", .agg (hWords.map fun l => .lit (.string l))) :: rest) W := h8
 refine ⟨fun i hi => ?_, fun i hi => ?_⟩
 · exact strTab_of_head h8' gWordsH gWordsHT Tryz.underlying183 rfl i hi
 · have := t.cell gMost i (by simpa using hi)
   rw [this]
theorem all_of_laid {W : World} {x0 x1 x2 : String × DataW Unit} {rest : List (String × DataW Unit)}
 (h : laidMet Tryz.prog (x0 :: x1 :: x2 :: ("palaver/sha.constants", Rows.laid_palaver_sha_constants) :: ("strconv.ErrRange", Rows.laid_strconv_ErrRange) :: ("strconv.ErrSyntax", Rows.laid_strconv_ErrSyntax) :: ("palaver/ident.marks", Rows.laid_palaver_ident_marks) :: ("palaver/handover.most", Rows.laid_palaver_handover_most) :: ("palaver/handover.words", Rows.laid_palaver_handover_words) :: rest) W) : IT W ∧ HT W ∧ KT W :=
 ⟨it_of_laid h.tail, ht_of_laid h, kt_of_laid h.tail.tail.tail⟩
end Go.Proofs.YtokakgjcegmabaaGreatDoor.Ho
