
/-
  Levels among a law's arguments; the tables out of a row's list.
-/
import Derived.Test.YtiakfopdohcigaaGreatDoorPwP
namespace Go.Proofs.YtiakfopdohcigaaGreatDoor
set_option maxRecDepth 100000
set_option linter.unusedVariables false
set_option linter.unusedSimpArgs false
open Go.RowKit Rw Go.ChangeShapes Go.WideShapes Go.ChangeAt
theorem cellTL : Tryz.prog.cellTypes Tryz.prog.depth 37 = some [3, 3, 3, 3, 3, 3, 35] := by kernel_rfl
section
variable {H : Type} {enc : TypeId × Value → H} {w : World} {base : Nat} {held : Bool} {r : Reach} {b0 : Nat}
theorem open_levels {ts : List TypeId} {ds : List (DataW H)} (hsz : (DataW.weightsEach Tryz.prog ts ds).all (· ≤ reachBytes) = true) {j : Nat} (htj : ts[j]? = some 37) {v : Value} {d : DataW H} {ps : List MemPlace} (hdj : ds[j]? = some d)
    (hval : Value.okWide Tryz.prog w r b0 37 v) (hd : DataW.Trod enc Tryz.prog w base (fun _ => true) held 37 v d ps) : ∃ (l : Lv) (u : Value), v = .agg #[.int .i64 l.a, .int .i64 l.s, .int .i64 l.i, .int .i64 l.k, .int .i64 l.b, .int .i64 l.r, u] ∧ UsAt w u l.us := by
  have he := Tryz.underlying37
  have hce : Tryz.prog.cellsOf 37 = 7 := by kernel_rfl
  have hci : Tryz.prog.cellsOf 3 = 1 := by kernel_rfl
  have hcs1 : Tryz.prog.cellsOf 35 = 1 := by kernel_rfl
  have hrow := hval
  obtain ⟨cs, rfl, hsz7⟩ := okWide_struct he hval
  rw [hce] at hsz7
  simp only [Value.okWide, he] at hrow
  obtain ⟨cs', e', _, hrow⟩ := hrow
  obtain rfl : cs = cs' := by cases e'; rfl
  obtain ⟨ts', ht', _, hcell⟩ := hrow
  rw [cellTL] at ht'
  cases ht'
  obtain ⟨l⟩ := cs
  simp only [List.size_toArray] at hsz7
  obtain ⟨fuel, hf⟩ := hd
  obtain ⟨ys, n', hn', hy, hlen, hyl, hfl⟩ := DataW.trod_struct he hf
  have hyln : ys.length = 7 := hyl
  match l, hsz7, ys, hyln, hfl, hy, hcell with
  | [v0, v1, v2, v3, v4, v5, v6], _, [y0, y1, y2, y3, y4, y5, y6], _, hfl, hy, hcell =>
    have g0 := hfl 0 _ rfl
    have g1 := hfl 1 _ rfl
    have g2 := hfl 2 _ rfl
    have g3 := hfl 3 _ rfl
    have g4 := hfl 4 _ rfl
    have g5 := hfl 5 _ rfl
    have g6 := hfl 6 _ rfl
    simp only [Value.cells, List.getElem?_cons_zero, List.getElem?_cons_succ, List.drop_zero, List.drop_succ_cons, List.take_zero, List.take_succ_cons, hci, hcs1] at g0 g1 g2 g3 g4 g5 g6
    obtain ⟨a0, c0, z0, _⟩ := DataW.trod_int Tryz.underlying3 g0
    have d0 : v0 = Value.int .i64 a0 := by
      have h : List.take (Tryz.prog.cellsOf 3) (List.drop 0 [v0, v1, v2, v3, v4, v5, v6]) = _ := c0
      rw [hci] at h; simpa using h
    obtain ⟨a1, c1, z1, _⟩ := DataW.trod_int Tryz.underlying3 g1
    have d1 : v1 = Value.int .i64 a1 := by
      have h : List.take (Tryz.prog.cellsOf 3) (List.drop 1 [v0, v1, v2, v3, v4, v5, v6]) = _ := c1
      rw [hci] at h; simpa using h
    obtain ⟨a2, c2, z2, _⟩ := DataW.trod_int Tryz.underlying3 g2
    have d2 : v2 = Value.int .i64 a2 := by
      have h : List.take (Tryz.prog.cellsOf 3) (List.drop 2 [v0, v1, v2, v3, v4, v5, v6]) = _ := c2
      rw [hci] at h; simpa using h
    obtain ⟨a3, c3, z3, _⟩ := DataW.trod_int Tryz.underlying3 g3
    have d3 : v3 = Value.int .i64 a3 := by
      have h : List.take (Tryz.prog.cellsOf 3) (List.drop 3 [v0, v1, v2, v3, v4, v5, v6]) = _ := c3
      rw [hci] at h; simpa using h
    obtain ⟨a4, c4, z4, _⟩ := DataW.trod_int Tryz.underlying3 g4
    have d4 : v4 = Value.int .i64 a4 := by
      have h : List.take (Tryz.prog.cellsOf 3) (List.drop 4 [v0, v1, v2, v3, v4, v5, v6]) = _ := c4
      rw [hci] at h; simpa using h
    obtain ⟨a5, c5, z5, _⟩ := DataW.trod_int Tryz.underlying3 g5
    have d5 : v5 = Value.int .i64 a5 := by
      have h : List.take (Tryz.prog.cellsOf 3) (List.drop 5 [v0, v1, v2, v3, v4, v5, v6]) = _ := c5
      rw [hci] at h; simpa using h
    have hq : d = .agg [y0.1, y1.1, y2.1, y3.1, y4.1, y5.1, y6.1] := by have := congrArg Prod.fst hy; simpa using this
    have hs := sized_agg hsz htj (by rw [hdj, hq]) he
    obtain ⟨u6, hu6, hc6⟩ := hcell 6 v6 rfl
    have e6 : u6 = 35 := by have h : some 35 = some u6 := hu6; exact (Option.some.inj h).symm
    subst e6
    have g6' : DataW.trod enc Tryz.prog w base (fun _ => true) held n' 35 [v6] = some y6 := by
      have h := g6
      have e : List.take (Tryz.prog.cellsOf 35) (List.drop 6 [v0, v1, v2, v3, v4, v5, v6]) = [v6] := by rw [hcs1]; rfl
      rw [← e]; exact h
    obtain ⟨us, hus⟩ := open_users hs (j := 6) rfl (by rfl) hc6 g6'
    subst d0 d1 d2 d3 d4 d5
    exact ⟨⟨a0, a1, a2, a3, a4, a5, us⟩, v6, rfl, hus⟩
end
theorem gPowT : (Tryz.prog.globals[2]?).map (·.type) = some 218 := by kernel_rfl
theorem pow_tab : (Rows.laid_internal_strconv_uint64pow10 : DataW Unit) = Lib.tabData .u64 Lib.pow10Tab := by kernel_rfl
theorem pt_of_laid {W : World} {x0 x1 x3 : String × DataW Unit} {rest : List (String × DataW Unit)}
    (h : laidMet Tryz.prog (x0 :: x1 :: ("internal/strconv.uint64pow10", Rows.laid_internal_strconv_uint64pow10) :: x3 :: ("strconv.ErrRange", Rows.laid_strconv_ErrRange) :: ("strconv.ErrSyntax", Rows.laid_strconv_ErrSyntax) :: ("palaver/ident.marks", Rows.laid_palaver_ident_marks) :: rest) W) : PT W := by
  refine ⟨it_of_laid h.tail, ?_⟩
  have h2 := h.tail.tail
  rw [pow_tab] at h2
  exact Lib.tabIs_of_head gPow gPowT Tryz.underlying218 Tryz.underlying188 (by kernel_rfl) (by kernel_rfl) h2
end Go.Proofs.YtiakfopdohcigaaGreatDoor
