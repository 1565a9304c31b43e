
/-
  An event among a law's arguments; the table of the words out of a row's list.
-/
import Derived.Test.YtglfdenlgglccaaDoorIdK
import Derived.Test.YtglfdenlgglccaaDoorEvA
namespace Go.Proofs.YtglfdenlgglccaaDoor
set_option maxRecDepth 100000
set_option linter.unusedVariables false
set_option linter.unusedSimpArgs false
open Go.RowKit Go.ChangeShapes Go.WideShapes Go.ChangeAt

theorem gWords : Tryd.prog.globalNamed "palaver/event.words" = some 0 := by kernel_rfl
theorem gWordsT : (Tryd.prog.globals[0]?).map (·.type) = some 57 := by kernel_rfl
theorem wt_of_laid {W : World} {x0 x1 x2 x3 x4 x5 : String × DataW Unit} {rest : List (String × DataW Unit)}
    (h : laidMet Tryd.prog (x0 :: x1 :: x2 :: x3 :: x4 :: x5 :: ("palaver/event.words", Rows.laid_palaver_event_words) :: rest) W) : WT W := by
  have h6 := h.tail.tail.tail.tail.tail.tail
  have h6' : laidMet Tryd.prog (("palaver/event.words", .agg (evWords.map fun l => .lit (.string l))) :: rest) W := h6
  intro i hi
  exact strTab_of_head h6' gWords gWordsT Tryd.underlying57 rfl i hi

section
variable {H : Type} {enc : TypeId × Value → H} {w : World} {base : Nat} {spare : Nat → Bool} {held : Bool}
theorem open_event {r : Reach} {b0 : Nat} {v : Value} {d : DataW H} {ps : List MemPlace} (hval : Value.okWide Tryd.prog w r b0 24 v) (hd : DataW.Trod enc Tryd.prog w base spare held 24 v d ps) :
    ∃ e : Ev, v = .agg #[.string e.room, .string e.sender, .int .u8 (e.kind : Int), .string e.key, .string e.body, .int .i64 e.nonce] ∧ e.kind < 256 ∧ (Lit.int .i64 e.nonce).wf = true ∧
      d = .agg [.lit (.string e.room.data.toList), .lit (.string e.sender.data.toList), .lit (.int .u8 (e.kind : Int)), .lit (.string e.key.data.toList), .lit (.string e.body.data.toList), .lit (.int .i64 e.nonce)] := by
  have he := Tryd.underlying24
  have hce : Tryd.prog.cellsOf 24 = 6 := by kernel_rfl
  have hci : Tryd.prog.cellsOf 2 = 1 := by kernel_rfl
  have hck : Tryd.prog.cellsOf 22 = 1 := by kernel_rfl
  obtain ⟨cs, rfl, hsz⟩ := okWide_struct he hval
  rw [hce] at hsz
  obtain ⟨l⟩ := cs
  simp only [List.size_toArray] at hsz
  obtain ⟨fuel, hf⟩ := hd
  obtain ⟨ys, n', hn', hy, hlen, hyl, hfl⟩ := DataW.trod_struct he hf
  have hyl6 : ys.length = 6 := hyl
  match l, hsz, ys, hyl6, hfl, hy with
  | [v0, v1, v2, v3, v4, v5], _, [y0, y1, y2, y3, y4, y5], _, hfl, hy =>
    have g0 := hfl 0 _ rfl
    have g1 := hfl 1 _ rfl
    have g2 := hfl 2 _ rfl
    have g3 := hfl 3 _ rfl
    have g4 := hfl 4 _ rfl
    have g5 := hfl 5 _ rfl
    simp only [Value.cells, List.getElem?_cons_zero, List.getElem?_cons_succ, List.drop_zero, List.drop_succ_cons, List.take_zero, List.take_succ_cons, cellsStr, hci, hck] at g0 g1 g2 g3 g4 g5
    obtain ⟨a0, c0, z0, _⟩ := DataW.trod_string Tryd.underlying9 g0
    obtain ⟨a1, c1, z1, _⟩ := DataW.trod_string Tryd.underlying9 g1
    obtain ⟨a2, c2, z2, w2⟩ := DataW.trod_int Tryd.underlying22 g2
    obtain ⟨a3, c3, z3, _⟩ := DataW.trod_string Tryd.underlying9 g3
    obtain ⟨a4, c4, z4, _⟩ := DataW.trod_string Tryd.underlying9 g4
    obtain ⟨a5, c5, z5, w5⟩ := DataW.trod_int Tryd.underlying2 g5
    have d0 : [v0] = [Value.string a0] := by
      have h : List.take (Tryd.prog.cellsOf 9) (List.drop 0 [v0, v1, v2, v3, v4, v5]) = _ := c0
      rw [cellsStr] at h; exact h
    have d1 : [v1] = [Value.string a1] := by
      have h : List.take (Tryd.prog.cellsOf 9) (List.drop 1 [v0, v1, v2, v3, v4, v5]) = _ := c1
      rw [cellsStr] at h; exact h
    have d2 : [v2] = [Value.int .u8 a2] := by
      have h : List.take (Tryd.prog.cellsOf 22) (List.drop 2 [v0, v1, v2, v3, v4, v5]) = _ := c2
      rw [hck] at h; exact h
    have d3 : [v3] = [Value.string a3] := by
      have h : List.take (Tryd.prog.cellsOf 9) (List.drop 3 [v0, v1, v2, v3, v4, v5]) = _ := c3
      rw [cellsStr] at h; exact h
    have d4 : [v4] = [Value.string a4] := by
      have h : List.take (Tryd.prog.cellsOf 9) (List.drop 4 [v0, v1, v2, v3, v4, v5]) = _ := c4
      rw [cellsStr] at h; exact h
    have d5 : [v5] = [Value.int .i64 a5] := by
      have h : List.take (Tryd.prog.cellsOf 2) (List.drop 5 [v0, v1, v2, v3, v4, v5]) = _ := c5
      rw [hci] at h; exact h
    clear c0 c1 c2 c3 c4 c5 g0 g1 g2 g3 g4 g5 hfl
    simp only [List.cons.injEq, and_true] at d0 d1 d2 d3 d4 d5
    subst d0 d1 d2 d3 d4 d5 z0 z1 z2 z3 z4 z5
    obtain ⟨k, rfl, hk⟩ := u8_nat w2
    refine ⟨⟨a0, a1, k, a3, a4, a5⟩, rfl, hk, w5, ?_⟩
    have e := congrArg Prod.fst hy
    simpa using e
end
end Go.Proofs.YtglfdenlgglccaaDoor
