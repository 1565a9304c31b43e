
/-
  A move among a law's arguments.
-/
import Derived.Test.YtpdeoplocbkkkaaMbB
import Derived.Test.YtpdeoplocbkkkaaRows
import Derived.ProofKit
import Derived.OpenShut
import Derived.ShutString
import Derived.SliceStrings
import Derived.SizedLaws
import Derived.Lib.SmallJoins
import Derived.Deep.DeepHandedRow
namespace Go.Proofs.Ytpdeoplocbkkkaa
set_option maxRecDepth 100000
set_option linter.unusedVariables false
set_option linter.unusedSimpArgs false
open Go.RowKit Go.ChangeShapes Go.WideShapes Go.ChangeAt

section
variable {H : Type} {enc : TypeId × Value → H} {w : World} {base : Nat} {spare : Nat → Bool} {held : Bool}
theorem open_move {r : Reach} {b0 : Nat} {v : Value} {d : DataW H} {ps : List MemPlace} (hval : Value.okWide Try.prog w r b0 23 v) (hd : DataW.Trod enc Try.prog w base spare held 23 v d ps) :
    ∃ (a0 : ByteArray) (a1 : ByteArray) (a2 : ByteArray) (a3 : ByteArray) (a4 : Bool) (a5 : Bool) (a6 : Bool) (a7 : Bool) (a8 : Bool), v = .agg #[.string a0, .string a1, .string a2, .string a3, .bool a4, .bool a5, .bool a6, .bool a7, .bool a8] ∧ 
      d = .agg [.lit (.string a0.data.toList), .lit (.string a1.data.toList), .lit (.string a2.data.toList), .lit (.string a3.data.toList), .lit (.bool a4), .lit (.bool a5), .lit (.bool a6), .lit (.bool a7), .lit (.bool a8)] := by
  have he := Try.underlying23
  have hce : Try.prog.cellsOf 23 = 9 := by kernel_rfl
  have hc0 : Try.prog.cellsOf 9 = 1 := by kernel_rfl
  have hc1 : Try.prog.cellsOf 9 = 1 := by kernel_rfl
  have hc2 : Try.prog.cellsOf 9 = 1 := by kernel_rfl
  have hc3 : Try.prog.cellsOf 9 = 1 := by kernel_rfl
  have hc4 : Try.prog.cellsOf 4 = 1 := by kernel_rfl
  have hc5 : Try.prog.cellsOf 4 = 1 := by kernel_rfl
  have hc6 : Try.prog.cellsOf 4 = 1 := by kernel_rfl
  have hc7 : Try.prog.cellsOf 4 = 1 := by kernel_rfl
  have hc8 : Try.prog.cellsOf 4 = 1 := by kernel_rfl
  obtain ⟨cs, rfl, hsz⟩ := okWide_struct he hval
  rw [hce] at hsz
  obtain ⟨l⟩ := cs
  simp only [List.size_toArray] at hsz
  obtain ⟨fuel, hf⟩ := hd
  obtain ⟨ys, n', hn', hy, hlen, hyl, hfl⟩ := DataW.trod_struct he hf
  have hyln : ys.length = 9 := hyl
  match l, hsz, ys, hyln, hfl, hy with
  | [v0, v1, v2, v3, v4, v5, v6, v7, v8], _, [y0, y1, y2, y3, y4, y5, y6, y7, y8], _, hfl, hy =>
    have g0 := hfl 0 _ rfl
    have g1 := hfl 1 _ rfl
    have g2 := hfl 2 _ rfl
    have g3 := hfl 3 _ rfl
    have g4 := hfl 4 _ rfl
    have g5 := hfl 5 _ rfl
    have g6 := hfl 6 _ rfl
    have g7 := hfl 7 _ rfl
    have g8 := hfl 8 _ rfl
    simp only [Value.cells, List.getElem?_cons_zero, List.getElem?_cons_succ, List.drop_zero, List.drop_succ_cons, List.take_zero, List.take_succ_cons, hc0, hc1, hc2, hc3, hc4, hc5, hc6, hc7, hc8] at g0 g1 g2 g3 g4 g5 g6 g7 g8
    obtain ⟨a0, c0, z0, _⟩ := DataW.trod_string Try.underlying9 g0
    obtain ⟨a1, c1, z1, _⟩ := DataW.trod_string Try.underlying9 g1
    obtain ⟨a2, c2, z2, _⟩ := DataW.trod_string Try.underlying9 g2
    obtain ⟨a3, c3, z3, _⟩ := DataW.trod_string Try.underlying9 g3
    obtain ⟨a4, c4, z4⟩ := DataW.trod_bool Try.underlying4 g4
    obtain ⟨a5, c5, z5⟩ := DataW.trod_bool Try.underlying4 g5
    obtain ⟨a6, c6, z6⟩ := DataW.trod_bool Try.underlying4 g6
    obtain ⟨a7, c7, z7⟩ := DataW.trod_bool Try.underlying4 g7
    obtain ⟨a8, c8, z8⟩ := DataW.trod_bool Try.underlying4 g8
    have d0 : [v0] = [Value.string a0] := by
      have h : List.take (Try.prog.cellsOf 9) (List.drop 0 [v0, v1, v2, v3, v4, v5, v6, v7, v8]) = _ := c0
      rw [hc0] at h; exact h
    have d1 : [v1] = [Value.string a1] := by
      have h : List.take (Try.prog.cellsOf 9) (List.drop 1 [v0, v1, v2, v3, v4, v5, v6, v7, v8]) = _ := c1
      rw [hc1] at h; exact h
    have d2 : [v2] = [Value.string a2] := by
      have h : List.take (Try.prog.cellsOf 9) (List.drop 2 [v0, v1, v2, v3, v4, v5, v6, v7, v8]) = _ := c2
      rw [hc2] at h; exact h
    have d3 : [v3] = [Value.string a3] := by
      have h : List.take (Try.prog.cellsOf 9) (List.drop 3 [v0, v1, v2, v3, v4, v5, v6, v7, v8]) = _ := c3
      rw [hc3] at h; exact h
    have d4 : [v4] = [Value.bool a4] := by
      have h : List.take (Try.prog.cellsOf 4) (List.drop 4 [v0, v1, v2, v3, v4, v5, v6, v7, v8]) = _ := c4
      rw [hc4] at h; exact h
    have d5 : [v5] = [Value.bool a5] := by
      have h : List.take (Try.prog.cellsOf 4) (List.drop 5 [v0, v1, v2, v3, v4, v5, v6, v7, v8]) = _ := c5
      rw [hc5] at h; exact h
    have d6 : [v6] = [Value.bool a6] := by
      have h : List.take (Try.prog.cellsOf 4) (List.drop 6 [v0, v1, v2, v3, v4, v5, v6, v7, v8]) = _ := c6
      rw [hc6] at h; exact h
    have d7 : [v7] = [Value.bool a7] := by
      have h : List.take (Try.prog.cellsOf 4) (List.drop 7 [v0, v1, v2, v3, v4, v5, v6, v7, v8]) = _ := c7
      rw [hc7] at h; exact h
    have d8 : [v8] = [Value.bool a8] := by
      have h : List.take (Try.prog.cellsOf 4) (List.drop 8 [v0, v1, v2, v3, v4, v5, v6, v7, v8]) = _ := c8
      rw [hc8] at h; exact h
    clear c0 g0 c1 g1 c2 g2 c3 g3 c4 g4 c5 g5 c6 g6 c7 g7 c8 g8 hfl
    simp only [List.cons.injEq, and_true] at d0 d1 d2 d3 d4 d5 d6 d7 d8
    subst d0 d1 d2 d3 d4 d5 d6 d7 d8 z0 z1 z2 z3 z4 z5 z6 z7 z8
    refine ⟨a0, a1, a2, a3, a4, a5, a6, a7, a8, rfl, ?_⟩
    have e := congrArg Prod.fst hy
    simpa using e
end
end Go.Proofs.Ytpdeoplocbkkkaa
