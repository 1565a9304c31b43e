
/-
  Rows of one's own: words; what grows beside.
-/
import Derived.Test.YtiakfopdohcigaaGreatDoorMm
import Derived.Test.YtiakfopdohcigaaGreatDoorOctAll
import Derived.Maps.AppendAt
namespace Go.Proofs.YtiakfopdohcigaaGreatDoor
set_option maxRecDepth 100000
set_option linter.unusedVariables false
set_option linter.unusedSimpArgs false
open Go.RowKit Rw
theorem OwnV.keeps {w W : World} {B T b t : Nat} {v : Value} {l xs : List Value} (h : OwnV w B T v l) (hg : w.grownBy W v.ownBlock) (ha : Arr w b t xs) (hne : t ≠ T) : Arr W b t xs := by
  refine (hg.block b ha.lt fun e => ?_).trans ha
  rcases h.2 with ⟨rfl, _⟩ | ⟨g, cap, cur, rfl, hB, hgb, r⟩
  · cases e
  · obtain rfl : b = g := by simpa [Value.ownBlock] using e
    have h1 : (Obj.cells cur T) = Obj.cells xs.toArray t := Option.some.inj (hgb.symm.trans ha)
    injection h1 with _ h2
    exact hne h2.symm
theorem run_oneS (s : ByteArray) (w : World) : (Instr.buildSlice 31 1 #[(0, .string s)]).run Tryz.prog w = .ok (.slice (some ⟨w.heap.size, 0, none⟩) 1 1) (w.alloc (.cells #[.string s] 9)) := by
  obtain ⟨i0, hi, hz0, hz1, hz2⟩ := info_parts info9
  refine run_buildSlice w 31 9 1 _ _ i0 _ Tryz.underlying31 hi hz0 (by rw [hz1]; omega) (by rw [hz1]; omega) ?_
  have hr : Array.range 1 = #[0] := by decide
  rw [hz1]; simp [Instr.fill, Value.cells, hr]
section
variable {ops : Array Oper} {rest : List Oper} {o : Oper} {a : Act} {w w0 : World} {Q : Exit → Act → World → Prop} {N : Nat} {L : List Mm.Bx} {S : World → Prop} {j : Nat} {K : Act → World → Prop}
theorem wpL_oneG (H : Hid (Mm.M N w0 w L)) (hw : Region.wanted o (yielded ops a.tmps) = true) (x : Operand) (s : ByteArray) (ho : o.op = .buildSlice 31 1 #[(0, x)]) (hx : a.eval x = .string s)
    (h : ∀ b W, Hid (Mm.M N w0 W (⟨b, 9, [.string s]⟩ :: L)) → Rt.NewAt w W b 9 [.string s] → wpList Tryz.prog ops Q rest (a.put o.dst (.slice (some ⟨b, 0, none⟩) 1 1)) W) : wpList Tryz.prog ops Q (o :: rest) a w := by
  refine wpList_step fun K hK => ?_
  rw [if_pos hw]
  have n := Rt.NewAt.mk' w 9 [.string s]
  have := hK _ _ (h _ _ (hidp (H.out.new n)) n)
  unfold Oper.wp execOp
  simp only [ho, List.map_toArray, List.map_cons, List.map_nil, hx, Sem.run_bind, run_oneS s w, Result.andThen_ok]
  exact this
theorem wpL_appSP (hgd : o.guard = none) (s x : Operand) (ho : o.op = .call { callee := .builtin .append, args := #[s, x], argTypes := #[31, 31] }) (B : Nat) (v : Value) (l : List Value) (b t : Nat) (u : Value) (hs : a.eval s = v) (hx : a.eval x = .slice (some ⟨b, 0, none⟩) 1 1)
    (hown : OwnV w B 9 v l) (hc : Arr w b t [u]) (hu : u.oneCell' = true) (hlen : l.length ≤ 4398046511104) (hB : B ≤ w.heap.size)
    (h : ∀ v' w', OwnV w' B 9 v' (l ++ [u]) → Below B w w' → wpList Tryz.prog ops Q rest (a.put o.dst v') w') : wpList Tryz.prog ops Q (o :: rest) a w := by
  obtain ⟨i0, hi, hz0, hz1, hz2⟩ := info_parts info9
  exact wpList_appV hgd s x 31 ho B 9 i0 (.string ByteArray.empty) 16 Tryz.underlying31 hi hz0 hz1 hz2 rfl v l hs hown ⟨b, 0, none⟩ 1 u hx (hc.cell 0 (by simp)) hu (by simp [maxLen]; omega) (by omega) hB h
theorem o_putV (ho : ops[j]? = some o) (hw : Region.wanted o (yielded ops a.tmps) = true) (T : TypeId) (ty : TypeId) (x y : Operand) (hop : o.op = .store ty x y) (b i : Nat) (v : Value) (hx : a.eval x = .pointer (some ⟨b, i, none⟩)) (hy : a.eval y = v) (hs : (Tryz.prog.info? ty).map (·.size) = some 1) (h1 : v.oneCell' = true)
    (xs : List Value) (hg : Arr w b T xs) (hi : i < xs.length)
    (h : ∀ W, Arr W b T (xs.set i v) → Rt.Stp b w W → S W ∧ K (a.put o.dst undef) W) : opW Tryz.prog ops Q S j K a w := by
  subst hy
  refine ⟨o, ho, hw, ?_⟩
  have := h _ (Arr.row hg _) (Rt.Stp.setRow _ _ _)
  unfold Oper.wp execOp
  simp only [hop, hx, Instr.storeAt, Instr.sureAddr, Sem.run_bind, Sem.run_pure, Result.andThen_ok, Rt.run_storeVar_cell w b i T ty xs _ hg hi hs h1]
  exact this
end
end Go.Proofs.YtiakfopdohcigaaGreatDoor
