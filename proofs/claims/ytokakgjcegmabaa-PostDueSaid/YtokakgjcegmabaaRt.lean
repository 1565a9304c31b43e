
/-
  Variables of struct types: laid, loaded, stored, and their fields; in plain regions and in scripts.
-/
import Derived.Test.YtokakgjcegmabaaBaC
import Derived.Laws.Rows
import Derived.Laws.Tables
import Derived.Laws.CopyRow
import Derived.Great.BuildSlice
namespace Go.Proofs.Ytokakgjcegmabaa.Rt
set_option maxRecDepth 100000
set_option linter.unusedVariables false
set_option linter.unusedSimpArgs false
open Go.RowKit

/-- A struct type T of k cells, each of one, and its zero value. -/
structure RT (P : Program) (T k : Nat) (z : List Value) : Prop where
  zl : z.length = k
  ut : (∃ fs, P.underlying T = some (.struct fs)) ∨ (∃ n e, P.underlying T = some (.array n e))
  info : (P.info? T).map (fun i => (i.zero, i.size)) = some (some (.agg z.toArray), k)
variable {P : Program} {T k : Nat} {z : List Value}
theorem RT.parts (R : RT P T k z) : ∃ i0, P.info? T = some i0 ∧ i0.zero = some (.agg z.toArray) ∧ i0.size = k := by
  have h := R.info
  cases hi : P.info? T with
  | none => rw [hi] at h; cases h
  | some i0 =>
    rw [hi] at h
    simp only [Option.map_some, Option.some.injEq, Prod.mk.injEq] at h
    exact ⟨i0, rfl, h.1, h.2⟩
theorem RT.isz (R : RT P T k z) : (P.info? T).map (·.size) = some k := by
  obtain ⟨i0, hi, hz0, hz1⟩ := R.parts
  rw [hi]; simp [hz1]
theorem RT.size (R : RT P T k z) {xs : List Value} (h : xs.length = k) : (P.info? T).map (·.size) = some xs.toArray.size := by rw [R.isz]; simp [h]
theorem RT.sz (R : RT P T k z) (w : World) : (sizeOf T).run P w = .ok k w := by
  obtain ⟨i0, hi, hz0, hz1⟩ := R.parts
  simp [sizeOf, typeInfo, hi, hz1]
theorem RT.zero (R : RT P T k z) (w : World) : (zeroValue T).run P w = .ok (.agg z.toArray) w := by
  obtain ⟨i0, hi, hz0, hz1⟩ := R.parts
  simp [zeroValue, typeInfo, hi, hz0]
/-- What a step to a new world leaves: all blocks but one stand, and as many as there were. -/
structure Stp (b : Nat) (w W : World) : Prop where
  size : W.heap.size = w.heap.size
  other : ∀ c, c ≠ b → W.heap[c]? = w.heap[c]?
  below : ∀ N, N ≤ b → Below N w W
theorem Stp.setRow (w : World) (b : Nat) (xs : Array Value) : Stp b w (w.setRow b xs) := ⟨by simp, fun c hc => setRow_other w b c xs hc, fun N hN => below_setRow (Below.refl N w) hN xs⟩
theorem Stp.arr {w W : World} {b c t : Nat} {xs : List Value} (h : Stp b w W) (hc : c ≠ b) (ha : Arr w c t xs) : Arr W c t xs := (h.other c hc).trans ha
theorem Stp.below' {w0 w W : World} {b N : Nat} (h : Stp b w W) (hb : Below N w0 w) (hN : N ≤ b) : Below N w0 W := hb.trans (h.below N hN)
theorem Stp.trans {w W V : World} {b : Nat} (h : Stp b w W) (k : Stp b W V) : Stp b w V := ⟨k.size.trans h.size, fun c hc => (k.other c hc).trans (h.other c hc), fun N hN => (h.below N hN).trans (k.below N hN)⟩
/-- A new block b that holds xs. -/
structure NewAt (w W : World) (b t : Nat) (xs : List Value) : Prop where
  at_ : b = w.heap.size
  size : W.heap.size = b + 1
  arr : Arr W b t xs
  below : Below w.heap.size w W
theorem NewAt.mk' (w : World) (t : Nat) (xs : List Value) : NewAt w (w.alloc (.cells xs.toArray t)) w.heap.size t xs := ⟨rfl, by simp, Arr.new _ _ _, (Below.refl _ w).alloc (Nat.le_refl _) _⟩
theorem NewAt.old {w W : World} {b t c u : Nat} {xs ys : List Value} (h : NewAt w W b t xs) (ha : Arr w c u ys) : Arr W c u ys := ha.below h.below ha.lt
theorem NewAt.lt {w W : World} {b t : Nat} {xs : List Value} (h : NewAt w W b t xs) : b < W.heap.size := h.arr.lt
theorem NewAt.put {w W W' : World} {b t : Nat} {xs : List Value} (h : NewAt w W b t xs) (k : Stp b W W') : Below w.heap.size w W' := h.below.trans (k.below _ (by rw [h.at_]; exact Nat.le_refl _))
theorem NewAt.le {w W : World} {b t : Nat} {xs : List Value} (h : NewAt w W b t xs) : w.heap.size ≤ b := by rw [h.at_]; exact Nat.le_refl _
theorem run_storeVar_cell (w : World) (b i : Nat) (t ty : TypeId) (xs : List Value) (v : Value) (hg : Arr w b t xs) (hi : i < xs.length) (hs : (P.info? ty).map (·.size) = some 1) (h1 : v.oneCell' = true) :
    (storeVar ty ⟨b, i, none⟩ v).run P w = .ok () (w.setRow b (xs.set i v).toArray) := by
  have := run_storeCells_at (P := P) b i t [v] 0 xs.toArray w hg (by simp; omega) (fun x hx => by simp at hx; subst hx; exact h1)
  have hc : v.cells = #[v] := by cases v <;> first | rfl | cases h1
  have he : xs.take i ++ [v] ++ xs.drop (i + 1) = xs.set i v := by
    rw [List.set_eq_take_append_cons_drop, if_pos hi]; simp
  cases hq : P.info? ty with
  | none => simp [hq] at hs
  | some i0 =>
    have hs : i0.size = 1 := by simpa [hq] using hs
    simp only [Nat.add_zero, List.length_cons, List.length_nil, Nat.zero_add, he] at this
    simp [storeVar, sizeOf, typeInfo, hq, hc, hs, this]
section
variable {ops : Array Oper} {rest : List Oper} {o : Oper} {a : Act} {w : World} {Q : Exit → Act → World → Prop}
theorem wpL_new (R : RT P T k z) (d : Option Tmp) (hd : o.dst = d) (hgd : o.guard = none) (ho : o.op = .alloc T)
    (h : ∀ b W, NewAt w W b T z → wpList P ops Q rest (a.put o.dst (.pointer (some ⟨b, 0, none⟩))) W) : wpList P ops Q (o :: rest) a w := by
  refine wpList_plain hgd fun K hK => ?_
  have := hK _ _ (h w.heap.size (w.alloc (.cells z.toArray T)) (NewAt.mk' _ _ _))
  unfold Oper.wp execOp
  simp only [ho, Instr.alloc, Sem.run_bind, Result.andThen_ok, R.zero w]
  simp [newVar, newRow, Value.cells]
  exact this
theorem wpL_box (T : TypeId) (hgd : o.guard = none) (x : Operand) (ho : o.op = .box T x) (xs : List Value) (hx : a.eval x = .agg xs.toArray)
    (h : ∀ b W, NewAt w W b T xs → wpList P ops Q rest (a.put o.dst (.pointer (some ⟨b, 0, none⟩))) W) : wpList P ops Q (o :: rest) a w := by
  refine wpList_plain hgd fun K hK => ?_
  have := hK _ _ (h w.heap.size (w.alloc (.cells xs.toArray T)) (NewAt.mk' _ _ _))
  unfold Oper.wp execOp
  simp only [ho, Instr.box, Sem.run_bind, Result.andThen_ok, hx]
  simp [newVar, newRow, Value.cells]
  exact this
/-- A parameter of one cell in memory. -/
theorem wpL_box1 (T : TypeId) (hgd : o.guard = none) (x : Operand) (ho : o.op = .box T x) (v : Value) (hx : a.eval x = v) (h1 : v.cells = #[v])
    (h : ∀ b W, NewAt w W b T [v] → wpList P ops Q rest (a.put o.dst (.pointer (some ⟨b, 0, none⟩))) W) : wpList P ops Q (o :: rest) a w := by
  subst hx
  refine wpList_plain hgd fun K hK => ?_
  have := hK _ _ (h w.heap.size (w.alloc (.cells [a.eval x].toArray T)) (NewAt.mk' _ _ _))
  unfold Oper.wp execOp
  simp only [ho, Instr.box, Sem.run_bind, Result.andThen_ok]
  simp [newVar, newRow, h1]
  exact this
/-- A new variable of one cell. -/
theorem wpL_new1 (T : TypeId) (z : Value) (d : Option Tmp) (hd : o.dst = d) (hz : (P.info? T).bind (·.zero) = some z) (h1 : z.cells = #[z]) (hgd : o.guard = none) (ho : o.op = .alloc T)
    (h : ∀ b W, NewAt w W b T [z] → wpList P ops Q rest (a.put o.dst (.pointer (some ⟨b, 0, none⟩))) W) : wpList P ops Q (o :: rest) a w := by
  refine wpList_plain hgd fun K hK => ?_
  have := hK _ _ (h w.heap.size (w.alloc (.cells [z].toArray T)) (NewAt.mk' _ _ _))
  have hzv : ∀ w, (zeroValue T).run P w = .ok z w := by
    intro w
    cases hi : P.info? T with
    | none => rw [hi] at hz; cases hz
    | some i0 =>
      rw [hi] at hz
      have hz' : i0.zero = some z := hz
      simp [zeroValue, typeInfo, hi, hz']
  unfold Oper.wp execOp
  simp only [ho, Instr.alloc, Sem.run_bind, Result.andThen_ok, hzv w]
  simp [newVar, newRow, h1]
  exact this
theorem wpL_put (R : RT P T k z) (hgd : o.guard = none) (x y : Operand) (ho : o.op = .store T x y) (b : Nat) (xs : List Value) (hx : a.eval x = .pointer (some ⟨b, 0, none⟩)) (hy : a.eval y = .agg xs.toArray) (hl : xs.length = k)
    (h1 : ∀ v ∈ xs, v.oneCell' = true) (ys : List Value) (hl2 : ys.length = k) (hg : Arr w b T ys)
    (h : ∀ W, Arr W b T xs → Stp b w W → wpList P ops Q rest (a.put o.dst undef) W) : wpList P ops Q (o :: rest) a w :=
  wpList_store_row hgd T x y ho b xs.toArray hx hy T _ hg (R.size hl) (by simp [hl, hl2]) (by rw [Array.all_eq_true]; intro i hi; exact h1 _ (by simp)) (h _ (Arr.row hg _) (Stp.setRow _ _ _))
/-- A field of one cell is stored. -/
theorem wpL_putF (hgd : o.guard = none) (ty : TypeId) (x y : Operand) (ho : o.op = .store ty x y) (b i : Nat) (v : Value) (hx : a.eval x = .pointer (some ⟨b, i, none⟩)) (hy : a.eval y = v) (hs : (P.info? ty).map (·.size) = some 1) (h1 : v.oneCell' = true)
    (xs : List Value) (hg : Arr w b T xs) (hi : i < xs.length)
    (h : ∀ W, Arr W b T (xs.set i v) → Stp b w W → wpList P ops Q rest (a.put o.dst undef) W) : wpList P ops Q (o :: rest) a w := by
  subst hy
  refine wpList_plain hgd fun K hK => ?_
  have := hK _ _ (h _ (Arr.row hg _) (Stp.setRow _ _ _))
  unfold Oper.wp execOp
  simp only [ho, hx, Instr.storeAt, Instr.sureAddr, Sem.run_bind, Sem.run_pure, Result.andThen_ok, run_storeVar_cell w b i T ty xs _ hg hi hs h1]
  exact this
theorem wpL_get (R : RT P T k z) (hw : Region.wanted o (yielded ops a.tmps) = true) (x : Operand) (ho : o.op = .load T x) (b : Nat) (xs : List Value) (hx : a.eval x = .pointer (some ⟨b, 0, none⟩)) (hl : xs.length = k) (hg : Arr w b T xs)
    (h : wpList P ops Q rest (a.put o.dst (.agg xs.toArray)) w) : wpList P ops Q (o :: rest) a w := by
  rcases R.ut with ⟨fs, hu⟩ | ⟨n, e, hu⟩
  · exact wpList_load_row_g hw T x ho b hx T _ (0, 0) _ hg hu rfl (R.size hl) h
  · exact wpList_load_row_g hw T x ho b hx T _ (0, 0) _ hg hu rfl (R.size hl) h
theorem wanted_no {o : Oper} {ys : Nat → Option Bool} {i : Nat} {b : Bool} (hg : o.guard = some (i, b)) (hy : ys i = some (!b)) : Region.wanted o ys = false := by
  unfold Region.wanted
  rw [hg]
  cases b <;> simp [hy]
theorem wpL_skip (i : Nat) (b : Bool) (hg : o.guard = some (i, b)) (hy : yielded ops a.tmps i = some (!b)) (h : wpList P ops Q rest (a.put o.dst undef) w) : wpList P ops Q (o :: rest) a w :=
  wpList_step fun K hK => by rw [if_neg (by rw [wanted_no hg hy]; exact Bool.false_ne_true)]; exact hK _ _ h
theorem wanted_none {o : Oper} {ys : Nat → Option Bool} {i : Nat} {b : Bool} (hg : o.guard = some (i, b)) (hy : ys i = none) : Region.wanted o ys = false := by
  unfold Region.wanted
  rw [hg]
  cases b <;> simp [hy]
theorem wpL_skipN (i : Nat) (b : Bool) (hg : o.guard = some (i, b)) (hy : yielded ops a.tmps i = none) (h : wpList P ops Q rest (a.put o.dst undef) w) : wpList P ops Q (o :: rest) a w :=
  wpList_step fun K hK => by rw [if_neg (by rw [wanted_none hg hy]; exact Bool.false_ne_true)]; exact hK _ _ h
/-- A literal, whose cells are said. -/
theorem wpL_build (hw : Region.wanted o (yielded ops a.tmps) = true) (T : TypeId) (parts : Array (Nat × Operand)) (ho : o.op = .build T parts) (xs : List Value)
    (hb : P.built T (parts.map fun (i, x) => (i, a.eval x)).toList = some xs.toArray)
    (h : wpList P ops Q rest (a.put o.dst (.agg xs.toArray)) w) : wpList P ops Q (o :: rest) a w := by
  refine wpList_step fun K hK => ?_
  rw [if_pos hw]
  have := hK _ _ h
  unfold Oper.wp execOp
  simp only [ho, Sem.run_bind, run_build w T _ _ hb, Result.andThen_ok]
  exact this
end
section
variable {ops : Array Oper} {Q : Exit → Act → World → Prop} {S : World → Prop} {j : Nat} {o : Oper} {s : Scr} {a : Act} {w : World} {K : Act → World → Prop}
theorem s_get (R : RT P T k z) (ho : ops[j]? = some o) (hw : Region.wanted o (yielded ops a.tmps) = true) (x : Operand) (hop : o.op = .load T x) (b : Nat) (xs : List Value) (hx : a.eval x = .pointer (some ⟨b, 0, none⟩)) (hl : xs.length = k) (hg : ∀ w, S w → Arr w b T xs)
    (h : wpScr P ops Q s S (a.put o.dst (.agg xs.toArray)) w) : wpScr P ops Q (.take j s) S a w := by
  rcases R.ut with ⟨fs, hu⟩ | ⟨n, e, hu⟩
  · exact s_val ho hw (fun w hS => by
      unfold execOp
      simp only [hop, hx, Instr.loadAt, Instr.sureAddr, Sem.run_bind, Sem.run_pure, Result.andThen_ok, run_loadVar_row (P := P) w b T T _ (0, 0) _ (hg w hS) hu rfl (R.size hl)]) h
  · exact s_val ho hw (fun w hS => by
      unfold execOp
      simp only [hop, hx, Instr.loadAt, Instr.sureAddr, Sem.run_bind, Sem.run_pure, Result.andThen_ok, run_loadVar_row (P := P) w b T T _ (0, 0) _ (hg w hS) hu rfl (R.size hl)]) h
theorem o_new (R : RT P T k z) (ho : ops[j]? = some o) (hw : Region.wanted o (yielded ops a.tmps) = true) (hop : o.op = .alloc T)
    (h : ∀ b W, NewAt w W b T z → S W ∧ K (a.put o.dst (.pointer (some ⟨b, 0, none⟩))) W) : opW P ops Q S j K a w := by
  refine ⟨o, ho, hw, ?_⟩
  have := h w.heap.size (w.alloc (.cells z.toArray T)) (NewAt.mk' _ _ _)
  unfold Oper.wp execOp
  simp only [hop, Instr.alloc, Sem.run_bind, Result.andThen_ok, R.zero w]
  simp [newVar, newRow, Value.cells]
  exact this
theorem o_put (R : RT P T k z) (ho : ops[j]? = some o) (hw : Region.wanted o (yielded ops a.tmps) = true) (x y : Operand) (hop : o.op = .store T x y) (b : Nat) (xs : List Value) (hx : a.eval x = .pointer (some ⟨b, 0, none⟩)) (hy : a.eval y = .agg xs.toArray) (hl : xs.length = k)
    (h1 : ∀ v ∈ xs, v.oneCell' = true) (ys : List Value) (hl2 : ys.length = k) (hg : Arr w b T ys)
    (h : ∀ W, Arr W b T xs → Stp b w W → S W ∧ K (a.put o.dst undef) W) : opW P ops Q S j K a w := by
  refine ⟨o, ho, hw, ?_⟩
  have := h _ (Arr.row hg _) (Stp.setRow _ _ _)
  unfold Oper.wp
  rw [show (execOp a.eval o).run P w = .ok .skip (w.setRow b xs.toArray) from by
    have hr := run_storeCells_from (P := P) b T xs 0 ys.toArray w hg (by simp [hl, hl2]) h1
    obtain ⟨i0, hi, hz0, hz1⟩ := R.parts
    unfold execOp
    simp only [hop, hx, hy, Instr.storeAt, Instr.sureAddr, Sem.run_bind, Sem.run_pure, Result.andThen_ok]
    simp at hr
    simp [storeVar, sizeOf, typeInfo, hi, hz1, Value.cells, hl, hr]]
  exact this
theorem s_skip (ho : ops[j]? = some o) (hw : Region.wanted o (yielded ops a.tmps) = false) (h : wpScr P ops Q s S (a.put o.dst undef) w) : wpScr P ops Q (.take j s) S a w :=
  ⟨o, undef, ho, .inr ⟨hw, rfl⟩, h⟩
end
/-- What stands behind a region, said once for all the ways through it. -/
theorem wp_cut2 {P : Program} {c : Code} {Q : Exit → Act → World → Prop} {a : Act} {w : World} (f : Act → Nat → Nat → Act) (G : Nat → Nat → World → Prop)
    (h1 : c.wp P (fun e a' W => e = .normal ∧ ∃ b d, a' = f a b d ∧ G b d W) a w) (h2 : ∀ b d W, G b d W → Q .normal (f a b d) W) : c.wp P Q a w :=
  wp_mono h1 fun e a' W h => by
    obtain ⟨rfl, b, d, rfl, hg⟩ := h
    exact h2 b d W hg
end Go.Proofs.Ytokakgjcegmabaa.Rt
