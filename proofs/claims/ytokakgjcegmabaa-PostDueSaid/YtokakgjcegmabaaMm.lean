
/-
  A bag of variables in memory that a walk carries along: laid, loaded, stored, kept by calls.
-/
import Derived.Test.YtokakgjcegmabaaRt
import Derived.Test.YtokakgjcegmabaaRw
import Derived.Test.YtokakgjcegmabaaOctM
import Derived.Deep.RegionHeld3
namespace Go.Proofs.Ytokakgjcegmabaa.Mm
set_option maxRecDepth 100000
set_option linter.unusedVariables false
set_option linter.unusedSimpArgs false
open Go.RowKit Go.Proofs.Ytokakgjcegmabaa.Rt

/-- A variable: its block, its type, its cells. -/
structure Bx where
  b : Nat
  t : Nat
  r : List Value
/-- From the world w0 on all below N stands, and these variables are there, the newest one first. -/
structure M (N : Nat) (w0 w : World) (L : List Bx) : Prop where
  below : Below N w0 w
  le : N ≤ w.heap.size
  ge : ∀ x ∈ L, N ≤ x.b
  inc : L.Pairwise (fun x y => y.b < x.b)
  has : ∀ x ∈ L, Arr w x.b x.t x.r
theorem M.nil (w : World) : M w.heap.size w w [] := ⟨Below.refl _ _, Nat.le_refl _, (fun x h => by cases h), List.Pairwise.nil, (fun x h => by cases h)⟩
variable {N : Nat} {w0 w W : World} {L : List Bx}
theorem M.call (h : M N w0 w L) (hb : Below w.heap.size w W) : M N w0 W L :=
  ⟨h.below.trans (hb.mono h.le), Nat.le_trans h.le hb.size, h.ge, h.inc, fun x hx => (h.has x hx).below hb (h.has x hx).lt⟩
theorem M.drew (h : M N w0 w L) : M N w0 { w with drawn := w.drawn + 1 } L := h.call (Below.refl _ _).drew
theorem M.new {b t : Nat} {xs : List Value} (h : M N w0 w L) (n : NewAt w W b t xs) : M N w0 W (⟨b, t, xs⟩ :: L) := by
  have hc := h.call n.below
  refine ⟨hc.below, hc.le, fun x hx => ?_, List.Pairwise.cons (fun x hx => ?_) h.inc, fun x hx => ?_⟩
  · rcases List.mem_cons.1 hx with rfl | hx
    · exact Nat.le_trans h.le n.le
    · exact h.ge x hx
  · have := (h.has x hx).lt; have := n.at_; show x.b < b; omega
  · rcases List.mem_cons.1 hx with rfl | hx
    · exact n.arr
    · exact hc.has x hx
/-- A variable that is not the newest world's, but lies behind all the others. -/
theorem M.add {b t : Nat} {xs : List Value} {m : Nat} (h : M N w0 w L) (hb : Below w.heap.size w W) (hm : w.heap.size ≤ b) (ha : Arr W b t xs) : M N w0 W (⟨b, t, xs⟩ :: L) := by
  have hc := h.call hb
  refine ⟨hc.below, hc.le, fun x hx => ?_, List.Pairwise.cons (fun x hx => ?_) h.inc, fun x hx => ?_⟩
  · rcases List.mem_cons.1 hx with rfl | hx
    · exact Nat.le_trans h.le hm
    · exact h.ge x hx
  · have := (h.has x hx).lt; show x.b < b; omega
  · rcases List.mem_cons.1 hx with rfl | hx
    · exact ha
    · exact hc.has x hx
theorem M.tail {x : Bx} (h : M N w0 w (x :: L)) : M N w0 w L := ⟨h.below, h.le, fun y hy => h.ge y (List.mem_cons_of_mem _ hy), (List.pairwise_cons.1 h.inc).2, fun y hy => h.has y (List.mem_cons_of_mem _ hy)⟩
theorem M.sub {L' : List Bx} (h : M N w0 w L) (hs : L'.Sublist L) : M N w0 w L' := ⟨h.below, h.le, fun y hy => h.ge y (hs.subset hy), h.inc.sublist hs, fun y hy => h.has y (hs.subset hy)⟩
theorem M.ne {i : Nat} {x : Bx} (h : L.Pairwise (fun x y => y.b < x.b)) (hi : L[i]? = some x) : ∀ {j : Nat} {y : Bx}, L[j]? = some y → j ≠ i → y.b ≠ x.b := by
  intro j y hj hne
  obtain ⟨h1, e1⟩ := List.getElem?_eq_some_iff.1 hi
  obtain ⟨h2, e2⟩ := List.getElem?_eq_some_iff.1 hj
  rw [List.pairwise_iff_getElem] at h
  rcases Nat.lt_or_gt_of_ne hne with hlt | hgt
  · have := h j i h2 h1 hlt; rw [e1, e2] at this; omega
  · have := h i j h1 h2 hgt; rw [e1, e2] at this; omega
theorem M.put (h : M N w0 w L) (i b t : Nat) (xs ys : List Value) (hi : L[i]? = some ⟨b, t, ys⟩) (ha : Arr W b t xs) (st : Stp b w W) : M N w0 W (L.set i ⟨b, t, xs⟩) := by
  obtain ⟨h1, e1⟩ := List.getElem?_eq_some_iff.1 hi
  have hge := h.ge _ (List.mem_of_getElem? hi)
  have mem : ∀ x ∈ L.set i ⟨b, t, xs⟩, x = ⟨b, t, xs⟩ ∨ ∃ j, L[j]? = some x ∧ j ≠ i := by
    intro x hx
    obtain ⟨j, hj, rfl⟩ := List.getElem_of_mem hx
    by_cases e : j = i
    · subst e; left; simp
    · right; refine ⟨j, ?_, e⟩
      rw [List.getElem_set_ne (by omega)]
      exact List.getElem?_eq_getElem _
  refine ⟨st.below' h.below hge, by rw [st.size]; exact h.le, fun x hx => ?_, ?_, fun x hx => ?_⟩
  · rcases mem x hx with rfl | ⟨j, hj, _⟩
    · exact hge
    · exact h.ge x (List.mem_of_getElem? hj)
  · have hp := h.inc
    rw [List.pairwise_iff_getElem] at hp ⊢
    have hb : ∀ j (hj : j < (L.set i ⟨b, t, xs⟩).length), ((L.set i ⟨b, t, xs⟩)[j]).b = (L[j]'(by simpa using hj)).b := by
      intro j hj
      by_cases e : j = i
      · subst e; simp [e1]
      · rw [List.getElem_set_ne (by omega)]
    intro j k hj hk hlt
    rw [hb j hj, hb k hk]
    exact hp j k _ _ hlt
  · rcases mem x hx with rfl | ⟨j, hj, hne⟩
    · exact ha
    · exact st.arr (M.ne h.inc hi hj hne) (h.has x (List.mem_of_getElem? hj))
/-- A type of one cell. -/
def NA (P : Program) (ty : Nat) : Prop := ∃ d, P.underlying ty = some d ∧ (match d with | .struct _ | .array _ _ => false | _ => true) = true
theorem NA.agg {P : Program} {ty : Nat} (h : NA P ty) (w : World) : (isAgg ty).run P w = .ok false w := by
  obtain ⟨d, hu, hd⟩ := h
  unfold isAgg
  rw [Sem.run_bind, run_underlying hu w]
  cases d <;> simp_all [Result.andThen]
theorem run_loadVar_one {P : Program} {ty : Nat} (h : NA P ty) (w : World) (p : Addr) (v : Value) (hc : w.cell? p = some v) : (loadVar ty p).run P w = .ok v w := by
  simp only [loadVar, Sem.run_bind, h.agg w, Result.andThen_ok, Bool.false_eq_true, if_false]
  show Sem.run P (Sem.load _ p Sem.pure) w = _
  simp [Sem.run, hc]
section
variable {P : Program} {T k : Nat} {z : List Value} {ops : Array Oper} {rest : List Oper} {o : Oper} {a : Act} {Q : Exit → Act → World → Prop}
theorem new (R : RT P T k z) (H : Hid (M N w0 w L)) (d : Option Tmp) (hd : o.dst = d) (hgd : o.guard = none) (ho : o.op = .alloc T)
    (h : ∀ b W, Hid (M N w0 W (⟨b, T, z⟩ :: L)) → NewAt w W b T z → wpList P ops Q rest (a.put o.dst (.pointer (some ⟨b, 0, none⟩))) W) : wpList P ops Q (o :: rest) a w :=
  wpL_new R d hd hgd ho fun b W n => h b W (hidp (H.out.new n)) n
theorem new1 (T : TypeId) (z : Value) (hz : (P.info? T).bind (·.zero) = some z) (h1 : z.cells = #[z]) (H : Hid (M N w0 w L)) (d : Option Tmp) (hd : o.dst = d) (hgd : o.guard = none) (ho : o.op = .alloc T)
    (h : ∀ b W, Hid (M N w0 W (⟨b, T, [z]⟩ :: L)) → NewAt w W b T [z] → wpList P ops Q rest (a.put o.dst (.pointer (some ⟨b, 0, none⟩))) W) : wpList P ops Q (o :: rest) a w :=
  wpL_new1 T z d hd hz h1 hgd ho fun b W n => h b W (hidp (H.out.new n)) n
theorem box (T : TypeId) (H : Hid (M N w0 w L)) (hgd : o.guard = none) (x : Operand) (ho : o.op = .box T x) (xs : List Value) (hx : a.eval x = .agg xs.toArray)
    (h : ∀ b W, Hid (M N w0 W (⟨b, T, xs⟩ :: L)) → NewAt w W b T xs → wpList P ops Q rest (a.put o.dst (.pointer (some ⟨b, 0, none⟩))) W) : wpList P ops Q (o :: rest) a w :=
  wpL_box T hgd x ho xs hx fun b W n => h b W (hidp (H.out.new n)) n
theorem box1 (T : TypeId) (H : Hid (M N w0 w L)) (hgd : o.guard = none) (x : Operand) (ho : o.op = .box T x) (v : Value) (hx : a.eval x = v) (h1 : v.cells = #[v])
    (h : ∀ b W, Hid (M N w0 W (⟨b, T, [v]⟩ :: L)) → NewAt w W b T [v] → wpList P ops Q rest (a.put o.dst (.pointer (some ⟨b, 0, none⟩))) W) : wpList P ops Q (o :: rest) a w :=
  wpL_box1 T hgd x ho v hx h1 fun b W n => h b W (hidp (H.out.new n)) n
theorem skipd (d : Nat) (hd : o.dst = some d) (i : Nat) (b : Bool) (hg : o.guard = some (i, b)) (hy : yielded ops a.tmps i = some (!b)) (h : wpList P ops Q rest (a.put o.dst undef) w) : wpList P ops Q (o :: rest) a w := wpL_skip i b hg hy h
theorem ldc {ty : Nat} (hn : NA P ty) (hw : Region.wanted o (yielded ops a.tmps) = true) (x : Operand) (p : Addr) (v : Value) (ho : o.op = .load ty x) (hx : a.eval x = .pointer (some p)) (hc : w.cell? p = some v)
    (h : wpList P ops Q rest (a.put o.dst v) w) : wpList P ops Q (o :: rest) a w := by
  refine wpList_step fun K hK => ?_
  rw [if_pos hw]
  have := hK _ _ h
  unfold Oper.wp execOp
  simp only [ho, hx, Instr.loadAt, Instr.sureAddr, Sem.run_bind, Sem.run_pure, Result.andThen_ok, run_loadVar_one hn w p v hc]
  exact this
end
section
variable {P : Program} {T k : Nat} {z : List Value} {ops : Array Oper} {o : Oper} {a : Act} {Q : Exit → Act → World → Prop} {S : World → Prop} {j : Nat} {s : Scr}
theorem s_ldc {ty : Nat} (hn : NA P ty) (ho : ops[j]? = some o) (hw : Region.wanted o (yielded ops a.tmps) = true) (x : Operand) (p : Addr) (v : Value) (hop : o.op = .load ty x) (hx : a.eval x = .pointer (some p)) (hc : ∀ w, S w → w.cell? p = some v)
    (h : wpScr P ops Q s S (a.put o.dst v) w) : wpScr P ops Q (.take j s) S a w :=
  s_val ho hw (fun w hS => by
    unfold execOp
    simp only [hop, hx, Instr.loadAt, Instr.sureAddr, Sem.run_bind, Sem.run_pure, Result.andThen_ok, run_loadVar_one hn w p v (hc w hS)]) h
variable {Lc : List Bx} {K : Act → World → Prop}
/-- A region that draws its order, by a script, over a bag. -/
theorem region {id : Nat} (H : Hid (M N w0 w L)) (s : Scr) (hm : P.follows .mixedOrders = true) (hs : Region.noSelect ops = true) (hd : s.depth ≤ ops.size) (hc : s.chk .any ops (Array.replicate ops.size false) = true)
    (h : ∀ U, Hid (M N w0 U L) → Below w.heap.size w U → wpScr P ops (NoPanic Q) s (fun W => M N w0 W L) a U) : (Code.region id ops true).wp P Q a w :=
  wp_region_noPanic (wp_region_scr (S := fun W => M N w0 W L) s hm hs (fun _ _ _ _ _ h => h) hd hc H.out.drew (h _ (hidp H.out.drew) (Below.refl _ _).drew))
theorem o_callH {v : Value} (H : Hid (M N w0 w Lc)) (hT : ∀ W, M N w0 W Lc → S W) (ho : ops[j]? = some o) (hw : Region.wanted o (yielded ops a.tmps) = true) (f : FuncId) (args : Array Value) (hop : (execOp a.eval o).run P w = .ok (.enter f args) w) (hc : Calls P f args w fun e w' => e = .returned v ∧ Below w.heap.size w w')
    (h : ∀ W, Hid (M N w0 W Lc) → Below w.heap.size w W → K (a.put o.dst v) W) : opW P ops Q S j K a w :=
  o_call ho hw f args hop hc fun w' hb => ⟨hT _ (H.out.call hb), h w' (hidp (H.out.call hb)) hb⟩
theorem o_callX {R : Value → World → Prop} (H : Hid (M N w0 w Lc)) (hT : ∀ W, M N w0 W Lc → S W) (ho : ops[j]? = some o) (hw : Region.wanted o (yielded ops a.tmps) = true) (f : FuncId) (args : Array Value) (hop : (execOp a.eval o).run P w = .ok (.enter f args) w) (hc : Calls P f args w fun e w' => ∃ v, e = .returned v ∧ R v w' ∧ Below w.heap.size w w')
    (h : ∀ v W, Hid (M N w0 W Lc) → R v W → Below w.heap.size w W → K (a.put o.dst v) W) : opW P ops Q S j K a w := by
  refine ⟨o, ho, hw, ?_⟩
  unfold Oper.wp
  rw [hop]
  exact hc.mono fun e w' ⟨v, he, hr, hb⟩ => by subst he; exact ⟨hT _ (H.out.call hb), h v w' (hidp (H.out.call hb)) hr hb⟩
theorem o_newH (R : RT P T k z) (H : Hid (M N w0 w Lc)) (hT : ∀ W, M N w0 W Lc → S W) (ho : ops[j]? = some o) (hw : Region.wanted o (yielded ops a.tmps) = true) (hop : o.op = .alloc T)
    (h : ∀ b W, Hid (M N w0 W (⟨b, T, z⟩ :: Lc)) → NewAt w W b T z → K (a.put o.dst (.pointer (some ⟨b, 0, none⟩))) W) : opW P ops Q S j K a w :=
  o_new R ho hw hop fun b W n => ⟨hT _ (H.out.new n).tail, h b W (hidp (H.out.new n)) n⟩
end
/-- What a function returns: a row; a row and a value; a row and a cell. -/
theorem ret_row {P : Program} {T k : Nat} {z : List Value} (R : RT P T k z) {fn : Func} {p : Tmp} (hr : fn.results = #[.cell p T]) (tmps : Array Value) (b : Nat) (xs : List Value) (hp : tmps.getD p undef = .pointer (some ⟨b, 0, none⟩)) (ha : Arr w b T xs) (hl : xs.length = k) : (results fn tmps).run P w = .ok (.agg xs.toArray) w := by
  rcases R.ut with ⟨fs, hu⟩ | ⟨n, e, hu⟩
  · exact results_cell_row hr tmps w b T xs.toArray (0, 0) _ hp ha hu rfl (R.size hl)
  · exact results_cell_row hr tmps w b T xs.toArray (0, 0) _ hp ha hu rfl (R.size hl)
theorem ret_rowv {P : Program} {T k : Nat} {z : List Value} (R : RT P T k z) {fn : Func} {p u : Tmp} (hr : fn.results = #[.cell p T, .tmp u]) (tmps : Array Value) (b : Nat) (xs : List Value) (v : Value) (hp : tmps.getD p undef = .pointer (some ⟨b, 0, none⟩)) (hv : tmps.getD u undef = v) (ha : Arr w b T xs) (hl : xs.length = k) : (results fn tmps).run P w = .ok (.tuple #[.agg xs.toArray, v]) w := by
  rcases R.ut with ⟨fs, hu⟩ | ⟨n, e, hu⟩
  · exact results_row_tmp hr tmps w b T xs.toArray (0, 0) _ hp ha hu rfl (R.size hl) v hv
  · exact results_row_tmp hr tmps w b T xs.toArray (0, 0) _ hp ha hu rfl (R.size hl) v hv
theorem ret_rowc {P : Program} {T k : Nat} {z : List Value} (R : RT P T k z) {ty : Nat} (hn : NA P ty) {fn : Func} {p q : Tmp} (hr : fn.results = #[.cell p T, .cell q ty]) (tmps : Array Value) (b c : Nat) (xs : List Value) (v : Value) (hp : tmps.getD p undef = .pointer (some ⟨b, 0, none⟩)) (hq : tmps.getD q undef = .pointer (some ⟨c, 0, none⟩)) (ha : Arr w b T xs) (hl : xs.length = k) (hc : w.cell? ⟨c, 0, none⟩ = some v) : (results fn tmps).run P w = .ok (.tuple #[.agg xs.toArray, v]) w := by
  have hp' : tmps[p]?.getD undef = .pointer (some ⟨b, 0, none⟩) := by simpa using hp
  have hq' : tmps[q]?.getD undef = .pointer (some ⟨c, 0, none⟩) := by simpa using hq
  have e1 := run_loadVar_one (P := P) hn w _ v hc
  rcases R.ut with ⟨fs, hu⟩ | ⟨n, e, hu⟩
  · have e2 := run_loadVar_row (P := P) w b T T xs.toArray (0, 0) _ ha hu rfl (R.size hl)
    simp [results, hr, hp', hq', asAddr, e1, e2]
  · have e2 := run_loadVar_row (P := P) w b T T xs.toArray (0, 0) _ ha hu rfl (R.size hl)
    simp [results, hr, hp', hq', asAddr, e1, e2]
theorem M.at0 {b t : Nat} {r : List Value} (h : M N w0 w (⟨b, t, r⟩ :: L)) : Arr w b t r := h.has ⟨b, t, r⟩ (by simp)
theorem M.put0 {b t : Nat} {xs ys : List Value} (h : M N w0 w (⟨b, t, ys⟩ :: L)) (ha : Arr W b t xs) (st : Stp b w W) : M N w0 W (⟨b, t, xs⟩ :: L) := h.put 0 b t xs ys rfl ha st
section
variable {P : Program} {T k : Nat} {z : List Value} {ops : Array Oper} {rest : List Oper} {o : Oper} {a : Act} {Q : Exit → Act → World → Prop} 
theorem get0 {b : Nat} {xs : List Value} (R : RT P T k z) (H : Hid (M N w0 w (⟨b, T, xs⟩ :: L))) (hw : Region.wanted o (yielded ops a.tmps) = true) (x : Operand) (ho : o.op = .load T x) (hx : a.eval x = .pointer (some ⟨b, 0, none⟩)) (hl : xs.length = k)
    (h : wpList P ops Q rest (a.put o.dst (.agg xs.toArray)) w) : wpList P ops Q (o :: rest) a w := wpL_get R hw x ho b xs hx hl H.out.at0 h
theorem put0 {b : Nat} {ys : List Value} (R : RT P T k z) (H : Hid (M N w0 w (⟨b, T, ys⟩ :: L))) (hgd : o.guard = none) (x y : Operand) (xs : List Value) (ho : o.op = .store T x y) (hx : a.eval x = .pointer (some ⟨b, 0, none⟩)) (hy : a.eval y = .agg xs.toArray) (hl : xs.length = k)
    (h1 : ∀ v ∈ xs, v.oneCell' = true) (hl2 : ys.length = k)
    (h : ∀ W, Hid (M N w0 W (⟨b, T, xs⟩ :: L)) → Stp b w W → wpList P ops Q rest (a.put o.dst undef) W) : wpList P ops Q (o :: rest) a w :=
  wpL_put R hgd x y ho b xs hx hy hl h1 ys hl2 H.out.at0 fun W ha st => h W (hidp (H.out.put0 ha st)) st
theorem putF0 {b t : Nat} {ys : List Value} (H : Hid (M N w0 w (⟨b, t, ys⟩ :: L))) (hgd : o.guard = none) (ty : TypeId) (x y : Operand) (f : Nat) (v : Value) (ho : o.op = .store ty x y) (hx : a.eval x = .pointer (some ⟨b, f, none⟩)) (hy : a.eval y = v) (hs : (P.info? ty).map (·.size) = some 1) (h1 : v.oneCell' = true) (hf : f < ys.length)
    (h : ∀ W, Hid (M N w0 W (⟨b, t, ys.set f v⟩ :: L)) → Stp b w W → wpList P ops Q rest (a.put o.dst undef) W) : wpList P ops Q (o :: rest) a w :=
  wpL_putF hgd ty x y ho b f v hx hy hs h1 ys H.out.at0 hf fun W ha st => h W (hidp (H.out.put0 ha st)) st
theorem ld0 {ty b t : Nat} {xs : List Value} (hn : NA P ty) (H : Hid (M N w0 w (⟨b, t, xs⟩ :: L))) (hw : Region.wanted o (yielded ops a.tmps) = true) (x : Operand) (f : Nat) (v : Value) (ho : o.op = .load ty x) (hx : a.eval x = .pointer (some ⟨b, f, none⟩)) (hf : xs[f]? = some v)
    (h : wpList P ops Q rest (a.put o.dst v) w) : wpList P ops Q (o :: rest) a w := ldc hn hw x _ _ ho hx (by obtain ⟨h1, rfl⟩ := List.getElem?_eq_some_iff.1 hf; exact H.out.at0.cell f h1) h
end
section
variable {P : Program} {T k : Nat} {z : List Value} {ops : Array Oper} {o : Oper} {a : Act} {Q : Exit → Act → World → Prop} {S : World → Prop} {j : Nat} {s : Scr} {K : Act → World → Prop} 
theorem sld0 {ty b t : Nat} {xs : List Value} (hn : NA P ty) (hS : ∀ w, S w → M N w0 w (⟨b, t, xs⟩ :: L)) (ho : ops[j]? = some o) (hw : Region.wanted o (yielded ops a.tmps) = true) (x : Operand) (f : Nat) (v : Value) (hop : o.op = .load ty x) (hx : a.eval x = .pointer (some ⟨b, f, none⟩)) (hf : xs[f]? = some v)
    (h : wpScr P ops Q s S (a.put o.dst v) w) : wpScr P ops Q (.take j s) S a w := s_ldc hn ho hw x _ _ hop hx (fun w hs => by obtain ⟨h1, rfl⟩ := List.getElem?_eq_some_iff.1 hf; exact (hS w hs).at0.cell f h1) h
theorem sget0 {b : Nat} {xs : List Value} (R : RT P T k z) (hS : ∀ w, S w → M N w0 w (⟨b, T, xs⟩ :: L)) (ho : ops[j]? = some o) (hw : Region.wanted o (yielded ops a.tmps) = true) (x : Operand) (hop : o.op = .load T x) (hx : a.eval x = .pointer (some ⟨b, 0, none⟩)) (hl : xs.length = k)
    (h : wpScr P ops Q s S (a.put o.dst (.agg xs.toArray)) w) : wpScr P ops Q (.take j s) S a w := s_get R ho hw x hop b xs hx hl (fun w hs => (hS w hs).at0) h
theorem oput0 {b : Nat} {ys : List Value} (R : RT P T k z) (H : Hid (M N w0 w (⟨b, T, ys⟩ :: L))) (xs : List Value) (hT : ∀ W, M N w0 W (⟨b, T, xs⟩ :: L) → S W) (ho : ops[j]? = some o) (hw : Region.wanted o (yielded ops a.tmps) = true) (x y : Operand) (hop : o.op = .store T x y) (hx : a.eval x = .pointer (some ⟨b, 0, none⟩)) (hy : a.eval y = .agg xs.toArray) (hl : xs.length = k)
    (h1 : ∀ v ∈ xs, v.oneCell' = true) (hl2 : ys.length = k)
    (h : ∀ W, Hid (M N w0 W (⟨b, T, xs⟩ :: L)) → Stp b w W → K (a.put o.dst undef) W) : opW P ops Q S j K a w :=
  o_put R ho hw x y hop b xs hx hy hl h1 ys hl2 H.out.at0 fun W ha st => ⟨hT _ (H.out.put0 ha st), h W (hidp (H.out.put0 ha st)) st⟩
end
theorem M.at1 {x0 : Bx} {b t : Nat} {r : List Value} (h : M N w0 w (x0 :: ⟨b, t, r⟩ :: L)) : Arr w b t r := h.has ⟨b, t, r⟩ (by simp)
theorem M.put1 {x0 : Bx} {b t : Nat} {xs ys : List Value} (h : M N w0 w (x0 :: ⟨b, t, ys⟩ :: L)) (ha : Arr W b t xs) (st : Stp b w W) : M N w0 W (x0 :: ⟨b, t, xs⟩ :: L) := h.put 1 b t xs ys rfl ha st
section
variable {P : Program} {T k : Nat} {z : List Value} {ops : Array Oper} {rest : List Oper} {o : Oper} {a : Act} {Q : Exit → Act → World → Prop} {x0 : Bx} 
theorem get1 {b : Nat} {xs : List Value} (R : RT P T k z) (H : Hid (M N w0 w (x0 :: ⟨b, T, xs⟩ :: L))) (hw : Region.wanted o (yielded ops a.tmps) = true) (x : Operand) (ho : o.op = .load T x) (hx : a.eval x = .pointer (some ⟨b, 0, none⟩)) (hl : xs.length = k)
    (h : wpList P ops Q rest (a.put o.dst (.agg xs.toArray)) w) : wpList P ops Q (o :: rest) a w := wpL_get R hw x ho b xs hx hl H.out.at1 h
theorem put1 {b : Nat} {ys : List Value} (R : RT P T k z) (H : Hid (M N w0 w (x0 :: ⟨b, T, ys⟩ :: L))) (hgd : o.guard = none) (x y : Operand) (xs : List Value) (ho : o.op = .store T x y) (hx : a.eval x = .pointer (some ⟨b, 0, none⟩)) (hy : a.eval y = .agg xs.toArray) (hl : xs.length = k)
    (h1 : ∀ v ∈ xs, v.oneCell' = true) (hl2 : ys.length = k)
    (h : ∀ W, Hid (M N w0 W (x0 :: ⟨b, T, xs⟩ :: L)) → Stp b w W → wpList P ops Q rest (a.put o.dst undef) W) : wpList P ops Q (o :: rest) a w :=
  wpL_put R hgd x y ho b xs hx hy hl h1 ys hl2 H.out.at1 fun W ha st => h W (hidp (H.out.put1 ha st)) st
theorem putF1 {b t : Nat} {ys : List Value} (H : Hid (M N w0 w (x0 :: ⟨b, t, ys⟩ :: L))) (hgd : o.guard = none) (ty : TypeId) (x y : Operand) (f : Nat) (v : Value) (ho : o.op = .store ty x y) (hx : a.eval x = .pointer (some ⟨b, f, none⟩)) (hy : a.eval y = v) (hs : (P.info? ty).map (·.size) = some 1) (h1 : v.oneCell' = true) (hf : f < ys.length)
    (h : ∀ W, Hid (M N w0 W (x0 :: ⟨b, t, ys.set f v⟩ :: L)) → Stp b w W → wpList P ops Q rest (a.put o.dst undef) W) : wpList P ops Q (o :: rest) a w :=
  wpL_putF hgd ty x y ho b f v hx hy hs h1 ys H.out.at1 hf fun W ha st => h W (hidp (H.out.put1 ha st)) st
theorem ld1 {ty b t : Nat} {xs : List Value} (hn : NA P ty) (H : Hid (M N w0 w (x0 :: ⟨b, t, xs⟩ :: L))) (hw : Region.wanted o (yielded ops a.tmps) = true) (x : Operand) (f : Nat) (v : Value) (ho : o.op = .load ty x) (hx : a.eval x = .pointer (some ⟨b, f, none⟩)) (hf : xs[f]? = some v)
    (h : wpList P ops Q rest (a.put o.dst v) w) : wpList P ops Q (o :: rest) a w := ldc hn hw x _ _ ho hx (by obtain ⟨h1, rfl⟩ := List.getElem?_eq_some_iff.1 hf; exact H.out.at1.cell f h1) h
end
section
variable {P : Program} {T k : Nat} {z : List Value} {ops : Array Oper} {o : Oper} {a : Act} {Q : Exit → Act → World → Prop} {S : World → Prop} {j : Nat} {s : Scr} {K : Act → World → Prop} {x0 : Bx} 
theorem sld1 {ty b t : Nat} {xs : List Value} (hn : NA P ty) (hS : ∀ w, S w → M N w0 w (x0 :: ⟨b, t, xs⟩ :: L)) (ho : ops[j]? = some o) (hw : Region.wanted o (yielded ops a.tmps) = true) (x : Operand) (f : Nat) (v : Value) (hop : o.op = .load ty x) (hx : a.eval x = .pointer (some ⟨b, f, none⟩)) (hf : xs[f]? = some v)
    (h : wpScr P ops Q s S (a.put o.dst v) w) : wpScr P ops Q (.take j s) S a w := s_ldc hn ho hw x _ _ hop hx (fun w hs => by obtain ⟨h1, rfl⟩ := List.getElem?_eq_some_iff.1 hf; exact (hS w hs).at1.cell f h1) h
theorem sget1 {b : Nat} {xs : List Value} (R : RT P T k z) (hS : ∀ w, S w → M N w0 w (x0 :: ⟨b, T, xs⟩ :: L)) (ho : ops[j]? = some o) (hw : Region.wanted o (yielded ops a.tmps) = true) (x : Operand) (hop : o.op = .load T x) (hx : a.eval x = .pointer (some ⟨b, 0, none⟩)) (hl : xs.length = k)
    (h : wpScr P ops Q s S (a.put o.dst (.agg xs.toArray)) w) : wpScr P ops Q (.take j s) S a w := s_get R ho hw x hop b xs hx hl (fun w hs => (hS w hs).at1) h
theorem oput1 {b : Nat} {ys : List Value} (R : RT P T k z) (H : Hid (M N w0 w (x0 :: ⟨b, T, ys⟩ :: L))) (xs : List Value) (hT : ∀ W, M N w0 W (x0 :: ⟨b, T, xs⟩ :: L) → S W) (ho : ops[j]? = some o) (hw : Region.wanted o (yielded ops a.tmps) = true) (x y : Operand) (hop : o.op = .store T x y) (hx : a.eval x = .pointer (some ⟨b, 0, none⟩)) (hy : a.eval y = .agg xs.toArray) (hl : xs.length = k)
    (h1 : ∀ v ∈ xs, v.oneCell' = true) (hl2 : ys.length = k)
    (h : ∀ W, Hid (M N w0 W (x0 :: ⟨b, T, xs⟩ :: L)) → Stp b w W → K (a.put o.dst undef) W) : opW P ops Q S j K a w :=
  o_put R ho hw x y hop b xs hx hy hl h1 ys hl2 H.out.at1 fun W ha st => ⟨hT _ (H.out.put1 ha st), h W (hidp (H.out.put1 ha st)) st⟩
end
theorem M.at2 {x0 x1 : Bx} {b t : Nat} {r : List Value} (h : M N w0 w (x0 :: x1 :: ⟨b, t, r⟩ :: L)) : Arr w b t r := h.has ⟨b, t, r⟩ (by simp)
theorem M.put2 {x0 x1 : Bx} {b t : Nat} {xs ys : List Value} (h : M N w0 w (x0 :: x1 :: ⟨b, t, ys⟩ :: L)) (ha : Arr W b t xs) (st : Stp b w W) : M N w0 W (x0 :: x1 :: ⟨b, t, xs⟩ :: L) := h.put 2 b t xs ys rfl ha st
section
variable {P : Program} {T k : Nat} {z : List Value} {ops : Array Oper} {rest : List Oper} {o : Oper} {a : Act} {Q : Exit → Act → World → Prop} {x0 x1 : Bx} 
theorem get2 {b : Nat} {xs : List Value} (R : RT P T k z) (H : Hid (M N w0 w (x0 :: x1 :: ⟨b, T, xs⟩ :: L))) (hw : Region.wanted o (yielded ops a.tmps) = true) (x : Operand) (ho : o.op = .load T x) (hx : a.eval x = .pointer (some ⟨b, 0, none⟩)) (hl : xs.length = k)
    (h : wpList P ops Q rest (a.put o.dst (.agg xs.toArray)) w) : wpList P ops Q (o :: rest) a w := wpL_get R hw x ho b xs hx hl H.out.at2 h
theorem put2 {b : Nat} {ys : List Value} (R : RT P T k z) (H : Hid (M N w0 w (x0 :: x1 :: ⟨b, T, ys⟩ :: L))) (hgd : o.guard = none) (x y : Operand) (xs : List Value) (ho : o.op = .store T x y) (hx : a.eval x = .pointer (some ⟨b, 0, none⟩)) (hy : a.eval y = .agg xs.toArray) (hl : xs.length = k)
    (h1 : ∀ v ∈ xs, v.oneCell' = true) (hl2 : ys.length = k)
    (h : ∀ W, Hid (M N w0 W (x0 :: x1 :: ⟨b, T, xs⟩ :: L)) → Stp b w W → wpList P ops Q rest (a.put o.dst undef) W) : wpList P ops Q (o :: rest) a w :=
  wpL_put R hgd x y ho b xs hx hy hl h1 ys hl2 H.out.at2 fun W ha st => h W (hidp (H.out.put2 ha st)) st
theorem putF2 {b t : Nat} {ys : List Value} (H : Hid (M N w0 w (x0 :: x1 :: ⟨b, t, ys⟩ :: L))) (hgd : o.guard = none) (ty : TypeId) (x y : Operand) (f : Nat) (v : Value) (ho : o.op = .store ty x y) (hx : a.eval x = .pointer (some ⟨b, f, none⟩)) (hy : a.eval y = v) (hs : (P.info? ty).map (·.size) = some 1) (h1 : v.oneCell' = true) (hf : f < ys.length)
    (h : ∀ W, Hid (M N w0 W (x0 :: x1 :: ⟨b, t, ys.set f v⟩ :: L)) → Stp b w W → wpList P ops Q rest (a.put o.dst undef) W) : wpList P ops Q (o :: rest) a w :=
  wpL_putF hgd ty x y ho b f v hx hy hs h1 ys H.out.at2 hf fun W ha st => h W (hidp (H.out.put2 ha st)) st
theorem ld2 {ty b t : Nat} {xs : List Value} (hn : NA P ty) (H : Hid (M N w0 w (x0 :: x1 :: ⟨b, t, xs⟩ :: L))) (hw : Region.wanted o (yielded ops a.tmps) = true) (x : Operand) (f : Nat) (v : Value) (ho : o.op = .load ty x) (hx : a.eval x = .pointer (some ⟨b, f, none⟩)) (hf : xs[f]? = some v)
    (h : wpList P ops Q rest (a.put o.dst v) w) : wpList P ops Q (o :: rest) a w := ldc hn hw x _ _ ho hx (by obtain ⟨h1, rfl⟩ := List.getElem?_eq_some_iff.1 hf; exact H.out.at2.cell f h1) h
end
section
variable {P : Program} {T k : Nat} {z : List Value} {ops : Array Oper} {o : Oper} {a : Act} {Q : Exit → Act → World → Prop} {S : World → Prop} {j : Nat} {s : Scr} {K : Act → World → Prop} {x0 x1 : Bx} 
theorem sld2 {ty b t : Nat} {xs : List Value} (hn : NA P ty) (hS : ∀ w, S w → M N w0 w (x0 :: x1 :: ⟨b, t, xs⟩ :: L)) (ho : ops[j]? = some o) (hw : Region.wanted o (yielded ops a.tmps) = true) (x : Operand) (f : Nat) (v : Value) (hop : o.op = .load ty x) (hx : a.eval x = .pointer (some ⟨b, f, none⟩)) (hf : xs[f]? = some v)
    (h : wpScr P ops Q s S (a.put o.dst v) w) : wpScr P ops Q (.take j s) S a w := s_ldc hn ho hw x _ _ hop hx (fun w hs => by obtain ⟨h1, rfl⟩ := List.getElem?_eq_some_iff.1 hf; exact (hS w hs).at2.cell f h1) h
theorem sget2 {b : Nat} {xs : List Value} (R : RT P T k z) (hS : ∀ w, S w → M N w0 w (x0 :: x1 :: ⟨b, T, xs⟩ :: L)) (ho : ops[j]? = some o) (hw : Region.wanted o (yielded ops a.tmps) = true) (x : Operand) (hop : o.op = .load T x) (hx : a.eval x = .pointer (some ⟨b, 0, none⟩)) (hl : xs.length = k)
    (h : wpScr P ops Q s S (a.put o.dst (.agg xs.toArray)) w) : wpScr P ops Q (.take j s) S a w := s_get R ho hw x hop b xs hx hl (fun w hs => (hS w hs).at2) h
theorem oput2 {b : Nat} {ys : List Value} (R : RT P T k z) (H : Hid (M N w0 w (x0 :: x1 :: ⟨b, T, ys⟩ :: L))) (xs : List Value) (hT : ∀ W, M N w0 W (x0 :: x1 :: ⟨b, T, xs⟩ :: L) → S W) (ho : ops[j]? = some o) (hw : Region.wanted o (yielded ops a.tmps) = true) (x y : Operand) (hop : o.op = .store T x y) (hx : a.eval x = .pointer (some ⟨b, 0, none⟩)) (hy : a.eval y = .agg xs.toArray) (hl : xs.length = k)
    (h1 : ∀ v ∈ xs, v.oneCell' = true) (hl2 : ys.length = k)
    (h : ∀ W, Hid (M N w0 W (x0 :: x1 :: ⟨b, T, xs⟩ :: L)) → Stp b w W → K (a.put o.dst undef) W) : opW P ops Q S j K a w :=
  o_put R ho hw x y hop b xs hx hy hl h1 ys hl2 H.out.at2 fun W ha st => ⟨hT _ (H.out.put2 ha st), h W (hidp (H.out.put2 ha st)) st⟩
end
theorem M.at3 {x0 x1 x2 : Bx} {b t : Nat} {r : List Value} (h : M N w0 w (x0 :: x1 :: x2 :: ⟨b, t, r⟩ :: L)) : Arr w b t r := h.has ⟨b, t, r⟩ (by simp)
theorem M.put3 {x0 x1 x2 : Bx} {b t : Nat} {xs ys : List Value} (h : M N w0 w (x0 :: x1 :: x2 :: ⟨b, t, ys⟩ :: L)) (ha : Arr W b t xs) (st : Stp b w W) : M N w0 W (x0 :: x1 :: x2 :: ⟨b, t, xs⟩ :: L) := h.put 3 b t xs ys rfl ha st
section
variable {P : Program} {T k : Nat} {z : List Value} {ops : Array Oper} {rest : List Oper} {o : Oper} {a : Act} {Q : Exit → Act → World → Prop} {x0 x1 x2 : Bx} 
theorem get3 {b : Nat} {xs : List Value} (R : RT P T k z) (H : Hid (M N w0 w (x0 :: x1 :: x2 :: ⟨b, T, xs⟩ :: L))) (hw : Region.wanted o (yielded ops a.tmps) = true) (x : Operand) (ho : o.op = .load T x) (hx : a.eval x = .pointer (some ⟨b, 0, none⟩)) (hl : xs.length = k)
    (h : wpList P ops Q rest (a.put o.dst (.agg xs.toArray)) w) : wpList P ops Q (o :: rest) a w := wpL_get R hw x ho b xs hx hl H.out.at3 h
theorem put3 {b : Nat} {ys : List Value} (R : RT P T k z) (H : Hid (M N w0 w (x0 :: x1 :: x2 :: ⟨b, T, ys⟩ :: L))) (hgd : o.guard = none) (x y : Operand) (xs : List Value) (ho : o.op = .store T x y) (hx : a.eval x = .pointer (some ⟨b, 0, none⟩)) (hy : a.eval y = .agg xs.toArray) (hl : xs.length = k)
    (h1 : ∀ v ∈ xs, v.oneCell' = true) (hl2 : ys.length = k)
    (h : ∀ W, Hid (M N w0 W (x0 :: x1 :: x2 :: ⟨b, T, xs⟩ :: L)) → Stp b w W → wpList P ops Q rest (a.put o.dst undef) W) : wpList P ops Q (o :: rest) a w :=
  wpL_put R hgd x y ho b xs hx hy hl h1 ys hl2 H.out.at3 fun W ha st => h W (hidp (H.out.put3 ha st)) st
theorem putF3 {b t : Nat} {ys : List Value} (H : Hid (M N w0 w (x0 :: x1 :: x2 :: ⟨b, t, ys⟩ :: L))) (hgd : o.guard = none) (ty : TypeId) (x y : Operand) (f : Nat) (v : Value) (ho : o.op = .store ty x y) (hx : a.eval x = .pointer (some ⟨b, f, none⟩)) (hy : a.eval y = v) (hs : (P.info? ty).map (·.size) = some 1) (h1 : v.oneCell' = true) (hf : f < ys.length)
    (h : ∀ W, Hid (M N w0 W (x0 :: x1 :: x2 :: ⟨b, t, ys.set f v⟩ :: L)) → Stp b w W → wpList P ops Q rest (a.put o.dst undef) W) : wpList P ops Q (o :: rest) a w :=
  wpL_putF hgd ty x y ho b f v hx hy hs h1 ys H.out.at3 hf fun W ha st => h W (hidp (H.out.put3 ha st)) st
theorem ld3 {ty b t : Nat} {xs : List Value} (hn : NA P ty) (H : Hid (M N w0 w (x0 :: x1 :: x2 :: ⟨b, t, xs⟩ :: L))) (hw : Region.wanted o (yielded ops a.tmps) = true) (x : Operand) (f : Nat) (v : Value) (ho : o.op = .load ty x) (hx : a.eval x = .pointer (some ⟨b, f, none⟩)) (hf : xs[f]? = some v)
    (h : wpList P ops Q rest (a.put o.dst v) w) : wpList P ops Q (o :: rest) a w := ldc hn hw x _ _ ho hx (by obtain ⟨h1, rfl⟩ := List.getElem?_eq_some_iff.1 hf; exact H.out.at3.cell f h1) h
end
section
variable {P : Program} {T k : Nat} {z : List Value} {ops : Array Oper} {o : Oper} {a : Act} {Q : Exit → Act → World → Prop} {S : World → Prop} {j : Nat} {s : Scr} {K : Act → World → Prop} {x0 x1 x2 : Bx} 
theorem sld3 {ty b t : Nat} {xs : List Value} (hn : NA P ty) (hS : ∀ w, S w → M N w0 w (x0 :: x1 :: x2 :: ⟨b, t, xs⟩ :: L)) (ho : ops[j]? = some o) (hw : Region.wanted o (yielded ops a.tmps) = true) (x : Operand) (f : Nat) (v : Value) (hop : o.op = .load ty x) (hx : a.eval x = .pointer (some ⟨b, f, none⟩)) (hf : xs[f]? = some v)
    (h : wpScr P ops Q s S (a.put o.dst v) w) : wpScr P ops Q (.take j s) S a w := s_ldc hn ho hw x _ _ hop hx (fun w hs => by obtain ⟨h1, rfl⟩ := List.getElem?_eq_some_iff.1 hf; exact (hS w hs).at3.cell f h1) h
theorem sget3 {b : Nat} {xs : List Value} (R : RT P T k z) (hS : ∀ w, S w → M N w0 w (x0 :: x1 :: x2 :: ⟨b, T, xs⟩ :: L)) (ho : ops[j]? = some o) (hw : Region.wanted o (yielded ops a.tmps) = true) (x : Operand) (hop : o.op = .load T x) (hx : a.eval x = .pointer (some ⟨b, 0, none⟩)) (hl : xs.length = k)
    (h : wpScr P ops Q s S (a.put o.dst (.agg xs.toArray)) w) : wpScr P ops Q (.take j s) S a w := s_get R ho hw x hop b xs hx hl (fun w hs => (hS w hs).at3) h
theorem oput3 {b : Nat} {ys : List Value} (R : RT P T k z) (H : Hid (M N w0 w (x0 :: x1 :: x2 :: ⟨b, T, ys⟩ :: L))) (xs : List Value) (hT : ∀ W, M N w0 W (x0 :: x1 :: x2 :: ⟨b, T, xs⟩ :: L) → S W) (ho : ops[j]? = some o) (hw : Region.wanted o (yielded ops a.tmps) = true) (x y : Operand) (hop : o.op = .store T x y) (hx : a.eval x = .pointer (some ⟨b, 0, none⟩)) (hy : a.eval y = .agg xs.toArray) (hl : xs.length = k)
    (h1 : ∀ v ∈ xs, v.oneCell' = true) (hl2 : ys.length = k)
    (h : ∀ W, Hid (M N w0 W (x0 :: x1 :: x2 :: ⟨b, T, xs⟩ :: L)) → Stp b w W → K (a.put o.dst undef) W) : opW P ops Q S j K a w :=
  o_put R ho hw x y hop b xs hx hy hl h1 ys hl2 H.out.at3 fun W ha st => ⟨hT _ (H.out.put3 ha st), h W (hidp (H.out.put3 ha st)) st⟩
end
theorem M.at4 {x0 x1 x2 x3 : Bx} {b t : Nat} {r : List Value} (h : M N w0 w (x0 :: x1 :: x2 :: x3 :: ⟨b, t, r⟩ :: L)) : Arr w b t r := h.has ⟨b, t, r⟩ (by simp)
theorem M.put4 {x0 x1 x2 x3 : Bx} {b t : Nat} {xs ys : List Value} (h : M N w0 w (x0 :: x1 :: x2 :: x3 :: ⟨b, t, ys⟩ :: L)) (ha : Arr W b t xs) (st : Stp b w W) : M N w0 W (x0 :: x1 :: x2 :: x3 :: ⟨b, t, xs⟩ :: L) := h.put 4 b t xs ys rfl ha st
section
variable {P : Program} {T k : Nat} {z : List Value} {ops : Array Oper} {rest : List Oper} {o : Oper} {a : Act} {Q : Exit → Act → World → Prop} {x0 x1 x2 x3 : Bx} 
theorem get4 {b : Nat} {xs : List Value} (R : RT P T k z) (H : Hid (M N w0 w (x0 :: x1 :: x2 :: x3 :: ⟨b, T, xs⟩ :: L))) (hw : Region.wanted o (yielded ops a.tmps) = true) (x : Operand) (ho : o.op = .load T x) (hx : a.eval x = .pointer (some ⟨b, 0, none⟩)) (hl : xs.length = k)
    (h : wpList P ops Q rest (a.put o.dst (.agg xs.toArray)) w) : wpList P ops Q (o :: rest) a w := wpL_get R hw x ho b xs hx hl H.out.at4 h
theorem put4 {b : Nat} {ys : List Value} (R : RT P T k z) (H : Hid (M N w0 w (x0 :: x1 :: x2 :: x3 :: ⟨b, T, ys⟩ :: L))) (hgd : o.guard = none) (x y : Operand) (xs : List Value) (ho : o.op = .store T x y) (hx : a.eval x = .pointer (some ⟨b, 0, none⟩)) (hy : a.eval y = .agg xs.toArray) (hl : xs.length = k)
    (h1 : ∀ v ∈ xs, v.oneCell' = true) (hl2 : ys.length = k)
    (h : ∀ W, Hid (M N w0 W (x0 :: x1 :: x2 :: x3 :: ⟨b, T, xs⟩ :: L)) → Stp b w W → wpList P ops Q rest (a.put o.dst undef) W) : wpList P ops Q (o :: rest) a w :=
  wpL_put R hgd x y ho b xs hx hy hl h1 ys hl2 H.out.at4 fun W ha st => h W (hidp (H.out.put4 ha st)) st
theorem putF4 {b t : Nat} {ys : List Value} (H : Hid (M N w0 w (x0 :: x1 :: x2 :: x3 :: ⟨b, t, ys⟩ :: L))) (hgd : o.guard = none) (ty : TypeId) (x y : Operand) (f : Nat) (v : Value) (ho : o.op = .store ty x y) (hx : a.eval x = .pointer (some ⟨b, f, none⟩)) (hy : a.eval y = v) (hs : (P.info? ty).map (·.size) = some 1) (h1 : v.oneCell' = true) (hf : f < ys.length)
    (h : ∀ W, Hid (M N w0 W (x0 :: x1 :: x2 :: x3 :: ⟨b, t, ys.set f v⟩ :: L)) → Stp b w W → wpList P ops Q rest (a.put o.dst undef) W) : wpList P ops Q (o :: rest) a w :=
  wpL_putF hgd ty x y ho b f v hx hy hs h1 ys H.out.at4 hf fun W ha st => h W (hidp (H.out.put4 ha st)) st
theorem ld4 {ty b t : Nat} {xs : List Value} (hn : NA P ty) (H : Hid (M N w0 w (x0 :: x1 :: x2 :: x3 :: ⟨b, t, xs⟩ :: L))) (hw : Region.wanted o (yielded ops a.tmps) = true) (x : Operand) (f : Nat) (v : Value) (ho : o.op = .load ty x) (hx : a.eval x = .pointer (some ⟨b, f, none⟩)) (hf : xs[f]? = some v)
    (h : wpList P ops Q rest (a.put o.dst v) w) : wpList P ops Q (o :: rest) a w := ldc hn hw x _ _ ho hx (by obtain ⟨h1, rfl⟩ := List.getElem?_eq_some_iff.1 hf; exact H.out.at4.cell f h1) h
end
section
variable {P : Program} {T k : Nat} {z : List Value} {ops : Array Oper} {o : Oper} {a : Act} {Q : Exit → Act → World → Prop} {S : World → Prop} {j : Nat} {s : Scr} {K : Act → World → Prop} {x0 x1 x2 x3 : Bx} 
theorem sld4 {ty b t : Nat} {xs : List Value} (hn : NA P ty) (hS : ∀ w, S w → M N w0 w (x0 :: x1 :: x2 :: x3 :: ⟨b, t, xs⟩ :: L)) (ho : ops[j]? = some o) (hw : Region.wanted o (yielded ops a.tmps) = true) (x : Operand) (f : Nat) (v : Value) (hop : o.op = .load ty x) (hx : a.eval x = .pointer (some ⟨b, f, none⟩)) (hf : xs[f]? = some v)
    (h : wpScr P ops Q s S (a.put o.dst v) w) : wpScr P ops Q (.take j s) S a w := s_ldc hn ho hw x _ _ hop hx (fun w hs => by obtain ⟨h1, rfl⟩ := List.getElem?_eq_some_iff.1 hf; exact (hS w hs).at4.cell f h1) h
theorem sget4 {b : Nat} {xs : List Value} (R : RT P T k z) (hS : ∀ w, S w → M N w0 w (x0 :: x1 :: x2 :: x3 :: ⟨b, T, xs⟩ :: L)) (ho : ops[j]? = some o) (hw : Region.wanted o (yielded ops a.tmps) = true) (x : Operand) (hop : o.op = .load T x) (hx : a.eval x = .pointer (some ⟨b, 0, none⟩)) (hl : xs.length = k)
    (h : wpScr P ops Q s S (a.put o.dst (.agg xs.toArray)) w) : wpScr P ops Q (.take j s) S a w := s_get R ho hw x hop b xs hx hl (fun w hs => (hS w hs).at4) h
theorem oput4 {b : Nat} {ys : List Value} (R : RT P T k z) (H : Hid (M N w0 w (x0 :: x1 :: x2 :: x3 :: ⟨b, T, ys⟩ :: L))) (xs : List Value) (hT : ∀ W, M N w0 W (x0 :: x1 :: x2 :: x3 :: ⟨b, T, xs⟩ :: L) → S W) (ho : ops[j]? = some o) (hw : Region.wanted o (yielded ops a.tmps) = true) (x y : Operand) (hop : o.op = .store T x y) (hx : a.eval x = .pointer (some ⟨b, 0, none⟩)) (hy : a.eval y = .agg xs.toArray) (hl : xs.length = k)
    (h1 : ∀ v ∈ xs, v.oneCell' = true) (hl2 : ys.length = k)
    (h : ∀ W, Hid (M N w0 W (x0 :: x1 :: x2 :: x3 :: ⟨b, T, xs⟩ :: L)) → Stp b w W → K (a.put o.dst undef) W) : opW P ops Q S j K a w :=
  o_put R ho hw x y hop b xs hx hy hl h1 ys hl2 H.out.at4 fun W ha st => ⟨hT _ (H.out.put4 ha st), h W (hidp (H.out.put4 ha st)) st⟩
end
theorem M.at5 {x0 x1 x2 x3 x4 : Bx} {b t : Nat} {r : List Value} (h : M N w0 w (x0 :: x1 :: x2 :: x3 :: x4 :: ⟨b, t, r⟩ :: L)) : Arr w b t r := h.has ⟨b, t, r⟩ (by simp)
theorem M.put5 {x0 x1 x2 x3 x4 : Bx} {b t : Nat} {xs ys : List Value} (h : M N w0 w (x0 :: x1 :: x2 :: x3 :: x4 :: ⟨b, t, ys⟩ :: L)) (ha : Arr W b t xs) (st : Stp b w W) : M N w0 W (x0 :: x1 :: x2 :: x3 :: x4 :: ⟨b, t, xs⟩ :: L) := h.put 5 b t xs ys rfl ha st
section
variable {P : Program} {T k : Nat} {z : List Value} {ops : Array Oper} {rest : List Oper} {o : Oper} {a : Act} {Q : Exit → Act → World → Prop} {x0 x1 x2 x3 x4 : Bx} 
theorem get5 {b : Nat} {xs : List Value} (R : RT P T k z) (H : Hid (M N w0 w (x0 :: x1 :: x2 :: x3 :: x4 :: ⟨b, T, xs⟩ :: L))) (hw : Region.wanted o (yielded ops a.tmps) = true) (x : Operand) (ho : o.op = .load T x) (hx : a.eval x = .pointer (some ⟨b, 0, none⟩)) (hl : xs.length = k)
    (h : wpList P ops Q rest (a.put o.dst (.agg xs.toArray)) w) : wpList P ops Q (o :: rest) a w := wpL_get R hw x ho b xs hx hl H.out.at5 h
theorem put5 {b : Nat} {ys : List Value} (R : RT P T k z) (H : Hid (M N w0 w (x0 :: x1 :: x2 :: x3 :: x4 :: ⟨b, T, ys⟩ :: L))) (hgd : o.guard = none) (x y : Operand) (xs : List Value) (ho : o.op = .store T x y) (hx : a.eval x = .pointer (some ⟨b, 0, none⟩)) (hy : a.eval y = .agg xs.toArray) (hl : xs.length = k)
    (h1 : ∀ v ∈ xs, v.oneCell' = true) (hl2 : ys.length = k)
    (h : ∀ W, Hid (M N w0 W (x0 :: x1 :: x2 :: x3 :: x4 :: ⟨b, T, xs⟩ :: L)) → Stp b w W → wpList P ops Q rest (a.put o.dst undef) W) : wpList P ops Q (o :: rest) a w :=
  wpL_put R hgd x y ho b xs hx hy hl h1 ys hl2 H.out.at5 fun W ha st => h W (hidp (H.out.put5 ha st)) st
theorem putF5 {b t : Nat} {ys : List Value} (H : Hid (M N w0 w (x0 :: x1 :: x2 :: x3 :: x4 :: ⟨b, t, ys⟩ :: L))) (hgd : o.guard = none) (ty : TypeId) (x y : Operand) (f : Nat) (v : Value) (ho : o.op = .store ty x y) (hx : a.eval x = .pointer (some ⟨b, f, none⟩)) (hy : a.eval y = v) (hs : (P.info? ty).map (·.size) = some 1) (h1 : v.oneCell' = true) (hf : f < ys.length)
    (h : ∀ W, Hid (M N w0 W (x0 :: x1 :: x2 :: x3 :: x4 :: ⟨b, t, ys.set f v⟩ :: L)) → Stp b w W → wpList P ops Q rest (a.put o.dst undef) W) : wpList P ops Q (o :: rest) a w :=
  wpL_putF hgd ty x y ho b f v hx hy hs h1 ys H.out.at5 hf fun W ha st => h W (hidp (H.out.put5 ha st)) st
theorem ld5 {ty b t : Nat} {xs : List Value} (hn : NA P ty) (H : Hid (M N w0 w (x0 :: x1 :: x2 :: x3 :: x4 :: ⟨b, t, xs⟩ :: L))) (hw : Region.wanted o (yielded ops a.tmps) = true) (x : Operand) (f : Nat) (v : Value) (ho : o.op = .load ty x) (hx : a.eval x = .pointer (some ⟨b, f, none⟩)) (hf : xs[f]? = some v)
    (h : wpList P ops Q rest (a.put o.dst v) w) : wpList P ops Q (o :: rest) a w := ldc hn hw x _ _ ho hx (by obtain ⟨h1, rfl⟩ := List.getElem?_eq_some_iff.1 hf; exact H.out.at5.cell f h1) h
end
section
variable {P : Program} {T k : Nat} {z : List Value} {ops : Array Oper} {o : Oper} {a : Act} {Q : Exit → Act → World → Prop} {S : World → Prop} {j : Nat} {s : Scr} {K : Act → World → Prop} {x0 x1 x2 x3 x4 : Bx} 
theorem sld5 {ty b t : Nat} {xs : List Value} (hn : NA P ty) (hS : ∀ w, S w → M N w0 w (x0 :: x1 :: x2 :: x3 :: x4 :: ⟨b, t, xs⟩ :: L)) (ho : ops[j]? = some o) (hw : Region.wanted o (yielded ops a.tmps) = true) (x : Operand) (f : Nat) (v : Value) (hop : o.op = .load ty x) (hx : a.eval x = .pointer (some ⟨b, f, none⟩)) (hf : xs[f]? = some v)
    (h : wpScr P ops Q s S (a.put o.dst v) w) : wpScr P ops Q (.take j s) S a w := s_ldc hn ho hw x _ _ hop hx (fun w hs => by obtain ⟨h1, rfl⟩ := List.getElem?_eq_some_iff.1 hf; exact (hS w hs).at5.cell f h1) h
theorem sget5 {b : Nat} {xs : List Value} (R : RT P T k z) (hS : ∀ w, S w → M N w0 w (x0 :: x1 :: x2 :: x3 :: x4 :: ⟨b, T, xs⟩ :: L)) (ho : ops[j]? = some o) (hw : Region.wanted o (yielded ops a.tmps) = true) (x : Operand) (hop : o.op = .load T x) (hx : a.eval x = .pointer (some ⟨b, 0, none⟩)) (hl : xs.length = k)
    (h : wpScr P ops Q s S (a.put o.dst (.agg xs.toArray)) w) : wpScr P ops Q (.take j s) S a w := s_get R ho hw x hop b xs hx hl (fun w hs => (hS w hs).at5) h
theorem oput5 {b : Nat} {ys : List Value} (R : RT P T k z) (H : Hid (M N w0 w (x0 :: x1 :: x2 :: x3 :: x4 :: ⟨b, T, ys⟩ :: L))) (xs : List Value) (hT : ∀ W, M N w0 W (x0 :: x1 :: x2 :: x3 :: x4 :: ⟨b, T, xs⟩ :: L) → S W) (ho : ops[j]? = some o) (hw : Region.wanted o (yielded ops a.tmps) = true) (x y : Operand) (hop : o.op = .store T x y) (hx : a.eval x = .pointer (some ⟨b, 0, none⟩)) (hy : a.eval y = .agg xs.toArray) (hl : xs.length = k)
    (h1 : ∀ v ∈ xs, v.oneCell' = true) (hl2 : ys.length = k)
    (h : ∀ W, Hid (M N w0 W (x0 :: x1 :: x2 :: x3 :: x4 :: ⟨b, T, xs⟩ :: L)) → Stp b w W → K (a.put o.dst undef) W) : opW P ops Q S j K a w :=
  o_put R ho hw x y hop b xs hx hy hl h1 ys hl2 H.out.at5 fun W ha st => ⟨hT _ (H.out.put5 ha st), h W (hidp (H.out.put5 ha st)) st⟩
end
theorem M.at6 {x0 x1 x2 x3 x4 x5 : Bx} {b t : Nat} {r : List Value} (h : M N w0 w (x0 :: x1 :: x2 :: x3 :: x4 :: x5 :: ⟨b, t, r⟩ :: L)) : Arr w b t r := h.has ⟨b, t, r⟩ (by simp)
theorem M.put6 {x0 x1 x2 x3 x4 x5 : Bx} {b t : Nat} {xs ys : List Value} (h : M N w0 w (x0 :: x1 :: x2 :: x3 :: x4 :: x5 :: ⟨b, t, ys⟩ :: L)) (ha : Arr W b t xs) (st : Stp b w W) : M N w0 W (x0 :: x1 :: x2 :: x3 :: x4 :: x5 :: ⟨b, t, xs⟩ :: L) := h.put 6 b t xs ys rfl ha st
section
variable {P : Program} {T k : Nat} {z : List Value} {ops : Array Oper} {rest : List Oper} {o : Oper} {a : Act} {Q : Exit → Act → World → Prop} {x0 x1 x2 x3 x4 x5 : Bx} 
theorem get6 {b : Nat} {xs : List Value} (R : RT P T k z) (H : Hid (M N w0 w (x0 :: x1 :: x2 :: x3 :: x4 :: x5 :: ⟨b, T, xs⟩ :: L))) (hw : Region.wanted o (yielded ops a.tmps) = true) (x : Operand) (ho : o.op = .load T x) (hx : a.eval x = .pointer (some ⟨b, 0, none⟩)) (hl : xs.length = k)
    (h : wpList P ops Q rest (a.put o.dst (.agg xs.toArray)) w) : wpList P ops Q (o :: rest) a w := wpL_get R hw x ho b xs hx hl H.out.at6 h
theorem put6 {b : Nat} {ys : List Value} (R : RT P T k z) (H : Hid (M N w0 w (x0 :: x1 :: x2 :: x3 :: x4 :: x5 :: ⟨b, T, ys⟩ :: L))) (hgd : o.guard = none) (x y : Operand) (xs : List Value) (ho : o.op = .store T x y) (hx : a.eval x = .pointer (some ⟨b, 0, none⟩)) (hy : a.eval y = .agg xs.toArray) (hl : xs.length = k)
    (h1 : ∀ v ∈ xs, v.oneCell' = true) (hl2 : ys.length = k)
    (h : ∀ W, Hid (M N w0 W (x0 :: x1 :: x2 :: x3 :: x4 :: x5 :: ⟨b, T, xs⟩ :: L)) → Stp b w W → wpList P ops Q rest (a.put o.dst undef) W) : wpList P ops Q (o :: rest) a w :=
  wpL_put R hgd x y ho b xs hx hy hl h1 ys hl2 H.out.at6 fun W ha st => h W (hidp (H.out.put6 ha st)) st
theorem putF6 {b t : Nat} {ys : List Value} (H : Hid (M N w0 w (x0 :: x1 :: x2 :: x3 :: x4 :: x5 :: ⟨b, t, ys⟩ :: L))) (hgd : o.guard = none) (ty : TypeId) (x y : Operand) (f : Nat) (v : Value) (ho : o.op = .store ty x y) (hx : a.eval x = .pointer (some ⟨b, f, none⟩)) (hy : a.eval y = v) (hs : (P.info? ty).map (·.size) = some 1) (h1 : v.oneCell' = true) (hf : f < ys.length)
    (h : ∀ W, Hid (M N w0 W (x0 :: x1 :: x2 :: x3 :: x4 :: x5 :: ⟨b, t, ys.set f v⟩ :: L)) → Stp b w W → wpList P ops Q rest (a.put o.dst undef) W) : wpList P ops Q (o :: rest) a w :=
  wpL_putF hgd ty x y ho b f v hx hy hs h1 ys H.out.at6 hf fun W ha st => h W (hidp (H.out.put6 ha st)) st
theorem ld6 {ty b t : Nat} {xs : List Value} (hn : NA P ty) (H : Hid (M N w0 w (x0 :: x1 :: x2 :: x3 :: x4 :: x5 :: ⟨b, t, xs⟩ :: L))) (hw : Region.wanted o (yielded ops a.tmps) = true) (x : Operand) (f : Nat) (v : Value) (ho : o.op = .load ty x) (hx : a.eval x = .pointer (some ⟨b, f, none⟩)) (hf : xs[f]? = some v)
    (h : wpList P ops Q rest (a.put o.dst v) w) : wpList P ops Q (o :: rest) a w := ldc hn hw x _ _ ho hx (by obtain ⟨h1, rfl⟩ := List.getElem?_eq_some_iff.1 hf; exact H.out.at6.cell f h1) h
end
section
variable {P : Program} {T k : Nat} {z : List Value} {ops : Array Oper} {o : Oper} {a : Act} {Q : Exit → Act → World → Prop} {S : World → Prop} {j : Nat} {s : Scr} {K : Act → World → Prop} {x0 x1 x2 x3 x4 x5 : Bx} 
theorem sld6 {ty b t : Nat} {xs : List Value} (hn : NA P ty) (hS : ∀ w, S w → M N w0 w (x0 :: x1 :: x2 :: x3 :: x4 :: x5 :: ⟨b, t, xs⟩ :: L)) (ho : ops[j]? = some o) (hw : Region.wanted o (yielded ops a.tmps) = true) (x : Operand) (f : Nat) (v : Value) (hop : o.op = .load ty x) (hx : a.eval x = .pointer (some ⟨b, f, none⟩)) (hf : xs[f]? = some v)
    (h : wpScr P ops Q s S (a.put o.dst v) w) : wpScr P ops Q (.take j s) S a w := s_ldc hn ho hw x _ _ hop hx (fun w hs => by obtain ⟨h1, rfl⟩ := List.getElem?_eq_some_iff.1 hf; exact (hS w hs).at6.cell f h1) h
theorem sget6 {b : Nat} {xs : List Value} (R : RT P T k z) (hS : ∀ w, S w → M N w0 w (x0 :: x1 :: x2 :: x3 :: x4 :: x5 :: ⟨b, T, xs⟩ :: L)) (ho : ops[j]? = some o) (hw : Region.wanted o (yielded ops a.tmps) = true) (x : Operand) (hop : o.op = .load T x) (hx : a.eval x = .pointer (some ⟨b, 0, none⟩)) (hl : xs.length = k)
    (h : wpScr P ops Q s S (a.put o.dst (.agg xs.toArray)) w) : wpScr P ops Q (.take j s) S a w := s_get R ho hw x hop b xs hx hl (fun w hs => (hS w hs).at6) h
theorem oput6 {b : Nat} {ys : List Value} (R : RT P T k z) (H : Hid (M N w0 w (x0 :: x1 :: x2 :: x3 :: x4 :: x5 :: ⟨b, T, ys⟩ :: L))) (xs : List Value) (hT : ∀ W, M N w0 W (x0 :: x1 :: x2 :: x3 :: x4 :: x5 :: ⟨b, T, xs⟩ :: L) → S W) (ho : ops[j]? = some o) (hw : Region.wanted o (yielded ops a.tmps) = true) (x y : Operand) (hop : o.op = .store T x y) (hx : a.eval x = .pointer (some ⟨b, 0, none⟩)) (hy : a.eval y = .agg xs.toArray) (hl : xs.length = k)
    (h1 : ∀ v ∈ xs, v.oneCell' = true) (hl2 : ys.length = k)
    (h : ∀ W, Hid (M N w0 W (x0 :: x1 :: x2 :: x3 :: x4 :: x5 :: ⟨b, T, xs⟩ :: L)) → Stp b w W → K (a.put o.dst undef) W) : opW P ops Q S j K a w :=
  o_put R ho hw x y hop b xs hx hy hl h1 ys hl2 H.out.at6 fun W ha st => ⟨hT _ (H.out.put6 ha st), h W (hidp (H.out.put6 ha st)) st⟩
end
theorem M.at7 {x0 x1 x2 x3 x4 x5 x6 : Bx} {b t : Nat} {r : List Value} (h : M N w0 w (x0 :: x1 :: x2 :: x3 :: x4 :: x5 :: x6 :: ⟨b, t, r⟩ :: L)) : Arr w b t r := h.has ⟨b, t, r⟩ (by simp)
theorem M.put7 {x0 x1 x2 x3 x4 x5 x6 : Bx} {b t : Nat} {xs ys : List Value} (h : M N w0 w (x0 :: x1 :: x2 :: x3 :: x4 :: x5 :: x6 :: ⟨b, t, ys⟩ :: L)) (ha : Arr W b t xs) (st : Stp b w W) : M N w0 W (x0 :: x1 :: x2 :: x3 :: x4 :: x5 :: x6 :: ⟨b, t, xs⟩ :: L) := h.put 7 b t xs ys rfl ha st
section
variable {P : Program} {T k : Nat} {z : List Value} {ops : Array Oper} {rest : List Oper} {o : Oper} {a : Act} {Q : Exit → Act → World → Prop} {x0 x1 x2 x3 x4 x5 x6 : Bx} 
theorem get7 {b : Nat} {xs : List Value} (R : RT P T k z) (H : Hid (M N w0 w (x0 :: x1 :: x2 :: x3 :: x4 :: x5 :: x6 :: ⟨b, T, xs⟩ :: L))) (hw : Region.wanted o (yielded ops a.tmps) = true) (x : Operand) (ho : o.op = .load T x) (hx : a.eval x = .pointer (some ⟨b, 0, none⟩)) (hl : xs.length = k)
    (h : wpList P ops Q rest (a.put o.dst (.agg xs.toArray)) w) : wpList P ops Q (o :: rest) a w := wpL_get R hw x ho b xs hx hl H.out.at7 h
theorem put7 {b : Nat} {ys : List Value} (R : RT P T k z) (H : Hid (M N w0 w (x0 :: x1 :: x2 :: x3 :: x4 :: x5 :: x6 :: ⟨b, T, ys⟩ :: L))) (hgd : o.guard = none) (x y : Operand) (xs : List Value) (ho : o.op = .store T x y) (hx : a.eval x = .pointer (some ⟨b, 0, none⟩)) (hy : a.eval y = .agg xs.toArray) (hl : xs.length = k)
    (h1 : ∀ v ∈ xs, v.oneCell' = true) (hl2 : ys.length = k)
    (h : ∀ W, Hid (M N w0 W (x0 :: x1 :: x2 :: x3 :: x4 :: x5 :: x6 :: ⟨b, T, xs⟩ :: L)) → Stp b w W → wpList P ops Q rest (a.put o.dst undef) W) : wpList P ops Q (o :: rest) a w :=
  wpL_put R hgd x y ho b xs hx hy hl h1 ys hl2 H.out.at7 fun W ha st => h W (hidp (H.out.put7 ha st)) st
theorem putF7 {b t : Nat} {ys : List Value} (H : Hid (M N w0 w (x0 :: x1 :: x2 :: x3 :: x4 :: x5 :: x6 :: ⟨b, t, ys⟩ :: L))) (hgd : o.guard = none) (ty : TypeId) (x y : Operand) (f : Nat) (v : Value) (ho : o.op = .store ty x y) (hx : a.eval x = .pointer (some ⟨b, f, none⟩)) (hy : a.eval y = v) (hs : (P.info? ty).map (·.size) = some 1) (h1 : v.oneCell' = true) (hf : f < ys.length)
    (h : ∀ W, Hid (M N w0 W (x0 :: x1 :: x2 :: x3 :: x4 :: x5 :: x6 :: ⟨b, t, ys.set f v⟩ :: L)) → Stp b w W → wpList P ops Q rest (a.put o.dst undef) W) : wpList P ops Q (o :: rest) a w :=
  wpL_putF hgd ty x y ho b f v hx hy hs h1 ys H.out.at7 hf fun W ha st => h W (hidp (H.out.put7 ha st)) st
theorem ld7 {ty b t : Nat} {xs : List Value} (hn : NA P ty) (H : Hid (M N w0 w (x0 :: x1 :: x2 :: x3 :: x4 :: x5 :: x6 :: ⟨b, t, xs⟩ :: L))) (hw : Region.wanted o (yielded ops a.tmps) = true) (x : Operand) (f : Nat) (v : Value) (ho : o.op = .load ty x) (hx : a.eval x = .pointer (some ⟨b, f, none⟩)) (hf : xs[f]? = some v)
    (h : wpList P ops Q rest (a.put o.dst v) w) : wpList P ops Q (o :: rest) a w := ldc hn hw x _ _ ho hx (by obtain ⟨h1, rfl⟩ := List.getElem?_eq_some_iff.1 hf; exact H.out.at7.cell f h1) h
end
section
variable {P : Program} {T k : Nat} {z : List Value} {ops : Array Oper} {o : Oper} {a : Act} {Q : Exit → Act → World → Prop} {S : World → Prop} {j : Nat} {s : Scr} {K : Act → World → Prop} {x0 x1 x2 x3 x4 x5 x6 : Bx} 
theorem sld7 {ty b t : Nat} {xs : List Value} (hn : NA P ty) (hS : ∀ w, S w → M N w0 w (x0 :: x1 :: x2 :: x3 :: x4 :: x5 :: x6 :: ⟨b, t, xs⟩ :: L)) (ho : ops[j]? = some o) (hw : Region.wanted o (yielded ops a.tmps) = true) (x : Operand) (f : Nat) (v : Value) (hop : o.op = .load ty x) (hx : a.eval x = .pointer (some ⟨b, f, none⟩)) (hf : xs[f]? = some v)
    (h : wpScr P ops Q s S (a.put o.dst v) w) : wpScr P ops Q (.take j s) S a w := s_ldc hn ho hw x _ _ hop hx (fun w hs => by obtain ⟨h1, rfl⟩ := List.getElem?_eq_some_iff.1 hf; exact (hS w hs).at7.cell f h1) h
theorem sget7 {b : Nat} {xs : List Value} (R : RT P T k z) (hS : ∀ w, S w → M N w0 w (x0 :: x1 :: x2 :: x3 :: x4 :: x5 :: x6 :: ⟨b, T, xs⟩ :: L)) (ho : ops[j]? = some o) (hw : Region.wanted o (yielded ops a.tmps) = true) (x : Operand) (hop : o.op = .load T x) (hx : a.eval x = .pointer (some ⟨b, 0, none⟩)) (hl : xs.length = k)
    (h : wpScr P ops Q s S (a.put o.dst (.agg xs.toArray)) w) : wpScr P ops Q (.take j s) S a w := s_get R ho hw x hop b xs hx hl (fun w hs => (hS w hs).at7) h
theorem oput7 {b : Nat} {ys : List Value} (R : RT P T k z) (H : Hid (M N w0 w (x0 :: x1 :: x2 :: x3 :: x4 :: x5 :: x6 :: ⟨b, T, ys⟩ :: L))) (xs : List Value) (hT : ∀ W, M N w0 W (x0 :: x1 :: x2 :: x3 :: x4 :: x5 :: x6 :: ⟨b, T, xs⟩ :: L) → S W) (ho : ops[j]? = some o) (hw : Region.wanted o (yielded ops a.tmps) = true) (x y : Operand) (hop : o.op = .store T x y) (hx : a.eval x = .pointer (some ⟨b, 0, none⟩)) (hy : a.eval y = .agg xs.toArray) (hl : xs.length = k)
    (h1 : ∀ v ∈ xs, v.oneCell' = true) (hl2 : ys.length = k)
    (h : ∀ W, Hid (M N w0 W (x0 :: x1 :: x2 :: x3 :: x4 :: x5 :: x6 :: ⟨b, T, xs⟩ :: L)) → Stp b w W → K (a.put o.dst undef) W) : opW P ops Q S j K a w :=
  o_put R ho hw x y hop b xs hx hy hl h1 ys hl2 H.out.at7 fun W ha st => ⟨hT _ (H.out.put7 ha st), h W (hidp (H.out.put7 ha st)) st⟩
end
theorem M.at8 {x0 x1 x2 x3 x4 x5 x6 x7 : Bx} {b t : Nat} {r : List Value} (h : M N w0 w (x0 :: x1 :: x2 :: x3 :: x4 :: x5 :: x6 :: x7 :: ⟨b, t, r⟩ :: L)) : Arr w b t r := h.has ⟨b, t, r⟩ (by simp)
theorem M.put8 {x0 x1 x2 x3 x4 x5 x6 x7 : Bx} {b t : Nat} {xs ys : List Value} (h : M N w0 w (x0 :: x1 :: x2 :: x3 :: x4 :: x5 :: x6 :: x7 :: ⟨b, t, ys⟩ :: L)) (ha : Arr W b t xs) (st : Stp b w W) : M N w0 W (x0 :: x1 :: x2 :: x3 :: x4 :: x5 :: x6 :: x7 :: ⟨b, t, xs⟩ :: L) := h.put 8 b t xs ys rfl ha st
section
variable {P : Program} {T k : Nat} {z : List Value} {ops : Array Oper} {rest : List Oper} {o : Oper} {a : Act} {Q : Exit → Act → World → Prop} {x0 x1 x2 x3 x4 x5 x6 x7 : Bx} 
theorem get8 {b : Nat} {xs : List Value} (R : RT P T k z) (H : Hid (M N w0 w (x0 :: x1 :: x2 :: x3 :: x4 :: x5 :: x6 :: x7 :: ⟨b, T, xs⟩ :: L))) (hw : Region.wanted o (yielded ops a.tmps) = true) (x : Operand) (ho : o.op = .load T x) (hx : a.eval x = .pointer (some ⟨b, 0, none⟩)) (hl : xs.length = k)
    (h : wpList P ops Q rest (a.put o.dst (.agg xs.toArray)) w) : wpList P ops Q (o :: rest) a w := wpL_get R hw x ho b xs hx hl H.out.at8 h
theorem put8 {b : Nat} {ys : List Value} (R : RT P T k z) (H : Hid (M N w0 w (x0 :: x1 :: x2 :: x3 :: x4 :: x5 :: x6 :: x7 :: ⟨b, T, ys⟩ :: L))) (hgd : o.guard = none) (x y : Operand) (xs : List Value) (ho : o.op = .store T x y) (hx : a.eval x = .pointer (some ⟨b, 0, none⟩)) (hy : a.eval y = .agg xs.toArray) (hl : xs.length = k)
    (h1 : ∀ v ∈ xs, v.oneCell' = true) (hl2 : ys.length = k)
    (h : ∀ W, Hid (M N w0 W (x0 :: x1 :: x2 :: x3 :: x4 :: x5 :: x6 :: x7 :: ⟨b, T, xs⟩ :: L)) → Stp b w W → wpList P ops Q rest (a.put o.dst undef) W) : wpList P ops Q (o :: rest) a w :=
  wpL_put R hgd x y ho b xs hx hy hl h1 ys hl2 H.out.at8 fun W ha st => h W (hidp (H.out.put8 ha st)) st
theorem putF8 {b t : Nat} {ys : List Value} (H : Hid (M N w0 w (x0 :: x1 :: x2 :: x3 :: x4 :: x5 :: x6 :: x7 :: ⟨b, t, ys⟩ :: L))) (hgd : o.guard = none) (ty : TypeId) (x y : Operand) (f : Nat) (v : Value) (ho : o.op = .store ty x y) (hx : a.eval x = .pointer (some ⟨b, f, none⟩)) (hy : a.eval y = v) (hs : (P.info? ty).map (·.size) = some 1) (h1 : v.oneCell' = true) (hf : f < ys.length)
    (h : ∀ W, Hid (M N w0 W (x0 :: x1 :: x2 :: x3 :: x4 :: x5 :: x6 :: x7 :: ⟨b, t, ys.set f v⟩ :: L)) → Stp b w W → wpList P ops Q rest (a.put o.dst undef) W) : wpList P ops Q (o :: rest) a w :=
  wpL_putF hgd ty x y ho b f v hx hy hs h1 ys H.out.at8 hf fun W ha st => h W (hidp (H.out.put8 ha st)) st
theorem ld8 {ty b t : Nat} {xs : List Value} (hn : NA P ty) (H : Hid (M N w0 w (x0 :: x1 :: x2 :: x3 :: x4 :: x5 :: x6 :: x7 :: ⟨b, t, xs⟩ :: L))) (hw : Region.wanted o (yielded ops a.tmps) = true) (x : Operand) (f : Nat) (v : Value) (ho : o.op = .load ty x) (hx : a.eval x = .pointer (some ⟨b, f, none⟩)) (hf : xs[f]? = some v)
    (h : wpList P ops Q rest (a.put o.dst v) w) : wpList P ops Q (o :: rest) a w := ldc hn hw x _ _ ho hx (by obtain ⟨h1, rfl⟩ := List.getElem?_eq_some_iff.1 hf; exact H.out.at8.cell f h1) h
end
section
variable {P : Program} {T k : Nat} {z : List Value} {ops : Array Oper} {o : Oper} {a : Act} {Q : Exit → Act → World → Prop} {S : World → Prop} {j : Nat} {s : Scr} {K : Act → World → Prop} {x0 x1 x2 x3 x4 x5 x6 x7 : Bx} 
theorem sld8 {ty b t : Nat} {xs : List Value} (hn : NA P ty) (hS : ∀ w, S w → M N w0 w (x0 :: x1 :: x2 :: x3 :: x4 :: x5 :: x6 :: x7 :: ⟨b, t, xs⟩ :: L)) (ho : ops[j]? = some o) (hw : Region.wanted o (yielded ops a.tmps) = true) (x : Operand) (f : Nat) (v : Value) (hop : o.op = .load ty x) (hx : a.eval x = .pointer (some ⟨b, f, none⟩)) (hf : xs[f]? = some v)
    (h : wpScr P ops Q s S (a.put o.dst v) w) : wpScr P ops Q (.take j s) S a w := s_ldc hn ho hw x _ _ hop hx (fun w hs => by obtain ⟨h1, rfl⟩ := List.getElem?_eq_some_iff.1 hf; exact (hS w hs).at8.cell f h1) h
theorem sget8 {b : Nat} {xs : List Value} (R : RT P T k z) (hS : ∀ w, S w → M N w0 w (x0 :: x1 :: x2 :: x3 :: x4 :: x5 :: x6 :: x7 :: ⟨b, T, xs⟩ :: L)) (ho : ops[j]? = some o) (hw : Region.wanted o (yielded ops a.tmps) = true) (x : Operand) (hop : o.op = .load T x) (hx : a.eval x = .pointer (some ⟨b, 0, none⟩)) (hl : xs.length = k)
    (h : wpScr P ops Q s S (a.put o.dst (.agg xs.toArray)) w) : wpScr P ops Q (.take j s) S a w := s_get R ho hw x hop b xs hx hl (fun w hs => (hS w hs).at8) h
theorem oput8 {b : Nat} {ys : List Value} (R : RT P T k z) (H : Hid (M N w0 w (x0 :: x1 :: x2 :: x3 :: x4 :: x5 :: x6 :: x7 :: ⟨b, T, ys⟩ :: L))) (xs : List Value) (hT : ∀ W, M N w0 W (x0 :: x1 :: x2 :: x3 :: x4 :: x5 :: x6 :: x7 :: ⟨b, T, xs⟩ :: L) → S W) (ho : ops[j]? = some o) (hw : Region.wanted o (yielded ops a.tmps) = true) (x y : Operand) (hop : o.op = .store T x y) (hx : a.eval x = .pointer (some ⟨b, 0, none⟩)) (hy : a.eval y = .agg xs.toArray) (hl : xs.length = k)
    (h1 : ∀ v ∈ xs, v.oneCell' = true) (hl2 : ys.length = k)
    (h : ∀ W, Hid (M N w0 W (x0 :: x1 :: x2 :: x3 :: x4 :: x5 :: x6 :: x7 :: ⟨b, T, xs⟩ :: L)) → Stp b w W → K (a.put o.dst undef) W) : opW P ops Q S j K a w :=
  o_put R ho hw x y hop b xs hx hy hl h1 ys hl2 H.out.at8 fun W ha st => ⟨hT _ (H.out.put8 ha st), h W (hidp (H.out.put8 ha st)) st⟩
end
end Go.Proofs.Ytokakgjcegmabaa.Mm
