/-
  Joined: Mm HoA.
-/
import Derived.Test.YtfenjincbhkodaaGreatDoorVC
import Derived.Test.YtfenjincbhkodaaGreatDoorVA
import Derived.Deep.RegionHeld3
import Derived.Test.YtfenjincbhkodaaGreatDoorVB
namespace Go.Proofs.YtfenjincbhkodaaGreatDoor.Mm
set_option maxRecDepth 100000
set_option linter.unusedVariables false
set_option linter.unusedSimpArgs false
open Go.RowKit Go.Proofs.YtfenjincbhkodaaGreatDoor.Rt

/-- A variable: its block, its type, its cells. -/
structure Bx where
  b : Nat
  t : Nat
  r : List Value
/-- From the world w0 on all below N stands, and these variables are there, the newest one first. -/
structure M (N : Nat) (w0 w : World) (L : List Bx) : Prop where
  below : Below N w0 w
  le : N ≤ w.heap.size
  ge : ∀ x ∈ L, N ≤ x.b
  inc : L.Pairwise (fun x y => y.b < x.b)
  has : ∀ x ∈ L, Arr w x.b x.t x.r
theorem M.nil (w : World) : M w.heap.size w w [] := ⟨Below.refl _ _, Nat.le_refl _, (fun x h => by cases h), List.Pairwise.nil, (fun x h => by cases h)⟩
variable {N : Nat} {w0 w W : World} {L : List Bx}
theorem M.call (h : M N w0 w L) (hb : Below w.heap.size w W) : M N w0 W L :=
  ⟨h.below.trans (hb.mono h.le), Nat.le_trans h.le hb.size, h.ge, h.inc, fun x hx => (h.has x hx).below hb (h.has x hx).lt⟩
theorem M.drew (h : M N w0 w L) : M N w0 { w with drawn := w.drawn + 1 } L := h.call (Below.refl _ _).drew
theorem M.new {b t : Nat} {xs : List Value} (h : M N w0 w L) (n : NewAt w W b t xs) : M N w0 W (⟨b, t, xs⟩ :: L) := by
  have hc := h.call n.below
  refine ⟨hc.below, hc.le, fun x hx => ?_, List.Pairwise.cons (fun x hx => ?_) h.inc, fun x hx => ?_⟩
  · rcases List.mem_cons.1 hx with rfl | hx
    · exact Nat.le_trans h.le n.le
    · exact h.ge x hx
  · have := (h.has x hx).lt; have := n.at_; show x.b < b; omega
  · rcases List.mem_cons.1 hx with rfl | hx
    · exact n.arr
    · exact hc.has x hx
/-- A variable that is not the newest world's, but lies behind all the others. -/
theorem M.add {b t : Nat} {xs : List Value} {m : Nat} (h : M N w0 w L) (hb : Below w.heap.size w W) (hm : w.heap.size ≤ b) (ha : Arr W b t xs) : M N w0 W (⟨b, t, xs⟩ :: L) := by
  have hc := h.call hb
  refine ⟨hc.below, hc.le, fun x hx => ?_, List.Pairwise.cons (fun x hx => ?_) h.inc, fun x hx => ?_⟩
  · rcases List.mem_cons.1 hx with rfl | hx
    · exact Nat.le_trans h.le hm
    · exact h.ge x hx
  · have := (h.has x hx).lt; show x.b < b; omega
  · rcases List.mem_cons.1 hx with rfl | hx
    · exact ha
    · exact hc.has x hx
theorem M.tail {x : Bx} (h : M N w0 w (x :: L)) : M N w0 w L := ⟨h.below, h.le, fun y hy => h.ge y (List.mem_cons_of_mem _ hy), (List.pairwise_cons.1 h.inc).2, fun y hy => h.has y (List.mem_cons_of_mem _ hy)⟩
theorem M.sub {L' : List Bx} (h : M N w0 w L) (hs : L'.Sublist L) : M N w0 w L' := ⟨h.below, h.le, fun y hy => h.ge y (hs.subset hy), h.inc.sublist hs, fun y hy => h.has y (hs.subset hy)⟩
theorem M.ne {i : Nat} {x : Bx} (h : L.Pairwise (fun x y => y.b < x.b)) (hi : L[i]? = some x) : ∀ {j : Nat} {y : Bx}, L[j]? = some y → j ≠ i → y.b ≠ x.b := by
  intro j y hj hne
  obtain ⟨h1, e1⟩ := List.getElem?_eq_some_iff.1 hi
  obtain ⟨h2, e2⟩ := List.getElem?_eq_some_iff.1 hj
  rw [List.pairwise_iff_getElem] at h
  rcases Nat.lt_or_gt_of_ne hne with hlt | hgt
  · have := h j i h2 h1 hlt; rw [e1, e2] at this; omega
  · have := h i j h1 h2 hgt; rw [e1, e2] at this; omega
theorem M.put (h : M N w0 w L) (i b t : Nat) (xs ys : List Value) (hi : L[i]? = some ⟨b, t, ys⟩) (ha : Arr W b t xs) (st : Stp b w W) : M N w0 W (L.set i ⟨b, t, xs⟩) := by
  obtain ⟨h1, e1⟩ := List.getElem?_eq_some_iff.1 hi
  have hge := h.ge _ (List.mem_of_getElem? hi)
  have mem : ∀ x ∈ L.set i ⟨b, t, xs⟩, x = ⟨b, t, xs⟩ ∨ ∃ j, L[j]? = some x ∧ j ≠ i := by
    intro x hx
    obtain ⟨j, hj, rfl⟩ := List.getElem_of_mem hx
    by_cases e : j = i
    · subst e; left; simp
    · right; refine ⟨j, ?_, e⟩
      rw [List.getElem_set_ne (by omega)]
      exact List.getElem?_eq_getElem _
  refine ⟨st.below' h.below hge, by rw [st.size]; exact h.le, fun x hx => ?_, ?_, fun x hx => ?_⟩
  · rcases mem x hx with rfl | ⟨j, hj, _⟩
    · exact hge
    · exact h.ge x (List.mem_of_getElem? hj)
  · have hp := h.inc
    rw [List.pairwise_iff_getElem] at hp ⊢
    have hb : ∀ j (hj : j < (L.set i ⟨b, t, xs⟩).length), ((L.set i ⟨b, t, xs⟩)[j]).b = (L[j]'(by simpa using hj)).b := by
      intro j hj
      by_cases e : j = i
      · subst e; simp [e1]
      · rw [List.getElem_set_ne (by omega)]
    intro j k hj hk hlt
    rw [hb j hj, hb k hk]
    exact hp j k _ _ hlt
  · rcases mem x hx with rfl | ⟨j, hj, hne⟩
    · exact ha
    · exact st.arr (M.ne h.inc hi hj hne) (h.has x (List.mem_of_getElem? hj))
/-- A type of one cell. -/
def NA (P : Program) (ty : Nat) : Prop := ∃ d, P.underlying ty = some d ∧ (match d with | .struct _ | .array _ _ => false | _ => true) = true
theorem NA.agg {P : Program} {ty : Nat} (h : NA P ty) (w : World) : (isAgg ty).run P w = .ok false w := by
  obtain ⟨d, hu, hd⟩ := h
  unfold isAgg
  rw [Sem.run_bind, run_underlying hu w]
  cases d <;> simp_all [Result.andThen]
theorem run_loadVar_one {P : Program} {ty : Nat} (h : NA P ty) (w : World) (p : Addr) (v : Value) (hc : w.cell? p = some v) : (loadVar ty p).run P w = .ok v w := by
  simp only [loadVar, Sem.run_bind, h.agg w, Result.andThen_ok, Bool.false_eq_true, if_false]
  show Sem.run P (Sem.load _ p Sem.pure) w = _
  simp [Sem.run, hc]
section
variable {P : Program} {T k : Nat} {z : List Value} {ops : Array Oper} {rest : List Oper} {o : Oper} {a : Act} {Q : Exit → Act → World → Prop}
theorem new (R : RT P T k z) (H : Hid (M N w0 w L)) (d : Option Tmp) (hd : o.dst = d) (hgd : o.guard = none) (ho : o.op = .alloc T)
    (h : ∀ b W, Hid (M N w0 W (⟨b, T, z⟩ :: L)) → NewAt w W b T z → wpList P ops Q rest (a.put o.dst (.pointer (some ⟨b, 0, none⟩))) W) : wpList P ops Q (o :: rest) a w :=
  wpL_new R d hd hgd ho fun b W n => h b W (hidp (H.out.new n)) n
theorem box (T : TypeId) (H : Hid (M N w0 w L)) (hgd : o.guard = none) (x : Operand) (ho : o.op = .box T x) (xs : List Value) (hx : a.eval x = .agg xs.toArray)
    (h : ∀ b W, Hid (M N w0 W (⟨b, T, xs⟩ :: L)) → NewAt w W b T xs → wpList P ops Q rest (a.put o.dst (.pointer (some ⟨b, 0, none⟩))) W) : wpList P ops Q (o :: rest) a w :=
  wpL_box T hgd x ho xs hx fun b W n => h b W (hidp (H.out.new n)) n
theorem skipd (d : Nat) (hd : o.dst = some d) (i : Nat) (b : Bool) (hg : o.guard = some (i, b)) (hy : yielded ops a.tmps i = some (!b)) (h : wpList P ops Q rest (a.put o.dst undef) w) : wpList P ops Q (o :: rest) a w := wpL_skip i b hg hy h
theorem ldc {ty : Nat} (hn : NA P ty) (hw : Region.wanted o (yielded ops a.tmps) = true) (x : Operand) (p : Addr) (v : Value) (ho : o.op = .load ty x) (hx : a.eval x = .pointer (some p)) (hc : w.cell? p = some v)
    (h : wpList P ops Q rest (a.put o.dst v) w) : wpList P ops Q (o :: rest) a w := by
  refine wpList_step fun K hK => ?_
  rw [if_pos hw]
  have := hK _ _ h
  unfold Oper.wp execOp
  simp only [ho, hx, Instr.loadAt, Instr.sureAddr, Sem.run_bind, Sem.run_pure, Result.andThen_ok, run_loadVar_one hn w p v hc]
  exact this
end
section
variable {P : Program} {T k : Nat} {z : List Value} {ops : Array Oper} {o : Oper} {a : Act} {Q : Exit → Act → World → Prop} {S : World → Prop} {j : Nat} {s : Scr}
theorem s_ldc {ty : Nat} (hn : NA P ty) (ho : ops[j]? = some o) (hw : Region.wanted o (yielded ops a.tmps) = true) (x : Operand) (p : Addr) (v : Value) (hop : o.op = .load ty x) (hx : a.eval x = .pointer (some p)) (hc : ∀ w, S w → w.cell? p = some v)
    (h : wpScr P ops Q s S (a.put o.dst v) w) : wpScr P ops Q (.take j s) S a w :=
  s_val ho hw (fun w hS => by
    unfold execOp
    simp only [hop, hx, Instr.loadAt, Instr.sureAddr, Sem.run_bind, Sem.run_pure, Result.andThen_ok, run_loadVar_one hn w p v (hc w hS)]) h
variable {Lc : List Bx} {K : Act → World → Prop}
/-- A region that draws its order, by a script, over a bag. -/
theorem region {id : Nat} (H : Hid (M N w0 w L)) (s : Scr) (hm : P.follows .mixedOrders = true) (hs : Region.noSelect ops = true) (hd : s.depth ≤ ops.size) (hc : s.chk .any ops (Array.replicate ops.size false) = true)
    (h : ∀ U, Hid (M N w0 U L) → Below w.heap.size w U → wpScr P ops (NoPanic Q) s (fun W => M N w0 W L) a U) : (Code.region id ops true).wp P Q a w :=
  wp_region_noPanic (wp_region_scr (S := fun W => M N w0 W L) s hm hs (fun _ _ _ _ _ h => h) hd hc H.out.drew (h _ (hidp H.out.drew) (Below.refl _ _).drew))
theorem o_callH {v : Value} (H : Hid (M N w0 w Lc)) (hT : ∀ W, M N w0 W Lc → S W) (ho : ops[j]? = some o) (hw : Region.wanted o (yielded ops a.tmps) = true) (f : FuncId) (args : Array Value) (hop : (execOp a.eval o).run P w = .ok (.enter f args) w) (hc : Calls P f args w fun e w' => e = .returned v ∧ Below w.heap.size w w')
    (h : ∀ W, Hid (M N w0 W Lc) → Below w.heap.size w W → K (a.put o.dst v) W) : opW P ops Q S j K a w :=
  o_call ho hw f args hop hc fun w' hb => ⟨hT _ (H.out.call hb), h w' (hidp (H.out.call hb)) hb⟩
theorem o_newH (R : RT P T k z) (H : Hid (M N w0 w Lc)) (hT : ∀ W, M N w0 W Lc → S W) (ho : ops[j]? = some o) (hw : Region.wanted o (yielded ops a.tmps) = true) (hop : o.op = .alloc T)
    (h : ∀ b W, Hid (M N w0 W (⟨b, T, z⟩ :: Lc)) → NewAt w W b T z → K (a.put o.dst (.pointer (some ⟨b, 0, none⟩))) W) : opW P ops Q S j K a w :=
  o_new R ho hw hop fun b W n => ⟨hT _ (H.out.new n).tail, h b W (hidp (H.out.new n)) n⟩
end
/-- What a function returns: a row; a row and a value; a row and a cell. -/
theorem ret_row {P : Program} {T k : Nat} {z : List Value} (R : RT P T k z) {fn : Func} {p : Tmp} (hr : fn.results = #[.cell p T]) (tmps : Array Value) (b : Nat) (xs : List Value) (hp : tmps.getD p undef = .pointer (some ⟨b, 0, none⟩)) (ha : Arr w b T xs) (hl : xs.length = k) : (results fn tmps).run P w = .ok (.agg xs.toArray) w := by
  rcases R.ut with ⟨fs, hu⟩ | ⟨n, e, hu⟩
  · exact results_cell_row hr tmps w b T xs.toArray (0, 0) _ hp ha hu rfl (R.size hl)
  · exact results_cell_row hr tmps w b T xs.toArray (0, 0) _ hp ha hu rfl (R.size hl)
theorem ret_rowv {P : Program} {T k : Nat} {z : List Value} (R : RT P T k z) {fn : Func} {p u : Tmp} (hr : fn.results = #[.cell p T, .tmp u]) (tmps : Array Value) (b : Nat) (xs : List Value) (v : Value) (hp : tmps.getD p undef = .pointer (some ⟨b, 0, none⟩)) (hv : tmps.getD u undef = v) (ha : Arr w b T xs) (hl : xs.length = k) : (results fn tmps).run P w = .ok (.tuple #[.agg xs.toArray, v]) w := by
  rcases R.ut with ⟨fs, hu⟩ | ⟨n, e, hu⟩
  · exact results_row_tmp hr tmps w b T xs.toArray (0, 0) _ hp ha hu rfl (R.size hl) v hv
  · exact results_row_tmp hr tmps w b T xs.toArray (0, 0) _ hp ha hu rfl (R.size hl) v hv
theorem M.at0 {b t : Nat} {r : List Value} (h : M N w0 w (⟨b, t, r⟩ :: L)) : Arr w b t r := h.has ⟨b, t, r⟩ (by simp)
theorem M.put0 {b t : Nat} {xs ys : List Value} (h : M N w0 w (⟨b, t, ys⟩ :: L)) (ha : Arr W b t xs) (st : Stp b w W) : M N w0 W (⟨b, t, xs⟩ :: L) := h.put 0 b t xs ys rfl ha st
section
variable {P : Program} {T k : Nat} {z : List Value} {ops : Array Oper} {rest : List Oper} {o : Oper} {a : Act} {Q : Exit → Act → World → Prop} 
theorem get0 {b : Nat} {xs : List Value} (R : RT P T k z) (H : Hid (M N w0 w (⟨b, T, xs⟩ :: L))) (hw : Region.wanted o (yielded ops a.tmps) = true) (x : Operand) (ho : o.op = .load T x) (hx : a.eval x = .pointer (some ⟨b, 0, none⟩)) (hl : xs.length = k)
    (h : wpList P ops Q rest (a.put o.dst (.agg xs.toArray)) w) : wpList P ops Q (o :: rest) a w := wpL_get R hw x ho b xs hx hl H.out.at0 h
theorem put0 {b : Nat} {ys : List Value} (R : RT P T k z) (H : Hid (M N w0 w (⟨b, T, ys⟩ :: L))) (hgd : o.guard = none) (x y : Operand) (xs : List Value) (ho : o.op = .store T x y) (hx : a.eval x = .pointer (some ⟨b, 0, none⟩)) (hy : a.eval y = .agg xs.toArray) (hl : xs.length = k)
    (h1 : ∀ v ∈ xs, v.oneCell' = true) (hl2 : ys.length = k)
    (h : ∀ W, Hid (M N w0 W (⟨b, T, xs⟩ :: L)) → Stp b w W → wpList P ops Q rest (a.put o.dst undef) W) : wpList P ops Q (o :: rest) a w :=
  wpL_put R hgd x y ho b xs hx hy hl h1 ys hl2 H.out.at0 fun W ha st => h W (hidp (H.out.put0 ha st)) st
theorem putF0 {b t : Nat} {ys : List Value} (H : Hid (M N w0 w (⟨b, t, ys⟩ :: L))) (hgd : o.guard = none) (ty : TypeId) (x y : Operand) (f : Nat) (v : Value) (ho : o.op = .store ty x y) (hx : a.eval x = .pointer (some ⟨b, f, none⟩)) (hy : a.eval y = v) (hs : (P.info? ty).map (·.size) = some 1) (h1 : v.oneCell' = true) (hf : f < ys.length)
    (h : ∀ W, Hid (M N w0 W (⟨b, t, ys.set f v⟩ :: L)) → Stp b w W → wpList P ops Q rest (a.put o.dst undef) W) : wpList P ops Q (o :: rest) a w :=
  wpL_putF hgd ty x y ho b f v hx hy hs h1 ys H.out.at0 hf fun W ha st => h W (hidp (H.out.put0 ha st)) st
theorem ld0 {ty b t : Nat} {xs : List Value} (hn : NA P ty) (H : Hid (M N w0 w (⟨b, t, xs⟩ :: L))) (hw : Region.wanted o (yielded ops a.tmps) = true) (x : Operand) (f : Nat) (v : Value) (ho : o.op = .load ty x) (hx : a.eval x = .pointer (some ⟨b, f, none⟩)) (hf : xs[f]? = some v)
    (h : wpList P ops Q rest (a.put o.dst v) w) : wpList P ops Q (o :: rest) a w := ldc hn hw x _ _ ho hx (by obtain ⟨h1, rfl⟩ := List.getElem?_eq_some_iff.1 hf; exact H.out.at0.cell f h1) h
end
section
variable {P : Program} {T k : Nat} {z : List Value} {ops : Array Oper} {o : Oper} {a : Act} {Q : Exit → Act → World → Prop} {S : World → Prop} {j : Nat} {s : Scr} {K : Act → World → Prop} 
theorem sld0 {ty b t : Nat} {xs : List Value} (hn : NA P ty) (hS : ∀ w, S w → M N w0 w (⟨b, t, xs⟩ :: L)) (ho : ops[j]? = some o) (hw : Region.wanted o (yielded ops a.tmps) = true) (x : Operand) (f : Nat) (v : Value) (hop : o.op = .load ty x) (hx : a.eval x = .pointer (some ⟨b, f, none⟩)) (hf : xs[f]? = some v)
    (h : wpScr P ops Q s S (a.put o.dst v) w) : wpScr P ops Q (.take j s) S a w := s_ldc hn ho hw x _ _ hop hx (fun w hs => by obtain ⟨h1, rfl⟩ := List.getElem?_eq_some_iff.1 hf; exact (hS w hs).at0.cell f h1) h
theorem sget0 {b : Nat} {xs : List Value} (R : RT P T k z) (hS : ∀ w, S w → M N w0 w (⟨b, T, xs⟩ :: L)) (ho : ops[j]? = some o) (hw : Region.wanted o (yielded ops a.tmps) = true) (x : Operand) (hop : o.op = .load T x) (hx : a.eval x = .pointer (some ⟨b, 0, none⟩)) (hl : xs.length = k)
    (h : wpScr P ops Q s S (a.put o.dst (.agg xs.toArray)) w) : wpScr P ops Q (.take j s) S a w := s_get R ho hw x hop b xs hx hl (fun w hs => (hS w hs).at0) h
theorem oput0 {b : Nat} {ys : List Value} (R : RT P T k z) (H : Hid (M N w0 w (⟨b, T, ys⟩ :: L))) (xs : List Value) (hT : ∀ W, M N w0 W (⟨b, T, xs⟩ :: L) → S W) (ho : ops[j]? = some o) (hw : Region.wanted o (yielded ops a.tmps) = true) (x y : Operand) (hop : o.op = .store T x y) (hx : a.eval x = .pointer (some ⟨b, 0, none⟩)) (hy : a.eval y = .agg xs.toArray) (hl : xs.length = k)
    (h1 : ∀ v ∈ xs, v.oneCell' = true) (hl2 : ys.length = k)
    (h : ∀ W, Hid (M N w0 W (⟨b, T, xs⟩ :: L)) → Stp b w W → K (a.put o.dst undef) W) : opW P ops Q S j K a w :=
  o_put R ho hw x y hop b xs hx hy hl h1 ys hl2 H.out.at0 fun W ha st => ⟨hT _ (H.out.put0 ha st), h W (hidp (H.out.put0 ha st)) st⟩
end
theorem M.at1 {x0 : Bx} {b t : Nat} {r : List Value} (h : M N w0 w (x0 :: ⟨b, t, r⟩ :: L)) : Arr w b t r := h.has ⟨b, t, r⟩ (by simp)
theorem M.put1 {x0 : Bx} {b t : Nat} {xs ys : List Value} (h : M N w0 w (x0 :: ⟨b, t, ys⟩ :: L)) (ha : Arr W b t xs) (st : Stp b w W) : M N w0 W (x0 :: ⟨b, t, xs⟩ :: L) := h.put 1 b t xs ys rfl ha st
section
variable {P : Program} {T k : Nat} {z : List Value} {ops : Array Oper} {rest : List Oper} {o : Oper} {a : Act} {Q : Exit → Act → World → Prop} {x0 : Bx} 
theorem get1 {b : Nat} {xs : List Value} (R : RT P T k z) (H : Hid (M N w0 w (x0 :: ⟨b, T, xs⟩ :: L))) (hw : Region.wanted o (yielded ops a.tmps) = true) (x : Operand) (ho : o.op = .load T x) (hx : a.eval x = .pointer (some ⟨b, 0, none⟩)) (hl : xs.length = k)
    (h : wpList P ops Q rest (a.put o.dst (.agg xs.toArray)) w) : wpList P ops Q (o :: rest) a w := wpL_get R hw x ho b xs hx hl H.out.at1 h
theorem put1 {b : Nat} {ys : List Value} (R : RT P T k z) (H : Hid (M N w0 w (x0 :: ⟨b, T, ys⟩ :: L))) (hgd : o.guard = none) (x y : Operand) (xs : List Value) (ho : o.op = .store T x y) (hx : a.eval x = .pointer (some ⟨b, 0, none⟩)) (hy : a.eval y = .agg xs.toArray) (hl : xs.length = k)
    (h1 : ∀ v ∈ xs, v.oneCell' = true) (hl2 : ys.length = k)
    (h : ∀ W, Hid (M N w0 W (x0 :: ⟨b, T, xs⟩ :: L)) → Stp b w W → wpList P ops Q rest (a.put o.dst undef) W) : wpList P ops Q (o :: rest) a w :=
  wpL_put R hgd x y ho b xs hx hy hl h1 ys hl2 H.out.at1 fun W ha st => h W (hidp (H.out.put1 ha st)) st
theorem ld1 {ty b t : Nat} {xs : List Value} (hn : NA P ty) (H : Hid (M N w0 w (x0 :: ⟨b, t, xs⟩ :: L))) (hw : Region.wanted o (yielded ops a.tmps) = true) (x : Operand) (f : Nat) (v : Value) (ho : o.op = .load ty x) (hx : a.eval x = .pointer (some ⟨b, f, none⟩)) (hf : xs[f]? = some v)
    (h : wpList P ops Q rest (a.put o.dst v) w) : wpList P ops Q (o :: rest) a w := ldc hn hw x _ _ ho hx (by obtain ⟨h1, rfl⟩ := List.getElem?_eq_some_iff.1 hf; exact H.out.at1.cell f h1) h
end
section
variable {P : Program} {T k : Nat} {z : List Value} {ops : Array Oper} {o : Oper} {a : Act} {Q : Exit → Act → World → Prop} {S : World → Prop} {j : Nat} {s : Scr} {K : Act → World → Prop} {x0 : Bx} 
theorem sget1 {b : Nat} {xs : List Value} (R : RT P T k z) (hS : ∀ w, S w → M N w0 w (x0 :: ⟨b, T, xs⟩ :: L)) (ho : ops[j]? = some o) (hw : Region.wanted o (yielded ops a.tmps) = true) (x : Operand) (hop : o.op = .load T x) (hx : a.eval x = .pointer (some ⟨b, 0, none⟩)) (hl : xs.length = k)
    (h : wpScr P ops Q s S (a.put o.dst (.agg xs.toArray)) w) : wpScr P ops Q (.take j s) S a w := s_get R ho hw x hop b xs hx hl (fun w hs => (hS w hs).at1) h
theorem oput1 {b : Nat} {ys : List Value} (R : RT P T k z) (H : Hid (M N w0 w (x0 :: ⟨b, T, ys⟩ :: L))) (xs : List Value) (hT : ∀ W, M N w0 W (x0 :: ⟨b, T, xs⟩ :: L) → S W) (ho : ops[j]? = some o) (hw : Region.wanted o (yielded ops a.tmps) = true) (x y : Operand) (hop : o.op = .store T x y) (hx : a.eval x = .pointer (some ⟨b, 0, none⟩)) (hy : a.eval y = .agg xs.toArray) (hl : xs.length = k)
    (h1 : ∀ v ∈ xs, v.oneCell' = true) (hl2 : ys.length = k)
    (h : ∀ W, Hid (M N w0 W (x0 :: ⟨b, T, xs⟩ :: L)) → Stp b w W → K (a.put o.dst undef) W) : opW P ops Q S j K a w :=
  o_put R ho hw x y hop b xs hx hy hl h1 ys hl2 H.out.at1 fun W ha st => ⟨hT _ (H.out.put1 ha st), h W (hidp (H.out.put1 ha st)) st⟩
end
theorem M.at2 {x0 x1 : Bx} {b t : Nat} {r : List Value} (h : M N w0 w (x0 :: x1 :: ⟨b, t, r⟩ :: L)) : Arr w b t r := h.has ⟨b, t, r⟩ (by simp)
theorem M.put2 {x0 x1 : Bx} {b t : Nat} {xs ys : List Value} (h : M N w0 w (x0 :: x1 :: ⟨b, t, ys⟩ :: L)) (ha : Arr W b t xs) (st : Stp b w W) : M N w0 W (x0 :: x1 :: ⟨b, t, xs⟩ :: L) := h.put 2 b t xs ys rfl ha st
section
variable {P : Program} {T k : Nat} {z : List Value} {ops : Array Oper} {rest : List Oper} {o : Oper} {a : Act} {Q : Exit → Act → World → Prop} {x0 x1 : Bx} 
theorem get2 {b : Nat} {xs : List Value} (R : RT P T k z) (H : Hid (M N w0 w (x0 :: x1 :: ⟨b, T, xs⟩ :: L))) (hw : Region.wanted o (yielded ops a.tmps) = true) (x : Operand) (ho : o.op = .load T x) (hx : a.eval x = .pointer (some ⟨b, 0, none⟩)) (hl : xs.length = k)
    (h : wpList P ops Q rest (a.put o.dst (.agg xs.toArray)) w) : wpList P ops Q (o :: rest) a w := wpL_get R hw x ho b xs hx hl H.out.at2 h
theorem put2 {b : Nat} {ys : List Value} (R : RT P T k z) (H : Hid (M N w0 w (x0 :: x1 :: ⟨b, T, ys⟩ :: L))) (hgd : o.guard = none) (x y : Operand) (xs : List Value) (ho : o.op = .store T x y) (hx : a.eval x = .pointer (some ⟨b, 0, none⟩)) (hy : a.eval y = .agg xs.toArray) (hl : xs.length = k)
    (h1 : ∀ v ∈ xs, v.oneCell' = true) (hl2 : ys.length = k)
    (h : ∀ W, Hid (M N w0 W (x0 :: x1 :: ⟨b, T, xs⟩ :: L)) → Stp b w W → wpList P ops Q rest (a.put o.dst undef) W) : wpList P ops Q (o :: rest) a w :=
  wpL_put R hgd x y ho b xs hx hy hl h1 ys hl2 H.out.at2 fun W ha st => h W (hidp (H.out.put2 ha st)) st
theorem ld2 {ty b t : Nat} {xs : List Value} (hn : NA P ty) (H : Hid (M N w0 w (x0 :: x1 :: ⟨b, t, xs⟩ :: L))) (hw : Region.wanted o (yielded ops a.tmps) = true) (x : Operand) (f : Nat) (v : Value) (ho : o.op = .load ty x) (hx : a.eval x = .pointer (some ⟨b, f, none⟩)) (hf : xs[f]? = some v)
    (h : wpList P ops Q rest (a.put o.dst v) w) : wpList P ops Q (o :: rest) a w := ldc hn hw x _ _ ho hx (by obtain ⟨h1, rfl⟩ := List.getElem?_eq_some_iff.1 hf; exact H.out.at2.cell f h1) h
end
section
variable {P : Program} {T k : Nat} {z : List Value} {ops : Array Oper} {o : Oper} {a : Act} {Q : Exit → Act → World → Prop} {S : World → Prop} {j : Nat} {s : Scr} {K : Act → World → Prop} {x0 x1 : Bx} 
theorem sget2 {b : Nat} {xs : List Value} (R : RT P T k z) (hS : ∀ w, S w → M N w0 w (x0 :: x1 :: ⟨b, T, xs⟩ :: L)) (ho : ops[j]? = some o) (hw : Region.wanted o (yielded ops a.tmps) = true) (x : Operand) (hop : o.op = .load T x) (hx : a.eval x = .pointer (some ⟨b, 0, none⟩)) (hl : xs.length = k)
    (h : wpScr P ops Q s S (a.put o.dst (.agg xs.toArray)) w) : wpScr P ops Q (.take j s) S a w := s_get R ho hw x hop b xs hx hl (fun w hs => (hS w hs).at2) h
end
theorem M.at3 {x0 x1 x2 : Bx} {b t : Nat} {r : List Value} (h : M N w0 w (x0 :: x1 :: x2 :: ⟨b, t, r⟩ :: L)) : Arr w b t r := h.has ⟨b, t, r⟩ (by simp)
theorem M.put3 {x0 x1 x2 : Bx} {b t : Nat} {xs ys : List Value} (h : M N w0 w (x0 :: x1 :: x2 :: ⟨b, t, ys⟩ :: L)) (ha : Arr W b t xs) (st : Stp b w W) : M N w0 W (x0 :: x1 :: x2 :: ⟨b, t, xs⟩ :: L) := h.put 3 b t xs ys rfl ha st
section
variable {P : Program} {T k : Nat} {z : List Value} {ops : Array Oper} {rest : List Oper} {o : Oper} {a : Act} {Q : Exit → Act → World → Prop} {x0 x1 x2 : Bx} 
theorem get3 {b : Nat} {xs : List Value} (R : RT P T k z) (H : Hid (M N w0 w (x0 :: x1 :: x2 :: ⟨b, T, xs⟩ :: L))) (hw : Region.wanted o (yielded ops a.tmps) = true) (x : Operand) (ho : o.op = .load T x) (hx : a.eval x = .pointer (some ⟨b, 0, none⟩)) (hl : xs.length = k)
    (h : wpList P ops Q rest (a.put o.dst (.agg xs.toArray)) w) : wpList P ops Q (o :: rest) a w := wpL_get R hw x ho b xs hx hl H.out.at3 h
theorem put3 {b : Nat} {ys : List Value} (R : RT P T k z) (H : Hid (M N w0 w (x0 :: x1 :: x2 :: ⟨b, T, ys⟩ :: L))) (hgd : o.guard = none) (x y : Operand) (xs : List Value) (ho : o.op = .store T x y) (hx : a.eval x = .pointer (some ⟨b, 0, none⟩)) (hy : a.eval y = .agg xs.toArray) (hl : xs.length = k)
    (h1 : ∀ v ∈ xs, v.oneCell' = true) (hl2 : ys.length = k)
    (h : ∀ W, Hid (M N w0 W (x0 :: x1 :: x2 :: ⟨b, T, xs⟩ :: L)) → Stp b w W → wpList P ops Q rest (a.put o.dst undef) W) : wpList P ops Q (o :: rest) a w :=
  wpL_put R hgd x y ho b xs hx hy hl h1 ys hl2 H.out.at3 fun W ha st => h W (hidp (H.out.put3 ha st)) st
theorem putF3 {b t : Nat} {ys : List Value} (H : Hid (M N w0 w (x0 :: x1 :: x2 :: ⟨b, t, ys⟩ :: L))) (hgd : o.guard = none) (ty : TypeId) (x y : Operand) (f : Nat) (v : Value) (ho : o.op = .store ty x y) (hx : a.eval x = .pointer (some ⟨b, f, none⟩)) (hy : a.eval y = v) (hs : (P.info? ty).map (·.size) = some 1) (h1 : v.oneCell' = true) (hf : f < ys.length)
    (h : ∀ W, Hid (M N w0 W (x0 :: x1 :: x2 :: ⟨b, t, ys.set f v⟩ :: L)) → Stp b w W → wpList P ops Q rest (a.put o.dst undef) W) : wpList P ops Q (o :: rest) a w :=
  wpL_putF hgd ty x y ho b f v hx hy hs h1 ys H.out.at3 hf fun W ha st => h W (hidp (H.out.put3 ha st)) st
end
section
variable {P : Program} {T k : Nat} {z : List Value} {ops : Array Oper} {o : Oper} {a : Act} {Q : Exit → Act → World → Prop} {S : World → Prop} {j : Nat} {s : Scr} {K : Act → World → Prop} {x0 x1 x2 : Bx} 
end
theorem M.at4 {x0 x1 x2 x3 : Bx} {b t : Nat} {r : List Value} (h : M N w0 w (x0 :: x1 :: x2 :: x3 :: ⟨b, t, r⟩ :: L)) : Arr w b t r := h.has ⟨b, t, r⟩ (by simp)
section
variable {P : Program} {T k : Nat} {z : List Value} {ops : Array Oper} {rest : List Oper} {o : Oper} {a : Act} {Q : Exit → Act → World → Prop} {x0 x1 x2 x3 : Bx} 
end
section
variable {P : Program} {T k : Nat} {z : List Value} {ops : Array Oper} {o : Oper} {a : Act} {Q : Exit → Act → World → Prop} {S : World → Prop} {j : Nat} {s : Scr} {K : Act → World → Prop} {x0 x1 x2 x3 : Bx} 
end
section
variable {P : Program} {T k : Nat} {z : List Value} {ops : Array Oper} {rest : List Oper} {o : Oper} {a : Act} {Q : Exit → Act → World → Prop} {x0 x1 x2 x3 x4 : Bx} 
end
section
variable {P : Program} {T k : Nat} {z : List Value} {ops : Array Oper} {o : Oper} {a : Act} {Q : Exit → Act → World → Prop} {S : World → Prop} {j : Nat} {s : Scr} {K : Act → World → Prop} {x0 x1 x2 x3 x4 : Bx} 
end
section
variable {P : Program} {T k : Nat} {z : List Value} {ops : Array Oper} {rest : List Oper} {o : Oper} {a : Act} {Q : Exit → Act → World → Prop} {x0 x1 x2 x3 x4 x5 : Bx} 
end
section
variable {P : Program} {T k : Nat} {z : List Value} {ops : Array Oper} {o : Oper} {a : Act} {Q : Exit → Act → World → Prop} {S : World → Prop} {j : Nat} {s : Scr} {K : Act → World → Prop} {x0 x1 x2 x3 x4 x5 : Bx} 
end
section
variable {P : Program} {T k : Nat} {z : List Value} {ops : Array Oper} {rest : List Oper} {o : Oper} {a : Act} {Q : Exit → Act → World → Prop} {x0 x1 x2 x3 x4 x5 x6 : Bx} 
end
section
variable {P : Program} {T k : Nat} {z : List Value} {ops : Array Oper} {o : Oper} {a : Act} {Q : Exit → Act → World → Prop} {S : World → Prop} {j : Nat} {s : Scr} {K : Act → World → Prop} {x0 x1 x2 x3 x4 x5 x6 : Bx} 
end
section
variable {P : Program} {T k : Nat} {z : List Value} {ops : Array Oper} {rest : List Oper} {o : Oper} {a : Act} {Q : Exit → Act → World → Prop} {x0 x1 x2 x3 x4 x5 x6 x7 : Bx} 
end
section
variable {P : Program} {T k : Nat} {z : List Value} {ops : Array Oper} {o : Oper} {a : Act} {Q : Exit → Act → World → Prop} {S : World → Prop} {j : Nat} {s : Scr} {K : Act → World → Prop} {x0 x1 x2 x3 x4 x5 x6 x7 : Bx} 
end
end Go.Proofs.YtfenjincbhkodaaGreatDoor.Mm

namespace Go.Proofs.YtfenjincbhkodaaGreatDoor.Ho
set_option maxRecDepth 100000
set_option linter.unusedVariables false
set_option linter.unusedSimpArgs false
open Go.RowKit
open List (getElem_toArray getElem_cons_zero getElem_cons_succ setIfInBounds_toArray set_cons_zero set_cons_succ)

/-- The tables of handover. -/
structure HT (w : World) : Prop where
  words : ∀ i, i < 3 → w.cell? ⟨3, i, none⟩ = some (.string (dwd i))
  most : ∀ i, i < 4 → w.cell? ⟨2, i, none⟩ = some (.int .i64 (([4096, 4096, 63, 63] : List Int).getD i 0))
theorem HT.below {w w' : World} (h : HT w) {B : Nat} (hb : Below B w w') (hB : w.heap.size ≤ B) : HT w' := ⟨fun i hi => by
  have g1 := World.block_lt_of_cell? w _ (h.words i hi)
  exact (hb.cell (p := ⟨3, i, none⟩) (by simp only at g1 ⊢; omega)).trans (h.words i hi), fun i hi => by
  have g1 := World.block_lt_of_cell? w _ (h.most i hi)
  exact (hb.cell (p := ⟨2, i, none⟩) (by simp only at g1 ⊢; omega)).trans (h.most i hi)⟩
def zDr : List Value := [.int .u8 0, .string ⟨#[]⟩, .int .i64 0, .int .i64 0, .int .i64 0, .int .i64 0, .string ⟨#[]⟩]
theorem rtD : Rt.RT Tryz.prog 91 7 zDr := ⟨rfl, .inl ⟨_, Tryz.underlying91⟩, by kernel_rfl⟩
def zNr : List Value := [.int .i64 0, .int .i64 0, .int .i64 0, .int .i64 0]
theorem rtN : Rt.RT Tryz.prog 115 4 zNr := ⟨rfl, .inr ⟨_, _, Tryz.underlying115⟩, by kernel_rfl⟩
theorem naS : Mm.NA Tryz.prog 9 := ⟨_, Tryz.underlying9, rfl⟩
theorem naI : Mm.NA Tryz.prog 3 := ⟨_, Tryz.underlying3, rfl⟩
theorem naDK : Mm.NA Tryz.prog 89 := ⟨_, Tryz.underlying89, rfl⟩
def kB (k : Nat) : Bool := decide (1 ≤ k ∧ k ≤ 2)
theorem kB_yes {k : Nat} (h : 1 ≤ k ∧ k ≤ 2) : kB k = true := decide_eq_true h
theorem kB_no {k : Nat} (h : ¬ (1 ≤ k ∧ k ≤ 2)) : kB k = false := decide_eq_false h

set_option maxHeartbeats 4000000 in
theorem isKind_any (w : World) (k : Nat) (hk : k < 256) :
    Calls Tryz.prog 88 #[.int .u8 (k : Int)] w fun e w' => e = .returned (.bool (kB k)) ∧ w' = w := by
  by_cases h0 : k = 0
  · have e0 : decide ((0 : Int) < (k : Int)) = false := by simp; omega
    have n0 : ¬ 0 < k := by omega
    have HF := hidp (kB_no (k := k) (by omega))
    clear h0
    go_enter Tryz.func88, Tryz.ntmps88
    go_wp2
    go_ret
    exact ⟨by rw [HF.out]; rfl, rfl⟩
  · have e0 : decide ((0 : Int) < (k : Int)) = true := by simp; omega
    have n0 : 0 < k := by omega
    by_cases h9 : k < 3
    · have e1 : decide ((k : Int) < 3) = true := by simp; omega
      have n1 : (k : Int) < 3 := by omega
      have HF := hidp (kB_yes (k := k) (by omega))
      clear h0 h9
      go_enter Tryz.func88, Tryz.ntmps88
      go_wp2
      go_ret
      exact ⟨by rw [HF.out]; rfl, rfl⟩
    · have e1 : decide ((k : Int) < 3) = false := by simp; omega
      have n1 : ¬ (k : Int) < 3 := by omega
      have HF := hidp (kB_no (k := k) (by omega))
      clear h0 h9
      go_enter Tryz.func88, Tryz.ntmps88
      go_wp2
      go_ret
      exact ⟨by rw [HF.out]; rfl, rfl⟩

theorem kOf_eq {t : ByteArray} {k : Nat} (h1 : 1 ≤ k) (h2 : k ≤ 2) (h : dwd k = t) : kOf t = k := by rw [← h]; exact kOf_hw (by omega)
theorem kOf_none {t : ByteArray} (h : ∀ k, 1 ≤ k → k ≤ 2 → dwd k ≠ t) : kOf t = 0 := by
  unfold kOf
  rw [if_neg (fun g => h 1 (by omega) (by omega) g.symm), if_neg (fun g => h 2 (by omega) (by omega) g.symm)]
set_option maxHeartbeats 4000000 in
theorem kindOf_any (w : World) (t : ByteArray) (hT : HT w) :
    Calls Tryz.prog 75 #[.string t] w fun e w' => e = .returned (.int .u8 (kOf t : Nat)) ∧ w' = w := by
  have HW := hidp hT.words; clear hT
  obtain ⟨K, hK⟩ : ∃ K, kOf t = K := ⟨_, rfl⟩
  rw [hK]
  have HK := hidp hK; clear hK
  go_enter Tryz.func75, Tryz.ntmps75
  go_wp2
  go_loop [3] (fun t3 => ∃ k : Nat, t3 = .int .u8 (k : Int) ∧ 1 ≤ k ∧ k ≤ 3 ∧ ∀ j, 1 ≤ j → j < k → dwd j ≠ t) (fun t3 => 3 - (intOf t3).toNat)
  case atStart => exact ⟨1, rfl, by omega, by omega, fun j h1 h2 => by omega⟩
  case round =>
    obtain ⟨k, rfl, h1, h9, hall⟩ := hrel
    have HALL := hidp hall; clear hall
    by_cases hl : k < 3
    · have e0 : decide ((k : Int) < 3) = true := by simp; omega
      have n0 : (k : Int) < 3 := by omega
      have c0 : (0 : Int) ≤ (k : Int) := by omega
      have m1 := HW.out k hl
      by_cases hwt : dwd k = t
      · have HF := hidp (HK.out.symm.trans (kOf_eq h1 (by omega) hwt))
        rw [hwt] at m1
        clear hwt
        go_wp2
        go_ret
        exact ⟨by rw [HF.out]; rfl, rfl⟩
      · have hq := toList_no hwt
        obtain ⟨X, hX⟩ : ∃ X, dwd k = X := ⟨_, rfl⟩
        rw [hX] at m1 hq
        have HN := hidp hwt
        clear hwt hX
        have hw1 : IntKind.u8.wrap ((k : Int) + 1) = (k : Int) + 1 := by unfold IntKind.wrap; simp [IntKind.bits, IntKind.signed]; omega
        go_wp2
        refine ⟨⟨k + 1, by go_num, by omega, by omega, fun j g1 g2 => ?_⟩, by simp [intOf]; omega⟩
        by_cases hjk : j = k
        · subst hjk; exact HN.out
        · exact HALL.out j g1 (by omega)
    · have e0 : decide ((k : Int) < 3) = false := by simp; omega
      have n0 : ¬ (k : Int) < 3 := by omega
      have HF := hidp (HK.out.symm.trans (kOf_none fun j g1 g2 => HALL.out j g1 (by omega)))
      go_wp2
      go_ret
      exact ⟨by rw [HF.out]; rfl, rfl⟩

set_option maxHeartbeats 4000000 in
theorem numbersOf_any (w : World) (k : Nat) (r : ByteArray) (ep ix hu nx : Int) (sg : ByteArray) :
    Calls Tryz.prog 90 #[.agg (⟨k, r, ep, ix, hu, nx, sg⟩ : De).row.toArray] w fun e w' => e = .returned (.agg #[.int .i64 ep, .int .i64 ix, .int .i64 hu, .int .i64 nx]) ∧ Below w.heap.size w w' := by
  show Calls Tryz.prog 90 #[.agg #[.int .u8 (k : Int), .string r, .int .i64 ep, .int .i64 ix, .int .i64 hu, .int .i64 nx, .string sg]] w _
  have H := hidp (Mm.M.nil w)
  go_enter Tryz.func90, Tryz.ntmps90
  have tk0 := hidp trivial
  go_wp2_with (first | (clear tk0; (refine Mm.box 91 H rfl (.tmp 0) rfl [.int .u8 (k : Int), .string r, .int .i64 ep, .int .i64 ix, .int .i64 hu, .int .i64 nx, .string sg] rfl ?_; clear H; intro b1 _ H nw; have hb := nw.below; clear hb nw); (try simp only [Act.put, setIfInBounds_toArray, set_cons_zero, set_cons_succ]); have tk1 := hidp trivial) | (clear tk1; (refine Mm.new rtN H (some 2) rfl rfl rfl ?_; clear H; intro b2 _ H nw; have hb := nw.below; clear hb nw); (try simp only [Act.put, setIfInBounds_toArray, set_cons_zero, set_cons_succ]); have tk2 := hidp trivial) | (clear tk2; (refine Mm.ld1 naI H rfl (.tmp 3) 2 _ rfl rfl rfl ?_); (try simp only [Act.put, setIfInBounds_toArray, set_cons_zero, set_cons_succ]); have tk3 := hidp trivial) | (clear tk3; (refine Mm.ld1 naI H rfl (.tmp 5) 3 _ rfl rfl rfl ?_); (try simp only [Act.put, setIfInBounds_toArray, set_cons_zero, set_cons_succ]); have tk4 := hidp trivial) | (clear tk4; (refine Mm.ld1 naI H rfl (.tmp 7) 4 _ rfl rfl rfl ?_); (try simp only [Act.put, setIfInBounds_toArray, set_cons_zero, set_cons_succ]); have tk5 := hidp trivial) | (clear tk5; (refine Mm.ld1 naI H rfl (.tmp 9) 5 _ rfl rfl rfl ?_); (try simp only [Act.put, setIfInBounds_toArray, set_cons_zero, set_cons_succ]); have tk6 := hidp trivial) | (clear tk6; (refine Rt.wpL_build rfl 115 _ rfl [.int .i64 ep, .int .i64 ix, .int .i64 hu, .int .i64 nx] (by kernel_rfl) ?_); (try simp only [Act.put, setIfInBounds_toArray, set_cons_zero, set_cons_succ]); have tk7 := hidp trivial) | (clear tk7; (refine Mm.put0 rtN H rfl (.tmp 2) (.tmp 11) [.int .i64 ep, .int .i64 ix, .int .i64 hu, .int .i64 nx] rfl rfl rfl rfl (by simp [Value.oneCell']) rfl ?_; intro _ H2 st; clear st H; have H := H2; clear H2); (try simp only [Act.put, setIfInBounds_toArray, set_cons_zero, set_cons_succ]); have tk8 := hidp trivial))
  try clear tk8
  refine bodyPost_ret (Mm.ret_row rtN Tryz.results90 _ b2 _ rfl H.out.at0 rfl) rfl ⟨rfl, H.out.below⟩

theorem index_num (xs : List Value) (i : Nat) (z : Int) (hi : i < 4) (hx : xs[i]? = some (.int .i64 z)) (W : World) : (Instr.index 115 (.agg xs.toArray) (.int .i64 (i : Int))).run Tryz.prog W = .ok (.int .i64 z) W := by
  have hu : Tryz.prog.underlying 115 = some (.array 4 3) := by kernel_rfl
  have hs : ∀ w, (sizeOf 3).run Tryz.prog w = .ok 1 w := fun w => by
    have h1 : (Tryz.prog.info? 3).map (·.size) = some 1 := by kernel_rfl
    obtain ⟨i0, hi0, hz⟩ := Option.map_eq_some_iff.1 h1
    simp [sizeOf, typeInfo, hi0, hz]
  have hz : (Tryz.prog.info? 3).map (fun i => (i.zero, i.size)) = some (some (.int .i64 0), 1) := by kernel_rfl
  obtain ⟨i0, hi0, hz0⟩ := Option.map_eq_some_iff.1 hz
  simp only [Prod.mk.injEq] at hz0
  have h1 : (0 : Int) ≤ (i : Int) ∧ (i : Int) < ((4 : Nat) : Int) := by omega
  simp [Instr.index, run_underlying hu, asIntOf, part, sizeOf, typeInfo, hi0, hz0.1, hz0.2, hx, hi, go_sem]
def mst (i : Nat) : Int := ([4096, 4096, 63, 63] : List Int).getD i 0
def okAt (a b c d : Int) (i : Nat) : Bool := decide (0 ≤ [a, b, c, d].getD i 0 ∧ [a, b, c, d].getD i 0 ≤ mst i)
theorem prm_all {a b c d : Int} (h : ∀ j, j < 4 → okAt a b c d j = true) : prm a b c d = true := by
  have h0 := of_decide_eq_true (h 0 (by omega)); have h1 := of_decide_eq_true (h 1 (by omega)); have h2 := of_decide_eq_true (h 2 (by omega)); have h3 := of_decide_eq_true (h 3 (by omega))
  exact decide_eq_true ⟨h0, h1, h2, h3⟩
theorem prm_not {a b c d : Int} {i : Nat} (hi : i < 4) (h : okAt a b c d i = false) : prm a b c d = false := by
  unfold prm; rw [decide_eq_false_iff_not]
  intro g
  have h' := of_decide_eq_false h
  rcases (by omega : i = 0 ∨ i = 1 ∨ i = 2 ∨ i = 3) with rfl | rfl | rfl | rfl
  · exact h' g.1
  · exact h' g.2.1
  · exact h' g.2.2.1
  · exact h' g.2.2.2
set_option maxHeartbeats 4000000 in
theorem permitted_any (w : World) (a b c d : Int) (hT : HT w) :
    Calls Tryz.prog 89 #[.agg #[.int .i64 a, .int .i64 b, .int .i64 c, .int .i64 d]] w fun e w' => e = .returned (.bool (prm a b c d)) ∧ Below w.heap.size w w' := by
  have HT' := hidp hT; clear hT
  obtain ⟨Pv, hP⟩ : ∃ Pv, prm a b c d = Pv := ⟨_, rfl⟩
  rw [hP]
  have HP := hidp hP; clear hP
  have H := hidp (Mm.M.nil w)
  go_enter Tryz.func89, Tryz.ntmps89
  have tk0 := hidp trivial
  go_wp2_with (first | (clear tk0; (refine Mm.box 115 H rfl (.tmp 0) rfl [.int .i64 a, .int .i64 b, .int .i64 c, .int .i64 d] rfl ?_; clear H; intro b1 _ H nw; have hb := nw.below; clear hb nw); (try simp only [Act.put, setIfInBounds_toArray, set_cons_zero, set_cons_succ]); have tk1 := hidp trivial) | (clear tk1; (refine Mm.get0 rtN H rfl (.tmp 1) rfl rfl rfl ?_); (try simp only [Act.put, setIfInBounds_toArray, set_cons_zero, set_cons_succ]); have tk2 := hidp trivial))
  try clear tk2
  go_loopw [6] (fun t6 wr => ∃ i : Nat, t6 = .int .i64 (i : Int) ∧ i ≤ 4 ∧ (∀ j, j < i → okAt a b c d j = true) ∧ Below w.heap.size w wr) (fun t6 _ => 4 - (intOf t6).toNat)
  case atStart => exact ⟨0, rfl, by omega, fun j h => by omega, H.out.below⟩
  case round =>
    clear H
    obtain ⟨i, rfl, hi, hal, hM⟩ := hrel
    have HAL := hidp hal; have HB := hidp hM
    clear hal hM
    by_cases hlt : i < 4
    · have e1 : decide ((i : Int) < 4) = true := by simp; omega
      have c0 : (0 : Int) ≤ (i : Int) := by omega
      have c1 : (i : Int) < 4 := by omega
      have m1 : wr.cell? ⟨2, i, none⟩ = some (.int .i64 (mst i)) := (HT'.out.below HB.out (Nat.le_refl _)).most i hlt
      obtain ⟨x, hx⟩ : ∃ x, [a, b, c, d].getD i 0 = x := ⟨_, rfl⟩
      have hix := index_num [.int .i64 a, .int .i64 b, .int .i64 c, .int .i64 d] i x hlt (by rw [← hx]; rcases (by omega : i = 0 ∨ i = 1 ∨ i = 2 ∨ i = 3) with rfl | rfl | rfl | rfl <;> rfl) wr
      have hok : okAt a b c d i = decide (0 ≤ x ∧ x ≤ mst i) := by unfold okAt; rw [hx]
      clear hx
      obtain ⟨m, hm⟩ : ∃ m, mst i = m := ⟨_, rfl⟩
      rw [hm] at m1 hok
      clear hm
      by_cases h0 : x < 0
      · have e2 : decide (x < 0) = true := decide_eq_true h0
        have HF := hidp (HP.out.symm.trans (prm_not hlt (hok.trans (decide_eq_false fun g => by omega))))
        clear hok h0
        go_wp2
        go_ret
        exact ⟨by rw [HF.out]; rfl, HB.out⟩
      · have e2 : decide (x < 0) = false := decide_eq_false h0
        by_cases h1 : x > m
        · have e3 : decide (x > m) = true := decide_eq_true h1
          have HF := hidp (HP.out.symm.trans (prm_not hlt (hok.trans (decide_eq_false fun g => by omega))))
          clear hok h0 h1
          go_wp2
          go_ret
          exact ⟨by rw [HF.out]; rfl, HB.out⟩
        · have e3 : decide (x > m) = false := decide_eq_false h1
          have HO := hidp (hok.trans (decide_eq_true ⟨by omega, by omega⟩))
          clear hok h0 h1
          go_wp2
          refine ⟨⟨i + 1, by go_num, by omega, fun j g => ?_, HB.out⟩, by simp [intOf]; omega⟩
          by_cases hj : j = i
          · subst hj; exact HO.out
          · exact HAL.out j (by omega)
    · have e1 : decide ((i : Int) < 4) = false := by simp; omega
      have HF := hidp (HP.out.symm.trans (prm_all fun j g => HAL.out j (by omega)))
      go_wp2
      go_ret
      exact ⟨by rw [HF.out]; rfl, HB.out⟩

set_option maxHeartbeats 8000000 in
theorem dcheck_any (w : World) (d : De) (hd : d.ok) (hI : IT w) (hT : HT w) :
    Calls Tryz.prog 76 #[.agg d.row.toArray] w fun e w' => e = .returned (.int .i64 (dE d)) ∧ Below w.heap.size w w' := by
  obtain ⟨k, r, ep, ix, hu, nx, sg⟩ := d
  obtain ⟨hk, hr, hs⟩ : k < 256 ∧ r.size ≤ 140737488351232 ∧ sg.size ≤ 140737488351232 := hd
  show Calls Tryz.prog 76 #[.agg #[.int .u8 (k : Int), .string r, .int .i64 ep, .int .i64 ix, .int .i64 hu, .int .i64 nx, .string sg]] w _
  have HI := hidp hI; have HT0 := hidp hT; clear hI hT
  have cr := hidp (fun W h => room_any W r (by omega) h)
  have ck := hidp (fun W => isKind_any W k hk)
  have cn := hidp (fun W => numbersOf_any W k r ep ix hu nx sg)
  have cp := hidp (fun W h => permitted_any W ep ix hu nx h)
  obtain ⟨E, hE⟩ : ∃ E, dE (⟨k, r, ep, ix, hu, nx, sg⟩ : De) = E := ⟨_, rfl⟩
  rw [hE]
  have hok : dOk (⟨k, r, ep, ix, hu, nx, sg⟩ : De) = (kB k && (who 2 r).isSome && prm ep ix hu nx && decide (hu ≠ nx) && decide (sg.size ≤ 8192)) := rfl
  have HNO : Hid (dOk (⟨k, r, ep, ix, hu, nx, sg⟩ : De) = false → E = 2) := hidp (fun h => by rw [← hE, dE_no h])
  have HYES : Hid (dOk (⟨k, r, ep, ix, hu, nx, sg⟩ : De) = true → E = 0) := hidp (fun h => by rw [← hE, dE_yes h])
  clear hE
  have H := hidp (Mm.M.nil w)
  cases hkb : kB k with
  | false =>
    rw [hkb] at ck
    have HF := hidp (HNO.out (by rw [hok, hkb]; rfl))
    obtain ⟨R, hR⟩ : ∃ R, who 2 r = R := ⟨_, rfl⟩
    rw [hR] at cr
    clear hok hkb hR
    obtain ⟨n0, q0, hq0⟩ : ∃ (n0 : Int) (q0 : Bool), whoV R = .tuple #[.int .i64 n0, .bool q0] := by cases R <;> exact ⟨_, _, rfl⟩
    rw [hq0] at cr
    clear hq0
    go_enter Tryz.func76, Tryz.ntmps76
    have tk0 := hidp trivial
    go_wp2_with (first | (clear tk0; (refine Mm.box 91 H rfl (.tmp 0) rfl [.int .u8 (k : Int), .string r, .int .i64 ep, .int .i64 ix, .int .i64 hu, .int .i64 nx, .string sg] rfl ?_; clear H; intro b1 _ H nw; have hb := nw.below; clear hb nw); (try simp only [Act.put, setIfInBounds_toArray, set_cons_zero, set_cons_succ]); have tk1 := hidp trivial) | (clear tk1; (refine Mm.ld0 naS H rfl (.tmp 6) 1 _ rfl rfl rfl ?_); (try simp only [Act.put, setIfInBounds_toArray, set_cons_zero, set_cons_succ]); have tk2 := hidp trivial) | (clear tk2; (go_at_call 69; refine (cr.out _ (HI.out.below H.out.below (Nat.le_refl _))).mono ?_; rintro e _ ⟨rfl, hb⟩; replace H := hidp (H.out.call hb); clear cr; clear hb); (try simp only [Act.put, setIfInBounds_toArray, set_cons_zero, set_cons_succ]); have tk3 := hidp trivial) | (clear tk3; (refine Mm.ld0 naDK H rfl (.tmp 11) 0 (.int .u8 (k : Int)) rfl rfl rfl ?_); (try simp only [Act.put, setIfInBounds_toArray, set_cons_zero, set_cons_succ]); have tk4 := hidp trivial) | (clear tk4; (go_at_call 88; refine (ck.out _).mono ?_; rintro e _ ⟨rfl, rfl⟩; clear ck); (try simp only [Act.put, setIfInBounds_toArray, set_cons_zero, set_cons_succ]); have tk5 := hidp trivial) | (clear tk5; (refine Mm.skipd 16 rfl _ _ rfl rfl ?_); (try simp only [Act.put, setIfInBounds_toArray, set_cons_zero, set_cons_succ]); have tk6 := hidp trivial) | (clear tk6; (refine Mm.skipd 17 rfl _ _ rfl rfl ?_); (try simp only [Act.put, setIfInBounds_toArray, set_cons_zero, set_cons_succ]); have tk7 := hidp trivial) | (clear tk7; (refine Mm.skipd 20 rfl _ _ rfl rfl ?_); (try simp only [Act.put, setIfInBounds_toArray, set_cons_zero, set_cons_succ]); have tk8 := hidp trivial) | (clear tk8; (refine Mm.skipd 21 rfl _ _ rfl rfl ?_); (try simp only [Act.put, setIfInBounds_toArray, set_cons_zero, set_cons_succ]); have tk9 := hidp trivial) | (clear tk9; (refine Mm.skipd 22 rfl _ _ rfl rfl ?_); (try simp only [Act.put, setIfInBounds_toArray, set_cons_zero, set_cons_succ]); have tk10 := hidp trivial) | (clear tk10; (refine Mm.skipd 23 rfl _ _ rfl rfl ?_); (try simp only [Act.put, setIfInBounds_toArray, set_cons_zero, set_cons_succ]); have tk11 := hidp trivial) | (clear tk11; (refine Mm.skipd 26 rfl _ _ rfl rfl ?_); (try simp only [Act.put, setIfInBounds_toArray, set_cons_zero, set_cons_succ]); have tk12 := hidp trivial) | (clear tk12; (refine Mm.skipd 27 rfl _ _ rfl rfl ?_); (try simp only [Act.put, setIfInBounds_toArray, set_cons_zero, set_cons_succ]); have tk13 := hidp trivial) | (clear tk13; (refine Mm.skipd 28 rfl _ _ rfl rfl ?_); (try simp only [Act.put, setIfInBounds_toArray, set_cons_zero, set_cons_succ]); have tk14 := hidp trivial) | (clear tk14; (refine Mm.skipd 29 rfl _ _ rfl rfl ?_); (try simp only [Act.put, setIfInBounds_toArray, set_cons_zero, set_cons_succ]); have tk15 := hidp trivial) | (clear tk15; (refine Mm.skipd 30 rfl _ _ rfl rfl ?_); (try simp only [Act.put, setIfInBounds_toArray, set_cons_zero, set_cons_succ]); have tk16 := hidp trivial) | (clear tk16; (refine Mm.skipd 33 rfl _ _ rfl rfl ?_); (try simp only [Act.put, setIfInBounds_toArray, set_cons_zero, set_cons_succ]); have tk17 := hidp trivial) | (clear tk17; (refine Mm.skipd 34 rfl _ _ rfl rfl ?_); (try simp only [Act.put, setIfInBounds_toArray, set_cons_zero, set_cons_succ]); have tk18 := hidp trivial) | (clear tk18; (refine Mm.skipd 35 rfl _ _ rfl rfl ?_); (try simp only [Act.put, setIfInBounds_toArray, set_cons_zero, set_cons_succ]); have tk19 := hidp trivial) | (clear tk19; (refine Mm.skipd 36 rfl _ _ rfl rfl ?_); (try simp only [Act.put, setIfInBounds_toArray, set_cons_zero, set_cons_succ]); have tk20 := hidp trivial))
    try clear tk20
    go_ret
    exact ⟨by rw [HF.out]; rfl, H.out.below⟩
  | true =>
    rw [hkb] at ck
    cases hR : who 2 r with
    | none =>
      rw [hR] at cr
      have HF := hidp (HNO.out (by rw [hok, hkb, hR]; rfl))
      clear hok hkb hR
      unfold whoV at cr
      go_enter Tryz.func76, Tryz.ntmps76
      have tk0 := hidp trivial
      go_wp2_with (first | (clear tk0; (refine Mm.box 91 H rfl (.tmp 0) rfl [.int .u8 (k : Int), .string r, .int .i64 ep, .int .i64 ix, .int .i64 hu, .int .i64 nx, .string sg] rfl ?_; clear H; intro b1 _ H nw; have hb := nw.below; clear hb nw); (try simp only [Act.put, setIfInBounds_toArray, set_cons_zero, set_cons_succ]); have tk1 := hidp trivial) | (clear tk1; (refine Mm.ld0 naS H rfl (.tmp 6) 1 _ rfl rfl rfl ?_); (try simp only [Act.put, setIfInBounds_toArray, set_cons_zero, set_cons_succ]); have tk2 := hidp trivial) | (clear tk2; (go_at_call 69; refine (cr.out _ (HI.out.below H.out.below (Nat.le_refl _))).mono ?_; rintro e _ ⟨rfl, hb⟩; replace H := hidp (H.out.call hb); clear cr; clear hb); (try simp only [Act.put, setIfInBounds_toArray, set_cons_zero, set_cons_succ]); have tk3 := hidp trivial) | (clear tk3; (refine Mm.ld0 naDK H rfl (.tmp 11) 0 (.int .u8 (k : Int)) rfl rfl rfl ?_); (try simp only [Act.put, setIfInBounds_toArray, set_cons_zero, set_cons_succ]); have tk4 := hidp trivial) | (clear tk4; (go_at_call 88; refine (ck.out _).mono ?_; rintro e _ ⟨rfl, rfl⟩; clear ck); (try simp only [Act.put, setIfInBounds_toArray, set_cons_zero, set_cons_succ]); have tk5 := hidp trivial) | (clear tk5; (refine Mm.skipd 20 rfl _ _ rfl rfl ?_); (try simp only [Act.put, setIfInBounds_toArray, set_cons_zero, set_cons_succ]); have tk6 := hidp trivial) | (clear tk6; (refine Mm.skipd 21 rfl _ _ rfl rfl ?_); (try simp only [Act.put, setIfInBounds_toArray, set_cons_zero, set_cons_succ]); have tk7 := hidp trivial) | (clear tk7; (refine Mm.skipd 22 rfl _ _ rfl rfl ?_); (try simp only [Act.put, setIfInBounds_toArray, set_cons_zero, set_cons_succ]); have tk8 := hidp trivial) | (clear tk8; (refine Mm.skipd 23 rfl _ _ rfl rfl ?_); (try simp only [Act.put, setIfInBounds_toArray, set_cons_zero, set_cons_succ]); have tk9 := hidp trivial) | (clear tk9; (refine Mm.skipd 26 rfl _ _ rfl rfl ?_); (try simp only [Act.put, setIfInBounds_toArray, set_cons_zero, set_cons_succ]); have tk10 := hidp trivial) | (clear tk10; (refine Mm.skipd 27 rfl _ _ rfl rfl ?_); (try simp only [Act.put, setIfInBounds_toArray, set_cons_zero, set_cons_succ]); have tk11 := hidp trivial) | (clear tk11; (refine Mm.skipd 28 rfl _ _ rfl rfl ?_); (try simp only [Act.put, setIfInBounds_toArray, set_cons_zero, set_cons_succ]); have tk12 := hidp trivial) | (clear tk12; (refine Mm.skipd 29 rfl _ _ rfl rfl ?_); (try simp only [Act.put, setIfInBounds_toArray, set_cons_zero, set_cons_succ]); have tk13 := hidp trivial) | (clear tk13; (refine Mm.skipd 30 rfl _ _ rfl rfl ?_); (try simp only [Act.put, setIfInBounds_toArray, set_cons_zero, set_cons_succ]); have tk14 := hidp trivial) | (clear tk14; (refine Mm.skipd 33 rfl _ _ rfl rfl ?_); (try simp only [Act.put, setIfInBounds_toArray, set_cons_zero, set_cons_succ]); have tk15 := hidp trivial) | (clear tk15; (refine Mm.skipd 34 rfl _ _ rfl rfl ?_); (try simp only [Act.put, setIfInBounds_toArray, set_cons_zero, set_cons_succ]); have tk16 := hidp trivial) | (clear tk16; (refine Mm.skipd 35 rfl _ _ rfl rfl ?_); (try simp only [Act.put, setIfInBounds_toArray, set_cons_zero, set_cons_succ]); have tk17 := hidp trivial) | (clear tk17; (refine Mm.skipd 36 rfl _ _ rfl rfl ?_); (try simp only [Act.put, setIfInBounds_toArray, set_cons_zero, set_cons_succ]); have tk18 := hidp trivial))
      try clear tk18
      go_ret
      exact ⟨by rw [HF.out]; rfl, H.out.below⟩
    | some n0 =>
      rw [hR] at cr
      unfold whoV at cr
      cases hp : prm ep ix hu nx with
      | false =>
        rw [hp] at cp
        have HF := hidp (HNO.out (by rw [hok, hp]; simp))
        clear hok hkb hR hp
        go_enter Tryz.func76, Tryz.ntmps76
        have tk0 := hidp trivial
        go_wp2_with (first | (clear tk0; (refine Mm.box 91 H rfl (.tmp 0) rfl [.int .u8 (k : Int), .string r, .int .i64 ep, .int .i64 ix, .int .i64 hu, .int .i64 nx, .string sg] rfl ?_; clear H; intro b1 _ H nw; have hb := nw.below; clear hb nw); (try simp only [Act.put, setIfInBounds_toArray, set_cons_zero, set_cons_succ]); have tk1 := hidp trivial) | (clear tk1; (refine Mm.ld0 naS H rfl (.tmp 6) 1 _ rfl rfl rfl ?_); (try simp only [Act.put, setIfInBounds_toArray, set_cons_zero, set_cons_succ]); have tk2 := hidp trivial) | (clear tk2; (go_at_call 69; refine (cr.out _ (HI.out.below H.out.below (Nat.le_refl _))).mono ?_; rintro e _ ⟨rfl, hb⟩; replace H := hidp (H.out.call hb); clear cr; clear hb); (try simp only [Act.put, setIfInBounds_toArray, set_cons_zero, set_cons_succ]); have tk3 := hidp trivial) | (clear tk3; (refine Mm.ld0 naDK H rfl (.tmp 11) 0 (.int .u8 (k : Int)) rfl rfl rfl ?_); (try simp only [Act.put, setIfInBounds_toArray, set_cons_zero, set_cons_succ]); have tk4 := hidp trivial) | (clear tk4; (go_at_call 88; refine (ck.out _).mono ?_; rintro e _ ⟨rfl, rfl⟩; clear ck); (try simp only [Act.put, setIfInBounds_toArray, set_cons_zero, set_cons_succ]); have tk5 := hidp trivial) | (clear tk5; (refine Mm.get0 rtD H rfl (.tmp 1) rfl rfl rfl ?_); (try simp only [Act.put, setIfInBounds_toArray, set_cons_zero, set_cons_succ]); have tk6 := hidp trivial) | (clear tk6; (go_at_call 90; refine (cn.out _).mono ?_; rintro e _ ⟨rfl, hb⟩; replace H := hidp (H.out.call hb); clear cn; clear hb); (try simp only [Act.put, setIfInBounds_toArray, set_cons_zero, set_cons_succ]); have tk7 := hidp trivial) | (clear tk7; (go_at_call 89; refine (cp.out _ (HT0.out.below H.out.below (Nat.le_refl _))).mono ?_; rintro e _ ⟨rfl, hb⟩; replace H := hidp (H.out.call hb); clear cp; clear hb); (try simp only [Act.put, setIfInBounds_toArray, set_cons_zero, set_cons_succ]); have tk8 := hidp trivial) | (clear tk8; (refine Mm.skipd 26 rfl _ _ rfl rfl ?_); (try simp only [Act.put, setIfInBounds_toArray, set_cons_zero, set_cons_succ]); have tk9 := hidp trivial) | (clear tk9; (refine Mm.skipd 27 rfl _ _ rfl rfl ?_); (try simp only [Act.put, setIfInBounds_toArray, set_cons_zero, set_cons_succ]); have tk10 := hidp trivial) | (clear tk10; (refine Mm.skipd 28 rfl _ _ rfl rfl ?_); (try simp only [Act.put, setIfInBounds_toArray, set_cons_zero, set_cons_succ]); have tk11 := hidp trivial) | (clear tk11; (refine Mm.skipd 29 rfl _ _ rfl rfl ?_); (try simp only [Act.put, setIfInBounds_toArray, set_cons_zero, set_cons_succ]); have tk12 := hidp trivial) | (clear tk12; (refine Mm.skipd 30 rfl _ _ rfl rfl ?_); (try simp only [Act.put, setIfInBounds_toArray, set_cons_zero, set_cons_succ]); have tk13 := hidp trivial) | (clear tk13; (refine Mm.skipd 33 rfl _ _ rfl rfl ?_); (try simp only [Act.put, setIfInBounds_toArray, set_cons_zero, set_cons_succ]); have tk14 := hidp trivial) | (clear tk14; (refine Mm.skipd 34 rfl _ _ rfl rfl ?_); (try simp only [Act.put, setIfInBounds_toArray, set_cons_zero, set_cons_succ]); have tk15 := hidp trivial) | (clear tk15; (refine Mm.skipd 35 rfl _ _ rfl rfl ?_); (try simp only [Act.put, setIfInBounds_toArray, set_cons_zero, set_cons_succ]); have tk16 := hidp trivial) | (clear tk16; (refine Mm.skipd 36 rfl _ _ rfl rfl ?_); (try simp only [Act.put, setIfInBounds_toArray, set_cons_zero, set_cons_succ]); have tk17 := hidp trivial))
        try clear tk17
        go_ret
        exact ⟨by rw [HF.out]; rfl, H.out.below⟩
      | true =>
        rw [hp] at cp
        by_cases he : hu = nx
        · have e1 : (hu == nx) = true := by rw [he]; simp
          have HF := hidp (HNO.out (by rw [hok, decide_eq_false (fun g => g he)]; simp))
          clear hok hkb hR hp he
          go_enter Tryz.func76, Tryz.ntmps76
          have tk0 := hidp trivial
          go_wp2_with (first | (clear tk0; (refine Mm.box 91 H rfl (.tmp 0) rfl [.int .u8 (k : Int), .string r, .int .i64 ep, .int .i64 ix, .int .i64 hu, .int .i64 nx, .string sg] rfl ?_; clear H; intro b1 _ H nw; have hb := nw.below; clear hb nw); (try simp only [Act.put, setIfInBounds_toArray, set_cons_zero, set_cons_succ]); have tk1 := hidp trivial) | (clear tk1; (refine Mm.ld0 naS H rfl (.tmp 6) 1 _ rfl rfl rfl ?_); (try simp only [Act.put, setIfInBounds_toArray, set_cons_zero, set_cons_succ]); have tk2 := hidp trivial) | (clear tk2; (go_at_call 69; refine (cr.out _ (HI.out.below H.out.below (Nat.le_refl _))).mono ?_; rintro e _ ⟨rfl, hb⟩; replace H := hidp (H.out.call hb); clear cr; clear hb); (try simp only [Act.put, setIfInBounds_toArray, set_cons_zero, set_cons_succ]); have tk3 := hidp trivial) | (clear tk3; (refine Mm.ld0 naDK H rfl (.tmp 11) 0 (.int .u8 (k : Int)) rfl rfl rfl ?_); (try simp only [Act.put, setIfInBounds_toArray, set_cons_zero, set_cons_succ]); have tk4 := hidp trivial) | (clear tk4; (go_at_call 88; refine (ck.out _).mono ?_; rintro e _ ⟨rfl, rfl⟩; clear ck); (try simp only [Act.put, setIfInBounds_toArray, set_cons_zero, set_cons_succ]); have tk5 := hidp trivial) | (clear tk5; (refine Mm.get0 rtD H rfl (.tmp 1) rfl rfl rfl ?_); (try simp only [Act.put, setIfInBounds_toArray, set_cons_zero, set_cons_succ]); have tk6 := hidp trivial) | (clear tk6; (go_at_call 90; refine (cn.out _).mono ?_; rintro e _ ⟨rfl, hb⟩; replace H := hidp (H.out.call hb); clear cn; clear hb); (try simp only [Act.put, setIfInBounds_toArray, set_cons_zero, set_cons_succ]); have tk7 := hidp trivial) | (clear tk7; (go_at_call 89; refine (cp.out _ (HT0.out.below H.out.below (Nat.le_refl _))).mono ?_; rintro e _ ⟨rfl, hb⟩; replace H := hidp (H.out.call hb); clear cp; clear hb); (try simp only [Act.put, setIfInBounds_toArray, set_cons_zero, set_cons_succ]); have tk8 := hidp trivial) | (clear tk8; (refine Mm.ld0 naI H rfl (.tmp 26) 4 _ rfl rfl rfl ?_); (try simp only [Act.put, setIfInBounds_toArray, set_cons_zero, set_cons_succ]); have tk9 := hidp trivial) | (clear tk9; (refine Mm.ld0 naI H rfl (.tmp 28) 5 _ rfl rfl rfl ?_); (try simp only [Act.put, setIfInBounds_toArray, set_cons_zero, set_cons_succ]); have tk10 := hidp trivial) | (clear tk10; (refine Mm.skipd 33 rfl _ _ rfl rfl ?_); (try simp only [Act.put, setIfInBounds_toArray, set_cons_zero, set_cons_succ]); have tk11 := hidp trivial) | (clear tk11; (refine Mm.skipd 34 rfl _ _ rfl rfl ?_); (try simp only [Act.put, setIfInBounds_toArray, set_cons_zero, set_cons_succ]); have tk12 := hidp trivial) | (clear tk12; (refine Mm.skipd 35 rfl _ _ rfl rfl ?_); (try simp only [Act.put, setIfInBounds_toArray, set_cons_zero, set_cons_succ]); have tk13 := hidp trivial) | (clear tk13; (refine Mm.skipd 36 rfl _ _ rfl rfl ?_); (try simp only [Act.put, setIfInBounds_toArray, set_cons_zero, set_cons_succ]); have tk14 := hidp trivial))
          try clear tk14
          go_ret
          exact ⟨by rw [HF.out]; rfl, H.out.below⟩
        · have e1 : (hu == nx) = false := by rw [beq_eq_false_iff_ne]; exact he
          by_cases hg : sg.size ≤ 8192
          · have e2 : decide ((sg.size : Int) > 8192) = false := by simp; omega
            have n2 : ¬ 8192 < (sg.size : Int) := by omega
            have HF := hidp (HYES.out (by rw [hok, hkb, hR, hp, decide_eq_true he, decide_eq_true hg]; rfl))
            clear hok hkb hR hp he hg
            go_enter Tryz.func76, Tryz.ntmps76
            have tk0 := hidp trivial
            go_wp2_with (first | (clear tk0; (refine Mm.box 91 H rfl (.tmp 0) rfl [.int .u8 (k : Int), .string r, .int .i64 ep, .int .i64 ix, .int .i64 hu, .int .i64 nx, .string sg] rfl ?_; clear H; intro b1 _ H nw; have hb := nw.below; clear hb nw); (try simp only [Act.put, setIfInBounds_toArray, set_cons_zero, set_cons_succ]); have tk1 := hidp trivial) | (clear tk1; (refine Mm.ld0 naS H rfl (.tmp 6) 1 _ rfl rfl rfl ?_); (try simp only [Act.put, setIfInBounds_toArray, set_cons_zero, set_cons_succ]); have tk2 := hidp trivial) | (clear tk2; (go_at_call 69; refine (cr.out _ (HI.out.below H.out.below (Nat.le_refl _))).mono ?_; rintro e _ ⟨rfl, hb⟩; replace H := hidp (H.out.call hb); clear cr; clear hb); (try simp only [Act.put, setIfInBounds_toArray, set_cons_zero, set_cons_succ]); have tk3 := hidp trivial) | (clear tk3; (refine Mm.ld0 naDK H rfl (.tmp 11) 0 (.int .u8 (k : Int)) rfl rfl rfl ?_); (try simp only [Act.put, setIfInBounds_toArray, set_cons_zero, set_cons_succ]); have tk4 := hidp trivial) | (clear tk4; (go_at_call 88; refine (ck.out _).mono ?_; rintro e _ ⟨rfl, rfl⟩; clear ck); (try simp only [Act.put, setIfInBounds_toArray, set_cons_zero, set_cons_succ]); have tk5 := hidp trivial) | (clear tk5; (refine Mm.get0 rtD H rfl (.tmp 1) rfl rfl rfl ?_); (try simp only [Act.put, setIfInBounds_toArray, set_cons_zero, set_cons_succ]); have tk6 := hidp trivial) | (clear tk6; (go_at_call 90; refine (cn.out _).mono ?_; rintro e _ ⟨rfl, hb⟩; replace H := hidp (H.out.call hb); clear cn; clear hb); (try simp only [Act.put, setIfInBounds_toArray, set_cons_zero, set_cons_succ]); have tk7 := hidp trivial) | (clear tk7; (go_at_call 89; refine (cp.out _ (HT0.out.below H.out.below (Nat.le_refl _))).mono ?_; rintro e _ ⟨rfl, hb⟩; replace H := hidp (H.out.call hb); clear cp; clear hb); (try simp only [Act.put, setIfInBounds_toArray, set_cons_zero, set_cons_succ]); have tk8 := hidp trivial) | (clear tk8; (refine Mm.ld0 naI H rfl (.tmp 26) 4 _ rfl rfl rfl ?_); (try simp only [Act.put, setIfInBounds_toArray, set_cons_zero, set_cons_succ]); have tk9 := hidp trivial) | (clear tk9; (refine Mm.ld0 naI H rfl (.tmp 28) 5 _ rfl rfl rfl ?_); (try simp only [Act.put, setIfInBounds_toArray, set_cons_zero, set_cons_succ]); have tk10 := hidp trivial) | (clear tk10; (refine Mm.ld0 naS H rfl (.tmp 33) 6 _ rfl rfl rfl ?_); (try simp only [Act.put, setIfInBounds_toArray, set_cons_zero, set_cons_succ]); have tk11 := hidp trivial))
            try clear tk11
            go_ret
            exact ⟨by rw [HF.out]; rfl, H.out.below⟩
          · have e2 : decide ((sg.size : Int) > 8192) = true := by simp; omega
            have n2 : 8192 < (sg.size : Int) := by omega
            have HF := hidp (HNO.out (by rw [hok, decide_eq_false hg]; simp))
            clear hok hkb hR hp he hg
            go_enter Tryz.func76, Tryz.ntmps76
            have tk0 := hidp trivial
            go_wp2_with (first | (clear tk0; (refine Mm.box 91 H rfl (.tmp 0) rfl [.int .u8 (k : Int), .string r, .int .i64 ep, .int .i64 ix, .int .i64 hu, .int .i64 nx, .string sg] rfl ?_; clear H; intro b1 _ H nw; have hb := nw.below; clear hb nw); (try simp only [Act.put, setIfInBounds_toArray, set_cons_zero, set_cons_succ]); have tk1 := hidp trivial) | (clear tk1; (refine Mm.ld0 naS H rfl (.tmp 6) 1 _ rfl rfl rfl ?_); (try simp only [Act.put, setIfInBounds_toArray, set_cons_zero, set_cons_succ]); have tk2 := hidp trivial) | (clear tk2; (go_at_call 69; refine (cr.out _ (HI.out.below H.out.below (Nat.le_refl _))).mono ?_; rintro e _ ⟨rfl, hb⟩; replace H := hidp (H.out.call hb); clear cr; clear hb); (try simp only [Act.put, setIfInBounds_toArray, set_cons_zero, set_cons_succ]); have tk3 := hidp trivial) | (clear tk3; (refine Mm.ld0 naDK H rfl (.tmp 11) 0 (.int .u8 (k : Int)) rfl rfl rfl ?_); (try simp only [Act.put, setIfInBounds_toArray, set_cons_zero, set_cons_succ]); have tk4 := hidp trivial) | (clear tk4; (go_at_call 88; refine (ck.out _).mono ?_; rintro e _ ⟨rfl, rfl⟩; clear ck); (try simp only [Act.put, setIfInBounds_toArray, set_cons_zero, set_cons_succ]); have tk5 := hidp trivial) | (clear tk5; (refine Mm.get0 rtD H rfl (.tmp 1) rfl rfl rfl ?_); (try simp only [Act.put, setIfInBounds_toArray, set_cons_zero, set_cons_succ]); have tk6 := hidp trivial) | (clear tk6; (go_at_call 90; refine (cn.out _).mono ?_; rintro e _ ⟨rfl, hb⟩; replace H := hidp (H.out.call hb); clear cn; clear hb); (try simp only [Act.put, setIfInBounds_toArray, set_cons_zero, set_cons_succ]); have tk7 := hidp trivial) | (clear tk7; (go_at_call 89; refine (cp.out _ (HT0.out.below H.out.below (Nat.le_refl _))).mono ?_; rintro e _ ⟨rfl, hb⟩; replace H := hidp (H.out.call hb); clear cp; clear hb); (try simp only [Act.put, setIfInBounds_toArray, set_cons_zero, set_cons_succ]); have tk8 := hidp trivial) | (clear tk8; (refine Mm.ld0 naI H rfl (.tmp 26) 4 _ rfl rfl rfl ?_); (try simp only [Act.put, setIfInBounds_toArray, set_cons_zero, set_cons_succ]); have tk9 := hidp trivial) | (clear tk9; (refine Mm.ld0 naI H rfl (.tmp 28) 5 _ rfl rfl rfl ?_); (try simp only [Act.put, setIfInBounds_toArray, set_cons_zero, set_cons_succ]); have tk10 := hidp trivial) | (clear tk10; (refine Mm.ld0 naS H rfl (.tmp 33) 6 _ rfl rfl rfl ?_); (try simp only [Act.put, setIfInBounds_toArray, set_cons_zero, set_cons_succ]); have tk11 := hidp trivial))
            try clear tk11
            go_ret
            exact ⟨by rw [HF.out]; rfl, H.out.below⟩
end Go.Proofs.YtfenjincbhkodaaGreatDoor.Ho
