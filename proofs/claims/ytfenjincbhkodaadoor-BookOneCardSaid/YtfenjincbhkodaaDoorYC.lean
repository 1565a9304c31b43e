/-
  Joined: Mm Sl.
-/
import Derived.Test.YtfenjincbhkodaaDoorYB
import Derived.Test.YtfenjincbhkodaaDoorYA
import Derived.Deep.RegionHeld3
namespace Go.Proofs.YtfenjincbhkodaaDoor.Mm
set_option maxRecDepth 100000
set_option linter.unusedVariables false
set_option linter.unusedSimpArgs false
open Go.RowKit Go.Proofs.YtfenjincbhkodaaDoor.Rt

/-- A variable: its block, its type, its cells. -/
structure Bx where
  b : Nat
  t : Nat
  r : List Value
/-- From the world w0 on all below N stands, and these variables are there, the newest one first. -/
structure M (N : Nat) (w0 w : World) (L : List Bx) : Prop where
  below : Below N w0 w
  le : N ≤ w.heap.size
  ge : ∀ x ∈ L, N ≤ x.b
  inc : L.Pairwise (fun x y => y.b < x.b)
  has : ∀ x ∈ L, Arr w x.b x.t x.r
theorem M.nil (w : World) : M w.heap.size w w [] := ⟨Below.refl _ _, Nat.le_refl _, (fun x h => by cases h), List.Pairwise.nil, (fun x h => by cases h)⟩
variable {N : Nat} {w0 w W : World} {L : List Bx}
theorem M.call (h : M N w0 w L) (hb : Below w.heap.size w W) : M N w0 W L :=
  ⟨h.below.trans (hb.mono h.le), Nat.le_trans h.le hb.size, h.ge, h.inc, fun x hx => (h.has x hx).below hb (h.has x hx).lt⟩
theorem M.drew (h : M N w0 w L) : M N w0 { w with drawn := w.drawn + 1 } L := h.call (Below.refl _ _).drew
theorem M.new {b t : Nat} {xs : List Value} (h : M N w0 w L) (n : NewAt w W b t xs) : M N w0 W (⟨b, t, xs⟩ :: L) := by
  have hc := h.call n.below
  refine ⟨hc.below, hc.le, fun x hx => ?_, List.Pairwise.cons (fun x hx => ?_) h.inc, fun x hx => ?_⟩
  · rcases List.mem_cons.1 hx with rfl | hx
    · exact Nat.le_trans h.le n.le
    · exact h.ge x hx
  · have := (h.has x hx).lt; have := n.at_; show x.b < b; omega
  · rcases List.mem_cons.1 hx with rfl | hx
    · exact n.arr
    · exact hc.has x hx
/-- A variable that is not the newest world's, but lies behind all the others. -/
theorem M.add {b t : Nat} {xs : List Value} {m : Nat} (h : M N w0 w L) (hb : Below w.heap.size w W) (hm : w.heap.size ≤ b) (ha : Arr W b t xs) : M N w0 W (⟨b, t, xs⟩ :: L) := by
  have hc := h.call hb
  refine ⟨hc.below, hc.le, fun x hx => ?_, List.Pairwise.cons (fun x hx => ?_) h.inc, fun x hx => ?_⟩
  · rcases List.mem_cons.1 hx with rfl | hx
    · exact Nat.le_trans h.le hm
    · exact h.ge x hx
  · have := (h.has x hx).lt; show x.b < b; omega
  · rcases List.mem_cons.1 hx with rfl | hx
    · exact ha
    · exact hc.has x hx
theorem M.tail {x : Bx} (h : M N w0 w (x :: L)) : M N w0 w L := ⟨h.below, h.le, fun y hy => h.ge y (List.mem_cons_of_mem _ hy), (List.pairwise_cons.1 h.inc).2, fun y hy => h.has y (List.mem_cons_of_mem _ hy)⟩
theorem M.ne {i : Nat} {x : Bx} (h : L.Pairwise (fun x y => y.b < x.b)) (hi : L[i]? = some x) : ∀ {j : Nat} {y : Bx}, L[j]? = some y → j ≠ i → y.b ≠ x.b := by
  intro j y hj hne
  obtain ⟨h1, e1⟩ := List.getElem?_eq_some_iff.1 hi
  obtain ⟨h2, e2⟩ := List.getElem?_eq_some_iff.1 hj
  rw [List.pairwise_iff_getElem] at h
  rcases Nat.lt_or_gt_of_ne hne with hlt | hgt
  · have := h j i h2 h1 hlt; rw [e1, e2] at this; omega
  · have := h i j h1 h2 hgt; rw [e1, e2] at this; omega
theorem M.put (h : M N w0 w L) (i b t : Nat) (xs ys : List Value) (hi : L[i]? = some ⟨b, t, ys⟩) (ha : Arr W b t xs) (st : Stp b w W) : M N w0 W (L.set i ⟨b, t, xs⟩) := by
  obtain ⟨h1, e1⟩ := List.getElem?_eq_some_iff.1 hi
  have hge := h.ge _ (List.mem_of_getElem? hi)
  have mem : ∀ x ∈ L.set i ⟨b, t, xs⟩, x = ⟨b, t, xs⟩ ∨ ∃ j, L[j]? = some x ∧ j ≠ i := by
    intro x hx
    obtain ⟨j, hj, rfl⟩ := List.getElem_of_mem hx
    by_cases e : j = i
    · subst e; left; simp
    · right; refine ⟨j, ?_, e⟩
      rw [List.getElem_set_ne (by omega)]
      exact List.getElem?_eq_getElem _
  refine ⟨st.below' h.below hge, by rw [st.size]; exact h.le, fun x hx => ?_, ?_, fun x hx => ?_⟩
  · rcases mem x hx with rfl | ⟨j, hj, _⟩
    · exact hge
    · exact h.ge x (List.mem_of_getElem? hj)
  · have hp := h.inc
    rw [List.pairwise_iff_getElem] at hp ⊢
    have hb : ∀ j (hj : j < (L.set i ⟨b, t, xs⟩).length), ((L.set i ⟨b, t, xs⟩)[j]).b = (L[j]'(by simpa using hj)).b := by
      intro j hj
      by_cases e : j = i
      · subst e; simp [e1]
      · rw [List.getElem_set_ne (by omega)]
    intro j k hj hk hlt
    rw [hb j hj, hb k hk]
    exact hp j k _ _ hlt
  · rcases mem x hx with rfl | ⟨j, hj, hne⟩
    · exact ha
    · exact st.arr (M.ne h.inc hi hj hne) (h.has x (List.mem_of_getElem? hj))
/-- A type of one cell. -/
def NA (P : Program) (ty : Nat) : Prop := ∃ d, P.underlying ty = some d ∧ (match d with | .struct _ | .array _ _ => false | _ => true) = true
theorem NA.agg {P : Program} {ty : Nat} (h : NA P ty) (w : World) : (isAgg ty).run P w = .ok false w := by
  obtain ⟨d, hu, hd⟩ := h
  unfold isAgg
  rw [Sem.run_bind, run_underlying hu w]
  cases d <;> simp_all [Result.andThen]
theorem run_loadVar_one {P : Program} {ty : Nat} (h : NA P ty) (w : World) (p : Addr) (v : Value) (hc : w.cell? p = some v) : (loadVar ty p).run P w = .ok v w := by
  simp only [loadVar, Sem.run_bind, h.agg w, Result.andThen_ok, Bool.false_eq_true, if_false]
  show Sem.run P (Sem.load _ p Sem.pure) w = _
  simp [Sem.run, hc]
section
variable {P : Program} {T k : Nat} {z : List Value} {ops : Array Oper} {rest : List Oper} {o : Oper} {a : Act} {Q : Exit → Act → World → Prop}
theorem new (R : RT P T k z) (H : Hid (M N w0 w L)) (d : Option Tmp) (hd : o.dst = d) (hgd : o.guard = none) (ho : o.op = .alloc T)
    (h : ∀ b W, Hid (M N w0 W (⟨b, T, z⟩ :: L)) → NewAt w W b T z → wpList P ops Q rest (a.put o.dst (.pointer (some ⟨b, 0, none⟩))) W) : wpList P ops Q (o :: rest) a w :=
  wpL_new R d hd hgd ho fun b W n => h b W (hidp (H.out.new n)) n
theorem box (T : TypeId) (H : Hid (M N w0 w L)) (hgd : o.guard = none) (x : Operand) (ho : o.op = .box T x) (xs : List Value) (hx : a.eval x = .agg xs.toArray)
    (h : ∀ b W, Hid (M N w0 W (⟨b, T, xs⟩ :: L)) → NewAt w W b T xs → wpList P ops Q rest (a.put o.dst (.pointer (some ⟨b, 0, none⟩))) W) : wpList P ops Q (o :: rest) a w :=
  wpL_box T hgd x ho xs hx fun b W n => h b W (hidp (H.out.new n)) n
theorem ldc {ty : Nat} (hn : NA P ty) (hw : Region.wanted o (yielded ops a.tmps) = true) (x : Operand) (p : Addr) (v : Value) (ho : o.op = .load ty x) (hx : a.eval x = .pointer (some p)) (hc : w.cell? p = some v)
    (h : wpList P ops Q rest (a.put o.dst v) w) : wpList P ops Q (o :: rest) a w := by
  refine wpList_step fun K hK => ?_
  rw [if_pos hw]
  have := hK _ _ h
  unfold Oper.wp execOp
  simp only [ho, hx, Instr.loadAt, Instr.sureAddr, Sem.run_bind, Sem.run_pure, Result.andThen_ok, run_loadVar_one hn w p v hc]
  exact this
end
section
variable {P : Program} {T k : Nat} {z : List Value} {ops : Array Oper} {o : Oper} {a : Act} {Q : Exit → Act → World → Prop} {S : World → Prop} {j : Nat} {s : Scr}
theorem s_ldc {ty : Nat} (hn : NA P ty) (ho : ops[j]? = some o) (hw : Region.wanted o (yielded ops a.tmps) = true) (x : Operand) (p : Addr) (v : Value) (hop : o.op = .load ty x) (hx : a.eval x = .pointer (some p)) (hc : ∀ w, S w → w.cell? p = some v)
    (h : wpScr P ops Q s S (a.put o.dst v) w) : wpScr P ops Q (.take j s) S a w :=
  s_val ho hw (fun w hS => by
    unfold execOp
    simp only [hop, hx, Instr.loadAt, Instr.sureAddr, Sem.run_bind, Sem.run_pure, Result.andThen_ok, run_loadVar_one hn w p v (hc w hS)]) h
variable {Lc : List Bx} {K : Act → World → Prop}
/-- A region that draws its order, by a script, over a bag. -/
theorem region {id : Nat} (H : Hid (M N w0 w L)) (s : Scr) (hm : P.follows .mixedOrders = true) (hs : Region.noSelect ops = true) (hd : s.depth ≤ ops.size) (hc : s.chk .any ops (Array.replicate ops.size false) = true)
    (h : ∀ U, Hid (M N w0 U L) → Below w.heap.size w U → wpScr P ops (NoPanic Q) s (fun W => M N w0 W L) a U) : (Code.region id ops true).wp P Q a w :=
  wp_region_noPanic (wp_region_scr (S := fun W => M N w0 W L) s hm hs (fun _ _ _ _ _ h => h) hd hc H.out.drew (h _ (hidp H.out.drew) (Below.refl _ _).drew))
end
theorem M.at0 {b t : Nat} {r : List Value} (h : M N w0 w (⟨b, t, r⟩ :: L)) : Arr w b t r := h.has ⟨b, t, r⟩ (by simp)
theorem M.put0 {b t : Nat} {xs ys : List Value} (h : M N w0 w (⟨b, t, ys⟩ :: L)) (ha : Arr W b t xs) (st : Stp b w W) : M N w0 W (⟨b, t, xs⟩ :: L) := h.put 0 b t xs ys rfl ha st
section
variable {P : Program} {T k : Nat} {z : List Value} {ops : Array Oper} {rest : List Oper} {o : Oper} {a : Act} {Q : Exit → Act → World → Prop} 
theorem get0 {b : Nat} {xs : List Value} (R : RT P T k z) (H : Hid (M N w0 w (⟨b, T, xs⟩ :: L))) (hw : Region.wanted o (yielded ops a.tmps) = true) (x : Operand) (ho : o.op = .load T x) (hx : a.eval x = .pointer (some ⟨b, 0, none⟩)) (hl : xs.length = k)
    (h : wpList P ops Q rest (a.put o.dst (.agg xs.toArray)) w) : wpList P ops Q (o :: rest) a w := wpL_get R hw x ho b xs hx hl H.out.at0 h
theorem put0 {b : Nat} {ys : List Value} (R : RT P T k z) (H : Hid (M N w0 w (⟨b, T, ys⟩ :: L))) (hgd : o.guard = none) (x y : Operand) (xs : List Value) (ho : o.op = .store T x y) (hx : a.eval x = .pointer (some ⟨b, 0, none⟩)) (hy : a.eval y = .agg xs.toArray) (hl : xs.length = k)
    (h1 : ∀ v ∈ xs, v.oneCell' = true) (hl2 : ys.length = k)
    (h : ∀ W, Hid (M N w0 W (⟨b, T, xs⟩ :: L)) → Stp b w W → wpList P ops Q rest (a.put o.dst undef) W) : wpList P ops Q (o :: rest) a w :=
  wpL_put R hgd x y ho b xs hx hy hl h1 ys hl2 H.out.at0 fun W ha st => h W (hidp (H.out.put0 ha st)) st
theorem ld0 {ty b t : Nat} {xs : List Value} (hn : NA P ty) (H : Hid (M N w0 w (⟨b, t, xs⟩ :: L))) (hw : Region.wanted o (yielded ops a.tmps) = true) (x : Operand) (f : Nat) (v : Value) (ho : o.op = .load ty x) (hx : a.eval x = .pointer (some ⟨b, f, none⟩)) (hf : xs[f]? = some v)
    (h : wpList P ops Q rest (a.put o.dst v) w) : wpList P ops Q (o :: rest) a w := ldc hn hw x _ _ ho hx (by obtain ⟨h1, rfl⟩ := List.getElem?_eq_some_iff.1 hf; exact H.out.at0.cell f h1) h
end
section
variable {P : Program} {T k : Nat} {z : List Value} {ops : Array Oper} {o : Oper} {a : Act} {Q : Exit → Act → World → Prop} {S : World → Prop} {j : Nat} {s : Scr} {K : Act → World → Prop} 
theorem sld0 {ty b t : Nat} {xs : List Value} (hn : NA P ty) (hS : ∀ w, S w → M N w0 w (⟨b, t, xs⟩ :: L)) (ho : ops[j]? = some o) (hw : Region.wanted o (yielded ops a.tmps) = true) (x : Operand) (f : Nat) (v : Value) (hop : o.op = .load ty x) (hx : a.eval x = .pointer (some ⟨b, f, none⟩)) (hf : xs[f]? = some v)
    (h : wpScr P ops Q s S (a.put o.dst v) w) : wpScr P ops Q (.take j s) S a w := s_ldc hn ho hw x _ _ hop hx (fun w hs => by obtain ⟨h1, rfl⟩ := List.getElem?_eq_some_iff.1 hf; exact (hS w hs).at0.cell f h1) h
end
theorem M.at1 {x0 : Bx} {b t : Nat} {r : List Value} (h : M N w0 w (x0 :: ⟨b, t, r⟩ :: L)) : Arr w b t r := h.has ⟨b, t, r⟩ (by simp)
theorem M.put1 {x0 : Bx} {b t : Nat} {xs ys : List Value} (h : M N w0 w (x0 :: ⟨b, t, ys⟩ :: L)) (ha : Arr W b t xs) (st : Stp b w W) : M N w0 W (x0 :: ⟨b, t, xs⟩ :: L) := h.put 1 b t xs ys rfl ha st
section
variable {P : Program} {T k : Nat} {z : List Value} {ops : Array Oper} {rest : List Oper} {o : Oper} {a : Act} {Q : Exit → Act → World → Prop} {x0 : Bx} 
theorem get1 {b : Nat} {xs : List Value} (R : RT P T k z) (H : Hid (M N w0 w (x0 :: ⟨b, T, xs⟩ :: L))) (hw : Region.wanted o (yielded ops a.tmps) = true) (x : Operand) (ho : o.op = .load T x) (hx : a.eval x = .pointer (some ⟨b, 0, none⟩)) (hl : xs.length = k)
    (h : wpList P ops Q rest (a.put o.dst (.agg xs.toArray)) w) : wpList P ops Q (o :: rest) a w := wpL_get R hw x ho b xs hx hl H.out.at1 h
theorem put1 {b : Nat} {ys : List Value} (R : RT P T k z) (H : Hid (M N w0 w (x0 :: ⟨b, T, ys⟩ :: L))) (hgd : o.guard = none) (x y : Operand) (xs : List Value) (ho : o.op = .store T x y) (hx : a.eval x = .pointer (some ⟨b, 0, none⟩)) (hy : a.eval y = .agg xs.toArray) (hl : xs.length = k)
    (h1 : ∀ v ∈ xs, v.oneCell' = true) (hl2 : ys.length = k)
    (h : ∀ W, Hid (M N w0 W (x0 :: ⟨b, T, xs⟩ :: L)) → Stp b w W → wpList P ops Q rest (a.put o.dst undef) W) : wpList P ops Q (o :: rest) a w :=
  wpL_put R hgd x y ho b xs hx hy hl h1 ys hl2 H.out.at1 fun W ha st => h W (hidp (H.out.put1 ha st)) st
end
section
variable {P : Program} {T k : Nat} {z : List Value} {ops : Array Oper} {o : Oper} {a : Act} {Q : Exit → Act → World → Prop} {S : World → Prop} {j : Nat} {s : Scr} {K : Act → World → Prop} {x0 : Bx} 
end
theorem M.at2 {x0 x1 : Bx} {b t : Nat} {r : List Value} (h : M N w0 w (x0 :: x1 :: ⟨b, t, r⟩ :: L)) : Arr w b t r := h.has ⟨b, t, r⟩ (by simp)
section
variable {P : Program} {T k : Nat} {z : List Value} {ops : Array Oper} {rest : List Oper} {o : Oper} {a : Act} {Q : Exit → Act → World → Prop} {x0 x1 : Bx} 
theorem get2 {b : Nat} {xs : List Value} (R : RT P T k z) (H : Hid (M N w0 w (x0 :: x1 :: ⟨b, T, xs⟩ :: L))) (hw : Region.wanted o (yielded ops a.tmps) = true) (x : Operand) (ho : o.op = .load T x) (hx : a.eval x = .pointer (some ⟨b, 0, none⟩)) (hl : xs.length = k)
    (h : wpList P ops Q rest (a.put o.dst (.agg xs.toArray)) w) : wpList P ops Q (o :: rest) a w := wpL_get R hw x ho b xs hx hl H.out.at2 h
theorem ld2 {ty b t : Nat} {xs : List Value} (hn : NA P ty) (H : Hid (M N w0 w (x0 :: x1 :: ⟨b, t, xs⟩ :: L))) (hw : Region.wanted o (yielded ops a.tmps) = true) (x : Operand) (f : Nat) (v : Value) (ho : o.op = .load ty x) (hx : a.eval x = .pointer (some ⟨b, f, none⟩)) (hf : xs[f]? = some v)
    (h : wpList P ops Q rest (a.put o.dst v) w) : wpList P ops Q (o :: rest) a w := ldc hn hw x _ _ ho hx (by obtain ⟨h1, rfl⟩ := List.getElem?_eq_some_iff.1 hf; exact H.out.at2.cell f h1) h
end
section
variable {P : Program} {T k : Nat} {z : List Value} {ops : Array Oper} {o : Oper} {a : Act} {Q : Exit → Act → World → Prop} {S : World → Prop} {j : Nat} {s : Scr} {K : Act → World → Prop} {x0 x1 : Bx} 
end
theorem M.at3 {x0 x1 x2 : Bx} {b t : Nat} {r : List Value} (h : M N w0 w (x0 :: x1 :: x2 :: ⟨b, t, r⟩ :: L)) : Arr w b t r := h.has ⟨b, t, r⟩ (by simp)
section
variable {P : Program} {T k : Nat} {z : List Value} {ops : Array Oper} {rest : List Oper} {o : Oper} {a : Act} {Q : Exit → Act → World → Prop} {x0 x1 x2 : Bx} 
theorem get3 {b : Nat} {xs : List Value} (R : RT P T k z) (H : Hid (M N w0 w (x0 :: x1 :: x2 :: ⟨b, T, xs⟩ :: L))) (hw : Region.wanted o (yielded ops a.tmps) = true) (x : Operand) (ho : o.op = .load T x) (hx : a.eval x = .pointer (some ⟨b, 0, none⟩)) (hl : xs.length = k)
    (h : wpList P ops Q rest (a.put o.dst (.agg xs.toArray)) w) : wpList P ops Q (o :: rest) a w := wpL_get R hw x ho b xs hx hl H.out.at3 h
theorem ld3 {ty b t : Nat} {xs : List Value} (hn : NA P ty) (H : Hid (M N w0 w (x0 :: x1 :: x2 :: ⟨b, t, xs⟩ :: L))) (hw : Region.wanted o (yielded ops a.tmps) = true) (x : Operand) (f : Nat) (v : Value) (ho : o.op = .load ty x) (hx : a.eval x = .pointer (some ⟨b, f, none⟩)) (hf : xs[f]? = some v)
    (h : wpList P ops Q rest (a.put o.dst v) w) : wpList P ops Q (o :: rest) a w := ldc hn hw x _ _ ho hx (by obtain ⟨h1, rfl⟩ := List.getElem?_eq_some_iff.1 hf; exact H.out.at3.cell f h1) h
end
section
variable {P : Program} {T k : Nat} {z : List Value} {ops : Array Oper} {o : Oper} {a : Act} {Q : Exit → Act → World → Prop} {S : World → Prop} {j : Nat} {s : Scr} {K : Act → World → Prop} {x0 x1 x2 : Bx} 
end
theorem M.at4 {x0 x1 x2 x3 : Bx} {b t : Nat} {r : List Value} (h : M N w0 w (x0 :: x1 :: x2 :: x3 :: ⟨b, t, r⟩ :: L)) : Arr w b t r := h.has ⟨b, t, r⟩ (by simp)
section
variable {P : Program} {T k : Nat} {z : List Value} {ops : Array Oper} {rest : List Oper} {o : Oper} {a : Act} {Q : Exit → Act → World → Prop} {x0 x1 x2 x3 : Bx} 
theorem get4 {b : Nat} {xs : List Value} (R : RT P T k z) (H : Hid (M N w0 w (x0 :: x1 :: x2 :: x3 :: ⟨b, T, xs⟩ :: L))) (hw : Region.wanted o (yielded ops a.tmps) = true) (x : Operand) (ho : o.op = .load T x) (hx : a.eval x = .pointer (some ⟨b, 0, none⟩)) (hl : xs.length = k)
    (h : wpList P ops Q rest (a.put o.dst (.agg xs.toArray)) w) : wpList P ops Q (o :: rest) a w := wpL_get R hw x ho b xs hx hl H.out.at4 h
end
section
variable {P : Program} {T k : Nat} {z : List Value} {ops : Array Oper} {o : Oper} {a : Act} {Q : Exit → Act → World → Prop} {S : World → Prop} {j : Nat} {s : Scr} {K : Act → World → Prop} {x0 x1 x2 x3 : Bx} 
end
section
variable {P : Program} {T k : Nat} {z : List Value} {ops : Array Oper} {rest : List Oper} {o : Oper} {a : Act} {Q : Exit → Act → World → Prop} {x0 x1 x2 x3 x4 : Bx} 
end
section
variable {P : Program} {T k : Nat} {z : List Value} {ops : Array Oper} {o : Oper} {a : Act} {Q : Exit → Act → World → Prop} {S : World → Prop} {j : Nat} {s : Scr} {K : Act → World → Prop} {x0 x1 x2 x3 x4 : Bx} 
end
section
variable {P : Program} {T k : Nat} {z : List Value} {ops : Array Oper} {rest : List Oper} {o : Oper} {a : Act} {Q : Exit → Act → World → Prop} {x0 x1 x2 x3 x4 x5 : Bx} 
end
section
variable {P : Program} {T k : Nat} {z : List Value} {ops : Array Oper} {o : Oper} {a : Act} {Q : Exit → Act → World → Prop} {S : World → Prop} {j : Nat} {s : Scr} {K : Act → World → Prop} {x0 x1 x2 x3 x4 x5 : Bx} 
end
section
variable {P : Program} {T k : Nat} {z : List Value} {ops : Array Oper} {rest : List Oper} {o : Oper} {a : Act} {Q : Exit → Act → World → Prop} {x0 x1 x2 x3 x4 x5 x6 : Bx} 
end
section
variable {P : Program} {T k : Nat} {z : List Value} {ops : Array Oper} {o : Oper} {a : Act} {Q : Exit → Act → World → Prop} {S : World → Prop} {j : Nat} {s : Scr} {K : Act → World → Prop} {x0 x1 x2 x3 x4 x5 x6 : Bx} 
end
section
variable {P : Program} {T k : Nat} {z : List Value} {ops : Array Oper} {rest : List Oper} {o : Oper} {a : Act} {Q : Exit → Act → World → Prop} {x0 x1 x2 x3 x4 x5 x6 x7 : Bx} 
end
section
variable {P : Program} {T k : Nat} {z : List Value} {ops : Array Oper} {o : Oper} {a : Act} {Q : Exit → Act → World → Prop} {S : World → Prop} {j : Nat} {s : Scr} {K : Act → World → Prop} {x0 x1 x2 x3 x4 x5 x6 x7 : Bx} 
end
end Go.Proofs.YtfenjincbhkodaaDoor.Mm

namespace Go.Proofs.YtfenjincbhkodaaDoor.Sl
set_option maxRecDepth 100000
set_option linter.unusedVariables false
set_option linter.unusedSimpArgs false
open Go.RowKit
open List (getElem_toArray getElem_cons_zero getElem_cons_succ setIfInBounds_toArray set_cons_zero set_cons_succ)

theorem infoI : (Tryd.prog.info? 3).map (fun i => (i.zero, i.size, i.bytes)) = some (some (.int .i64 0), 1, 8) := by kernel_rfl
theorem tyI : Tryd.prog.underlying 34 = some (.slice 3) := Tryd.underlying34
theorem own_arr {B b T : Nat} {W : World} {row : List Value} (ha : Arr W b T row) (hB : B ≤ b) (hl : row.length ≤ 1000000) : OwnV W B T (.slice (some ⟨b, 0, none⟩) row.length row.length) row :=
  ⟨by simp, .inr ⟨b, row.length, row.toArray, rfl, hB, ha, Nat.le_refl _, by unfold maxLen; omega, by simp, by simp⟩⟩
theorem own_stp {w W : World} {B T b t : Nat} {v : Value} {l xs : List Value} (h : OwnV w B T v l) (st : Rt.Stp b w W) (ha : Arr w b t xs) (hne : t ≠ T) : OwnV W B T v l := by
  refine ⟨h.1, ?_⟩
  rcases h.2 with h0 | ⟨g, cap, cur, e, hB, hg, r⟩
  · exact .inl h0
  · refine .inr ⟨g, cap, cur, e, hB, (st.other g ?_).trans hg, r⟩
    rintro rfl
    have h1 : (Obj.cells cur T) = Obj.cells xs.toArray t := Option.some.inj (hg.symm.trans ha)
    injection h1 with _ h2
    exact hne h2.symm
theorem own_to {w w' : World} {B e : Nat} {v : Value} {l : List Value} (h : OwnV w B e v l) (hb : Below w.heap.size w w') : OwnV w' B e v l := h.kept hb (Nat.le_refl _)
theorem own_form {w : World} {B T : Nat} {v : Value} {l : List Value} (h : OwnV w B T v l) : ∃ a c, v = .slice a l.length c := by
  rcases h.2 with ⟨rfl, h0⟩ | ⟨g, cap, cur, e, r⟩
  · obtain rfl : l = [] := List.eq_nil_of_length_eq_zero (by simpa using h0)
    exact ⟨none, 0, rfl⟩
  · exact ⟨_, _, e⟩
theorem own_cells {w : World} {B T : Nat} {v : Value} {l : List Value} (h : OwnV w B T v l) (hp : 0 < l.length) : ∃ g c, v = .slice (some ⟨g, 0, none⟩) l.length c ∧ B ≤ g ∧ g < w.heap.size ∧ ∀ i (hi : i < l.length), w.cell? ⟨g, i, none⟩ = some l[i] := by
  have h' := h
  rcases h'.2 with ⟨rfl, hn⟩ | ⟨g, cap, cur, rfl, hB, hg, _⟩
  · omega
  · refine ⟨g, cap, rfl, hB, (Array.getElem?_eq_some_iff.1 hg).1, fun i hi => ?_⟩
    have := World.ownsRow.cells h (g := g) rfl i l[i] (by simp [hi])
    have e : (⟨g, 0, none⟩ : Addr).add i = ⟨g, 0 + i, none⟩ := by unfold Addr.add; split <;> simp_all
    rw [e, Nat.zero_add] at this; exact this
section
variable {P : Program} {ops : Array Oper} {rest : List Oper} {o : Oper} {a : Act} {w w0 : World} {N : Nat} {L : List Mm.Bx} {Q : Exit → Act → World → Prop} {S : World → Prop} {j : Nat} {s : Scr} {K : Act → World → Prop}
/-- An index within a slice of one-cell values. -/
theorem run_idx1 {ST T : Nat} (hu : P.underlying ST = some (.slice T)) (hs : (P.info? T).map (·.size) = some 1) (B off n c i : Nat) (hi : i < n) (w : World) : (Instr.indexAt ST (.slice (some ⟨B, off, none⟩) n c) (.int .i64 (i : Int))).run P w = .ok (.pointer (some ⟨B, off + i, none⟩)) w := by
  obtain ⟨i0, hi0, hz⟩ := Option.map_eq_some_iff.1 hs
  have e : (⟨B, off, none⟩ : Addr).add i = ⟨B, off + i, none⟩ := by unfold Addr.add; split <;> simp_all
  have h1 : (0 : Int) ≤ (i : Int) ∧ (i : Int) < ((n : Nat) : Int) := by omega
  simp [Instr.indexAt, run_underlying hu, sizeOf, typeInfo, hi0, hz, asIntOf, hi, e, go_sem]
theorem s_idx1 {ST T : Nat} (hu : P.underlying ST = some (.slice T)) (hs : (P.info? T).map (·.size) = some 1) (ho : ops[j]? = some o) (hw : Region.wanted o (yielded ops a.tmps) = true) (x y : Operand) (hop : o.op = .indexAddr ST x y) (B off n c i : Nat) (hx : a.eval x = .slice (some ⟨B, off, none⟩) n c) (hy : a.eval y = .int .i64 (i : Int)) (hi : i < n)
    (h : wpScr P ops Q s S (a.put o.dst (.pointer (some ⟨B, off + i, none⟩))) w) : wpScr P ops Q (.take j s) S a w :=
  s_val ho hw (fun w hS => by
    unfold execOp
    simp only [hop, hx, hy, Sem.run_bind, run_idx1 hu hs B off n c i hi w, Result.andThen_ok]
    rfl) h
end
section
variable {ops : Array Oper} {rest : List Oper} {o : Oper} {a : Act} {w w0 : World} {N : Nat} {L : List Mm.Bx} {Q : Exit → Act → World → Prop} {S : World → Prop} {j : Nat} {s : Scr} {K : Act → World → Prop}

theorem run_bsI1 (z0 : Int) (w : World) : (Instr.buildSlice 34 1 #[(0, .int .i64 z0)]).run Tryd.prog w = .ok (.slice (some ⟨w.heap.size, 0, none⟩) 1 1) (w.alloc (.cells #[.int .i64 z0] 3)) := by
  obtain ⟨i0, hi, hz0, hz1, hz2⟩ := info_parts infoI
  refine run_buildSlice w 34 3 1 _ _ i0 _ tyI hi hz0 (by rw [hz1]; omega) (by rw [hz1]; omega) ?_
  have hr : Array.range 1 = #[0] := by decide
  rw [hz1]; simp [Instr.fill, Value.cells, hr]
theorem wpL_bsI1 (H : Hid (Mm.M N w0 w L)) (hw : Region.wanted o (yielded ops a.tmps) = true) (x0 : Operand) (z0 : Int) (ho : o.op = .buildSlice 34 1 #[(0, x0)]) (hx0 : a.eval x0 = .int .i64 z0)
    (h : ∀ b W, Hid (Mm.M N w0 W (⟨b, 3, [.int .i64 z0]⟩ :: L)) → Rt.NewAt w W b 3 [.int .i64 z0] → wpList Tryd.prog ops Q rest (a.put o.dst (.slice (some ⟨b, 0, none⟩) 1 1)) W) : wpList Tryd.prog ops Q (o :: rest) a w := by
  refine wpList_step fun K hK => ?_
  rw [if_pos hw]
  have n := Rt.NewAt.mk' w 3 [.int .i64 z0]
  have := hK _ _ (h _ _ (hidp (H.out.new n)) n)
  unfold Oper.wp execOp
  simp only [ho, List.map_toArray, List.map_cons, List.map_nil, hx0, Sem.run_bind, run_bsI1 z0 w, Result.andThen_ok]
  exact this
theorem run_bsI2 (z0 z1 : Int) (w : World) : (Instr.buildSlice 34 2 #[(0, .int .i64 z0), (1, .int .i64 z1)]).run Tryd.prog w = .ok (.slice (some ⟨w.heap.size, 0, none⟩) 2 2) (w.alloc (.cells #[.int .i64 z0, .int .i64 z1] 3)) := by
  obtain ⟨i0, hi, hz0, hz1, hz2⟩ := info_parts infoI
  refine run_buildSlice w 34 3 2 _ _ i0 _ tyI hi hz0 (by rw [hz1]; omega) (by rw [hz1]; omega) ?_
  have hr : Array.range 2 = #[0, 1] := by decide
  rw [hz1]; simp [Instr.fill, Value.cells, hr]
theorem wpL_bsI2 (H : Hid (Mm.M N w0 w L)) (hw : Region.wanted o (yielded ops a.tmps) = true) (x0 x1 : Operand) (z0 z1 : Int) (ho : o.op = .buildSlice 34 2 #[(0, x0), (1, x1)]) (hx0 : a.eval x0 = .int .i64 z0) (hx1 : a.eval x1 = .int .i64 z1)
    (h : ∀ b W, Hid (Mm.M N w0 W (⟨b, 3, [.int .i64 z0, .int .i64 z1]⟩ :: L)) → Rt.NewAt w W b 3 [.int .i64 z0, .int .i64 z1] → wpList Tryd.prog ops Q rest (a.put o.dst (.slice (some ⟨b, 0, none⟩) 2 2)) W) : wpList Tryd.prog ops Q (o :: rest) a w := by
  refine wpList_step fun K hK => ?_
  rw [if_pos hw]
  have n := Rt.NewAt.mk' w 3 [.int .i64 z0, .int .i64 z1]
  have := hK _ _ (h _ _ (hidp (H.out.new n)) n)
  unfold Oper.wp execOp
  simp only [ho, List.map_toArray, List.map_cons, List.map_nil, hx0, hx1, Sem.run_bind, run_bsI2 z0 z1 w, Result.andThen_ok]
  exact this
end
end Go.Proofs.YtfenjincbhkodaaDoor.Sl
