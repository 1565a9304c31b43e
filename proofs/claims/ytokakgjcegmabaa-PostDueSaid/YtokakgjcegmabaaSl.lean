
/-
  Slices of strings and of ints: literals, appends, cells; a field stored in a script; two bags joined.
-/
import Derived.Test.YtokakgjcegmabaaOctL
import Derived.Test.YtokakgjcegmabaaMm
namespace Go.Proofs.Ytokakgjcegmabaa.Sl
set_option maxRecDepth 100000
set_option linter.unusedVariables false
set_option linter.unusedSimpArgs false
open Go.RowKit
open List (getElem_toArray getElem_cons_zero getElem_cons_succ setIfInBounds_toArray set_cons_zero set_cons_succ)

theorem infoI : (Try.prog.info? 3).map (fun i => (i.zero, i.size, i.bytes)) = some (some (.int .i64 0), 1, 8) := by kernel_rfl
theorem infoS : (Try.prog.info? 9).map (fun i => (i.zero, i.size, i.bytes)) = some (some (.string ByteArray.empty), 1, 16) := by kernel_rfl
theorem tyS : Try.prog.underlying 28 = some (.slice 9) := Try.underlying28
theorem own_arr {B b T : Nat} {W : World} {row : List Value} (ha : Arr W b T row) (hB : B ≤ b) (hl : row.length ≤ 1000000) : OwnV W B T (.slice (some ⟨b, 0, none⟩) row.length row.length) row :=
  ⟨by simp, .inr ⟨b, row.length, row.toArray, rfl, hB, ha, Nat.le_refl _, by unfold maxLen; omega, by simp, by simp⟩⟩
theorem own_top {N b T : Nat} {w0 w : World} {row : List Value} {L : List Mm.Bx} (h : Mm.M N w0 w (⟨b, T, row⟩ :: L)) (hl : row.length ≤ 1000000) : OwnV w N T (.slice (some ⟨b, 0, none⟩) row.length row.length) row :=
  own_arr h.at0 (h.ge ⟨b, T, row⟩ (by simp)) hl
theorem own_stp {w W : World} {B T b t : Nat} {v : Value} {l xs : List Value} (h : OwnV w B T v l) (st : Rt.Stp b w W) (ha : Arr w b t xs) (hne : t ≠ T) : OwnV W B T v l := by
  refine ⟨h.1, ?_⟩
  rcases h.2 with h0 | ⟨g, cap, cur, e, hB, hg, r⟩
  · exact .inl h0
  · refine .inr ⟨g, cap, cur, e, hB, (st.other g ?_).trans hg, r⟩
    rintro rfl
    have h1 : (Obj.cells cur T) = Obj.cells xs.toArray t := Option.some.inj (hg.symm.trans ha)
    injection h1 with _ h2
    exact hne h2.symm
theorem own_to {w w' : World} {B e : Nat} {v : Value} {l : List Value} (h : OwnV w B e v l) (hb : Below w.heap.size w w') : OwnV w' B e v l := h.kept hb (Nat.le_refl _)
theorem strs_to {w w' : World} {v : Value} {l : List ByteArray} (h : StrsAt w v l) (hb : Below w.heap.size w w') : StrsAt w' v l := h.below hb (Nat.le_refl _)
/-- The i-th text of a list, or the empty one. -/
def sAt (ss : List ByteArray) (i : Nat) : ByteArray := ss.getD i ⟨#[]⟩
theorem sAt_get {ss : List ByteArray} {i : Nat} (h : i < ss.length) : sAt ss i = ss[i] := by unfold sAt; rw [List.getD_eq_getElem?_getD, List.getElem?_eq_getElem h]; rfl
theorem strs_pos {w : World} {v : Value} {ss : List ByteArray} (h : StrsAt w v ss) (hl : 0 < ss.length) : ∃ g off c, v = .slice (some ⟨g, off, none⟩) ss.length c ∧ g < w.heap.size ∧ ∀ i, i < ss.length → w.cell? ⟨g, off + i, none⟩ = some (.string (sAt ss i)) := by
  obtain ⟨x, c, rfl, hc⟩ := h
  obtain ⟨g, off, rfl, h0⟩ := hc 0 hl
  refine ⟨g, off, c, rfl, by have := World.block_lt_of_cell? w _ h0; simpa using this, fun i hi => ?_⟩
  obtain ⟨g2, o2, e, h2⟩ := hc i hi
  simp only [Option.some.injEq, Addr.mk.injEq, and_true] at e
  obtain ⟨rfl, rfl⟩ := e
  rw [sAt_get hi]; exact h2
theorem strs_form {w : World} {v : Value} {ss : List ByteArray} (h : StrsAt w v ss) : ∃ a c, v = .slice a ss.length c := by
  obtain ⟨x, c, rfl, hc⟩ := h; exact ⟨x, c, rfl⟩
theorem own_form {w : World} {B T : Nat} {v : Value} {l : List Value} (h : OwnV w B T v l) : ∃ a c, v = .slice a l.length c := by
  rcases h.2 with ⟨rfl, h0⟩ | ⟨g, cap, cur, e, r⟩
  · obtain rfl : l = [] := List.eq_nil_of_length_eq_zero (by simpa using h0)
    exact ⟨none, 0, rfl⟩
  · exact ⟨_, _, e⟩
theorem own_cells {w : World} {B T : Nat} {v : Value} {l : List Value} (h : OwnV w B T v l) (hp : 0 < l.length) : ∃ g c, v = .slice (some ⟨g, 0, none⟩) l.length c ∧ B ≤ g ∧ g < w.heap.size ∧ ∀ i (hi : i < l.length), w.cell? ⟨g, i, none⟩ = some l[i] := by
  have h' := h
  rcases h'.2 with ⟨rfl, hn⟩ | ⟨g, cap, cur, rfl, hB, hg, _⟩
  · omega
  · refine ⟨g, cap, rfl, hB, (Array.getElem?_eq_some_iff.1 hg).1, fun i hi => ?_⟩
    have := World.ownsRow.cells h (g := g) rfl i l[i] (by simp [hi])
    have e : (⟨g, 0, none⟩ : Addr).add i = ⟨g, 0 + i, none⟩ := by unfold Addr.add; split <;> simp_all
    rw [e, Nat.zero_add] at this; exact this
theorem join {N : Nat} {w0 w W : World} {L L' : List Mm.Bx} (h : Mm.M N w0 w L) (k : Mm.M w.heap.size w W L') : Mm.M N w0 W (L' ++ L) := by
  refine ⟨h.below.trans (k.below.mono h.le), Nat.le_trans h.le k.le, fun x hx => ?_, ?_, fun x hx => ?_⟩
  · rcases List.mem_append.1 hx with hx | hx
    · exact Nat.le_trans h.le (k.ge x hx)
    · exact h.ge x hx
  · refine List.pairwise_append.2 ⟨k.inc, h.inc, fun x hx y hy => ?_⟩
    have := k.ge x hx; have := (h.has y hy).lt
    show y.b < x.b; omega
  · rcases List.mem_append.1 hx with hx | hx
    · exact k.has x hx
    · exact (h.has x hx).below k.below (h.has x hx).lt
section
variable {P : Program} {ops : Array Oper} {rest : List Oper} {o : Oper} {a : Act} {w w0 : World} {N : Nat} {L : List Mm.Bx} {Q : Exit → Act → World → Prop} {S : World → Prop} {j : Nat} {s : Scr} {K : Act → World → Prop}
/-- An index within a slice of one-cell values. -/
theorem run_idx1 {ST T : Nat} (hu : P.underlying ST = some (.slice T)) (hs : (P.info? T).map (·.size) = some 1) (B off n c i : Nat) (hi : i < n) (w : World) : (Instr.indexAt ST (.slice (some ⟨B, off, none⟩) n c) (.int .i64 (i : Int))).run P w = .ok (.pointer (some ⟨B, off + i, none⟩)) w := by
  obtain ⟨i0, hi0, hz⟩ := Option.map_eq_some_iff.1 hs
  have e : (⟨B, off, none⟩ : Addr).add i = ⟨B, off + i, none⟩ := by unfold Addr.add; split <;> simp_all
  have h1 : (0 : Int) ≤ (i : Int) ∧ (i : Int) < ((n : Nat) : Int) := by omega
  simp [Instr.indexAt, run_underlying hu, sizeOf, typeInfo, hi0, hz, asIntOf, hi, e, go_sem]
theorem wpL_idx1 {ST T : Nat} (hu : P.underlying ST = some (.slice T)) (hs : (P.info? T).map (·.size) = some 1) (hw : Region.wanted o (yielded ops a.tmps) = true) (x y : Operand) (ho : o.op = .indexAddr ST x y) (B off n c i : Nat) (hx : a.eval x = .slice (some ⟨B, off, none⟩) n c) (hy : a.eval y = .int .i64 (i : Int)) (hi : i < n)
    (h : wpList P ops Q rest (a.put o.dst (.pointer (some ⟨B, off + i, none⟩))) w) : wpList P ops Q (o :: rest) a w := by
  refine wpList_step fun K hK => ?_
  rw [if_pos hw]
  have := hK _ _ h
  unfold Oper.wp execOp
  simp only [ho, hx, hy, run_idx1 hu hs B off n c i hi w, Sem.run_bind, Result.andThen_ok]
  exact this
theorem s_idx1 {ST T : Nat} (hu : P.underlying ST = some (.slice T)) (hs : (P.info? T).map (·.size) = some 1) (ho : ops[j]? = some o) (hw : Region.wanted o (yielded ops a.tmps) = true) (x y : Operand) (hop : o.op = .indexAddr ST x y) (B off n c i : Nat) (hx : a.eval x = .slice (some ⟨B, off, none⟩) n c) (hy : a.eval y = .int .i64 (i : Int)) (hi : i < n)
    (h : wpScr P ops Q s S (a.put o.dst (.pointer (some ⟨B, off + i, none⟩))) w) : wpScr P ops Q (.take j s) S a w :=
  s_val ho hw (fun w hS => by
    unfold execOp
    simp only [hop, hx, hy, Sem.run_bind, run_idx1 hu hs B off n c i hi w, Result.andThen_ok]
    rfl) h
/-- A region that stores into the newest variable. -/
theorem region1 {Q : Exit → Act → World → Prop} {x : Mm.Bx} {id : Nat} (H : Hid (Mm.M N w0 w (x :: L))) (s : Scr) (hm : P.follows .mixedOrders = true) (hs : Region.noSelect ops = true) (hd : s.depth ≤ ops.size) (hc : s.chk .any ops (Array.replicate ops.size false) = true)
    (h : ∀ U, Hid (Mm.M N w0 U (x :: L)) → Below w.heap.size w U → wpScr P ops (NoPanic Q) s (fun W => Mm.M N w0 W L) a U) : (Code.region id ops true).wp P Q a w :=
  wp_region_noPanic (wp_region_scr (S := fun W => Mm.M N w0 W L) s hm hs (fun _ _ _ _ _ h => h) hd hc H.out.drew.tail (h _ (hidp H.out.drew) (Below.refl _ _).drew))
/-- A region whose reads want only a part of the bag. -/
theorem regionS {Q : Exit → Act → World → Prop} {id : Nat} (L' : List Mm.Bx) (hsub : ∀ W, Mm.M N w0 W L → Mm.M N w0 W L') (H : Hid (Mm.M N w0 w L)) (s : Scr) (hm : P.follows .mixedOrders = true) (hs : Region.noSelect ops = true) (hd : s.depth ≤ ops.size) (hc : s.chk .any ops (Array.replicate ops.size false) = true)
    (h : ∀ U, Hid (Mm.M N w0 U L) → Below w.heap.size w U → wpScr P ops (NoPanic Q) s (fun W => Mm.M N w0 W L') a U) : (Code.region id ops true).wp P Q a w :=
  wp_region_noPanic (wp_region_scr (S := fun W => Mm.M N w0 W L') s hm hs (fun _ _ _ _ _ h => h) hd hc (hsub _ H.out.drew) (h _ (hidp H.out.drew) (Below.refl _ _).drew))
/-- A field of the bag's newest variable, stored in a script. -/
theorem o_putF0 {ty b t : Nat} {ys : List Value} (H : Hid (Mm.M N w0 w (⟨b, t, ys⟩ :: L))) (f : Nat) (v : Value) (hT : ∀ W, Mm.M N w0 W (⟨b, t, ys.set f v⟩ :: L) → S W) (ho : ops[j]? = some o) (hw : Region.wanted o (yielded ops a.tmps) = true) (x y : Operand) (hop : o.op = .store ty x y) (hx : a.eval x = .pointer (some ⟨b, f, none⟩)) (hy : a.eval y = v)
    (hs : (P.info? ty).map (·.size) = some 1) (h1 : v.oneCell' = true) (hf : f < ys.length)
    (h : ∀ W, Hid (Mm.M N w0 W (⟨b, t, ys.set f v⟩ :: L)) → Rt.Stp b w W → K (a.put o.dst undef) W) : opW P ops Q S j K a w := by
  have st := Rt.Stp.setRow w b (ys.set f v).toArray
  have hM := H.out.put0 (Arr.row H.out.at0 (ys.set f v)) st
  subst hy
  refine ⟨o, ho, hw, ?_⟩
  have := h _ (hidp hM) st
  unfold Oper.wp
  rw [show (execOp a.eval o).run P w = .ok .skip (w.setRow b (ys.set f (a.eval y)).toArray) from by
    unfold execOp
    simp only [hop, hx, Instr.storeAt, Instr.sureAddr, Sem.run_bind, Sem.run_pure, Result.andThen_ok, Rt.run_storeVar_cell w b f t ty ys _ H.out.at0 hf hs h1]]
  exact ⟨hT _ hM, this⟩
end
section
variable {ops : Array Oper} {rest : List Oper} {o : Oper} {a : Act} {w w0 : World} {N : Nat} {L : List Mm.Bx} {Q : Exit → Act → World → Prop} {S : World → Prop} {j : Nat} {s : Scr} {K : Act → World → Prop}

theorem run_bsS1 (z0 : ByteArray) (w : World) : (Instr.buildSlice 28 1 #[(0, .string z0)]).run Try.prog w = .ok (.slice (some ⟨w.heap.size, 0, none⟩) 1 1) (w.alloc (.cells #[.string z0] 9)) := by
  obtain ⟨i0, hi, hz0, hz1, hz2⟩ := info_parts infoS
  refine run_buildSlice w 28 9 1 _ _ i0 _ tyS hi hz0 (by rw [hz1]; omega) (by rw [hz1]; omega) ?_
  have hr : Array.range 1 = #[0] := by decide
  rw [hz1]; simp [Instr.fill, Value.cells, hr]
theorem wpL_bsS1 (H : Hid (Mm.M N w0 w L)) (hw : Region.wanted o (yielded ops a.tmps) = true) (x0 : Operand) (z0 : ByteArray) (ho : o.op = .buildSlice 28 1 #[(0, x0)]) (hx0 : a.eval x0 = .string z0)
    (h : ∀ b W, Hid (Mm.M N w0 W (⟨b, 9, [.string z0]⟩ :: L)) → Rt.NewAt w W b 9 [.string z0] → wpList Try.prog ops Q rest (a.put o.dst (.slice (some ⟨b, 0, none⟩) 1 1)) W) : wpList Try.prog ops Q (o :: rest) a w := by
  refine wpList_step fun K hK => ?_
  rw [if_pos hw]
  have n := Rt.NewAt.mk' w 9 [.string z0]
  have := hK _ _ (h _ _ (hidp (H.out.new n)) n)
  unfold Oper.wp execOp
  simp only [ho, List.map_toArray, List.map_cons, List.map_nil, hx0, Sem.run_bind, run_bsS1 z0 w, Result.andThen_ok]
  exact this
theorem o_bsS1 (H : Hid (Mm.M N w0 w L)) (hT : ∀ W, Mm.M N w0 W L → S W) (ho : ops[j]? = some o) (hw : Region.wanted o (yielded ops a.tmps) = true) (x0 : Operand) (z0 : ByteArray) (hop : o.op = .buildSlice 28 1 #[(0, x0)]) (hx0 : a.eval x0 = .string z0)
    (h : ∀ b W, Hid (Mm.M N w0 W (⟨b, 9, [.string z0]⟩ :: L)) → Rt.NewAt w W b 9 [.string z0] → K (a.put o.dst (.slice (some ⟨b, 0, none⟩) 1 1)) W) : opW Try.prog ops Q S j K a w := by
  have n := Rt.NewAt.mk' w 9 [.string z0]
  have hM := H.out.new n
  refine o_make ho hw ?_ (hT _ hM.tail) (h _ _ (hidp hM) n)
  unfold execOp
  simp only [hop, List.map_toArray, List.map_cons, List.map_nil, hx0, Sem.run_bind, run_bsS1 z0 w, Result.andThen_ok]
  rfl

theorem run_bsS2 (z0 z1 : ByteArray) (w : World) : (Instr.buildSlice 28 2 #[(0, .string z0), (1, .string z1)]).run Try.prog w = .ok (.slice (some ⟨w.heap.size, 0, none⟩) 2 2) (w.alloc (.cells #[.string z0, .string z1] 9)) := by
  obtain ⟨i0, hi, hz0, hz1, hz2⟩ := info_parts infoS
  refine run_buildSlice w 28 9 2 _ _ i0 _ tyS hi hz0 (by rw [hz1]; omega) (by rw [hz1]; omega) ?_
  have hr : Array.range 2 = #[0, 1] := by decide
  rw [hz1]; simp [Instr.fill, Value.cells, hr]
theorem wpL_bsS2 (H : Hid (Mm.M N w0 w L)) (hw : Region.wanted o (yielded ops a.tmps) = true) (x0 x1 : Operand) (z0 z1 : ByteArray) (ho : o.op = .buildSlice 28 2 #[(0, x0), (1, x1)]) (hx0 : a.eval x0 = .string z0) (hx1 : a.eval x1 = .string z1)
    (h : ∀ b W, Hid (Mm.M N w0 W (⟨b, 9, [.string z0, .string z1]⟩ :: L)) → Rt.NewAt w W b 9 [.string z0, .string z1] → wpList Try.prog ops Q rest (a.put o.dst (.slice (some ⟨b, 0, none⟩) 2 2)) W) : wpList Try.prog ops Q (o :: rest) a w := by
  refine wpList_step fun K hK => ?_
  rw [if_pos hw]
  have n := Rt.NewAt.mk' w 9 [.string z0, .string z1]
  have := hK _ _ (h _ _ (hidp (H.out.new n)) n)
  unfold Oper.wp execOp
  simp only [ho, List.map_toArray, List.map_cons, List.map_nil, hx0, hx1, Sem.run_bind, run_bsS2 z0 z1 w, Result.andThen_ok]
  exact this
theorem o_bsS2 (H : Hid (Mm.M N w0 w L)) (hT : ∀ W, Mm.M N w0 W L → S W) (ho : ops[j]? = some o) (hw : Region.wanted o (yielded ops a.tmps) = true) (x0 x1 : Operand) (z0 z1 : ByteArray) (hop : o.op = .buildSlice 28 2 #[(0, x0), (1, x1)]) (hx0 : a.eval x0 = .string z0) (hx1 : a.eval x1 = .string z1)
    (h : ∀ b W, Hid (Mm.M N w0 W (⟨b, 9, [.string z0, .string z1]⟩ :: L)) → Rt.NewAt w W b 9 [.string z0, .string z1] → K (a.put o.dst (.slice (some ⟨b, 0, none⟩) 2 2)) W) : opW Try.prog ops Q S j K a w := by
  have n := Rt.NewAt.mk' w 9 [.string z0, .string z1]
  have hM := H.out.new n
  refine o_make ho hw ?_ (hT _ hM.tail) (h _ _ (hidp hM) n)
  unfold execOp
  simp only [hop, List.map_toArray, List.map_cons, List.map_nil, hx0, hx1, Sem.run_bind, run_bsS2 z0 z1 w, Result.andThen_ok]
  rfl

theorem run_bsS3 (z0 z1 z2 : ByteArray) (w : World) : (Instr.buildSlice 28 3 #[(0, .string z0), (1, .string z1), (2, .string z2)]).run Try.prog w = .ok (.slice (some ⟨w.heap.size, 0, none⟩) 3 3) (w.alloc (.cells #[.string z0, .string z1, .string z2] 9)) := by
  obtain ⟨i0, hi, hz0, hz1, hz2⟩ := info_parts infoS
  refine run_buildSlice w 28 9 3 _ _ i0 _ tyS hi hz0 (by rw [hz1]; omega) (by rw [hz1]; omega) ?_
  have hr : Array.range 3 = #[0, 1, 2] := by decide
  rw [hz1]; simp [Instr.fill, Value.cells, hr]
theorem wpL_bsS3 (H : Hid (Mm.M N w0 w L)) (hw : Region.wanted o (yielded ops a.tmps) = true) (x0 x1 x2 : Operand) (z0 z1 z2 : ByteArray) (ho : o.op = .buildSlice 28 3 #[(0, x0), (1, x1), (2, x2)]) (hx0 : a.eval x0 = .string z0) (hx1 : a.eval x1 = .string z1) (hx2 : a.eval x2 = .string z2)
    (h : ∀ b W, Hid (Mm.M N w0 W (⟨b, 9, [.string z0, .string z1, .string z2]⟩ :: L)) → Rt.NewAt w W b 9 [.string z0, .string z1, .string z2] → wpList Try.prog ops Q rest (a.put o.dst (.slice (some ⟨b, 0, none⟩) 3 3)) W) : wpList Try.prog ops Q (o :: rest) a w := by
  refine wpList_step fun K hK => ?_
  rw [if_pos hw]
  have n := Rt.NewAt.mk' w 9 [.string z0, .string z1, .string z2]
  have := hK _ _ (h _ _ (hidp (H.out.new n)) n)
  unfold Oper.wp execOp
  simp only [ho, List.map_toArray, List.map_cons, List.map_nil, hx0, hx1, hx2, Sem.run_bind, run_bsS3 z0 z1 z2 w, Result.andThen_ok]
  exact this
theorem o_bsS3 (H : Hid (Mm.M N w0 w L)) (hT : ∀ W, Mm.M N w0 W L → S W) (ho : ops[j]? = some o) (hw : Region.wanted o (yielded ops a.tmps) = true) (x0 x1 x2 : Operand) (z0 z1 z2 : ByteArray) (hop : o.op = .buildSlice 28 3 #[(0, x0), (1, x1), (2, x2)]) (hx0 : a.eval x0 = .string z0) (hx1 : a.eval x1 = .string z1) (hx2 : a.eval x2 = .string z2)
    (h : ∀ b W, Hid (Mm.M N w0 W (⟨b, 9, [.string z0, .string z1, .string z2]⟩ :: L)) → Rt.NewAt w W b 9 [.string z0, .string z1, .string z2] → K (a.put o.dst (.slice (some ⟨b, 0, none⟩) 3 3)) W) : opW Try.prog ops Q S j K a w := by
  have n := Rt.NewAt.mk' w 9 [.string z0, .string z1, .string z2]
  have hM := H.out.new n
  refine o_make ho hw ?_ (hT _ hM.tail) (h _ _ (hidp hM) n)
  unfold execOp
  simp only [hop, List.map_toArray, List.map_cons, List.map_nil, hx0, hx1, hx2, Sem.run_bind, run_bsS3 z0 z1 z2 w, Result.andThen_ok]
  rfl

theorem wpL_appS (hgd : o.guard = none) (s x : Operand) (ho : o.op = .call { callee := .builtin .append, args := #[s, x], argTypes := #[28, 28] }) (B : Nat) (v : Value) (l : List Value) (b t : Nat) (u : Value) (hs : a.eval s = v) (hx : a.eval x = .slice (some ⟨b, 0, none⟩) 1 1)
    (hown : OwnV w B 9 v l) (hc : Arr w b t [u]) (hu : u.oneCell' = true) (hlen : l.length ≤ 1000000) (hB : B ≤ w.heap.size)
    (h : ∀ v' w', OwnV w' B 9 v' (l ++ [u]) → Below B w w' → wpList Try.prog ops Q rest (a.put o.dst v') w') : wpList Try.prog ops Q (o :: rest) a w := by
  obtain ⟨i0, hi, hz0, hz1, hz2⟩ := info_parts infoS
  exact wpList_appV hgd s x 28 ho B 9 i0 (.string ByteArray.empty) 16 tyS hi hz0 hz1 hz2 rfl v l hs hown ⟨b, 0, none⟩ 1 u hx (hc.cell 0 (by simp)) hu (by simp [maxLen]; omega) (by omega) hB h

end
end Go.Proofs.Ytokakgjcegmabaa.Sl
