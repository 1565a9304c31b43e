/-
  Slices of texts anywhere in memory: appended, cut, in walks and in scripts.
-/
import Derived.Test.YtokakgjcegmabaaSl
import Derived.Maps.AppendAt
namespace Go.Proofs.Ytokakgjcegmabaa.Vs
set_option maxRecDepth 100000
set_option linter.unusedVariables false
set_option linter.unusedSimpArgs false
open Go.RowKit
open List (getElem_toArray getElem_cons_zero getElem_cons_succ setIfInBounds_toArray set_cons_zero set_cons_succ)

/-- A slice of one-cell values in memory. -/
def VsAt (w : World) (v : Value) (fs : List Value) : Prop := (v = .slice none 0 0 ∧ fs = []) ∨ ∃ g off c, v = .slice (some ⟨g, off, none⟩) fs.length c ∧ fs.length ≤ c ∧ (∃ cur fz, w.heap[g]? = some (.cells cur 9 fz)) ∧ w.rangeAt g off fs
theorem VsAt.nil (w : World) : VsAt w (.slice none 0 0) [] := .inl ⟨rfl, rfl⟩
theorem VsAt.to {w W : World} {v : Value} {fs : List Value} (h : VsAt w v fs) (hb : Below w.heap.size w W) : VsAt W v fs := by
  rcases h with h | ⟨g, off, c, e, hc, ⟨cur, fz, hg⟩, hr⟩
  · exact .inl h
  · have hl := (Array.getElem?_eq_some_iff.1 hg).1
    exact .inr ⟨g, off, c, e, hc, ⟨cur, fz, (hb.block g hl).trans hg⟩, rangeAt_below hr hb hl⟩
theorem VsAt.stp {w W : World} {b t : Nat} {v : Value} {fs xs : List Value} (h : VsAt w v fs) (st : Rt.Stp b w W) (ha : Arr w b t xs) (hne : t ≠ 9) : VsAt W v fs := by
  rcases h with h | ⟨g, off, c, e, hc, ⟨cur, fz, hg⟩, hr⟩
  · exact .inl h
  · have hgb : g ≠ b := by
      rintro rfl
      have h1 : (Obj.cells cur 9 fz) = Obj.cells xs.toArray t := Option.some.inj (hg.symm.trans ha)
      injection h1 with _ h2
      exact hne h2.symm
    refine .inr ⟨g, off, c, e, hc, ⟨cur, fz, (st.other g hgb).trans hg⟩, fun j u hj => ?_⟩
    have := hr j u hj
    rw [World.cell?_of_block (a := ⟨g, off + j, none⟩) (st.other g hgb)]
    exact this
theorem VsAt.own {w : World} {B : Nat} {v : Value} {l : List Value} (h : OwnV w B 9 v l) : VsAt w v l := by
  have h' := h
  rcases h'.2 with ⟨rfl, hn⟩ | ⟨g, cap, cur, rfl, hB, hg, hle, -⟩
  · exact .inl ⟨rfl, List.eq_nil_of_length_eq_zero hn⟩
  · refine .inr ⟨g, 0, cap, rfl, hle, ⟨_, _, hg⟩, fun j u hj => ?_⟩
    have := World.ownsRow.cells h (g := g) rfl j u hj
    rw [Rw.addr_addR] at this; exact this
theorem own_blk {w : World} {B e : Nat} {v : Value} {l : List Value} (h : OwnV w B e v l) {g : Nat} (hg : v.ownBlock = some g) : B ≤ g := by
  rcases h.2 with ⟨rfl, -⟩ | ⟨g', cap, cur, rfl, hB, -⟩
  · cases hg
  · cases hg; exact hB
theorem VsAt.form {w : World} {v : Value} {fs : List Value} (h : VsAt w v fs) : ∃ a c, v = .slice a fs.length c ∧ fs.length ≤ c := by
  rcases h with ⟨rfl, rfl⟩ | ⟨g, off, c, rfl, hc, -⟩
  · exact ⟨none, 0, rfl, Nat.le_refl _⟩
  · exact ⟨_, c, rfl, hc⟩
theorem VsAt.get {w : World} {v : Value} {fs : List Value} (h : VsAt w v fs) (hp : 0 < fs.length) : ∃ g off c, v = .slice (some ⟨g, off, none⟩) fs.length c ∧ fs.length ≤ c ∧ g < w.heap.size ∧ ∀ i (hi : i < fs.length), w.cell? ⟨g, off + i, none⟩ = some fs[i] := by
  rcases h with ⟨rfl, rfl⟩ | ⟨g, off, c, e, hc, ⟨cur, fz, hg⟩, hr⟩
  · simp at hp
  · exact ⟨g, off, c, e, hc, (Array.getElem?_eq_some_iff.1 hg).1, fun i hi => hr i _ (by simp [hi])⟩
theorem VsAt.one {w : World} {b : Nat} {u : Value} (h : Arr w b 9 [u]) : VsAt w (.slice (some ⟨b, 0, none⟩) 1 1) [u] := .inr ⟨b, 0, 1, rfl, Nat.le_refl _, ⟨_, _, h⟩, h.range⟩
theorem VsAt.strs {w : World} {v : Value} {ss : List ByteArray} (h : VsAt w v (strV ss)) : StrsAt w v ss := by
  rcases h with ⟨rfl, hs⟩ | ⟨g, off, c, rfl, hc, hg, hr⟩
  · obtain rfl : ss = [] := by simpa [strV] using hs
    exact strsNil w
  · rw [strV_length]
    exact ⟨_, c, rfl, fun i hi => ⟨g, off, rfl, hr i _ (by simp [strV, hi])⟩⟩
theorem run_app00S (w : World) (t : TypeId) (v : Value) (b : Option Addr) (n c : Nat) (hv : v = .slice b n c) (hn : n ≤ c) (h63 : n ≤ 1048576) : (Builtin.append_ #[28, 28] t #[v, .slice none 0 0]).run Try.prog w = .ok v w := by
  obtain ⟨i0, hi, hz0, hz1, hz2⟩ := info_parts Sl.infoS
  subst hv
  have h1 : ¬ (9223372036854775807 < (n : Int)) := by omega
  cases b <;> simp [Builtin.append_, run_underlying Sl.tyS, sizeOf, typeInfo, zeroValue, hi, hz0, Builtin.lenOf, hn, h1, run_firstCells_none, storeCells]
theorem run_appS (w : World) (t : TypeId) (B : Nat) (v u : Value) (es fs : List Value) (ho : OwnV w B 9 v es) (hu : VsAt w u fs) (h1 : ∀ x ∈ fs, x.oneCell' = true) (hB : B ≤ w.heap.size) (hn : es.length + fs.length ≤ 1048576) :
    ∃ v' W, (Builtin.append_ #[28, 28] t #[v, u]).run Try.prog w = .ok v' W ∧ OwnV W B 9 v' (es ++ fs) ∧ w.grownBy W v.ownBlock ∧ (v'.ownBlock = v.ownBlock ∨ v'.ownBlock = some w.heap.size) := by
  rcases hu with ⟨rfl, rfl⟩ | ⟨g, off, c, rfl, hc, hg, hr⟩
  · obtain ⟨b, c, e, hc⟩ := (VsAt.own ho).form
    exact ⟨v, w, run_app00S w t v b es.length c e hc (by simp at hn; omega), by rw [List.append_nil]; exact ho, ⟨rfl, rfl, rfl, Nat.le_refl _, fun _ _ _ => rfl⟩, .inl rfl⟩
  · obtain ⟨i0, hi, hz0, hz1, hz2⟩ := info_parts Sl.infoS
    obtain ⟨v', W, hr, h2, h3, h4, h5⟩ := run_append_own_at (P := Try.prog) w B 28 t 9 i0 (.string ByteArray.empty) 1 16 Sl.tyS hi hz0 hz1 hz2 rfl (by decide) v es.length es ho ⟨g, off, none⟩ fs.length c fs (by rw [Nat.mul_one]) (fun j u hj => by rw [Rw.addr_addR]; exact hr j u hj) h1 (by unfold maxLen; omega) (by omega) hB
    exact ⟨v', W, hr, by unfold OwnV; rw [List.length_append]; exact h2, h3, h5⟩
theorem one_strV (ss : List ByteArray) : ∀ x ∈ strV ss, x.oneCell' = true := by
  intro x hx; simp only [strV, List.mem_map] at hx; obtain ⟨s, -, rfl⟩ := hx; rfl
theorem szS (w : World) : (sizeOf 9).run Try.prog w = .ok 1 w := by
  obtain ⟨i0, hi, hz0, hz1, hz2⟩ := info_parts Sl.infoS
  simp [sizeOf, typeInfo, hi, hz1]
theorem elS : Try.prog.elem 28 = 9 := by kernel_rfl
theorem run_toS (a : Option Addr) (n c i : Nat) (hi : i ≤ c) (w : World) : (Instr.sliceAt 28 (.slice a n c) none (some (.int .i64 (i : Int))) none).run Try.prog w = .ok (.slice a i c) w := by
  rw [run_sliceAt_slice (P := Try.prog) (w := w) 28 _ _ _ _ (by rw [elS]; exact Sl.tyS)]
  rw [run_slice_h (P := Try.prog) (w := w) 28 a n c (by rw [elS]; exact Sl.tyS) .i64 (i : Int) (by omega) (by omega), elS, szS]
  cases a with
  | none => simp [Result.andThen, sliced]
  | some p => cases p; simp [Result.andThen, sliced, Addr.add]
def fromA (a : Option Addr) (c i : Nat) : Option Addr := a.map fun p => if c = i then p else p.add i
theorem run_fromS (a : Option Addr) (n c i : Nat) (hi : i ≤ n) (w : World) : (Instr.sliceAt 28 (.slice a n c) (some (.int .i64 (i : Int))) none none).run Try.prog w = .ok (.slice (fromA a c i) (n - i) (c - i)) w := by
  rw [run_sliceAt_slice (P := Try.prog) (w := w) 28 _ _ _ _ (by rw [elS]; exact Sl.tyS)]
  rw [run_slice_l (P := Try.prog) (w := w) 28 a n c (by rw [elS]; exact Sl.tyS) .i64 (i : Int) (by omega) (by omega), elS, szS]
  cases a with
  | none => simp [Result.andThen, sliced, fromA]
  | some p =>
    simp only [Result.andThen, sliced, Int.toNat_natCast, fromA, Option.map_some]
    split <;> simp
theorem VsAt.take {w : World} {a : Option Addr} {n c : Nat} {fs : List Value} (h : VsAt w (.slice a n c) fs) (i : Nat) (hi : i ≤ fs.length) : i ≤ c ∧ VsAt w (.slice a i c) (fs.take i) := by
  rcases h with ⟨e, rfl⟩ | ⟨g, off, c', e, hc, hg, hr⟩
  · simp only [Value.slice.injEq] at e
    obtain ⟨rfl, rfl, rfl⟩ := e
    obtain rfl : i = 0 := by simpa using hi
    exact ⟨Nat.le_refl _, .inl ⟨rfl, rfl⟩⟩
  · simp only [Value.slice.injEq] at e
    obtain ⟨rfl, -, rfl⟩ := e
    have hl : (fs.take i).length = i := by rw [List.length_take]; omega
    exact ⟨by omega, .inr ⟨g, off, c, by rw [hl], by omega, hg, fun j u hj => hr j u (by rw [List.getElem?_take] at hj; split at hj <;> simp_all)⟩⟩
theorem VsAt.drop {w : World} {a : Option Addr} {n c : Nat} {fs : List Value} (h : VsAt w (.slice a n c) fs) (i : Nat) (hi : i ≤ fs.length) : i ≤ n ∧ VsAt w (.slice (fromA a c i) (n - i) (c - i)) (fs.drop i) := by
  rcases h with ⟨e, rfl⟩ | ⟨g, off, c', e, hc, hg, hr⟩
  · simp only [Value.slice.injEq] at e
    obtain ⟨rfl, rfl, rfl⟩ := e
    obtain rfl : i = 0 := by simpa using hi
    exact ⟨Nat.le_refl _, .inl ⟨rfl, rfl⟩⟩
  · simp only [Value.slice.injEq] at e
    obtain ⟨rfl, rfl, rfl⟩ := e
    have hl : (fs.drop i).length = fs.length - i := List.length_drop
    refine ⟨hi, .inr ⟨g, if c = i then off else off + i, c - i, by rw [hl]; unfold fromA; rw [Option.map_some]; split <;> simp [Rw.addr_addR], by omega, hg, ?_⟩⟩
    split
    · rw [List.drop_of_length_le (by omega)]; exact fun j v hj => by simp at hj
    · intro j u hj
      rw [Nat.add_assoc]
      exact hr (i + j) u (by rw [List.getElem?_drop] at hj; exact hj)
section
variable {ops : Array Oper} {rest : List Oper} {o : Oper} {a : Act} {w : World} {Q : Exit → Act → World → Prop} {S : World → Prop} {j : Nat} {s : Scr} {K : Act → World → Prop}
theorem run_bs0S (w : World) : (Instr.buildSlice 28 0 #[]).run Try.prog w = .ok (.slice (some ⟨w.heap.size, 0, none⟩) 0 0) (w.alloc (.cells #[] 9)) := by
  obtain ⟨i0, hi, hz0, hz1, hz2⟩ := info_parts Sl.infoS
  simp [Instr.buildSlice, run_underlying Sl.tyS, sizeOf, typeInfo, zeroValue, hi, hz0, hz1, newRow, Instr.fill, show Array.range 0 = #[] from rfl]
theorem own_bs0 {W : World} {B b T : Nat} (ha : Arr W b T []) (hB : B ≤ b) : OwnV W B T (.slice (some ⟨b, 0, none⟩) 0 0) [] := Sl.own_arr (row := []) ha hB (by simp)
theorem wpL_bs0S (hw : Region.wanted o (yielded ops a.tmps) = true) (ho : o.op = .buildSlice 28 0 #[])
    (h : ∀ b W, Rt.NewAt w W b 9 [] → wpList Try.prog ops Q rest (a.put o.dst (.slice (some ⟨b, 0, none⟩) 0 0)) W) : wpList Try.prog ops Q (o :: rest) a w := by
  refine wpList_step fun K hK => ?_
  rw [if_pos hw]
  have := hK _ _ (h w.heap.size (w.alloc (.cells #[] 9)) (Rt.NewAt.mk' w 9 []))
  unfold Oper.wp execOp
  simp only [ho, List.map_toArray, List.map_nil, Sem.run_bind, run_bs0S w, Result.andThen_ok]
  exact this
theorem o_bs0S (ho : ops[j]? = some o) (hw : Region.wanted o (yielded ops a.tmps) = true) (hop : o.op = .buildSlice 28 0 #[])
    (h : ∀ b W, Rt.NewAt w W b 9 [] → S W ∧ K (a.put o.dst (.slice (some ⟨b, 0, none⟩) 0 0)) W) : opW Try.prog ops Q S j K a w := by
  have := h _ _ (Rt.NewAt.mk' w 9 [])
  refine o_make ho hw ?_ this.1 this.2
  unfold execOp
  simp only [hop, List.map_toArray, List.map_nil, Sem.run_bind, run_bs0S w, Result.andThen_ok]
  rfl
theorem wpL_appVs (hgd : o.guard = none) (s x : Operand) (ho : o.op = .call { callee := .builtin .append, args := #[s, x], argTypes := #[28, 28] }) (B : Nat) (v u : Value) (es fs : List Value) (hs : a.eval s = v) (hx : a.eval x = u) (hown : OwnV w B 9 v es) (hu : VsAt w u fs) (h1 : ∀ x ∈ fs, x.oneCell' = true) (hB : B ≤ w.heap.size) (hn : es.length + fs.length ≤ 1048576)
    (h : ∀ v' W, OwnV W B 9 v' (es ++ fs) → w.grownBy W v.ownBlock → (v'.ownBlock = v.ownBlock ∨ v'.ownBlock = some w.heap.size) → wpList Try.prog ops Q rest (a.put o.dst v') W) : wpList Try.prog ops Q (o :: rest) a w := by
  obtain ⟨v', W, hr, h2, h3, h4⟩ := run_appS w o.type B v u es fs hown hu h1 hB hn
  exact Rw.wpL_appRun hgd s x 28 28 ho v u hs hx hr (h v' W h2 h3 h4)
theorem o_appVs (ho : ops[j]? = some o) (hw : Region.wanted o (yielded ops a.tmps) = true) (d x : Operand) (hop : o.op = .call { callee := .builtin .append, args := #[d, x], argTypes := #[28, 28] }) (B : Nat) (v u : Value) (es fs : List Value) (hd : a.eval d = v) (hx : a.eval x = u) (hown : OwnV w B 9 v es) (hu : VsAt w u fs) (h1 : ∀ x ∈ fs, x.oneCell' = true) (hB : B ≤ w.heap.size) (hn : es.length + fs.length ≤ 1048576)
    (h : ∀ v' W, OwnV W B 9 v' (es ++ fs) → w.grownBy W v.ownBlock → (v'.ownBlock = v.ownBlock ∨ v'.ownBlock = some w.heap.size) → S W ∧ K (a.put o.dst v') W) : opW Try.prog ops Q S j K a w := by
  obtain ⟨v', W, hr, h2, h3, h4⟩ := run_appS w o.type B v u es fs hown hu h1 hB hn
  refine ⟨o, ho, hw, ?_⟩
  unfold Oper.wp
  simp [execOp, hop, resolve, invoke, builtin, hd, hx, hr, Result.andThen]
  exact h v' W h2 h3 h4
theorem s_toVs (ho : ops[j]? = some o) (hw : Region.wanted o (yielded ops a.tmps) = true) (x y : Operand) (hop : o.op = .slice 28 x none (some y) none) (p : Option Addr) (n c i : Nat) (hx : a.eval x = .slice p n c) (hy : a.eval y = .int .i64 (i : Int)) (hi : i ≤ c)
    (h : wpScr Try.prog ops Q s S (a.put o.dst (.slice p i c)) w) : wpScr Try.prog ops Q (.take j s) S a w :=
  s_val ho hw (fun w hS => by
    unfold execOp
    simp only [hop, hx, hy, Option.map_none, Option.map_some, Sem.run_bind, run_toS p n c i hi, Result.andThen_ok, Sem.run_pure]) h
theorem s_fromVs (ho : ops[j]? = some o) (hw : Region.wanted o (yielded ops a.tmps) = true) (x y : Operand) (hop : o.op = .slice 28 x (some y) none none) (p : Option Addr) (n c i : Nat) (hx : a.eval x = .slice p n c) (hy : a.eval y = .int .i64 (i : Int)) (hi : i ≤ n)
    (h : wpScr Try.prog ops Q s S (a.put o.dst (.slice (fromA p c i) (n - i) (c - i))) w) : wpScr Try.prog ops Q (.take j s) S a w :=
  s_val ho hw (fun w hS => by
    unfold execOp
    simp only [hop, hx, hy, Option.map_none, Option.map_some, Sem.run_bind, run_fromS p n c i hi, Result.andThen_ok, Sem.run_pure]) h
end
end Go.Proofs.Ytokakgjcegmabaa.Vs
