
/-
  Rows of elements of several cells each: in memory, of a call's own; indexed, cut, appended to, copied.
-/
import Derived.Test.YtokakgjcegmabaaRt
import Derived.Great.BuildSlice
import Derived.Maps.AppendAt
import Derived.Deep.MidRow
import Derived.Laws.IdiomCopy
import Derived.Lib.AppendZerosOnto
namespace Go.Proofs.Ytokakgjcegmabaa.Rw
set_option maxRecDepth 100000
set_option linter.unusedVariables false
set_option linter.unusedSimpArgs false
open Go.RowKit Go.Proofs.Ytokakgjcegmabaa.Rt

/-- A type of elements: 'ST' a slice of it, k cells, 'by_' bytes, its zero value. -/
structure RowTy (P : Program) (ST T k by_ : Nat) (z : List Value) : Prop where
  kp : 0 < k
  km : k ≤ 64
  bm : by_ ≤ 65536
  zl : z.length = k
  us : P.underlying ST = some (.slice T)
  el : P.elem ST = T
  ut : ∃ fs, P.underlying T = some (.struct fs)
  info : (P.info? T).map (fun i => (i.zero, i.size, i.bytes)) = some (some (.agg z.toArray), k, by_)
variable {P : Program} {ST T k by_ : Nat} {z : List Value}
theorem RowTy.isz (R : RowTy P ST T k by_ z) : (P.info? T).map (·.size) = some k := by
  obtain ⟨i0, hi, hz0, hz1, hz2⟩ := info_parts R.info
  rw [hi]; simp [hz1]
theorem RowTy.size (R : RowTy P ST T k by_ z) {xs : List Value} (h : xs.length = k) : (P.info? T).map (·.size) = some xs.toArray.size := by rw [R.isz]; simp [h]
theorem RowTy.sz (R : RowTy P ST T k by_ z) (w : World) : (sizeOf T).run P w = .ok k w := by
  obtain ⟨i0, hi, hz0, hz1, hz2⟩ := info_parts R.info
  simp [sizeOf, typeInfo, hi, hz1]
theorem RowTy.zero (R : RowTy P ST T k by_ z) (w : World) : (zeroValue T).run P w = .ok (.agg z.toArray) w := by
  obtain ⟨i0, hi, hz0, hz1, hz2⟩ := info_parts R.info
  simp [zeroValue, typeInfo, hi, hz0]
theorem addr_addR (b o k : Nat) : (⟨b, o, none⟩ : Addr).add k = ⟨b, o + k, none⟩ := by unfold Addr.add; split <;> simp_all

/-- Each element has its k cells. -/
def AllK (k : Nat) (es : List (List Value)) : Prop := ∀ e ∈ es, e.length = k
def One1 (es : List (List Value)) : Prop := ∀ e ∈ es, ∀ v ∈ e, v.oneCell' = true
theorem AllK.nil : AllK k [] := fun _ h => by cases h
theorem AllK.get {es : List (List Value)} (h : AllK k es) (i : Nat) (hi : i < es.length) : es[i].length = k := h _ (List.getElem_mem hi)
theorem AllK.take {es : List (List Value)} (h : AllK k es) (n : Nat) : AllK k (es.take n) := fun x hx => h x (List.mem_of_mem_take hx)
theorem AllK.drop {es : List (List Value)} (h : AllK k es) (n : Nat) : AllK k (es.drop n) := fun x hx => h x (List.mem_of_mem_drop hx)
theorem AllK.app {a b : List (List Value)} (h : AllK k a) (g : AllK k b) : AllK k (a ++ b) := fun x hx => (List.mem_append.1 hx).elim (h x) (g x)
theorem AllK.one {a : List Value} (h : a.length = k) : AllK k [a] := fun x hx => by simp at hx; subst hx; exact h
theorem One1.take {es : List (List Value)} (h : One1 es) (n : Nat) : One1 (es.take n) := fun x hx => h x (List.mem_of_mem_take hx)
theorem One1.drop {es : List (List Value)} (h : One1 es) (n : Nat) : One1 (es.drop n) := fun x hx => h x (List.mem_of_mem_drop hx)
theorem One1.app {a b : List (List Value)} (h : One1 a) (g : One1 b) : One1 (a ++ b) := fun x hx => (List.mem_append.1 hx).elim (h x) (g x)
theorem One1.flat {es : List (List Value)} (h : One1 es) : ∀ v ∈ es.flatten, v.oneCell' = true := by
  intro v hv
  obtain ⟨e, he, hv⟩ := List.mem_flatten.1 hv
  exact h e he v hv
theorem flat_len {es : List (List Value)} (h : AllK k es) : es.flatten.length = k * es.length := by
  induction es with
  | nil => rfl
  | cons a r ih =>
    rw [List.flatten_cons, List.length_append, ih (fun x hx => h x (by simp [hx])), h a (by simp), List.length_cons, Nat.mul_add]; omega
theorem rAt_app {w : World} {b o : Nat} {xs ys : List Value} : w.rangeAt b o (xs ++ ys) ↔ w.rangeAt b o xs ∧ w.rangeAt b (o + xs.length) ys := by
  constructor
  · intro h
    refine ⟨fun j v hv => h j v ?_, fun j v hv => ?_⟩
    · rw [List.getElem?_append_left (List.getElem?_eq_some_iff.1 hv).1]; exact hv
    · have := h (xs.length + j) v (by rw [List.getElem?_append_right (by omega)]; simpa using hv)
      rw [Nat.add_assoc]; exact this
  · rintro ⟨h1, h2⟩ j v hv
    by_cases hj : j < xs.length
    · rw [List.getElem?_append_left hj] at hv; exact h1 j v hv
    · rw [List.getElem?_append_right (by omega)] at hv
      have := h2 (j - xs.length) v hv
      rw [show o + xs.length + (j - xs.length) = o + j from by omega] at this; exact this
theorem rAt_take {w : World} {b o : Nat} {es : List (List Value)} (h : w.rangeAt b o es.flatten) (n : Nat) : w.rangeAt b o (es.take n).flatten := by
  rw [← List.take_append_drop n es, List.flatten_append, rAt_app] at h; exact h.1
theorem rAt_drop {w : World} {b o : Nat} {es : List (List Value)} (h : w.rangeAt b o es.flatten) (hk : AllK k es) (n : Nat) (hn : n ≤ es.length) : w.rangeAt b (o + k * n) (es.drop n).flatten := by
  rw [← List.take_append_drop n es, List.flatten_append, rAt_app, flat_len (hk.take n), List.length_take, Nat.min_eq_left hn] at h; exact h.2
theorem rAt_nth {w : World} {b o : Nat} {es : List (List Value)} (h : w.rangeAt b o es.flatten) (hk : AllK k es) (i : Nat) (hi : i < es.length) : w.rangeAt b (o + k * i) es[i] := by
  have h2 := rAt_drop h hk i (by omega)
  rw [List.drop_eq_getElem_cons hi, List.flatten_cons, rAt_app] at h2
  exact h2.1
/-- A slice of elements in memory. -/
def RsAt (k : Nat) (w : World) (v : Value) (es : List (List Value)) : Prop :=
  AllK k es ∧ ((v = .slice none 0 0 ∧ es = []) ∨ ∃ B o c, v = .slice (some ⟨B, o, none⟩) es.length c ∧ es.length ≤ c ∧ B < w.heap.size ∧ w.rangeAt B o es.flatten)
theorem RsAt.nil (w : World) : RsAt k w (.slice none 0 0) [] := ⟨AllK.nil, .inl ⟨rfl, rfl⟩⟩
theorem RsAt.below {w w' : World} {v : Value} {es : List (List Value)} (h : RsAt k w v es) {B : Nat} (hb : Below B w w') (hB : w.heap.size ≤ B) (hs : w.heap.size ≤ w'.heap.size) : RsAt k w' v es := by
  refine ⟨h.1, h.2.imp id ?_⟩
  rintro ⟨b, o, c, rfl, hc, hlt, hr⟩
  exact ⟨b, o, c, rfl, hc, by omega, rangeAt_below hr hb (by omega)⟩
theorem RsAt.to {w w' : World} {v : Value} {es : List (List Value)} (h : RsAt k w v es) (hb : Below w.heap.size w w') : RsAt k w' v es := h.below hb (Nat.le_refl _) hb.size
theorem RsAt.form {w : World} {v : Value} {es : List (List Value)} (h : RsAt k w v es) : ∃ a c, v = .slice a es.length c := by
  rcases h.2 with ⟨rfl, rfl⟩ | ⟨B, o, c, rfl, _⟩
  · exact ⟨none, 0, rfl⟩
  · exact ⟨_, c, rfl⟩
theorem RsAt.get {w : World} {v : Value} {es : List (List Value)} (h : RsAt k w v es) (hp : 0 < es.length) : ∃ B o c, v = .slice (some ⟨B, o, none⟩) es.length c ∧ es.length ≤ c ∧ B < w.heap.size ∧ w.rangeAt B o es.flatten := by
  rcases h.2 with ⟨rfl, rfl⟩ | h
  · simp at hp
  · exact h
/-- A row of the call's own. -/
def OwnR (T k : Nat) (w : World) (B : Nat) (v : Value) (es : List (List Value)) : Prop := AllK k es ∧ w.ownsRow B T k v es.length es.flatten
theorem OwnR.nil (w : World) (B : Nat) : OwnR T k w B (.slice none 0 0) [] := ⟨AllK.nil, World.ownsRow_nil w B _ k⟩
theorem OwnR.rs {w : World} {B : Nat} {v : Value} {es : List (List Value)} (h : OwnR T k w B v es) : RsAt k w v es := by
  refine ⟨h.1, ?_⟩
  have h' := h.2
  rcases h'.2 with ⟨rfl, hn⟩ | ⟨g, cap, cur, rfl, _, hg, hle, _⟩
  · exact .inl ⟨rfl, List.eq_nil_of_length_eq_zero hn⟩
  · refine .inr ⟨g, 0, cap, rfl, hle, (Array.getElem?_eq_some_iff.1 hg).1, fun j u hj => ?_⟩
    have := World.ownsRow.cells h.2 (g := g) rfl j u hj
    rw [addr_addR] at this; exact this
theorem OwnR.to {w w' : World} {B C : Nat} {v : Value} {es : List (List Value)} (h : OwnR T k w B v es) (hb : Below C w w') (hC : w.heap.size ≤ C) : OwnR T k w' B v es := by
  refine ⟨h.1, h.2.1, ?_⟩
  rcases h.2.2 with h0 | ⟨g, cap, cur, e, hB, hg, r⟩
  · exact .inl h0
  · exact .inr ⟨g, cap, cur, e, hB, (hb.block g (by have := (Array.getElem?_eq_some_iff.1 hg).1; omega)).trans hg, r⟩
theorem OwnR.base {w : World} {B C : Nat} {v : Value} {es : List (List Value)} (h : OwnR T k w B v es) (hC : C ≤ B) : OwnR T k w C v es := by
  refine ⟨h.1, h.2.1, ?_⟩
  rcases h.2.2 with h0 | ⟨g, cap, cur, e, hB, r⟩
  · exact .inl h0
  · exact .inr ⟨g, cap, cur, e, by omega, r⟩
/-- A row of one's own with an element at least: its block. -/
theorem OwnR.blk {w : World} {B : Nat} {v : Value} {es : List (List Value)} (h : OwnR T k w B v es) (hp : 0 < es.length) :
    ∃ g cap cur, v = .slice (some ⟨g, 0, none⟩) es.length cap ∧ B ≤ g ∧ Arr w g T cur ∧ es.length ≤ cap ∧ cap ≤ maxLen ∧ cur.length = cap * k ∧ cur.take (k * es.length) = es.flatten := by
  rcases h.2.2 with ⟨_, h0⟩ | ⟨g, cap, cur, e, hB, hg, h1, h2, h3, h4⟩
  · omega
  · exact ⟨g, cap, cur.toList, e, hB, by unfold Arr; simpa using hg, h1, h2, by simpa using h3, by rw [Nat.mul_comm]; exact h4⟩
theorem OwnR.of_arr {w : World} {B g cap : Nat} {cur : List Value} {es : List (List Value)} (hk : AllK k es) (ha : Arr w g T cur) (hB : B ≤ g) (h1 : es.length ≤ cap) (h2 : cap ≤ maxLen) (h3 : cur.length = cap * k) (h4 : cur.take (k * es.length) = es.flatten) :
    OwnR T k w B (.slice (some ⟨g, 0, none⟩) es.length cap) es :=
  ⟨hk, by rw [flat_len hk, Nat.mul_comm], .inr ⟨g, cap, cur.toArray, rfl, hB, ha, h1, h2, by simpa using h3, by rw [Nat.mul_comm]; simpa using h4⟩⟩

section
variable {ops : Array Oper} {rest : List Oper} {o : Oper} {a : Act} {w : World} {Q : Exit → Act → World → Prop}
theorem wpL_newR (R : RowTy P ST T k by_ z) (hgd : o.guard = none) (ho : o.op = .alloc T)
    (h : ∀ b W, NewAt w W b T z → wpList P ops Q rest (a.put o.dst (.pointer (some ⟨b, 0, none⟩))) W) : wpList P ops Q (o :: rest) a w := by
  refine wpList_plain hgd fun K hK => ?_
  have := hK _ _ (h w.heap.size (w.alloc (.cells z.toArray T)) (NewAt.mk' _ _ _))
  unfold Oper.wp execOp
  simp only [ho, Instr.alloc, Sem.run_bind, Result.andThen_ok, R.zero w]
  simp [newVar, newRow, Value.cells]
  exact this
theorem wpL_boxR (T : TypeId) (hgd : o.guard = none) (x : Operand) (ho : o.op = .box T x) (xs : List Value) (hx : a.eval x = .agg xs.toArray)
    (h : ∀ b W, NewAt w W b T xs → wpList P ops Q rest (a.put o.dst (.pointer (some ⟨b, 0, none⟩))) W) : wpList P ops Q (o :: rest) a w := by
  refine wpList_plain hgd fun K hK => ?_
  have := hK _ _ (h w.heap.size (w.alloc (.cells xs.toArray T)) (NewAt.mk' _ _ _))
  unfold Oper.wp execOp
  simp only [ho, Instr.box, Sem.run_bind, Result.andThen_ok, hx]
  simp [newVar, newRow, Value.cells]
  exact this
theorem wpL_putR (R : RowTy P ST T k by_ z) (hgd : o.guard = none) (x y : Operand) (ho : o.op = .store T x y) (b : Nat) (xs : List Value) (hx : a.eval x = .pointer (some ⟨b, 0, none⟩)) (hy : a.eval y = .agg xs.toArray) (hl : xs.length = k)
    (h1 : ∀ v ∈ xs, v.oneCell' = true) (ys : List Value) (hl2 : ys.length = k) (hg : Arr w b T ys)
    (h : ∀ W, Arr W b T xs → Stp b w W → wpList P ops Q rest (a.put o.dst undef) W) : wpList P ops Q (o :: rest) a w :=
  wpList_store_row hgd T x y ho b xs.toArray hx hy T _ hg (R.size hl) (by simp [hl, hl2]) (by rw [Array.all_eq_true]; intro i hi; exact h1 _ (by simp)) (h _ (Arr.row hg _) (Stp.setRow _ _ _))
theorem wpL_getR (R : RowTy P ST T k by_ z) (hgd : o.guard = none) (x : Operand) (ho : o.op = .load T x) (b : Nat) (xs : List Value) (hx : a.eval x = .pointer (some ⟨b, 0, none⟩)) (hl : xs.length = k) (hg : Arr w b T xs)
    (h : wpList P ops Q rest (a.put o.dst (.agg xs.toArray)) w) : wpList P ops Q (o :: rest) a w := by
  obtain ⟨fs, hu⟩ := R.ut
  exact wpList_load_row hgd T x ho b hx T _ (0, 0) _ hg hu rfl (R.size hl) h
theorem wpL_atR (R : RowTy P ST T k by_ z) (hgd : o.guard = none) (x : Operand) (ho : o.op = .load T x) (b off : Nat) (xs : List Value) (hx : a.eval x = .pointer (some ⟨b, off, none⟩)) (hl : xs.length = k) (hg : w.rangeAt b off xs)
    (h : wpList P ops Q rest (a.put o.dst (.agg xs.toArray)) w) : wpList P ops Q (o :: rest) a w := by
  obtain ⟨fs, hu⟩ := R.ut
  exact wpList_load_mid hgd T x ho b off hx xs _ hg hu rfl (by have := R.size hl; simpa using this) h
theorem run_idxR (R : RowTy P ST T k by_ z) (B off n c i : Nat) (hi : i < n) (w : World) : (Instr.indexAt ST (.slice (some ⟨B, off, none⟩) n c) (.int .i64 (i : Int))).run P w = .ok (.pointer (some ⟨B, off + k * i, none⟩)) w := by
  rw [run_indexAt_slice (P := P) w ST ⟨B, off, none⟩ n c .i64 (i : Int) (by rw [R.el]; exact R.us), if_pos (by omega), R.el, R.sz]
  simp [Result.andThen, addr_addR, Nat.mul_comm]
theorem wpL_idxR (R : RowTy P ST T k by_ z) (hgd : o.guard = none) (x y : Operand) (ho : o.op = .indexAddr ST x y) (B off n c i : Nat) (hx : a.eval x = .slice (some ⟨B, off, none⟩) n c) (hy : a.eval y = .int .i64 (i : Int)) (hi : i < n)
    (h : wpList P ops Q rest (a.put o.dst (.pointer (some ⟨B, off + k * i, none⟩))) w) : wpList P ops Q (o :: rest) a w := by
  refine wpList_plain hgd fun K hK => ?_
  have := hK _ _ h
  unfold Oper.wp execOp
  simp only [ho, hx, hy, Sem.run_bind, run_idxR R B off n c i hi, Result.andThen_ok]
  exact this
theorem run_toR (R : RowTy P ST T k by_ z) (B off n c i : Nat) (hi : i ≤ c) (w : World) : (Instr.sliceAt ST (.slice (some ⟨B, off, none⟩) n c) none (some (.int .i64 (i : Int))) none).run P w = .ok (.slice (some ⟨B, off, none⟩) i c) w := by
  rw [run_sliceAt_slice (P := P) (w := w) ST _ _ _ _ (by rw [R.el]; exact R.us)]
  rw [run_slice_h (P := P) (w := w) ST (some ⟨B, off, none⟩) n c (by rw [R.el]; exact R.us) .i64 (i : Int) (by omega) (by omega), R.el, R.sz]
  simp [Result.andThen, sliced, addr_addR]
theorem run_fromR (R : RowTy P ST T k by_ z) (B off n c i : Nat) (hi : i ≤ n) (w : World) : (Instr.sliceAt ST (.slice (some ⟨B, off, none⟩) n c) (some (.int .i64 (i : Int))) none none).run P w = .ok (.slice (some ⟨B, if c = i then off else off + k * i, none⟩) (n - i) (c - i)) w := by
  rw [run_sliceAt_slice (P := P) (w := w) ST _ _ _ _ (by rw [R.el]; exact R.us)]
  rw [run_slice_l (P := P) (w := w) ST (some ⟨B, off, none⟩) n c (by rw [R.el]; exact R.us) .i64 (i : Int) (by omega) (by omega), R.el, R.sz]
  simp only [Result.andThen, sliced, Int.toNat_natCast]
  split <;> simp [addr_addR, Nat.mul_comm]
theorem wpL_toR (R : RowTy P ST T k by_ z) (hgd : o.guard = none) (x y : Operand) (ho : o.op = .slice ST x none (some y) none) (B off n c i : Nat) (hx : a.eval x = .slice (some ⟨B, off, none⟩) n c) (hy : a.eval y = .int .i64 (i : Int)) (hi : i ≤ c)
    (h : wpList P ops Q rest (a.put o.dst (.slice (some ⟨B, off, none⟩) i c)) w) : wpList P ops Q (o :: rest) a w := by
  refine wpList_plain hgd fun K hK => ?_
  have := hK _ _ h
  unfold Oper.wp execOp
  simp only [ho, hx, hy, Option.map_none, Option.map_some, Sem.run_bind, run_toR R B off n c i hi, Result.andThen_ok]
  exact this
theorem wpL_fromR (R : RowTy P ST T k by_ z) (hgd : o.guard = none) (x y : Operand) (ho : o.op = .slice ST x (some y) none none) (B off n c i : Nat) (hx : a.eval x = .slice (some ⟨B, off, none⟩) n c) (hy : a.eval y = .int .i64 (i : Int)) (hi : i ≤ n)
    (h : wpList P ops Q rest (a.put o.dst (.slice (some ⟨B, if c = i then off else off + k * i, none⟩) (n - i) (c - i))) w) : wpList P ops Q (o :: rest) a w := by
  refine wpList_plain hgd fun K hK => ?_
  have := hK _ _ h
  unfold Oper.wp execOp
  simp only [ho, hx, hy, Option.map_none, Option.map_some, Sem.run_bind, run_fromR R B off n c i hi, Result.andThen_ok]
  exact this
/-- 'append(s, x...)' of elements onto a row of one's own. -/
theorem wpL_appR (R : RowTy P ST T k by_ z) (hgd : o.guard = none) (s x : Operand) (ho : o.op = .call { callee := .builtin .append, args := #[s, x], argTypes := #[ST, ST] }) (B g off c : Nat) (v : Value) (es fs : List (List Value)) (m : Nat)
    (hv : a.eval s = v) (hx : a.eval x = .slice (some ⟨g, off, none⟩) m c) (hm : fs.length = m) (hown : OwnR T k w B v es) (hg : w.rangeAt g off fs.flatten) (hk : AllK k fs) (h1 : One1 fs) (hB : B ≤ w.heap.size) (hn : es.length + m ≤ 1048576)
    (h : ∀ v' W, OwnR T k W B v' (es ++ fs) → w.grownBy W v.ownBlock → Below B w W → wpList P ops Q rest (a.put o.dst v') W) : wpList P ops Q (o :: rest) a w := by
  obtain ⟨i0, hi, hz0, hz1, hz2⟩ := info_parts R.info
  have hb := R.bm
  refine wpList_append_own w hgd s x ST ho B T i0 _ k by_ R.us hi hz0 hz1 hz2 (by simp [Value.cells, R.zl]) R.kp v es.length es.flatten hv hown.2 ⟨g, off, none⟩ m c fs.flatten hx ?_ ?_ h1.flat ?_ ?_ hB ?_
  · rw [flat_len hk, hm, Nat.mul_comm]
  · intro j u hj
    rw [addr_addR]; exact hg j u hj
  · unfold maxLen; omega
  · have h1 : (es.length + m) * by_ ≤ 1048576 * 65536 := Nat.mul_le_mul hn hb
    omega
  · intro v' W h1 h2 _
    refine h v' W ⟨hown.1.app hk, ?_⟩ h2 ((Below.refl B w).grown h2 hB fun k hk => (World.ownsRow.lt hown.2 k hk).1)
    rw [List.length_append, List.flatten_append, hm]; exact h1
end
theorem foldSetR (l : List Value) : ∀ (k off : Nat) (cs : Array Value), off + k + l.length ≤ cs.size →
    ((l.zipIdx k).foldl (fun cs (x : Value × Nat) => cs.setIfInBounds (off + x.2) x.1) cs).toList = cs.toList.take (off + k) ++ l ++ cs.toList.drop (off + k + l.length) := by
  induction l with
  | nil => intro k off cs h; simp
  | cons x l ih =>
    intro k off cs h
    simp only [List.length_cons] at h
    rw [List.zipIdx_cons, List.foldl_cons, ih (k + 1) off _ (by simp; omega)]
    simp only [Array.toList_setIfInBounds, List.length_cons]
    have h1 : off + k < cs.toList.length := by simp; omega
    rw [List.take_set, List.drop_set, if_pos (by omega)]
    have e1 : (cs.toList.take (off + (k + 1))).set (off + k) x = cs.toList.take (off + k) ++ [x] := by
      rw [show off + (k + 1) = (off + k) + 1 from by omega, List.take_add_one, List.getElem?_eq_getElem h1]
      rw [List.set_append_right _ _ (by rw [List.length_take]; omega), List.length_take, Nat.min_eq_left (by omega), Nat.sub_self]; rfl
    rw [e1, show off + (k + 1) + l.length = off + k + (l.length + 1) from by omega]
    simp
theorem run_bs1R (R : RowTy P ST T k by_ z) (x : List Value) (hx : x.length = k) (w : World) : (Instr.buildSlice ST 1 #[(0, .agg x.toArray)]).run P w = .ok (.slice (some ⟨w.heap.size, 0, none⟩) 1 1) (w.alloc (.cells x.toArray T)) := by
  obtain ⟨i0, hi, hz0, hz1, hz2⟩ := info_parts R.info
  have hkm := R.km; have hkp := R.kp
  refine run_buildSlice w ST T 1 _ _ i0 _ R.us hi hz0 (by rw [hz1]; omega) (by rw [hz1]; omega) ?_
  rw [hz1]
  have hsz : ((Array.range (1 * k)).map ((Value.agg z.toArray).cells[· % (Value.agg z.toArray).cells.size]!)).size = k := by simp
  have e := foldSetR x 0 0 ((Array.range (1 * k)).map ((Value.agg z.toArray).cells[· % (Value.agg z.toArray).cells.size]!)) (by rw [hsz]; omega)
  have hc : (Value.agg x.toArray).cells = x.toArray := rfl
  conv => lhs; unfold Instr.fill
  dsimp only
  rw [if_neg (by rw [hc]; simp; omega), hc]
  unfold Instr.fill
  congr 1
  rw [← Array.toList_inj, ← Array.foldl_toList]
  simp only [Nat.zero_mul, Nat.zero_add, List.take_zero, List.nil_append] at e
  rw [List.drop_of_length_le (by simp [hx]), List.append_nil] at e
  simpa using e
section
variable {ops : Array Oper} {rest : List Oper} {o : Oper} {a : Act} {w : World} {Q : Exit → Act → World → Prop}
theorem wpL_bs1R (R : RowTy P ST T k by_ z) (hgd : o.guard = none) (x : Operand) (ho : o.op = .buildSlice ST 1 #[(0, x)]) (l : List Value) (hx : a.eval x = .agg l.toArray) (hl : l.length = k)
    (h : ∀ b W, NewAt w W b T l → wpList P ops Q rest (a.put o.dst (.slice (some ⟨b, 0, none⟩) 1 1)) W) : wpList P ops Q (o :: rest) a w := by
  refine wpList_plain hgd fun K hK => ?_
  have := hK _ _ (h w.heap.size (w.alloc (.cells l.toArray T)) (NewAt.mk' _ _ _))
  unfold Oper.wp execOp
  simp only [ho, List.map_toArray, List.map_cons, List.map_nil, hx, Sem.run_bind, run_bs1R R l hl, Result.andThen_ok]
  exact this
end
theorem stp_trans {w W X : World} {b : Nat} (h : Stp b w W) (k : Stp b W X) : Stp b w X :=
  ⟨k.size.trans h.size, fun c hc => (k.other c hc).trans (h.other c hc), fun N hN => (h.below N hN).trans (k.below N hN)⟩
theorem stp_cell (w : World) (b i : Nat) (v : Value) : Stp b w (w.setCell ⟨b, i, none⟩ v) := ⟨by simp, fun c hc => Below.heap_setCell w ⟨b, i, none⟩ v c hc, fun N hN => (Below.refl N w).setCell (p := ⟨b, i, none⟩) hN v⟩
theorem stp_same (w : World) (b : Nat) : Stp b w w := ⟨rfl, fun _ _ => rfl, fun N _ => Below.refl N w⟩
theorem setCells_stp (b : Nat) : ∀ (vs : List Value) (o : Nat) (w : World), Stp b w (w.setCells b o vs)
  | [], _, w => stp_same w b
  | v :: r, o, w => by rw [World.setCells]; exact stp_trans (stp_cell w b o v) (setCells_stp b r (o + 1) _)
theorem setCells_arr {b t : Nat} : ∀ (vs : List Value) (o : Nat) (w : World) (xs : List Value), Arr w b t xs → o + vs.length ≤ xs.length → Arr (w.setCells b o vs) b t (xs.take o ++ vs ++ xs.drop (o + vs.length))
  | [], o, w, xs, ha, _ => by simpa [World.setCells] using ha
  | v :: r, o, w, xs, ha, hl => by
    simp only [List.length_cons] at hl
    have h := setCells_arr r (o + 1) _ (xs.set o v) (ha.set o v) (by simp; omega)
    rw [World.setCells]
    have e1 : (xs.set o v).take (o + 1) = xs.take o ++ [v] := by
      rw [List.take_set, List.take_add_one, List.getElem?_eq_getElem (show o < xs.length by omega)]
      rw [List.set_append_right _ _ (by rw [List.length_take]; omega), List.length_take, Nat.min_eq_left (by omega), Nat.sub_self]; rfl
    have e2 : (xs.set o v).drop (o + 1 + r.length) = xs.drop (o + (r.length + 1)) := by
      rw [List.drop_set, if_pos (by omega)]; congr 1; omega
    rw [e1, e2] at h
    simpa using h
/-- 'copy(d, s)' of elements: all is read before anything is written. -/
theorem run_copyR (R : RowTy P ST T k by_ z) (w : World) (ty : TypeId) (b o dLen dCap : Nat) (ga go sLen sCap : Nat) (fs : List (List Value)) (xs : List Value) (t : Nat)
    (hn : fs.length = min sLen dLen) (hk : AllK k fs) (h1 : One1 fs) (hsrc : w.rangeAt ga go fs.flatten) (ha : Arr w b t xs) (hl : o + k * fs.length ≤ xs.length) :
    (Builtin.copy_ #[ST, ST] ty #[.slice (some ⟨b, o, none⟩) dLen dCap, .slice (some ⟨ga, go, none⟩) sLen sCap]).run P w = .ok (goInt fs.length) (w.setCells b o fs.flatten) := by
  obtain ⟨i0, hi, hz0, hz1, hz2⟩ := info_parts R.info
  have hfl := flat_len hk
  have hlo := run_loadCells_list (P := P) (w := w) ⟨ga, go, none⟩ fs.flatten (fun j v hj => by rw [addr_addR]; exact hsrc j v hj)
  have hst := run_storeCells_cells (P := P) b o fs.flatten 0 w (by
    intro j hj
    rw [ha.cell (o + 0 + j) (by rw [hfl] at hj; omega)]; rfl) (fun j hj => ha.frozen _) h1.flat
  rw [hfl, Nat.mul_comm] at hlo
  simp [Builtin.copy_, run_underlying R.us, Builtin.lenOf, Builtin.firstCells, sizeOf, typeInfo, hi, hz1, ← hn, hlo, hst]
section
variable {ops : Array Oper} {rest : List Oper} {o : Oper} {a : Act} {w : World} {Q : Exit → Act → World → Prop}
theorem wpL_fromV (R : RowTy P ST T k by_ z) (hgd : o.guard = none) (x y : Operand) (ho : o.op = .slice ST x (some y) none none) (B off n c i : Nat) (hx : a.eval x = .slice (some ⟨B, off, none⟩) n c) (hy : a.eval y = .int .i64 (i : Int)) (hi : i ≤ n)
    (v : Value) (hv : Value.slice (some ⟨B, if c = i then off else off + k * i, none⟩) (n - i) (c - i) = v) (h : wpList P ops Q rest (a.put o.dst v) w) : wpList P ops Q (o :: rest) a w :=
  wpL_fromR R hgd x y ho B off n c i hx hy hi (by rw [hv]; exact h)
theorem wpL_copyRun (hgd : o.guard = none) (d s : Operand) (t t' : TypeId) (ho : o.op = .call { callee := .builtin .copy, args := #[d, s], argTypes := #[t, t'] }) (v u : Value) (hd : a.eval d = v) (hs : a.eval s = u) {v' : Value} {w' : World}
    (hr : (Builtin.copy_ #[t, t'] o.type #[v, u]).run P w = .ok v' w') (h : wpList P ops Q rest (a.put o.dst v') w') : wpList P ops Q (o :: rest) a w := by
  refine wpList_plain hgd fun K hK => ?_
  have := hK _ _ h
  unfold Oper.wp execOp
  simp only [ho, resolve, invoke, builtin, Sem.run_bind, Sem.run_pure, Result.andThen_ok, List.map_toArray, List.map_cons, List.map_nil, hd, hs, hr]
  exact this
theorem wpL_appRun (hgd : o.guard = none) (d s : Operand) (t t' : TypeId) (ho : o.op = .call { callee := .builtin .append, args := #[d, s], argTypes := #[t, t'] }) (v u : Value) (hd : a.eval d = v) (hs : a.eval s = u) {v' : Value} {w' : World}
    (hr : (Builtin.append_ #[t, t'] o.type #[v, u]).run P w = .ok v' w') (h : wpList P ops Q rest (a.put o.dst v') w') : wpList P ops Q (o :: rest) a w := by
  refine wpList_plain hgd fun K hK => ?_
  have := hK _ _ h
  unfold Oper.wp execOp
  simp only [ho, resolve, invoke, builtin, Sem.run_bind, Sem.run_pure, Result.andThen_ok, List.map_toArray, List.map_cons, List.map_nil, hd, hs, hr]
  exact this
end
section
variable {ops : Array Oper} {Q : Exit → Act → World → Prop} {S : World → Prop} {j : Nat} {o : Oper} {s : Scr} {a : Act} {w : World} {K : Act → World → Prop}
theorem s_fromR (R : RowTy P ST T k by_ z) (ho : ops[j]? = some o) (hw : Region.wanted o (yielded ops a.tmps) = true) (x y : Operand) (hop : o.op = .slice ST x (some y) none none) (B off n c i : Nat) (hx : a.eval x = .slice (some ⟨B, off, none⟩) n c) (hy : a.eval y = .int .i64 (i : Int)) (hi : i ≤ n)
    (v : Value) (hv : Value.slice (some ⟨B, if c = i then off else off + k * i, none⟩) (n - i) (c - i) = v) (h : wpScr P ops Q s S (a.put o.dst v) w) : wpScr P ops Q (.take j s) S a w :=
  s_val ho hw (fun w hS => by
    unfold execOp
    simp only [hop, hx, hy, Option.map_none, Option.map_some, Sem.run_bind, run_fromR R B off n c i hi, Result.andThen_ok, Sem.run_pure, hv]) h
theorem s_idxR (R : RowTy P ST T k by_ z) (ho : ops[j]? = some o) (hw : Region.wanted o (yielded ops a.tmps) = true) (x y : Operand) (hop : o.op = .indexAddr ST x y) (B off n c i : Nat) (hx : a.eval x = .slice (some ⟨B, off, none⟩) n c) (hy : a.eval y = .int .i64 (i : Int)) (hi : i < n)
    (h : wpScr P ops Q s S (a.put o.dst (.pointer (some ⟨B, off + k * i, none⟩))) w) : wpScr P ops Q (.take j s) S a w :=
  s_val ho hw (fun w hS => by
    unfold execOp
    simp only [hop, hx, hy, Sem.run_bind, run_idxR R B off n c i hi, Result.andThen_ok]; rfl) h
theorem s_getR (R : RowTy P ST T k by_ z) (ho : ops[j]? = some o) (hw : Region.wanted o (yielded ops a.tmps) = true) (x : Operand) (hop : o.op = .load T x) (b : Nat) (xs : List Value) (hx : a.eval x = .pointer (some ⟨b, 0, none⟩)) (hl : xs.length = k) (hg : ∀ w, S w → Arr w b T xs)
    (h : wpScr P ops Q s S (a.put o.dst (.agg xs.toArray)) w) : wpScr P ops Q (.take j s) S a w := by
  obtain ⟨fs, hu⟩ := R.ut
  exact s_val ho hw (fun w hS => by
    unfold execOp
    simp only [hop, hx, Instr.loadAt, Instr.sureAddr, Sem.run_bind, Sem.run_pure, Result.andThen_ok, run_loadVar_row (P := P) w b T T _ (0, 0) _ (hg w hS) hu rfl (R.size hl)]) h
theorem s_skip (ho : ops[j]? = some o) (hw : Region.wanted o (yielded ops a.tmps) = false) (h : wpScr P ops Q s S (a.put o.dst undef) w) : wpScr P ops Q (.take j s) S a w :=
  ⟨o, undef, ho, .inr ⟨hw, rfl⟩, h⟩
theorem o_copyV (ho : ops[j]? = some o) (hw : Region.wanted o (yielded ops a.tmps) = true) (d x : Operand) (t u : TypeId)
    (hop : o.op = .call { callee := .builtin .copy, args := #[d, x], argTypes := #[t, u] }) (dv xv v : Value) (w' : World) (hd : a.eval d = dv) (hx : a.eval x = xv)
    (hrun : (Builtin.copy_ #[t, u] o.type #[dv, xv]).run P w = .ok v w') (hS : S w') (h : K (a.put o.dst v) w') : opW P ops Q S j K a w := by
  refine ⟨o, ho, hw, ?_⟩
  unfold Oper.wp
  simp [execOp, hop, resolve, invoke, builtin, hd, hx, hrun, Result.andThen]
  exact ⟨hS, h⟩
end
/-- An element goes in between: into a new row, into the row itself. -/
theorem ins_grow {row A x D : List Value} {k i n : Nat} (hA : A.length = k * i) (hr : row.take (k * i) = A) (hx : x.length = k) (hD : D.length = k * (n - i)) (hi : i ≤ n) (hl : k * (n + 1) ≤ row.length) :
    ((row.take (k * i) ++ x ++ row.drop (k * i + k)).take (k * (i + 1)) ++ D ++ (row.take (k * i) ++ x ++ row.drop (k * i + k)).drop (k * (i + 1) + D.length)).take (k * (n + 1)) = A ++ x ++ D := by
  have e1 : k * (i + 1) = (A ++ x).length := by rw [List.length_append, hA, hx]; rw [Nat.mul_add]; omega
  have e2 : k * (n + 1) = (A ++ x ++ D).length := by
    rw [List.length_append, List.length_append, hA, hx, hD]
    have : k * (n - i) = k * n - k * i := Nat.mul_sub k n i
    have h2 : k * i ≤ k * n := Nat.mul_le_mul_left k hi
    rw [Nat.mul_add]; omega
  rw [hr, e1, List.take_left, e2, List.take_left]
theorem ins_shift {row A x D : List Value} {k i n : Nat} (hA : A.length = k * i) (hr : row.take (k * n) = A ++ D) (hx : x.length = k) (hD : D.length = k * (n - i)) (hi : i ≤ n) (hl : k * (n + 1) ≤ row.length) :
    ((row.take (k * (i + 1)) ++ D ++ row.drop (k * (i + 1) + D.length)).take (k * i) ++ x ++ (row.take (k * (i + 1)) ++ D ++ row.drop (k * (i + 1) + D.length)).drop (k * i + x.length)).take (k * (n + 1)) = A ++ x ++ D := by
  have h2 : k * i ≤ k * n := Nat.mul_le_mul_left k hi
  have h3 : k * (n - i) = k * n - k * i := Nat.mul_sub k n i
  have h4 : k * (i + 1) = k * i + k := by rw [Nat.mul_add]; omega
  have h5 : k * (n + 1) = k * n + k := by rw [Nat.mul_add]; omega
  have hrow : row = A ++ D ++ row.drop (k * n) := by rw [← hr, List.take_append_drop]
  obtain ⟨Z, hZ⟩ : ∃ Z, row.drop (k * n) = Z := ⟨_, rfl⟩
  have t1 : (row.take (k * (i + 1))).length = k * i + k := by rw [List.length_take]; omega
  have t2 : (row.take (k * (i + 1)) ++ D ++ row.drop (k * (i + 1) + D.length)).take (k * i) = A := by
    rw [List.append_assoc, List.take_append_of_le_length (by omega), List.take_take, Nat.min_eq_left (by omega)]
    have : row.take (k * i) = (row.take (k * n)).take (k * i) := by rw [List.take_take, Nat.min_eq_left h2]
    rw [this, hr, ← hA, List.take_left]
  have t3 : (row.take (k * (i + 1)) ++ D ++ row.drop (k * (i + 1) + D.length)).drop (k * i + x.length) = D ++ row.drop (k * (i + 1) + D.length) := by
    rw [List.append_assoc, hx, ← t1, List.drop_left]
  rw [t2, t3]
  have e2 : k * (n + 1) = (A ++ x ++ D).length := by rw [List.length_append, List.length_append, hA, hx, hD]; omega
  rw [← List.append_assoc, e2, List.take_left]
end Go.Proofs.Ytokakgjcegmabaa.Rw
