/-
  PostDue: the times at which mails were due last, pure and in memory.
-/
import Derived.Test.YtokakgjcegmabaaPoI
import Derived.Test.YtokakgjcegmabaaPoL
import Derived.Test.YtokakgjcegmabaaPoT
import Derived.Test.YtokakgjcegmabaaSl
import Derived.Deep.OwnRows
namespace Go.Proofs.Ytokakgjcegmabaa.Po
set_option maxRecDepth 100000
set_option linter.unusedVariables false
set_option linter.unusedSimpArgs false
open Go.RowKit
open List (getElem_toArray getElem_cons_zero getElem_cons_succ setIfInBounds_toArray set_cons_zero set_cons_succ)

open Go.Conc Go.Shelf Rw
/-- When a letter was due last, as the law counts it. -/
def vl (g : Int) (x : Lt) : Int := if x.sent = true then x.at_ else -g
/-- What stays true of a box and of the law's times. -/
structure Dv (L : List Lt) (la : List Int) (now g : Int) (last lost : Int) (i : Nat) : Prop where
  cap : L.length ≤ 9
  sz : ∀ x ∈ L, x.tx.size ≤ 140737488351232
  at_ : ∀ x ∈ L, 0 ≤ x.at_ ∧ x.at_ ≤ now
  id : ∀ x ∈ L, 1 ≤ x.id ∧ x.id ≤ last
  nd : L.Pairwise fun x y => x.id ≠ y.id
  len : (la.length : Int) = last + 1
  va : ∀ x ∈ L, la[x.id.toNat]? = some (vl g x)
  rg : ∀ z ∈ la, -256 ≤ z ∧ z ≤ 15 * (i : Int)
  no : 0 ≤ now ∧ now ≤ 15 * (i : Int)
  la_ : 0 ≤ last ∧ last ≤ (i : Int)
  lo : 0 ≤ lost ∧ lost ≤ (i : Int)
theorem Dv.start (g : Int) : Dv [] [0] 0 g 0 0 0 := ⟨by decide, (fun x h => by cases h), (fun x h => by cases h), (fun x h => by cases h), .nil, rfl, (fun x h => by cases h), (fun z h => by simp at h; subst h; decide), by decide, by decide, by decide⟩
theorem Dv.full {L : List Lt} {la : List Int} {now g last lost : Int} {i : Nat} (h : Dv L la now g last lost i) (d : Int) (hd : 0 ≤ d ∧ d ≤ 15) : Dv L la (now + d) g last (lost + 1) (i + 1) :=
  ⟨h.cap, h.sz, fun x hx => by have := h.at_ x hx; omega, h.id, h.nd, h.len, h.va, fun z hz => by have := h.rg z hz; omega, by have := h.no; omega, by have := h.la_; omega, by have := h.lo; omega⟩
theorem Dv.room {L : List Lt} {la : List Int} {now g last lost : Int} {i : Nat} (h : Dv L la now g last lost i) (hg : 1 ≤ g ∧ g ≤ 20) (d : Int) (hd : 0 ≤ d ∧ d ≤ 15) (hc : L.length < 9) (to : Int) (tx : ByteArray) (ht : tx.size ≤ 140737488351232) :
    Dv (L ++ [⟨last + 1, to, tx, false, 0⟩]) (la ++ [-g]) (now + d) g (last + 1) lost (i + 1) := by
  have h1 := h.no; have h2 := h.la_; have h3 := h.len; have h4 := h.lo
  refine ⟨by rw [List.length_append]; exact hc, fun x hx => ?_, fun x hx => ?_, fun x hx => ?_, ?_, by rw [List.length_append]; simp; omega, fun x hx => ?_, fun z hz => ?_, by omega, by omega, by omega⟩
  · rcases List.mem_append.1 hx with hx | hx
    · exact h.sz x hx
    · rw [List.mem_singleton] at hx; subst hx; exact ht
  · rcases List.mem_append.1 hx with hx | hx
    · have := h.at_ x hx; omega
    · rw [List.mem_singleton] at hx; subst hx; show (0 : Int) ≤ 0 ∧ (0 : Int) ≤ now + d; omega
  · rcases List.mem_append.1 hx with hx | hx
    · have := h.id x hx; omega
    · rw [List.mem_singleton] at hx; subst hx; show (1 : Int) ≤ last + 1 ∧ last + 1 ≤ last + 1; omega
  · rw [List.pairwise_append]
    refine ⟨h.nd, List.pairwise_singleton _ _, fun x hx y hy => ?_⟩
    rw [List.mem_singleton] at hy; subst hy
    have := h.id x hx
    show x.id ≠ last + 1
    omega
  · rcases List.mem_append.1 hx with hx | hx
    · have h5 := h.id x hx
      rw [List.getElem?_append_left (by omega)]; exact h.va x hx
    · rw [List.mem_singleton] at hx; subst hx
      show (la ++ [-g])[(last + 1).toNat]? = some (-g)
      rw [show (last + 1).toNat = la.length from by omega]; simp
  · rcases List.mem_append.1 hz with hz | hz
    · have := h.rg z hz; omega
    · rw [List.mem_singleton] at hz; subst hz; omega
theorem Dv.done {L : List Lt} {la : List Int} {now g last lost : Int} {i : Nat} (h : Dv L la now g last lost i) (j : Int) : Dv (dnL L j) la now g last lost i :=
  ⟨Nat.le_trans (List.length_filter_le _ _) h.cap, fun x hx => h.sz x (List.mem_filter.1 hx).1, fun x hx => h.at_ x (List.mem_filter.1 hx).1, fun x hx => h.id x (List.mem_filter.1 hx).1, h.nd.filter _, h.len, fun x hx => h.va x (List.mem_filter.1 hx).1, h.rg, h.no, h.la_, h.lo⟩
/-- Is it due, as the law counts. -/
theorem is_due {x : Lt} {now g : Int} (ha : 0 ≤ x.at_ ∧ x.at_ ≤ now) : decide (g ≤ now - vl g x) = dueB x now g := by
  unfold dueB vl
  cases x.sent with
  | false => simp; omega
  | true =>
    have e : decide (now < x.at_) = false := by simp; omega
    simp only [e, Bool.not_true, Bool.false_or, Bool.or_false, if_true]
/-- The law's times when j mails were looked at. -/
structure In (L : List Lt) (la l2 : List Int) (now g : Int) (i j : Nat) : Prop where
  len : l2.length = la.length
  old : ∀ k (h : k < L.length), j ≤ k → l2[(L[k]).id.toNat]? = some (vl g L[k])
  new : ∀ k (h : k < L.length), k < j → l2[(L[k]).id.toNat]? = some (vl g (mkF now g L[k]))
  rg : ∀ z ∈ l2, -256 ≤ z ∧ z ≤ 15 * (i : Int)
theorem In.start {L : List Lt} {la : List Int} {now g last lost : Int} {i : Nat} (h : Dv L la now g last lost i) : In L la la now g i 0 := ⟨rfl, fun k hk _ => h.va _ (List.getElem_mem hk), fun k hk h => by omega, h.rg⟩
theorem In.no {L : List Lt} {la l2 : List Int} {now g : Int} {i j : Nat} (h : In L la l2 now g i j) (hj : j < L.length) (hd : dueB L[j] now g = false) : In L la l2 now g i (j + 1) :=
  ⟨h.len, fun k hk hjk => h.old k hk (by omega), fun k hk hjk => by
    by_cases e : k = j
    · subst e
      have e2 : mkF now g L[k] = L[k] := by unfold mkF; rw [hd]; rfl
      rw [e2]; exact h.old k hk (Nat.le_refl _)
    · exact h.new k hk (by omega), h.rg⟩
theorem id_ne {L : List Lt} (h : L.Pairwise fun x y => x.id ≠ y.id) {j k : Nat} (hj : j < L.length) (hk : k < L.length) (hne : k ≠ j) : L[j].id ≠ L[k].id := by
  rcases Nat.lt_or_ge j k with h1 | h1
  · exact List.pairwise_iff_getElem.1 h j k hj hk h1
  · exact fun e => List.pairwise_iff_getElem.1 h k j hk hj (by omega) e.symm
theorem In.yes {L : List Lt} {la l2 : List Int} {now g last lost : Int} {i j : Nat} (d : Dv L la now g last lost i) (h : In L la l2 now g i j) (hj : j < L.length) (hd : dueB L[j] now g = true) : In L la (l2.set (L[j]).id.toNat now) now g i (j + 1) := by
  have hid : ∀ k (hk : k < L.length), k ≠ j → (L[j]).id.toNat ≠ (L[k]).id.toNat := fun k hk hne e => id_ne d.nd hj hk hne (by have h1 := d.id _ (List.getElem_mem hk); have h2 := d.id _ (List.getElem_mem hj); omega)
  refine ⟨by rw [List.length_set]; exact h.len, fun k hk hjk => ?_, fun k hk hjk => ?_, fun z hz => ?_⟩
  · rw [List.getElem?_set_ne (hid k hk (by omega))]
    exact h.old k hk (by omega)
  · by_cases e : k = j
    · subst e
      have h1 := d.id _ (List.getElem_mem hk); have h2 := d.len; have h3 := h.len
      rw [List.getElem?_set_self (by omega)]
      unfold mkF; rw [hd]; rfl
    · rw [List.getElem?_set_ne (hid k hk e)]
      exact h.new k hk (by omega)
  · rcases List.mem_or_eq_of_mem_set hz with hz | hz
    · exact h.rg z hz
    · subst hz; have := d.no; omega
theorem In.fin {L : List Lt} {la l2 : List Int} {now g last lost : Int} {i : Nat} (d : Dv L la now g last lost i) (h : In L la l2 now g i L.length) : Dv (L.map (mkF now g)) l2 now g last lost i := by
  have e1 : ∀ x : Lt, (mkF now g x).id = x.id := fun x => by unfold mkF mkD; split <;> rfl
  have e2 : ∀ x : Lt, (mkF now g x).tx = x.tx := fun x => by unfold mkF mkD; split <;> rfl
  refine ⟨by rw [List.length_map]; exact d.cap, fun x hx => ?_, fun x hx => ?_, fun x hx => ?_, ?_, by rw [h.len]; exact d.len, fun x hx => ?_, h.rg, d.no, d.la_, d.lo⟩
  · obtain ⟨y, hy, rfl⟩ := List.mem_map.1 hx; rw [e2]; exact d.sz y hy
  · obtain ⟨y, hy, rfl⟩ := List.mem_map.1 hx
    unfold mkF mkD; split
    · exact ⟨d.no.1, Int.le_refl _⟩
    · exact d.at_ y hy
  · obtain ⟨y, hy, rfl⟩ := List.mem_map.1 hx; rw [e1]; exact d.id y hy
  · rw [List.pairwise_map]; exact d.nd.imp fun h => by rw [e1, e1]; exact h
  · obtain ⟨y, hy, rfl⟩ := List.mem_map.1 hx
    obtain ⟨k, hk, rfl⟩ := List.getElem_of_mem hy
    rw [e1]; exact h.new k hk hk
/-- How many of the first j are due. -/
def nD (L : List Lt) (now g : Int) (j : Nat) : Nat := ((L.take j).filter fun x => dueB x now g).length
theorem nD_le (L : List Lt) (now g : Int) (j : Nat) : nD L now g j ≤ (L.filter fun x => dueB x now g).length := by
  unfold nD
  exact ((List.take_sublist j L).filter _).length_le
theorem nD_yes {L : List Lt} {now g : Int} {j : Nat} (hj : j < L.length) (hd : dueB L[j] now g = true) : nD L now g (j + 1) = nD L now g j + 1 := by
  unfold nD
  rw [List.take_add_one, List.getElem?_eq_getElem hj, List.filter_append]
  simp [hd]
theorem nD_no {L : List Lt} {now g : Int} {j : Nat} (hj : j < L.length) (hd : dueB L[j] now g = false) : nD L now g (j + 1) = nD L now g j := by
  unfold nD
  rw [List.take_add_one, List.getElem?_eq_getElem hj, List.filter_append]
  simp [hd]
theorem nD_all (L : List Lt) (now g : Int) : nD L now g L.length = (L.filter fun x => dueB x now g).length := by unfold nD; rw [List.take_length]
theorem due_at {L : List Lt} {now g : Int} {j : Nat} (hj : j < L.length) (hd : dueB L[j] now g = true) : (L.filter fun x => dueB x now g)[nD L now g j]? = some L[j] := by
  have e : L.filter (fun x => dueB x now g) = (L.take j).filter (fun x => dueB x now g) ++ (L[j] :: (L.drop (j + 1)).filter (fun x => dueB x now g)) := by
    have h1 : L = L.take j ++ L[j] :: L.drop (j + 1) := by rw [← List.drop_eq_getElem_cons hj]; exact (List.take_append_drop j L).symm
    conv => lhs; rw [h1]
    rw [List.filter_append, List.filter_cons_of_pos (by simpa using hd)]
  unfold nD
  rw [e, List.getElem?_append_right (Nat.le_refl _)]
  simp
theorem due_ne {L : List Lt} {now g : Int} (nd : L.Pairwise fun x y => x.id ≠ y.id) {j : Nat} (hj : j < L.length) (hd : dueB L[j] now g = false) (p : Lt) (hp : p ∈ L.filter fun x => dueB x now g) : eqM p L[j] = false := by
  obtain ⟨h1, h2⟩ := List.mem_filter.1 hp
  obtain ⟨k, hk, rfl⟩ := List.getElem_of_mem h1
  have hne : k ≠ j := by rintro rfl; rw [hd] at h2; cases h2
  have := id_ne nd hk hj hne.symm
  unfold eqM
  rw [beq_eq_false_iff_ne.2 this]; rfl
/-- The law's times in memory. -/
abbrev iv (la : List Int) : List Value := la.map fun z => .int .i64 z
abbrev LaAt (w : World) (N : Nat) (v : Value) (la : List Int) : Prop := OwnV w N 2 v (iv la)
theorem la_pk {b c cap : Nat} {w W : World} {N : Nat} {v : Value} {la : List Int} {L : List Lt} {gap last lost : Int} (h : LaAt w N v la) (hp : PostAt w b c cap L gap last lost) (hk : Pk b c w W) : LaAt W N v la := by
  refine ⟨h.1, ?_⟩
  rcases h.2 with h0 | ⟨g, cp, cur, e, hB, hg, r⟩
  · exact .inl h0
  · refine .inr ⟨g, cp, cur, e, hB, (hk.same g (Array.getElem?_eq_some_iff.1 hg).1 ?_ ?_).trans hg, r⟩
    · rintro rfl
      have h1 : (Obj.cells cur 2) = Obj.cells (pR c gap last lost).toArray 90 := Option.some.inj (hg.symm.trans hp.arr)
      injection h1 with _ h2
      exact absurd h2 (by decide)
    · rintro rfl
      obtain ⟨s, r, h1⟩ := hp.ch
      rw [hg] at h1; cases h1
theorem la_keep {b t : Nat} {w W : World} {N : Nat} {v : Value} {la : List Int} {xs : List Value} (h : LaAt w N v la) (hg : w.grownBy W v.ownBlock) (ha : Arr w b t xs) (hne : t ≠ 2) : Arr W b t xs := by
  refine (hg.block b ha.lt fun e => ?_).trans ha
  rcases h.2 with ⟨rfl, _⟩ | ⟨g, cap, cur, rfl, hB, hgb, r⟩
  · cases e
  · obtain rfl : b = g := by simpa [Value.ownBlock] using e
    have h1 : (Obj.cells cur 2) = Obj.cells xs.toArray t := Option.some.inj (hgb.symm.trans ha)
    injection h1 with _ h2
    exact hne h2.symm
theorem post_keep {b c cap : Nat} {w W : World} {N : Nat} {v : Value} {la : List Int} {L : List Lt} {gap last lost : Int} (h : LaAt w N v la) (hg : w.grownBy W v.ownBlock) (hp : PostAt w b c cap L gap last lost) : PostAt W b c cap L gap last lost := by
  refine ⟨la_keep h hg hp.arr (by decide), hp.ch.to (hg.block c hp.ch.lt fun e => ?_)⟩
  rcases h.2 with ⟨rfl, _⟩ | ⟨g, cap, cur, rfl, hB, hgb, r⟩
  · cases e
  · obtain rfl : c = g := by simpa [Value.ownBlock] using e
    obtain ⟨s, r, h1⟩ := hp.ch
    rw [hgb] at h1; cases h1
theorem M_low {N : Nat} {w0 w W : World} (h : Mm.M N w0 w []) (hb : Below N w W) (hs : w.heap.size ≤ W.heap.size) : Mm.M N w0 W [] := ⟨h.below.trans hb, Nat.le_trans h.le hs, h.ge, h.inc, fun x hx => by cases hx⟩
theorem grown_low {N : Nat} {w W : World} {v : Value} {la : List Int} (h : LaAt w N v la) (hN : N ≤ w.heap.size) (hg : w.grownBy W v.ownBlock) : Below N w W := by
  rcases h.2 with ⟨rfl, _⟩ | ⟨g, cap, cur, rfl, hB, hgb, r⟩
  · exact (Below.refl N w).grown hg hN (fun r h => by cases h)
  · exact (Below.refl N w).grown hg hN (fun r h => by simp [Value.ownBlock] at h; omega)
theorem la_get {w : World} {N : Nat} {v : Value} {la : List Int} (h : LaAt w N v la) (hp : 0 < la.length) : ∃ g c, v = .slice (some ⟨g, 0, none⟩) la.length c ∧ N ≤ g ∧ g < w.heap.size ∧ ∀ (i : Nat) (z : Int), la[i]? = some z → w.cell? ⟨g, i, none⟩ = some (.int .i64 z) := by
  obtain ⟨g, c, e, h1, h2, h3⟩ := Sl.own_cells h (by simpa using hp)
  rw [List.length_map] at e
  refine ⟨g, c, e, h1, h2, fun i z hi => ?_⟩
  obtain ⟨hl, rfl⟩ := List.getElem?_eq_some_iff.1 hi
  have := h3 i (by simpa using hl)
  simpa using this
theorem la_arr {w : World} {N : Nat} {v : Value} {la : List Int} (h : LaAt w N v la) (hp : 0 < la.length) : ∃ g c cur, v = .slice (some ⟨g, 0, none⟩) la.length c ∧ N ≤ g ∧ Arr w g 2 cur ∧ la.length ≤ cur.length ∧ ∀ W i z, i < la.length → Arr W g 2 (cur.set i (.int .i64 z)) → LaAt W N v (la.set i z) := by
  rcases h.2 with ⟨_, h0⟩ | ⟨g, cap, cur, e, hB, hg, h1, h2, h3, h4⟩
  · simp at h0; subst h0; simp at hp
  · have e1 : (iv la).length = la.length := List.length_map ..
    rw [e1] at e h1 h4
    refine ⟨g, cap, cur.toList, e, hB, by unfold Arr; simpa using hg, by simp; omega, fun W i z hi ha => ?_⟩
    have e2 : (iv (la.set i z)).length = la.length := by simp
    refine ⟨by simp, .inr ⟨g, cap, (cur.toList.set i (.int .i64 z)).toArray, by rw [e2]; exact e, hB, ha, by rw [e2]; exact h1, h2, by simpa using h3, ?_⟩⟩
    rw [e2]
    simp only [Nat.mul_one] at h4 ⊢
    show List.take la.length (cur.toList.set i (.int .i64 z)) = iv (la.set i z)
    rw [List.take_set, h4]
    simp [iv, List.map_set]
section
variable {ops : Array Oper} {rest : List Oper} {o : Oper} {a : Act} {w : World} {Q : Exit → Act → World → Prop}
theorem info64 : (Try.prog.info? 2).map (fun i => (i.zero, i.size, i.bytes)) = some (some (.int .i64 0), 1, 8) := by kernel_rfl
theorem wpL_make1 (hw : Region.wanted o (yielded ops a.tmps) = true) (x y : Operand) (ho : o.op = .makeSlice 73 x y) (hx : a.eval x = .int .i64 1) (hy : a.eval y = .int .i64 1) (h : ∀ b W, Rt.NewAt w W b 2 [.int .i64 0] → wpList Try.prog ops Q rest (a.put o.dst (.slice (some ⟨b, 0, none⟩) 1 1)) W) : wpList Try.prog ops Q (o :: rest) a w := by
  refine wpList_step fun K hK => ?_
  rw [if_pos hw]
  have n := Rt.NewAt.mk' w 2 [.int .i64 0]
  have := hK _ _ (h _ _ n)
  have hr := run_make_row' (P := Try.prog) 73 2 (.int .i64 0) 8 Try.underlying73 info64 rfl .i64 .i64 1 (by omega) (by omega) w
  rw [show madeCells #[Value.int .i64 0] 1 = #[.int .i64 0] from by unfold madeCells; apply Array.ext <;> simp] at hr
  unfold Oper.wp execOp
  simp only [ho, hx, hy, Sem.run_bind]
  rw [show ((1 : Nat) : Int) = 1 from rfl] at hr
  rw [hr]
  exact this
theorem wpL_bsJ (hw : Region.wanted o (yielded ops a.tmps) = true) (x0 : Operand) (z0 : Int) (ho : o.op = .buildSlice 73 1 #[(0, x0)]) (hx0 : a.eval x0 = .int .i64 z0)
    (h : ∀ b W, Rt.NewAt w W b 2 [.int .i64 z0] → wpList Try.prog ops Q rest (a.put o.dst (.slice (some ⟨b, 0, none⟩) 1 1)) W) : wpList Try.prog ops Q (o :: rest) a w := by
  refine wpList_step fun K hK => ?_
  rw [if_pos hw]
  have n := Rt.NewAt.mk' w 2 [.int .i64 z0]
  have := hK _ _ (h _ _ n)
  have hr : (Instr.buildSlice 73 1 #[(0, .int .i64 z0)]).run Try.prog w = .ok (.slice (some ⟨w.heap.size, 0, none⟩) 1 1) (w.alloc (.cells #[.int .i64 z0] 2)) := by
    obtain ⟨i0, hi, hz0, hz1, hz2⟩ := info_parts info64
    refine run_buildSlice w 73 2 1 _ _ i0 _ Try.underlying73 hi hz0 (by rw [hz1]; omega) (by rw [hz1]; omega) ?_
    have hr : Array.range 1 = #[0] := by decide
    rw [hz1]; simp [Instr.fill, Value.cells, hr]
  unfold Oper.wp execOp
  simp only [ho, List.map_toArray, List.map_cons, List.map_nil, hx0, Sem.run_bind, hr, Result.andThen_ok]
  exact this
theorem wpL_appJ (hgd : o.guard = none) (s x : Operand) (ho : o.op = .call { callee := .builtin .append, args := #[s, x], argTypes := #[73, 73] }) (N g : Nat) (v : Value) (la : List Int) (z : Int)
    (hv : a.eval s = v) (hx : a.eval x = .slice (some ⟨g, 0, none⟩) 1 1) (hown : LaAt w N v la) (hg : Arr w g 2 [.int .i64 z]) (hB : N ≤ w.heap.size) (hn : la.length ≤ 1048576)
    (h : ∀ v' W, LaAt W N v' (la ++ [z]) → w.grownBy W v.ownBlock → wpList Try.prog ops Q rest (a.put o.dst v') W) : wpList Try.prog ops Q (o :: rest) a w := by
  obtain ⟨i0, hi, hz0, hz1, hz2⟩ := info_parts info64
  have e1 : (iv la).length = la.length := List.length_map ..
  obtain ⟨v', W, hrun, r1, r2, -⟩ := run_append_own_at (P := Try.prog) (w := w) N 73 o.type 2 i0 _ 1 8 Try.underlying73 hi hz0 hz1 hz2 (by simp [Value.cells]) (by omega) v (iv la).length (iv la) hown ⟨g, 0, none⟩ 1 1 [.int .i64 z] rfl
    (fun j u hj => by rw [addr_addR]; exact hg.range j u hj) (fun u hu => by simp at hu; subst hu; rfl) (by rw [e1]; unfold maxLen; omega) (by rw [e1]; omega) hB
  refine wpL_appRun hgd s x 73 73 ho v _ hv hx hrun (h v' W ?_ r2)
  show OwnV W N 2 v' (iv (la ++ [z]))
  unfold OwnV
  rw [show (iv (la ++ [z])) = iv la ++ [.int .i64 z] from by simp [iv], List.length_append]
  exact r1
end
theorem mls_map (L : List Lt) (now g : Int) : mls (L.map (mkF now g)) = mls L := by
  unfold mls
  rw [List.map_map]
  refine List.map_congr_left fun x _ => ?_
  show (mkF now g x).mail = x.mail
  unfold mkF mkD
  split <;> rfl
theorem PostAt.stp2 {w W : World} {b c cap d t : Nat} {L : List Lt} {gap last lost : Int} {xs : List Value} (h : PostAt w b c cap L gap last lost) (st : Rt.Stp d w W) (ha : Arr w d t xs) (hne : t ≠ 90) : PostAt W b c cap L gap last lost :=
  ⟨st.arr (arr_ne h.arr ha (fun e => hne e.symm)) h.arr, h.ch.to (st.other c (h.ch.ne ha).symm)⟩
theorem M_pk2 {N b c cap : Nat} {w0 w W : World} {Ls : List Mm.Bx} {L : List Lt} {gap last lost : Int} (h : Mm.M N w0 w Ls) (hk : Pk b c w W) (hp : PostAt w b c cap L gap last lost) (hb : N ≤ b) (hc : N ≤ c) (ht : ∀ x ∈ Ls, x.t ≠ 90) : Mm.M N w0 W Ls :=
  ⟨h.below.trans (hk.below h.le hb hc), Nat.le_trans h.le hk.size, h.ge, h.inc, fun x hx => hk.arr (h.has x hx) (arr_ne (h.has x hx) hp.arr (ht x hx)) (hp.ch.ne (h.has x hx))⟩
/-- The law's steps in memory. -/
structure StAt (w : World) (v : Value) (ns : List Int) : Prop where
  form : ∃ a c, v = .slice a ns.length c
  get : 0 < ns.length → ∃ g off c, v = .slice (some ⟨g, off, none⟩) ns.length c ∧ g < w.heap.size ∧ ∀ (i : Nat) (s : Int), ns[i]? = some s → w.cell? ⟨g, off + i, none⟩ = some (.int .u8 s)
  rg : ∀ s ∈ ns, 0 ≤ s ∧ s ≤ 255
theorem la_cell {w : World} {N g n c : Nat} {la : List Int} (h : LaAt w N (.slice (some ⟨g, 0, none⟩) n c) la) (hp : 0 < la.length) (i : Nat) (z : Int) (hi : la[i]? = some z) : w.cell? ⟨g, i, none⟩ = some (.int .i64 z) := by
  obtain ⟨g2, c2, e, -, -, h3⟩ := la_get h hp
  simp only [Value.slice.injEq, Option.some.injEq, Addr.mk.injEq] at e
  obtain ⟨⟨rfl, -, -⟩, -, -⟩ := e
  exact h3 i z hi
theorem la_arr2 {w : World} {N g n c : Nat} {la : List Int} (h : LaAt w N (.slice (some ⟨g, 0, none⟩) n c) la) (hp : 0 < la.length) : ∃ cur, N ≤ g ∧ Arr w g 2 cur ∧ la.length ≤ cur.length ∧ ∀ W i z, i < la.length → Arr W g 2 (cur.set i (.int .i64 z)) → LaAt W N (.slice (some ⟨g, 0, none⟩) n c) (la.set i z) := by
  obtain ⟨g2, c2, cur, e, h1, h2, h3, h4⟩ := la_arr h hp
  simp only [Value.slice.injEq, Option.some.injEq, Addr.mk.injEq] at e
  obtain ⟨⟨rfl, -, -⟩, rfl, rfl⟩ := e
  exact ⟨cur, h1, h2, h3, h4⟩
theorem s_eqM {ops : Array Oper} {o : Oper} {a : Act} {w : World} {Q : Exit → Act → World → Prop} {S : World → Prop} {j : Nat} {s : Scr} (ho : ops[j]? = some o) (hw : Region.wanted o (yielded ops a.tmps) = true) (x y : Operand) (u : TypeId) (hop : o.op = .binOp .eql 75 x y u) (p q : Lt) (hx : a.eval x = .agg p.mail.toArray) (hy : a.eval y = .agg q.mail.toArray)
    (h : wpScr Try.prog ops Q s S (a.put o.dst (.bool (eqM p q))) w) : wpScr Try.prog ops Q (.take j s) S a w :=
  s_val ho hw (fun w _ => by
    unfold execOp
    simp only [hop, hx, hy, Lt.mail, Sem.run_bind, run_eqGuard_agg (P := Try.prog) _ _ _ _ _ _ _ guard_mail, eql_mail, Result.andThen_ok, Sem.run_pure]
    rfl) h
theorem wpL_idx0 {P : Program} {ops : Array Oper} {rest : List Oper} {o : Oper} {a : Act} {w : World} {Q : Exit → Act → World → Prop} {ST T : Nat} (hu : P.underlying ST = some (.slice T)) (hs : (P.info? T).map (·.size) = some 1) (hw : Region.wanted o (yielded ops a.tmps) = true) (x y : Operand) (ho : o.op = .indexAddr ST x y) (B n c i : Nat) (hx : a.eval x = .slice (some ⟨B, 0, none⟩) n c) (hy : a.eval y = .int .i64 (i : Int)) (hi : i < n)
    (h : wpList P ops Q rest (a.put o.dst (.pointer (some ⟨B, i, none⟩))) w) : wpList P ops Q (o :: rest) a w :=
  Sl.wpL_idx1 hu hs hw x y ho B 0 n c i hx hy hi (by rw [Nat.zero_add]; exact h)
theorem naU8 : Mm.NA Try.prog 5 := ⟨_, Try.underlying5, rfl⟩
end Go.Proofs.Ytokakgjcegmabaa.Po
