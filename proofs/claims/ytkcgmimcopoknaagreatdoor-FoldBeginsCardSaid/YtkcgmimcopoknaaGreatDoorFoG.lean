
/-
  fold: the hub.
-/
import Derived.Test.YtkcgmimcopoknaaGreatDoorFoE
namespace Go.Proofs.YtkcgmimcopoknaaGreatDoor
set_option maxRecDepth 100000
set_option linter.unusedVariables false
set_option linter.unusedSimpArgs false
open Go.RowKit Rw
open List (getElem_toArray getElem_cons_zero getElem_cons_succ setIfInBounds_toArray set_cons_zero set_cons_succ)

section
variable {P : Program} {ST T k by_ : Nat} {z : List Value} {ops : Array Oper} {rest : List Oper} {o : Oper} {a : Act} {w : World} {Q : Exit → Act → World → Prop}
theorem RsAt.pre {av : Option Addr} {n c i : Nat} {fs : List (List Value)} (hu : RsAt k w (.slice av n c) fs) (hi : i ≤ fs.length) : RsAt k w (.slice av i c) (fs.take i) := by
  rcases hu.2 with ⟨e, rfl⟩ | ⟨g, off, c', e, hc, hg, hr⟩
  · simp only [Value.slice.injEq] at e
    obtain ⟨rfl, -, rfl⟩ := e
    have h0 : i = 0 := by simpa using hi
    subst h0; exact RsAt.nil w
  · simp only [Value.slice.injEq] at e
    obtain ⟨rfl, -, rfl⟩ := e
    have hl : (fs.take i).length = i := by rw [List.length_take]; omega
    exact ⟨hu.1.take i, .inr ⟨g, off, c, by rw [hl], by omega, hg, rAt_take hr i⟩⟩
theorem wpL_toPre (R : RowTy P ST T k by_ z) (hgd : o.guard = none) (x y : Operand) (ho : o.op = .slice ST x none (some y) none) (av : Option Addr) (n c i : Nat) (fs : List (List Value)) (hx : a.eval x = .slice av n c) (hy : a.eval y = .int .i64 (i : Int)) (hu : RsAt k w (.slice av n c) fs) (hi : i ≤ fs.length)
    (h : wpList P ops Q rest (a.put o.dst (.slice av i c)) w) : wpList P ops Q (o :: rest) a w := by
  rcases hu.2 with ⟨e, rfl⟩ | ⟨g, off, c', e, hc, hg, hr⟩
  · simp only [Value.slice.injEq] at e
    obtain ⟨rfl, rfl, rfl⟩ := e
    have h0 : i = 0 := by simpa using hi
    subst h0
    refine wpList_plain hgd fun K hK => ?_
    have := hK _ _ h
    have e : (Instr.sliceAt ST (.slice none 0 0) none (some (.int .i64 ((0 : Nat) : Int))) none).run P w = .ok (.slice none 0 0) w := by
      rw [run_sliceAt_slice (P := P) (w := w) ST _ _ _ _ (by rw [R.el]; exact R.us)]
      rw [run_slice_h (P := P) (w := w) ST none 0 0 (by rw [R.el]; exact R.us) .i64 ((0 : Nat) : Int) (by omega) (by omega), R.el, R.sz]
      simp [Result.andThen, sliced]
    unfold Oper.wp execOp
    simp only [ho, hx, hy, Option.map_none, Option.map_some, Sem.run_bind, e, Result.andThen_ok]
    exact this
  · simp only [Value.slice.injEq] at e
    obtain ⟨rfl, rfl, rfl⟩ := e
    exact wpL_toR R hgd x y ho g off fs.length c i hx hy (by omega) h
end
theorem EsAt.pre {w : World} {av : Option Addr} {n c k : Nat} {es : List Ev} (h : EsAt w (.slice av n c) es) (hk : k ≤ es.length) : EsAt w (.slice av k c) (es.take k) :=
  ⟨by rw [show rowsE (es.take k) = (rowsE es).take k from by simp [rowsE, List.map_take]]; exact RsAt.pre h.rs (by rw [rowsE_len]; exact hk), fun e he => h.fit e (List.mem_of_mem_take he), by have := h.len; simp; omega⟩
theorem hubF_le : ∀ (l : List Ev) (p : Int × Int), p.2 ≤ (l.foldl hubK p).2 ∧ (l.foldl hubK p).2 ≤ p.2 + l.length
  | [], p => by simp
  | e :: l, p => by
    have := hubF_le l (hubK p e)
    have h2 : p.2 ≤ (hubK p e).2 ∧ (hubK p e).2 ≤ p.2 + 1 := by
      unfold hubK; split
      · simp; omega
      · split <;> simp <;> omega
    simp only [List.foldl_cons, List.length_cons]
    push_cast
    omega
theorem hubF_step {es : List Ev} {i : Nat} {e : Ev} (h : i < es.length) (he : es[i] = e) (p : Int × Int) : (es.take (i + 1)).foldl hubK p = hubK ((es.take i).foldl hubK p) e := by
  rw [List.take_add_one, List.getElem?_eq_getElem h, he, List.foldl_append]; rfl
end Go.Proofs.YtkcgmimcopoknaaGreatDoor
