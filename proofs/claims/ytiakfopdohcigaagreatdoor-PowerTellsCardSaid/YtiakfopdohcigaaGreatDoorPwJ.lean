
/-
  power: Parse.
-/
import Derived.Test.YtiakfopdohcigaaGreatDoorPwI
namespace Go.Proofs.YtiakfopdohcigaaGreatDoor
set_option maxRecDepth 100000
set_option linter.unusedVariables false
set_option linter.unusedSimpArgs false
open Go.RowKit Rw Go.Shelf
attribute [local go_sem] Oper.semAt_some


def w0B : ByteArray := ⟨#[]⟩
def wAt (P : List ByteArray) (i : Nat) : ByteArray := P.getD i w0B
def nAt (P : List ByteArray) (i : Nat) : Int := numW (wAt P i)
def usN (P : List ByteArray) (m : Nat) : List (ByteArray × Int) := (List.finRange m).map fun j => (wAt P (6 + 2 * j.1), nAt P (7 + 2 * j.1))
def usP (P : List ByteArray) {m : Nat} (pre : List (Fin m)) : List (ByteArray × Int) := pre.map fun j => (wAt P (6 + 2 * j.1), nAt P (7 + 2 * j.1))
def candL (P : List ByteArray) : Lv := ⟨nAt P 0, nAt P 1, nAt P 2, nAt P 3, nAt P 4, nAt P 5, usN P ((P.length - 6) / 2)⟩
def psL (t : ByteArray) : Option Lv := if (spl t).length < 6 ∨ (spl t).length % 2 ≠ 0 then none else if lvOk (candL (spl t)) = true ∧ (txL (candL (spl t))).toList = t.toList then some (candL (spl t)) else none
def zLv : Lv := ⟨0, 0, 0, 0, 0, 0, []⟩
def psV (t : ByteArray) : Lv := (psL t).getD zLv
def psX (t : ByteArray) : Int := if (psL t).isSome = true then 0 else 6
/-- The six numbers, i of them told. -/
def rowN (P : List ByteArray) (i : Nat) : List Value := [if 0 < i then .int .i64 (nAt P 0) else .int .i64 0, if 1 < i then .int .i64 (nAt P 1) else .int .i64 0, if 2 < i then .int .i64 (nAt P 2) else .int .i64 0, if 3 < i then .int .i64 (nAt P 3) else .int .i64 0, if 4 < i then .int .i64 (nAt P 4) else .int .i64 0, if 5 < i then .int .i64 (nAt P 5) else .int .i64 0]
theorem rowN_set (P : List ByteArray) (i : Nat) (hi : i < 6) : (rowN P i).set i (.int .i64 (nAt P i)) = rowN P (i + 1) := by
  match i, hi with
  | 0, _ => rfl
  | 1, _ => rfl
  | 2, _ => rfl
  | 3, _ => rfl
  | 4, _ => rfl
  | 5, _ => rfl
theorem _root_.Go.Proofs.YtiakfopdohcigaaGreatDoor.Arr.cell' {w : World} {b t : Nat} {xs : List Value} (h : Arr w b t xs) (j : Nat) (u : Value) (hj : xs[j]? = some u) : w.cell? ⟨b, j, none⟩ = some u := by
  obtain ⟨hl, rfl⟩ := List.getElem?_eq_some_iff.1 hj
  exact h.cell j hl
theorem word_cell {w : World} {g N : Nat} {P : List ByteArray} (h : Arr w g 9 (rowW P N)) (i : Nat) (hi : i < P.length) : w.cell? ⟨g, i, none⟩ = some (.string (wAt P i)) := by
  refine Arr.cell' h i _ ?_
  unfold rowW
  rw [List.getElem?_append_left (by rw [strV_length]; exact hi)]
  unfold strV wAt
  rw [List.getElem?_map, List.getD_eq_getElem?_getD, List.getElem?_eq_getElem hi]; rfl
theorem wAt_size {t : ByteArray} {i : Nat} : (wAt (spl t) i).size ≤ t.size := by
  unfold wAt
  rw [List.getD_eq_getElem?_getD]
  cases h : (spl t)[i]? with
  | none => exact Nat.zero_le _
  | some x => exact cutB_size _ _ x (List.mem_of_getElem? h)
theorem usP_snoc (P : List ByteArray) {m : Nat} (pre : List (Fin m)) (j : Fin m) : usP P (pre ++ [j]) = usP P pre ++ [(wAt P (6 + 2 * j.1), nAt P (7 + 2 * j.1))] := by simp [usP]
theorem own_kept {w w' : World} {B : Nat} {v : Value} {es : List (List Value)} {row : Option Nat} (h : OwnR 83 2 w B v es) (hg : w.grownBy w' row) (hr : ∀ r, row = some r → ∃ o : Obj, w.heap[r]? = some o ∧ o.isCells = false) : OwnR 83 2 w' B v es := by
  refine ⟨h.1, World.ownsRow.kept h.2 hg ?_⟩
  rcases h.2.2 with ⟨rfl, _⟩ | ⟨g, cap, cur, rfl, _, hgb, _⟩
  · exact .inl rfl
  · refine .inr fun e' => ?_
    obtain ⟨o, ho, hc⟩ := hr g (by simpa [Value.ownBlock] using e'.symm)
    rw [hgb] at ho; cases ho; cases hc
/-- Between two rounds. -/
def IPs (w w0 : World) (b7 : Nat) (l : Lv) (P : List ByteArray) {m : Nat} (pre : List (Fin m)) (W : World) : Prop :=
  ((∃ v, Arr W b7 37 [.int .i64 l.a, .int .i64 l.s, .int .i64 l.i, .int .i64 l.k, .int .i64 l.b, .int .i64 l.r, v] ∧ OwnR 83 2 W w0.heap.size v (uRs (usP P pre))) ∧ Rnd.Exc b7 w0.heap.size w0 W) ∧ Below w.heap.size w W
theorem IPs_own (w w0 : World) (b7 : Nat) (l : Lv) (P : List ByteArray) (m : Nat) (hw : w.heap.size ≤ w0.heap.size) : OwnFrom w0.heap.size (fun (pre : List (Fin m)) W => IPs w w0 b7 l P pre W) := by
  intro pre W W' row h hg hr
  obtain ⟨⟨⟨v, ha, ho⟩, he⟩, hb⟩ := h
  refine ⟨⟨⟨v, ?_, own_kept ho hg (fun r e => (hr r e).2)⟩, ⟨Nat.le_trans he.size hg.size, fun k hk hb7 => ?_⟩⟩, hb.grown hg hb.size (fun k e => Nat.le_trans hw (hr k e).1)⟩
  · refine (hg.block b7 ha.lt (fun e => ?_)).trans ha
    obtain ⟨-, o, ho, hc⟩ := hr b7 e.symm
    rw [show W.heap[b7]? = _ from ha] at ho; cases ho; cases hc
  · refine (hg.block k (by have := he.size; omega) (fun e => ?_)).trans (he.same k hk hb7)
    have := (hr k e.symm).1; omega
/-- An append to a row of one's own keeps all that is no cells. -/
theorem others_own {w W : World} {B : Nat} {v : Value} {es : List (List Value)} (h : OwnR 83 2 w B v es) (hg : w.grownBy W v.ownBlock) : KeepsOthers w W := by
  refine KeepsOthers.of_grownBy hg fun j o e ho => ?_
  rcases h.2.2 with ⟨rfl, _⟩ | ⟨g, cap, cur, rfl, _, hgb, _⟩
  · cases e
  · obtain rfl : g = j := by simpa [Value.ownBlock] using e
    rw [hgb] at ho; cases ho; rfl
theorem o_appU {ops : Array Oper} {Q : Exit → Act → World → Prop} {S : World → Prop} {j : Nat} {o : Oper} {a : Act} {w : World} {K : Act → World → Prop} (ho : ops[j]? = some o) (hw : Region.wanted o (yielded ops a.tmps) = true) (s x : Operand)
    (hop : o.op = .call { callee := .builtin .append, args := #[s, x], argTypes := #[35, 35] }) (B g : Nat) (v : Value) (es : List (List Value)) (p : ByteArray × Int)
    (hv : a.eval s = v) (hx : a.eval x = .slice (some ⟨g, 0, none⟩) 1 1) (hown : OwnR 83 2 w B v es) (hg : Arr w g 83 (uR p)) (hB : B ≤ w.heap.size) (hn : es.length ≤ 1000)
    (h : ∀ v' W, OwnR 83 2 W B v' (es ++ [uR p]) → w.grownBy W v.ownBlock → Below B w W → S W ∧ K (a.put o.dst v') W) : opW Tryz.prog ops Q S j K a w := by
  obtain ⟨i0, hi, hz0, hz1, hz2⟩ := info_parts tyU.info
  obtain ⟨v', w', hrun, r1, r2, -⟩ := run_append_own_at (P := Tryz.prog) (w := w) B 35 o.type 83 i0 _ 2 24 tyU.us hi hz0 hz1 hz2 (by simp [Value.cells, tyU.zl]) tyU.kp v es.length es.flatten hown.2 ⟨g, 0, none⟩ 1 1 (uR p) rfl
    (fun j u hj => by rw [addr_addR, Nat.zero_add]; exact hg.cell' j u hj) (uR_one p) (by unfold maxLen; omega) (by omega) hB
  refine ⟨o, ho, hw, ?_⟩
  unfold Oper.wp
  simp [execOp, hop, resolve, invoke, builtin, hv, hx, hrun, Result.andThen]
  refine h v' w' ⟨hown.1.app (AllK.one rfl), ?_⟩ r2 ((Below.refl B w).grown r2 hB fun k hk => (World.ownsRow.lt hown.2 k hk).1)
  rw [List.length_append, List.flatten_append]
  simpa using r1
end Go.Proofs.YtiakfopdohcigaaGreatDoor
