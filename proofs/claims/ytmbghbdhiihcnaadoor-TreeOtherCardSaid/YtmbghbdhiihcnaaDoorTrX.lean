
/-
  Tree: the walks of TreeRoots and TreeClimbs.
-/
import Derived.Test.YtmbghbdhiihcnaaDoorTrW
namespace Go.Proofs.YtmbghbdhiihcnaaDoor
set_option maxRecDepth 100000
set_option linter.unusedVariables false
set_option linter.unusedSimpArgs false
open Go.RowKit

section
variable {ops : Array Oper} {rest : List Oper} {o : Oper} {a : Act} {w : World} {Q : Exit → Act → World → Prop}
theorem wpL_getg (hw : Region.wanted o (yielded ops a.tmps) = true) (x : Operand) (ho : o.op = .load 23 x) (b : Nat) (l : List UInt8) (hx : a.eval x = .pointer (some ⟨b, 0, none⟩)) (hl : l.length = 32) (hg : Arr w b 23 (u8s l))
    (h : wpList Tryd.prog ops Q rest (a.put o.dst (.agg (u8s l).toArray)) w) : wpList Tryd.prog ops Q (o :: rest) a w :=
  wpList_load_row_g hw 23 x ho b hx 23 _ (0, 0) _ hg hash_row rfl (hash_size hl) h
theorem wpL_valg (hw : Region.wanted o (yielded ops a.tmps) = true) (v : Value) (hr : (execOp a.eval o).run Tryd.prog w = .ok (.value v) w) (h : wpList Tryd.prog ops Q rest (a.put o.dst v) w) : wpList Tryd.prog ops Q (o :: rest) a w :=
  wpList_step fun K hK => by
    rw [if_pos hw]
    unfold Oper.wp
    rw [hr]
    exact hK _ _ h
theorem wpL_eqlg (hw : Region.wanted o (yielded ops a.tmps) = true) (x y : Operand) (u : TypeId) (ho : o.op = .binOp .eql 23 x y u) (l m : List UInt8) (hx : a.eval x = .agg (u8s l).toArray) (hy : a.eval y = .agg (u8s m).toArray) (hl : l.length = 32) (hm : m.length = 32) (b : Bool) (hb : decide (l = m) = b)
    (h : wpList Tryd.prog ops Q rest (a.put o.dst (.bool b)) w) : wpList Tryd.prog ops Q (o :: rest) a w :=
  wpL_valg hw _ (by
    unfold execOp
    simp only [ho, hx, hy, Sem.run_bind, run_eqGuard_agg (P := Tryd.prog) _ _ _ _ _ _ _ guard_hash, eql_hash w l m hl hm, hb, Result.andThen_ok, Sem.run_pure]) h
theorem wpL_neqg (hw : Region.wanted o (yielded ops a.tmps) = true) (x y : Operand) (u : TypeId) (ho : o.op = .binOp .neq 23 x y u) (l m : List UInt8) (hx : a.eval x = .agg (u8s l).toArray) (hy : a.eval y = .agg (u8s m).toArray) (hl : l.length = 32) (hm : m.length = 32) (b : Bool) (hb : (!decide (l = m)) = b)
    (h : wpList Tryd.prog ops Q rest (a.put o.dst (.bool b)) w) : wpList Tryd.prog ops Q (o :: rest) a w :=
  wpL_valg hw _ (by
    unfold execOp
    simp only [ho, hx, hy, Sem.run_bind, run_eqGuard_agg (P := Tryd.prog) _ _ _ _ _ _ _ guard_hash, neq_hash w l m hl hm, hb, Result.andThen_ok, Sem.run_pure]) h
end
end Go.Proofs.YtmbghbdhiihcnaaDoor
