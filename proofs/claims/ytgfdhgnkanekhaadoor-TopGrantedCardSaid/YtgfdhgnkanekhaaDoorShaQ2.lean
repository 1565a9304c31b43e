
/-
  A slice's rest, as a law of the walk; small words on frames.
-/
import Derived.Test.YtgfdhgnkanekhaaDoorShaQ
namespace Go.Proofs.YtgfdhgnkanekhaaDoor
set_option linter.unusedVariables false
set_option linter.unusedSimpArgs false
open Go.RowKit

theorem wpList_slice_from {P : Program} {ops : Array Oper} {rest : List Oper} {o : Oper} {a : Act} {w : World} {Q : Exit → Act → World → Prop} (hgd : o.guard = none) (t : TypeId) (x y : Operand)
    (ho : o.op = .slice t x (some y) none none) (hu : P.underlying t = some (.slice (P.elem t))) (i : TypeInfo) (hi : P.info? (P.elem t) = some i) (hz1 : i.size = 1) (g off n c k : Nat)
    (hx : a.eval x = .slice (some ⟨g, off, none⟩) n c) (hy : a.eval y = .int .i64 (k : Int)) (hk : k ≤ n) (hnc : n ≤ c)
    (h : ∀ off' : Nat, (k < n → off' = off + k) → wpList P ops Q rest (a.put o.dst (.slice (some ⟨g, off', none⟩) (n - k) (c - k))) w) : wpList P ops Q (o :: rest) a w := by
  refine wpList_plain hgd fun K hK => ?_
  have hsz : (sizeOf (P.elem t)).run P w = .ok 1 w := by simp [sizeOf, typeInfo, hi, hz1]
  have hr := run_slice_l (P := P) (w := w) t (some ⟨g, off, none⟩) n c hu .i64 (k : Int) (by omega) (by omega)
  rw [hsz] at hr
  simp only [Result.andThen, sliced, Int.toNat_natCast, Nat.mul_one] at hr
  by_cases hc : c = k
  · rw [if_pos hc] at hr
    have := hK _ _ (h off (fun hlt => by omega))
    unfold Oper.wp execOp
    simp [ho, hx, hy, run_sliceAt_slice (P := P) (w := w) t _ _ _ _ hu, hr, Result.andThen]
    exact this
  · rw [if_neg hc] at hr
    have := hK _ _ (h (off + k) (fun _ => rfl))
    unfold Oper.wp execOp
    have e : (⟨g, off, none⟩ : Addr).add k = ⟨g, off + k, none⟩ := by unfold Addr.add; split <;> simp_all
    simp [ho, hx, hy, run_sliceAt_slice (P := P) (w := w) t _ _ _ _ hu, hr, Result.andThen, e]
    exact this
end Go.Proofs.YtgfdhgnkanekhaaDoor
