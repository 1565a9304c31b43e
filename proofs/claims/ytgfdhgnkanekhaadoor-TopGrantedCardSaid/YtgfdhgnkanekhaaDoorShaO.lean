
/-
  palaverref02.constants.
-/
import Derived.Test.YtgfdhgnkanekhaaDoorShaL
namespace Go.Proofs.YtgfdhgnkanekhaaDoor
set_option linter.unusedVariables false
set_option linter.unusedSimpArgs false
open Go.RowKit

theorem wpList_built {P : Program} {ops : Array Oper} {rest : List Oper} {o : Oper} {a : Act} {w : World} {Q : Exit → Act → World → Prop} (hg : o.guard = none) (t : TypeId) (parts : Array (Nat × Operand)) (ho : o.op = .build t parts) (xs : Array Value)
    (hf : P.built t (parts.map fun (i, x) => (i, a.eval x)).toList = some xs) (h : wpList P ops Q rest (a.put o.dst (.agg xs)) w) : wpList P ops Q (o :: rest) a w :=
  wpList_build hg t parts ho (by rw [hf]; rfl) (by rw [hf]; exact h)
set_option maxRecDepth 100000 in
set_option maxHeartbeats 8000000 in
theorem constants_any (w : World) : Calls Tryd.prog 109 #[] w fun e w' => e = .returned (.agg (u32s kk).toArray) ∧ Below w.heap.size w w' := by
  obtain ⟨xs, hxs⟩ : ∃ xs, xs = (u32s kk).toArray := ⟨_, rfl⟩
  have hlen := hidp (show xs.size = 64 from by rw [hxs]; kernel_rfl)
  have hone := hidp (show xs.all (·.oneCell') = true from by rw [hxs]; simp [u32s, Value.oneCell'])
  have HI := hidp (show (Tryd.prog.info? 124).map (·.size) = some xs.size from by rw [hlen.out]; kernel_rfl)
  rw [← hxs]
  have HXS := hidp hxs
  clear hxs
  go_enter Tryd.func109, Tryd.ntmps109
  go_wp2_with (first | (refine wpList_built rfl _ _ rfl xs (by rw [HXS.out]; kernel_rfl) ?_) | (refine wpList_store_row rfl 124 (.tmp 0) (.tmp 1) rfl w.heap.size xs rfl rfl 124 _ (heap_alloc_new w _) HI.out (by rw [hlen.out]; rfl) hone.out ?_))
  have hfin : ∀ cur, ((w.alloc (.cells cur 124)).setRow w.heap.size xs).heap[w.heap.size]? = some (.cells xs 124 (0, 0)) := fun cur => setRow_heap _ _ _ _ _ _ (heap_alloc_new w _)
  refine bodyPost_ret (results_cell_row (P := Tryd.prog) (p := 0) (ty := 124) Tryd.results109 _ _ w.heap.size 124 xs (0, 0) _ rfl (hfin _) Tryd.underlying124 rfl HI.out) rfl ?_
  exact ⟨rfl, below_setRow ((Below.refl _ w).alloc (Nat.le_refl _) _) (Nat.le_refl _) _⟩
end Go.Proofs.YtgfdhgnkanekhaaDoor
