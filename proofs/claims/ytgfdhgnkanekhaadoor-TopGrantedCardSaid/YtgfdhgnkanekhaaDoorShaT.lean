
/-
  palaverref02.Mid; ranges of a world.
-/
import Derived.Test.YtgfdhgnkanekhaaDoorShaS
import Derived.Deep.RegionHeld3
namespace Go.Proofs.YtgfdhgnkanekhaaDoor
set_option linter.unusedVariables false
set_option linter.unusedSimpArgs false
open Go.RowKit

set_option maxRecDepth 100000 in
set_option maxHeartbeats 8000000 in
theorem rmid_any (w : World) (s : ByteArray) (hs : s.size ≤ 281474976710656 / 4) :
    Calls Tryd.prog 91 #[.string s] w fun e w' => e = .returned (.string (mkS ((shaL s.data.toList).take 16))) ∧ Below w.heap.size w w' := by
  have HS := hidp fun W => rsum_any W s hs
  go_enter Tryd.func91, Tryd.ntmps91
  go_wp2_with fail
  refine (HS.out w).mono ?_
  rintro e w1 ⟨rfl, hb1⟩
  obtain ⟨xs, hxs⟩ : ∃ xs, (u8s (shaL s.data.toList)).toArray = xs := ⟨_, rfl⟩
  rw [hxs]
  have hl32 := hidp (show xs.size = 32 from by rw [← hxs]; simp [u8s, shaL_len])
  have HI := hidp (show (Tryd.prog.info? 26).map (·.size) = some xs.size from by
    rw [show (Tryd.prog.info? 26).map (·.size) = some 32 from by kernel_rfl, hl32.out])
  have hone := hidp (show xs.all (·.oneCell') = true from by rw [← hxs]; exact u8s_one _)
  have hrow : ∀ cur, Arr ((w1.alloc (.cells cur 26)).setRow w1.heap.size xs) w1.heap.size 26 (u8s (shaL s.data.toList)) := by
    intro cur
    rw [← hxs]
    exact Arr.row (xs := cur.toList) (heap_alloc_new w1 _) (u8s (shaL s.data.toList))
  have hstr : ∀ cur, (convert 76 9 (.slice (some ⟨w1.heap.size, 0, none⟩) 16 32)).run Tryd.prog ((w1.alloc (.cells cur 26)).setRow w1.heap.size xs) = .ok (.string (mkS ((shaL s.data.toList).take 16))) ((w1.alloc (.cells cur 26)).setRow w1.heap.size xs) := by
    intro cur
    have hl := shaL_len s.data.toList
    have h := run_str_at (P := Tryd.prog) (src := 76) (e := 5) (dst := 9) Tryd.underlying76 Tryd.underlying5 Tryd.underlying9 w1.heap.size 0 32 ((shaL s.data.toList).take 16) (w := (w1.alloc (.cells cur 26)).setRow w1.heap.size xs) (by
      intro i hi
      rw [List.length_take, hl] at hi
      rw [show (⟨w1.heap.size, 0, none⟩ : Addr).off + i = i from Nat.zero_add _]
      rw [(hrow cur).cell i (by rw [u8s_length, hl]; omega)]
      simp [u8s, List.getD_eq_getElem?_getD, List.getElem?_take, show i < 16 from by omega, hl, show i < 32 from by omega])
    rw [List.length_take, hl] at h
    exact h
  have HXS := hidp hxs; have HB1 := hidp hb1; have HR := hidp hrow
  clear hxs hb1 hrow
  go_wp2_with (refine wpList_store_row rfl 26 (.tmp 3) (.tmp 5) rfl w1.heap.size xs rfl rfl 26 _ (heap_alloc_new w1 _) HI.out (by rw [hl32.out]; rfl) hone.out ?_)
  go_ret
  have hs1 := HB1.out.size
  exact ⟨rfl, below_setRow (HB1.out.alloc hs1 _) hs1 _⟩

theorem Arr.range {w : World} {b t : Nat} {xs : List Value} (h : Arr w b t xs) : w.rangeAt b 0 xs := by
  intro j v hv
  rw [Nat.zero_add, cell_of_row w b j _ t _ h]; simpa using hv
theorem rangeAt_below {w w' : World} {b o B : Nat} {cs : List Value} (h : w.rangeAt b o cs) (hb : Below B w w') (hB : b < B) : w'.rangeAt b o cs :=
  fun j v hv => (hb.cell (p := ⟨b, o + j, none⟩) hB).trans (h j v hv)
/-- What was there at a region's start is there. -/
theorem keep1 {N : Nat} {W w1 w2 : World} {b1 : Nat} {x1 : List Value} (h : w1.rangeAt b1 0 x1 ∧ Below N W w1) (hN : N ≤ w1.heap.size) (h1 : b1 < N) (hb : Below w1.heap.size w1 w2) : w2.rangeAt b1 0 x1 ∧ Below N W w2 :=
  ⟨rangeAt_below h.1 hb (by omega), h.2.trans (hb.mono hN)⟩
theorem keep2 {N : Nat} {W w1 w2 : World} {b1 b2 : Nat} {x1 x2 : List Value} (h : w1.rangeAt b1 0 x1 ∧ w1.rangeAt b2 0 x2 ∧ Below N W w1) (hN : N ≤ W.heap.size) (h1 : b1 < N) (h2 : b2 < N) (hb : Below w1.heap.size w1 w2) :
    w2.rangeAt b1 0 x1 ∧ w2.rangeAt b2 0 x2 ∧ Below N W w2 := by
  have := h.2.2.size
  exact ⟨rangeAt_below h.1 hb (by omega), rangeAt_below h.2.1 hb (by omega), h.2.2.trans (hb.mono (by omega))⟩
theorem keep3 {N : Nat} {W w1 w2 : World} {b1 b2 b3 : Nat} {x1 x2 x3 : List Value} (h : w1.rangeAt b1 0 x1 ∧ w1.rangeAt b2 0 x2 ∧ w1.rangeAt b3 0 x3 ∧ Below N W w1) (hN : N ≤ W.heap.size) (h1 : b1 < N) (h2 : b2 < N) (h3 : b3 < N) (hb : Below w1.heap.size w1 w2) :
    w2.rangeAt b1 0 x1 ∧ w2.rangeAt b2 0 x2 ∧ w2.rangeAt b3 0 x3 ∧ Below N W w2 := by
  have := h.2.2.2.size
  exact ⟨rangeAt_below h.1 hb (by omega), rangeAt_below h.2.1 hb (by omega), rangeAt_below h.2.2.1 hb (by omega), h.2.2.2.trans (hb.mono (by omega))⟩
/-- A new variable that holds a row. -/
theorem var_new (W : World) (cur : Array Value) (T : TypeId) (X : List Value) : Arr ((W.alloc (.cells cur T)).setRow W.heap.size X.toArray) W.heap.size T X ∧ Below W.heap.size W ((W.alloc (.cells cur T)).setRow W.heap.size X.toArray) ∧
    ((W.alloc (.cells cur T)).setRow W.heap.size X.toArray).heap.size = W.heap.size + 1 :=
  ⟨setRow_heap _ _ _ _ _ _ (heap_alloc_new W _), below_setRow ((Below.refl _ W).alloc (Nat.le_refl _) _) (Nat.le_refl _) _, by simp⟩
/-- Two. -/
theorem var_two (W : World) (cur cur' : Array Value) (T T' : TypeId) (X Y : List Value) :
    ((W.alloc (.cells cur T)).alloc (.cells cur' T')).heap[W.heap.size]? = some (.cells cur T (0, 0)) ∧
    (((W.alloc (.cells cur T)).alloc (.cells cur' T')).setRow W.heap.size X.toArray).heap[W.heap.size + 1]? = some (.cells cur' T' (0, 0)) ∧
    Arr ((((W.alloc (.cells cur T)).alloc (.cells cur' T')).setRow W.heap.size X.toArray).setRow (W.heap.size + 1) Y.toArray) W.heap.size T X ∧
    Arr ((((W.alloc (.cells cur T)).alloc (.cells cur' T')).setRow W.heap.size X.toArray).setRow (W.heap.size + 1) Y.toArray) (W.heap.size + 1) T' Y ∧
    Below W.heap.size W ((((W.alloc (.cells cur T)).alloc (.cells cur' T')).setRow W.heap.size X.toArray).setRow (W.heap.size + 1) Y.toArray) ∧
    ((((W.alloc (.cells cur T)).alloc (.cells cur' T')).setRow W.heap.size X.toArray).setRow (W.heap.size + 1) Y.toArray).heap.size = W.heap.size + 2 := by
  have h0 : ((W.alloc (.cells cur T)).alloc (.cells cur' T')).heap[W.heap.size]? = some (.cells cur T (0, 0)) := (Below.heap_alloc _ _ _ (by simp)).trans (heap_alloc_new W _)
  have h1 : (((W.alloc (.cells cur T)).alloc (.cells cur' T')).setRow W.heap.size X.toArray).heap[W.heap.size + 1]? = some (.cells cur' T' (0, 0)) := by
    rw [setRow_other _ _ _ _ (by omega)]
    have := heap_alloc_new (W.alloc (.cells cur T)) (.cells cur' T'); rw [heap_size_alloc] at this; exact this
  refine ⟨h0, h1, ?_, setRow_heap _ _ _ _ _ _ h1, below_setRow (below_setRow (((Below.refl _ W).alloc (Nat.le_refl _) _).alloc (by simp) _) (Nat.le_refl _) _) (by omega) _, by simp⟩
  exact Arr.row_other (setRow_heap _ _ _ _ _ _ h0) _ (by omega) _
end Go.Proofs.YtgfdhgnkanekhaaDoor
