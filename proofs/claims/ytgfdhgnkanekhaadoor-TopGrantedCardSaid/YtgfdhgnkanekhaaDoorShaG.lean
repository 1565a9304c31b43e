
/-
  sha.Mid.
-/
import Derived.Test.YtgfdhgnkanekhaaDoorShaF
namespace Go.Proofs.YtgfdhgnkanekhaaDoor
set_option linter.unusedVariables false
set_option linter.unusedSimpArgs false
open Go.RowKit

theorem shaL_len (l : List UInt8) : (shaL l).length = 32 := joinL_len _
set_option maxRecDepth 100000 in
set_option maxHeartbeats 8000000 in
theorem mid_any (w : World) (s : ByteArray) (hs : s.size ≤ 281474976710656) (hK : KT w) :
    Calls Tryd.prog 87 #[.string s] w fun e w' => e = .returned (.string (mkS ((shaL s.data.toList).take 16))) ∧ Below w.heap.size w w' := by
  have HS := hidp fun W (h : KT W) => sum_any W s hs h
  have HK := hidp hK
  clear hK
  go_enter Tryd.func87, Tryd.ntmps87
  go_wp2_with fail
  refine (HS.out w HK.out).mono ?_
  rintro e w1 ⟨rfl, hb1⟩
  obtain ⟨xs, hxs⟩ : ∃ xs, (u8s (shaL s.data.toList)).toArray = xs := ⟨_, rfl⟩
  rw [hxs]
  have hl32 := hidp (show xs.size = 32 from by rw [← hxs]; simp [u8s, shaL_len])
  have HI := hidp (show (Tryd.prog.info? 26).map (·.size) = some xs.size from by
    rw [show (Tryd.prog.info? 26).map (·.size) = some 32 from by kernel_rfl, hl32.out])
  have hone := hidp (show xs.all (·.oneCell') = true from by rw [← hxs]; exact u8s_one _)
  have hrow : ∀ cur, Arr ((w1.alloc (.cells cur 26)).setRow w1.heap.size xs) w1.heap.size 26 (u8s (shaL s.data.toList)) := by
    intro cur
    rw [← hxs]
    exact Arr.row (xs := cur.toList) (heap_alloc_new w1 _) (u8s (shaL s.data.toList))
  have hstr : ∀ cur, (convert 76 9 (.slice (some ⟨w1.heap.size, 0, none⟩) 16 32)).run Tryd.prog ((w1.alloc (.cells cur 26)).setRow w1.heap.size xs) = .ok (.string (mkS ((shaL s.data.toList).take 16))) ((w1.alloc (.cells cur 26)).setRow w1.heap.size xs) := by
    intro cur
    have hl := shaL_len s.data.toList
    have h := run_str_at (P := Tryd.prog) (src := 76) (e := 5) (dst := 9) Tryd.underlying76 Tryd.underlying5 Tryd.underlying9 w1.heap.size 0 32 ((shaL s.data.toList).take 16) (w := (w1.alloc (.cells cur 26)).setRow w1.heap.size xs) (by
      intro i hi
      rw [List.length_take, hl] at hi
      rw [show (⟨w1.heap.size, 0, none⟩ : Addr).off + i = i from Nat.zero_add _]
      rw [(hrow cur).cell i (by rw [u8s_length, hl]; omega)]
      simp [u8s, List.getD_eq_getElem?_getD, List.getElem?_take, show i < 16 from by omega, hl, show i < 32 from by omega])
    rw [List.length_take, hl] at h
    exact h
  have HXS := hidp hxs; have HB1 := hidp hb1; have HR := hidp hrow
  clear hxs hb1 hrow
  go_wp2_with (refine wpList_store_row rfl 26 (.tmp 3) (.tmp 5) rfl w1.heap.size xs rfl rfl 26 _ (heap_alloc_new w1 _) HI.out (by rw [hl32.out]; rfl) hone.out ?_)
  go_ret
  have hs1 := HB1.out.size
  exact ⟨rfl, below_setRow (HB1.out.alloc hs1 _) hs1 _⟩
end Go.Proofs.YtgfdhgnkanekhaaDoor
