/-
  Layer 2: the walk of ShaTurns.
-/
import Derived.Test.YtcjehpojckdfnaaDoorShaX
namespace Go.Proofs.YtcjehpojckdfnaaDoor
set_option linter.unusedVariables false
set_option linter.unusedSimpArgs false
open Go.RowKit

theorem unV_len (l : List UInt8) : (unV l).length = 32 := by unfold unV; split; exact unL_len l; exact z32_len
set_option maxRecDepth 100000 in
set_option maxHeartbeats 8000000 in
theorem walk_shaTurns (w : World) (hl : List UInt8) (hll : hl.length = 32) (s : ByteArray) (hs : s.size ≤ 140737488351232) (hK : KT w) :
    Calls Tryd.prog 4 #[.agg (u8s hl).toArray, .string s] w fun e w' => e = .returned (.bool true) ∧ Below w.heap.size w w' := by
  have hu := Tryd.underlying24
  have L := hidp (fun W (h : KT W) => lives_any W h)
  have HK := hidp hK
  have hkp := hK.pos
  clear hK
  obtain ⟨H, hH⟩ : ∃ A, u8s hl = A := ⟨_, rfl⟩
  obtain ⟨X, hX⟩ : ∃ A, u8s (unV s.data.toList) = A := ⟨_, rfl⟩
  obtain ⟨E, hE⟩ : ∃ E, unE s.data.toList = E := ⟨_, rfl⟩
  obtain ⟨T, hT⟩ : ∃ T, mkS (hexL hl) = T := ⟨_, rfl⟩
  have hXl : X.length = 32 := by rw [← hX, u8s_length, unV_len]
  have hHl : H.length = 32 := by rw [← hH, u8s_length, hll]
  have hX1 := hidp (show X.toArray.all (·.oneCell') = true from by rw [← hX]; exact u8s_one _)
  have hsz32 := hidp (show (Tryd.prog.info? 24).map (·.size) = some 32 from by kernel_rfl)
  have HIX := hidp (show (Tryd.prog.info? 24).map (·.size) = some X.toArray.size from by rw [hsz32.out]; simp [hXl])
  have HLX := hidp (show X.toArray.size = 32 from by simp [hXl])
  have hq := hidp (eq_row _ (unV_len _) X hX)
  have c1 := hidp (show ∀ W, Calls Tryd.prog 22 #[.string s] W fun e w' => e = .returned (.tuple #[.agg X.toArray, .int .i64 (E : Int)]) ∧ Below W.heap.size W w' from fun W => by rw [← hX, ← hE]; exact unhex_any W s (by omega))
  have c2 := hidp (show ∀ W, Calls Tryd.prog 23 #[.string s] W fun e w' => e = .returned (.tuple #[.agg X.toArray, .int .i64 (E : Int)]) ∧ Below W.heap.size W w' from fun W => by rw [← hX, ← hE]; exact runhex_any W s (by omega))
  have c3 := hidp (show ∀ W, Calls Tryd.prog 24 #[.agg H.toArray] W fun e w' => e = .returned (.string T) ∧ Below W.heap.size W w' from fun W => by rw [← hH, ← hT]; exact hex_any W hl hll)
  have c4 := hidp (show ∀ W, Calls Tryd.prog 25 #[.agg H.toArray] W fun e w' => e = .returned (.string T) ∧ Below W.heap.size W w' from fun W => by rw [← hH, ← hT]; exact rhex_any W hl hll)
  rw [hH]
  clear hH hX hE hT
  have HA0 := hidp (show Arr (w.alloc (.cells H.toArray 24)) w.heap.size 24 H from Arr.new w _ H)
  have HB0 := hidp (show Below w.heap.size w (w.alloc (.cells H.toArray 24)) from (Below.refl _ w).alloc (Nat.le_refl _) _)
  have hz0 : (w.alloc (.cells H.toArray 24)).heap.size = w.heap.size + 1 := by simp
  obtain ⟨W0, hW0⟩ : ∃ W, w.alloc (.cells H.toArray 24) = W := ⟨_, rfl⟩
  rw [hW0] at HA0 HB0 hz0
  have HZ0 := hidp hz0
  have HW0 := hidp hW0
  clear hz0 hW0
  go_enter Tryd.func4, Tryd.ntmps4
  go_wp2_with fail
  rw [HW0.out]
  refine (c1.out _).mono ?_
  rintro e w1 ⟨rfl, hb1⟩
  have hs1 : w.heap.size + 1 ≤ w1.heap.size := by rw [← HZ0.out]; exact hb1.size
  have hv1 := hidp (var_new w1 #[Value.int .u8 0, Value.int .u8 0, Value.int .u8 0, Value.int .u8 0, Value.int .u8 0, Value.int .u8 0, Value.int .u8 0, Value.int .u8 0, Value.int .u8 0, Value.int .u8 0, Value.int .u8 0, Value.int .u8 0, Value.int .u8 0, Value.int .u8 0, Value.int .u8 0, Value.int .u8 0, Value.int .u8 0, Value.int .u8 0, Value.int .u8 0, Value.int .u8 0, Value.int .u8 0, Value.int .u8 0, Value.int .u8 0, Value.int .u8 0, Value.int .u8 0, Value.int .u8 0, Value.int .u8 0, Value.int .u8 0, Value.int .u8 0, Value.int .u8 0, Value.int .u8 0, Value.int .u8 0] 24 X)
  have hbb := hb1.trans (hv1.out.2.1.mono hb1.size)
  have HB1 := hidp (HB0.out.trans (hbb.mono HB0.out.size))
  have HA1 := hidp (HA0.out.below hbb HA0.out.lt)
  clear hb1 hbb
  go_wp2_with (refine wpList_store_row rfl 24 (.tmp 5) (.tmp 12) rfl w1.heap.size X.toArray rfl rfl 24 _ (heap_alloc_new w1 _) HIX.out (by rw [HLX.out]; rfl) hX1.out ?_)
  generalize hW1 : ((w1.alloc (.cells _ 24)).setRow w1.heap.size X.toArray) = W1 at hv1 HB1 HA1 ⊢
  have hz1 := hv1.out.2.2
  have HX1 := hidp hv1.out.1
  clear hv1 hW1
  refine (c2.out _).mono ?_
  rintro e w2 ⟨rfl, hb2⟩
  have hs2 := hb2.size
  have hv2 := hidp (var_new w2 #[Value.int .u8 0, Value.int .u8 0, Value.int .u8 0, Value.int .u8 0, Value.int .u8 0, Value.int .u8 0, Value.int .u8 0, Value.int .u8 0, Value.int .u8 0, Value.int .u8 0, Value.int .u8 0, Value.int .u8 0, Value.int .u8 0, Value.int .u8 0, Value.int .u8 0, Value.int .u8 0, Value.int .u8 0, Value.int .u8 0, Value.int .u8 0, Value.int .u8 0, Value.int .u8 0, Value.int .u8 0, Value.int .u8 0, Value.int .u8 0, Value.int .u8 0, Value.int .u8 0, Value.int .u8 0, Value.int .u8 0, Value.int .u8 0, Value.int .u8 0, Value.int .u8 0, Value.int .u8 0] 24 X)
  have hbb := hb2.trans (hv2.out.2.1.mono hb2.size)
  have HB2 := hidp (HB1.out.trans (hbb.mono HB1.out.size))
  have HA2 := hidp (HA1.out.below hbb HA1.out.lt)
  have HX2 := hidp (HX1.out.below hbb HX1.out.lt)
  clear hb2 hbb
  go_wp2_with (refine wpList_store_row rfl 24 (.tmp 7) (.tmp 17) rfl w2.heap.size X.toArray rfl rfl 24 _ (heap_alloc_new w2 _) HIX.out (by rw [HLX.out]; rfl) hX1.out ?_)
  generalize hW2 : ((w2.alloc (.cells _ 24)).setRow w2.heap.size X.toArray) = W2 at hv2 HB2 HA2 HX2 ⊢
  have hz2 := hv2.out.2.2
  have HY2 := hidp hv2.out.1
  clear hv2 hW2
  have hn0 : w.heap.size < W2.heap.size := by omega
  have hn1 : w1.heap.size < W2.heap.size := by omega
  have hn2 : w2.heap.size < W2.heap.size := by omega
  have HK2 := hidp (HK.out.below HB2.out hkp)
  have r0 := hidp (show ∀ w', Cls W2.heap.size W2 w' → w'.rangeAt w.heap.size 0 H from fun w' h => h.range HA2.out.range hn0)
  have r1 := hidp (show ∀ w', Cls W2.heap.size W2 w' → w'.rangeAt w1.heap.size 0 X from fun w' h => h.range HX2.out.range hn1)
  have r2 := hidp (show ∀ w', Cls W2.heap.size W2 w' → w'.rangeAt w2.heap.size 0 X from fun w' h => h.range HY2.out.range hn2)
  have k0 := hidp (show ∀ w', Cls W2.heap.size W2 w' → Calls Tryd.prog 17 #[] w' fun e w'' => e = .returned (.bool true) ∧ Cls W2.heap.size W2 w'' from fun w' h => (L.out w' (h.kt HK2.out (by omega))).mono fun e w'' ⟨h1, h2⟩ => ⟨h1, h.step (Nat.le_refl _) h2⟩)
  have k3 := hidp (show ∀ w', Cls W2.heap.size W2 w' → Calls Tryd.prog 24 #[.agg H.toArray] w' fun e w'' => e = .returned (.string T) ∧ Cls W2.heap.size W2 w'' from fun w' h => (c3.out w').mono fun e w'' ⟨h1, h2⟩ => ⟨h1, h.step (Nat.le_refl _) h2⟩)
  have k4 := hidp (show ∀ w', Cls W2.heap.size W2 w' → Calls Tryd.prog 25 #[.agg H.toArray] w' fun e w'' => e = .returned (.string T) ∧ Cls W2.heap.size W2 w'' from fun w' h => (c4.out w').mono fun e w'' ⟨h1, h2⟩ => ⟨h1, h.step (Nat.le_refl _) h2⟩)
  have hinfH : (Tryd.prog.info? 24).map (·.size) = some H.length := by rw [hsz32.out, hHl]
  have hinfX : (Tryd.prog.info? 24).map (·.size) = some X.length := by rw [hsz32.out, hXl]
  have hq' := hq.out
  refine wp_region_quiet (C := Cls W2.heap.size W2) (by kernel_rfl) (by kernel_rfl) (Cls.start _ _) ?_
  simp only []
  repeat (first
    | (refine q_row ?_ 24 _ rfl w.heap.size rfl H _ r0.out hu rfl hinfH ?_
       · rfl
       simp only [Act.put, List.setIfInBounds_toArray, List.set_cons_zero, List.set_cons_succ])
    | (refine q_row ?_ 24 _ rfl w1.heap.size rfl X _ r1.out hu rfl hinfX ?_
       · rfl
       simp only [Act.put, List.setIfInBounds_toArray, List.set_cons_zero, List.set_cons_succ])
    | (refine q_row ?_ 24 _ rfl w2.heap.size rfl X _ r2.out hu rfl hinfX ?_
       · rfl
       simp only [Act.put, List.setIfInBounds_toArray, List.set_cons_zero, List.set_cons_succ])
    | (refine q_call ?_ 17 #[] ?_ k0.out ?_
       · rfl
       · intro w; go_simp; done
       simp only [Act.put, List.setIfInBounds_toArray, List.set_cons_zero, List.set_cons_succ])
    | (refine q_call ?_ 24 #[.agg H.toArray] ?_ k3.out ?_
       · rfl
       · intro w; go_simp; done
       simp only [Act.put, List.setIfInBounds_toArray, List.set_cons_zero, List.set_cons_succ])
    | (refine q_call ?_ 25 #[.agg H.toArray] ?_ k4.out ?_
       · rfl
       · intro w; go_simp; done
       simp only [Act.put, List.setIfInBounds_toArray, List.set_cons_zero, List.set_cons_succ])
    | (apply q_val
       · rfl
       · intro w hw; go_simp; first | done | with_reducible rfl | rfl
       simp only [Act.put, List.setIfInBounds_toArray, List.set_cons_zero, List.set_cons_succ]))
  refine wpQuiet_nil ?_
  intro w6 hC6
  have HB6 := hidp (HB2.out.trans (Below.mono hC6 (by omega)))
  go_wp2
  go_ret
  exact ⟨rfl, HB6.out⟩
end Go.Proofs.YtcjehpojckdfnaaDoor
