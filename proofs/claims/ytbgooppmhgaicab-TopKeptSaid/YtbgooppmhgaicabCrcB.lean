
/-
  crc.Bytes and Good, of both sides.
-/
import Derived.Test.YtbgooppmhgaicabCrcA
import Derived.Test.YtbgooppmhgaicabBaB
namespace Go.Proofs.Ytbgooppmhgaicab
set_option maxRecDepth 100000
set_option linter.unusedVariables false
set_option linter.unusedSimpArgs false
open Go.RowKit

def byteAt (x j : Nat) : UInt8 := UInt8.ofNat (x / 2 ^ (24 - 8 * j) % 256)
def partB (x j : Nat) : List UInt8 := (List.range j).map (byteAt x) ++ List.replicate (4 - j) 0
theorem partB_len (x j : Nat) (h : j ≤ 4) : (partB x j).length = 4 := by unfold partB; simp; omega
theorem partB_set (x j : Nat) (h : j < 4) : (u8s (partB x j)).set j (.int .u8 (byteAt x j).toNat) = u8s (partB x (j + 1)) := by
  rcases (by omega : j = 0 ∨ j = 1 ∨ j = 2 ∨ j = 3) with rfl | rfl | rfl | rfl <;> rfl
theorem partB_four (x : Nat) : partB x 4 = bytesL x := by unfold bytesL; simp [partB, byteAt, List.range, List.range.loop]

set_option maxHeartbeats 4000000 in
theorem split_any (w : World) (x : Nat) (hx : x < 4294967296) :
    Calls Try.prog 48 #[.int .u32 x] w fun e w' => e = .returned (.agg (u8s (bytesL x)).toArray) ∧ Below w.heap.size w w' := by
  go_enter Try.func48, Try.ntmps48
  go_wp2
  go_loopw [5] (fun t5 wr => ∃ j : Nat, t5 = .int .i64 j ∧ j ≤ 4 ∧ Arr wr (w.heap.size + 1) 93 (u8s (partB x j)) ∧ Arr wr w.heap.size 93 (u8s (partB x 0)) ∧ Below w.heap.size w wr) (fun t5 _ => 4 - (intOf t5).toNat)
  case atStart =>
    refine ⟨0, rfl, by omega, ?_, ?_, ((Below.refl _ w).alloc (Nat.le_refl _) _).alloc (by simp) _⟩
    · have h := Arr.new (w.alloc (.cells (u8s (partB x 0)).toArray 93)) 93 (u8s (partB x 0))
      rw [heap_size_alloc] at h; exact h
    · exact (Arr.new w 93 (u8s (partB x 0))).alloc _
  case round =>
    obtain ⟨j, rfl, hj, hA, hZ, hbw⟩ := hrel
    have HA := hidp hA; have HZ := hidp hZ; have hlen := hbw.size; clear hA hZ
    by_cases h4 : j < 4
    · have hc := HA.out.cell j (by rw [u8s_length, partB_len _ _ hj]; omega)
      have hf := HA.out.frozen j
      have hst := hidp (HA.out.set j (.int .u8 (byteAt x j).toNat))
      rw [partB_set x j h4] at hst
      have hbv := hidp (show Value.int .u8 ((x : Int) / 2 ^ (32 - 8 * (j + 1)) % 256) = .int .u8 ((byteAt x j).toNat : Int) from by
        unfold byteAt
        rw [u8n _ (Nat.mod_lt _ (by omega)), show 32 - 8 * (j + 1) = 24 - 8 * j from by omega]; simp)
      go_wp2
      rw [hbv.out]
      refine ⟨⟨j + 1, by go_num, by omega, hst.out, HZ.out.other _ (by simp) _, hbw.setCell (p := ⟨w.heap.size + 1, j, none⟩) (by simp) _⟩, by simp [intOf]; omega⟩
    · obtain rfl : j = 4 := by omega
      have hsz := hidp (show (Try.prog.info? 93).map (·.size) = some (u8s (partB x 4)).toArray.size from by
        rw [show (Try.prog.info? 93).map (·.size) = some 4 from by kernel_rfl]; simp [u8s_length, partB_len])
      have hl := hidp (show (u8s (partB x 0)).toArray.size = (u8s (partB x 4)).toArray.size from by simp [u8s_length, partB_len])
      have hone := hidp (u8s_one (partB x 4))
      have hB := hidp (partB_four x)
      obtain ⟨X, hX⟩ : ∃ X, u8s (partB x 4) = X := ⟨_, rfl⟩
      rw [hX] at HA hsz hl hone
      have HX := hidp hX; clear hX
      go_wp2_with (first
        | (refine wpList_load_row rfl 93 (.tmp 3) rfl (w.heap.size + 1) rfl 93 X.toArray (0, 0) _ HA.out Try.underlying93 rfl hsz.out ?_)
        | (refine wpList_store_row rfl 93 (.tmp 2) (.tmp 18) rfl w.heap.size X.toArray rfl rfl 93 _ HZ.out hsz.out hl.out hone.out ?_))
      have hfin : (wr.setRow w.heap.size X.toArray).heap[w.heap.size]? = some (.cells X.toArray 93 (0, 0)) := setRow_heap _ _ _ _ _ _ HZ.out
      refine bodyPost_ret (results_cell_row (P := Try.prog) (p := 2) (ty := 93) Try.results48 _ _ w.heap.size 93 X.toArray (0, 0) _ rfl hfin Try.underlying93 rfl hsz.out) rfl ?_
      exact ⟨by rw [← HX.out, hB.out], below_setRow hbw (Nat.le_refl _) _⟩
theorem slice4all (bb : Nat) (W : World) : (Instr.sliceAt 93 (.pointer (some ⟨bb, 0, none⟩)) none none none).run Try.prog W = .ok (.slice (some ⟨bb, 0, none⟩) 4 4) W := by
  have hal : Try.prog.arrayLen 93 = 4 := by kernel_rfl
  have hel : Try.prog.elem 93 = 5 := by kernel_rfl
  have hu : Try.prog.underlying 93 = some (.array (Try.prog.arrayLen 93) (Try.prog.elem 93)) := by kernel_rfl
  have hs := run_sliceAt_array_all (P := Try.prog) W 93 ⟨bb, 0, none⟩ hu
  obtain ⟨i0, hi, hz0, hz1, hz2⟩ := info_parts info5
  have hsz : (sizeOf 5).run Try.prog W = .ok 1 W := by simp [sizeOf, typeInfo, hi, hz1]
  rw [hs, hal, hel, hsz]
  simp only [Result.andThen, slicedAt]
  rw [if_neg (by omega)]
  simp [Addr.add]
theorem bytesL_len (x : Nat) : (bytesL x).length = 4 := by unfold bytesL; rfl
theorem str_row4 (W : World) (b : Nat) (l : List UInt8) (hl : l.length = 4) (T : Nat) (h : Arr W b T (u8s l)) :
    (convert 50 9 (.slice (some ⟨b, 0, none⟩) 4 4)).run Try.prog W = .ok (.string (mkS l)) W := by
  have h := run_str_at (P := Try.prog) (src := 50) (e := 5) (dst := 9) Try.underlying50 Try.underlying5 Try.underlying9 b 0 4 l (w := W) (by
    intro i hi
    rw [show (⟨b, 0, none⟩ : Addr).off + i = i from Nat.zero_add _]
    rw [h.cell i (by rw [u8s_length]; exact hi)]
    simp [u8s, List.getD_eq_getElem?_getD, hi])
  rw [hl] at h
  exact h

set_option maxHeartbeats 4000000 in
theorem cbytes_any (w : World) (s : ByteArray) (hs : s.size ≤ maxLen) :
    Calls Try.prog 40 #[.string s] w fun e w' => e = .returned (.string (mkS (bytesL (sumL s.data.toList)))) ∧ Below w.heap.size w w' := by
  have hx := sumL_lt s.data.toList
  have c1 := hidp (crc_any w s hs)
  obtain ⟨x, hX⟩ : ∃ x, sumL s.data.toList = x := ⟨_, rfl⟩
  rw [hX] at hx c1 ⊢
  clear hX
  obtain ⟨L, hL⟩ : ∃ L, bytesL x = L := ⟨_, rfl⟩
  have hLl : L.length = 4 := by rw [← hL]; exact bytesL_len x
  have c2 := hidp (fun W => split_any W x hx)
  rw [hL] at c2 ⊢
  clear hL
  have HLL := hidp hLl; clear hLl
  go_enter Try.func40, Try.ntmps40
  go_wp2_with fail
  refine c1.out.mono ?_
  rintro e w1 ⟨rfl, rfl⟩
  go_wp2_with fail
  refine (c2.out _).mono ?_
  rintro e w1 ⟨rfl, hb1⟩
  have HB1 := hidp hb1; clear hb1
  obtain ⟨xs, hxs⟩ : ∃ xs, (u8s L).toArray = xs := ⟨_, rfl⟩
  rw [hxs]
  have HI := hidp (show (Try.prog.info? 93).map (·.size) = some xs.size from by
    rw [show (Try.prog.info? 93).map (·.size) = some 4 from by kernel_rfl, ← hxs]; simp [u8s_length, HLL.out])
  have hone := hidp (show xs.all (·.oneCell') = true from by rw [← hxs]; exact u8s_one _)
  have hl4 := hidp (show (#[Value.int .u8 0, .int .u8 0, .int .u8 0, .int .u8 0] : Array Value).size = xs.size from by rw [← hxs]; simp [u8s_length, HLL.out])
  have hrow : ∀ cur, Arr ((w1.alloc (.cells cur 93)).setRow w1.heap.size xs) w1.heap.size 93 (u8s L) := by
    intro cur
    rw [← hxs]
    exact Arr.row (xs := cur.toList) (heap_alloc_new w1 _) (u8s L)
  have hstr := fun cur => str_row4 _ _ L HLL.out _ (hrow cur)
  have hsl := fun W => slice4all w1.heap.size W
  clear hrow
  go_wp2_with (refine wpList_store_row rfl 93 (.tmp 3) (.tmp 6) rfl w1.heap.size xs rfl rfl 93 _ (heap_alloc_new w1 _) HI.out hl4.out hone.out ?_)
  go_ret
  have hs1 := HB1.out.size
  exact ⟨rfl, below_setRow (HB1.out.alloc hs1 _) hs1 _⟩

theorem good_cmp (s : ByteArray) (h : 4 ≤ s.size) : ((s.extract (s.size - 4) s.size).toList == (mkS (bytesL (sumL (s.extract 0 (s.size - 4)).data.toList))).toList) = goodL s.data.toList := by
  unfold goodL
  have hl : s.data.toList.length = s.size := by simp
  rw [decide_eq_true (by rw [hl]; exact h), Bool.true_and, hl]
  have e1 : (s.extract (s.size - 4) s.size).data.toList = s.data.toList.drop (s.size - 4) := by
    simp [List.take_of_length_le]
    try omega
  have e2 : (s.extract 0 (s.size - 4)).data.toList = s.data.toList.take (s.size - 4) := by simp
  rw [mkS_toList, ByteArray.toList_eq, e1, e2, Bool.eq_iff_iff, beq_iff_eq, decide_eq_true_iff]

set_option maxHeartbeats 4000000 in
theorem good_any (w : World) (s : ByteArray) (hs : s.size ≤ maxLen) :
    Calls Try.prog 47 #[.string s] w fun e w' => e = .returned (.bool (goodL s.data.toList)) ∧ Below w.heap.size w w' := by
  unfold maxLen at hs
  by_cases h4 : 4 ≤ s.size
  · have hd : decide (0 ≤ (s.size : Int) - 4) = true := by simp; omega
    have hd2 : decide (4 ≤ (s.size : Int)) = true := by simp; omega
    have e1 : ((s.size : Int) - 4).toNat = s.size - 4 := by omega
    have k1 : (4 : Int) ≤ s.size := by omega
    have k2 : (0 : Int) ≤ (s.size : Int) - 4 := by omega
    have k3 : (s.size : Int) - 4 ≤ s.size := by omega
    have kc := hidp (show ∀ w', Cls w.heap.size w w' → Calls Try.prog 40 #[.string (s.extract 0 (s.size - 4))] w' fun e w2 => e = .returned (.string (mkS (bytesL (sumL (s.extract 0 (s.size - 4)).data.toList)))) ∧ Cls w.heap.size w w2 from fun w' h =>
      (cbytes_any w' _ (by unfold maxLen; simp [ByteArray.size_extract]; omega)).mono fun e w2 ⟨h1, h2⟩ => ⟨h1, h.step (Nat.le_refl _) h2⟩)
    have hv := hidp (good_cmp s h4)
    obtain ⟨X, hX⟩ : ∃ X, s.extract (s.size - 4) s.size = X := ⟨_, rfl⟩
    obtain ⟨Z, hZ⟩ : ∃ Z, s.extract 0 (s.size - 4) = Z := ⟨_, rfl⟩
    obtain ⟨Y, hY⟩ : ∃ Y, mkS (bytesL (sumL Z.data.toList)) = Y := ⟨_, rfl⟩
    rw [hZ] at kc hv
    rw [hY] at kc hv
    rw [hX] at hv
    have HY := hidp hY
    clear hY
    go_enter Try.func47, Try.ntmps47
    go_wp2_with fail
    refine wp_region_quiet (C := Cls w.heap.size w) (by kernel_rfl) (by kernel_rfl) (Cls.start _ _) ?_
    simp only []
    repeat (first
      | (refine q_call ?_ 40 #[.string Z] ?_ kc.out ?_
         · rfl
         · intro w; go_simp; done
         simp only [Act.put, List.setIfInBounds_toArray, List.set_cons_zero, List.set_cons_succ])
      | (apply q_val
         · rfl
         · intro w hw; go_simp; first | done | with_reducible rfl | rfl
         simp only [Act.put, List.setIfInBounds_toArray, List.set_cons_zero, List.set_cons_succ]))
    refine wpQuiet_nil ?_
    intro w2 hC
    go_wp2_with fail
    go_ret
    exact ⟨by rw [← hv.out]; rfl, hC⟩
  · have hd : decide (0 ≤ (s.size : Int) - 4) = false := by simp; omega
    have hd2 : decide (4 ≤ (s.size : Int)) = false := by simp; omega
    have hg : goodL s.data.toList = false := by unfold goodL; rw [decide_eq_false (by simpa using h4)]; rfl
    rw [hg]
    go_enter Try.func47, Try.ntmps47
    go_wp2_with fail
    go_quiet (fail)
    go_wp2_with fail
    go_ret
    exact ⟨rfl, below_drewN (Below.refl _ _) _⟩

theorem v1 : sumL [49, 50, 51, 52, 53, 54, 55, 56, 57] = 58124007 := by decide +kernel
theorem v2 : bytesL 58124007 = [3, 118, 230, 231] := by decide +kernel
theorem v3 : goodL [49, 50, 51, 52, 53, 54, 55, 56, 57, 3, 118, 230, 231] = true := by decide +kernel
theorem v4 : goodL [97, 98, 99] = false := by decide +kernel
end Go.Proofs.Ytbgooppmhgaicab
