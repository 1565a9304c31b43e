/-
  palaverref02.Unhex.
-/
import Derived.Test.YtcjehpojckdfnaaDoorShaJ
namespace Go.Proofs.YtcjehpojckdfnaaDoor
set_option linter.unusedVariables false
set_option linter.unusedSimpArgs false
open Go.RowKit

set_option maxRecDepth 100000 in
set_option maxHeartbeats 8000000 in
theorem runhex_any (w : World) (s : ByteArray) (hs : s.size ≤ 281474976710656) :
    Calls Tryd.prog 23 #[.string s] w fun e w' => e = .returned (.tuple #[.agg (u8s (unV s.data.toList)).toArray, .int .i64 (unE s.data.toList : Nat)]) ∧ Below w.heap.size w w' := by
  have HI := hidp (show (Tryd.prog.info? 24).map (·.size) = some (u8s z32).toArray.size from by kernel_rfl)
  by_cases h64 : s.size = 64
  · have hlow : 64 ≤ s.size := by omega
    have hhigh : s.size ≤ 64 := by omega
    have hne : ((s.size : Int) != 64) = false := by simp; omega
    have HL := hidp (show s.data.toList.length = 64 from by simpa using h64)
    clear h64
    obtain ⟨l, hl⟩ : ∃ l, s.data.toList = l := ⟨_, rfl⟩
    have Hl := hidp hl
    rw [hl] at HL ⊢
    clear hl
    go_enter Tryd.func23, Tryd.ntmps23
    go_wp2_with fail
    conv in (Obj.cells _ 24) => (change Obj.cells (u8s (List.replicate 32 0)).toArray 24; rw [← z32_eq])
    conv in (Obj.cells #[.int .u8 0, _, _, _, _, _, _, _, _, _, _, _, _, _, _, _, _, _, _, _, _, _, _, _, _, _, _, _, _, _, _, _] 24) => (change Obj.cells (u8s (List.replicate 32 0)).toArray 24; rw [← z32_eq])
    have H0 := hidp (UH.start w l)
    obtain ⟨W0, hW0⟩ : ∃ W, (w.alloc (.cells (u8s z32).toArray 24)).alloc (.cells (u8s z32).toArray 24) = W := ⟨_, rfl⟩
    rw [hW0] at H0 ⊢
    clear hW0
    go_loopw [5] (fun t14 wr => UH w l t14 wr) (fun t14 _ => 32 - (intOf t14).toNat)
    case atStart => exact H0.out
    case round =>
      obtain ⟨i, rfl, hi32, hA, hR, hd, hbw⟩ := hrel
      have HA := hidp hA; have HR := hidp hR; have HD := hidp hd; have HBW := hidp hbw
      clear hA hR hd hbw H0
      have hbs := HBW.out.size
      have hlr := HR.out.lt
      by_cases hi : i < 32
      · have hb1 : 2 * i < s.size := by omega
        have hb2 : 2 * i + 1 < s.size := by omega
        have h1 : s[2 * i]'hb1 = l.getD (2 * i) 0 := by rw [s_byte, Hl.out]
        have h2 : s[2 * i + 1]'hb2 = l.getD (2 * i + 1) 0 := by rw [s_byte, Hl.out]
        obtain ⟨c, hc⟩ : ∃ c, l.getD (2 * i) 0 = c := ⟨_, rfl⟩
        obtain ⟨d, hd⟩ : ∃ d, l.getD (2 * i + 1) 0 = d := ⟨_, rfl⟩
        rw [hc] at h1
        rw [hd] at h2
        obtain ⟨x, hx⟩ : ∃ x, dig c = x := ⟨_, rfl⟩
        obtain ⟨y, hy⟩ : ∃ y, dig d = y := ⟨_, rfl⟩
        have hxl : x ≤ 16 := hx ▸ dig_le c
        have hyl : y ≤ 16 := hy ▸ dig_le d
        have HX := hidp hx; have HY := hidp hy; have HC := hidp hc; have HDD := hidp hd; have H1 := hidp h1; have H2 := hidp h2
        clear hx hy hc hd h1 h2
        go_wp2_with fail
        have e1 : IntKind.i64.wrap (2 * (i : Int)) = 2 * (i : Int) := IntWalk.i64_in _ (by omega)
        have e2 : IntKind.i64.wrap (2 * (i : Int) + 1) = 2 * (i : Int) + 1 := IntWalk.i64_in _ (by omega)
        have e3 : (2 * (i : Int)).toNat = 2 * i := by omega
        have e4 : (2 * (i : Int) + 1).toNat = 2 * i + 1 := by omega
        have e5 : 0 ≤ 2 * (i : Int) := by omega
        have e6 : 0 ≤ 2 * (i : Int) + 1 := by omega
        have e7 : 2 * (i : Int) < s.size := by omega
        have e8 : 2 * (i : Int) + 1 < s.size := by omega
        go_quiet ((go_at_call 57; exact Calls.quiet_of_same (rdig_q _ _ _ rfl)))
        rw [H1.out, H2.out, HX.out, HY.out]
        clear e1 e2 e3 e4 e5 e6 e7 e8
        have HA2 := hidp (show Arr (wr.drewN nq) (w.heap.size + 1) 24 (u8s (unP l i)) from Arr.grown HA.out (row := none) (grownBy_drewN ⟨rfl, rfl, rfl, Nat.le_refl _, fun _ _ _ => rfl⟩ nq) (by simp))
        have HR2 := hidp (show Arr (wr.drewN nq) w.heap.size 24 (u8s z32) from Arr.grown HR.out (row := none) (grownBy_drewN ⟨rfl, rfl, rfl, Nat.le_refl _, fun _ _ _ => rfl⟩ nq) (by simp))
        have HB2 := hidp (below_drewN HBW.out nq)
        have hz2 : (wr.drewN nq).heap.size = wr.heap.size := by simp
        obtain ⟨W2, hW2⟩ : ∃ W, wr.drewN nq = W := ⟨_, rfl⟩
        rw [hW2] at HA2 HR2 HB2 hz2 ⊢
        have HZ2 := hidp hz2
        clear hW2 hz2
        by_cases hx16 : x < 16
        · have hxb : (decide ((x : Int) > 15)) = false := by simp; omega
          by_cases hy16 : y < 16
          · have hyb : (decide ((y : Int) > 15)) = false := by simp; omega
            have hc := HA2.out.cell i (by rw [u8s_length, unP_len _ _ hi32]; omega)
            have hf := HA2.out.frozen i
            have hso := hidp (show 16 * (x : Int) + (y : Int) = (((UInt8.ofNat (16 * x + y)).toNat : Nat) : Int) from by rw [u8n _ (by omega)]; omega)
            go_wp2_with fail
            rw [hso.out]
            have hset := HA2.out.set i (.int .u8 (((UInt8.ofNat (16 * x + y)).toNat : Nat) : Int))
            rw [u8s_set, ← HX.out, ← HY.out, ← HC.out, ← HDD.out, unP_set l i hi, HC.out, HDD.out, HX.out, HY.out] at hset
            refine ⟨⟨i + 1, by simp, by omega, hset, HR2.out.other _ (by simp) _, ?_, HB2.out.setCell (by simp) _⟩, by simp [intOf]; omega⟩
            intro j hj
            rcases (by omega : j < 2 * i ∨ j = 2 * i ∨ j = 2 * i + 1) with h | rfl | rfl
            · exact HD.out j h
            · rw [HC.out, HX.out]; exact hx16
            · rw [HDD.out, HY.out]; exact hy16
          · have hyb : (decide ((y : Int) > 15)) = true := by simp; omega
            have hno : unOk l = false := unOk_no l (2 * i + 1) (by rw [HL.out]; omega) (by rw [HDD.out, HY.out]; exact hy16)
            have HN := hidp hno; clear hno
            go_wp2_with (refine wpList_store_row rfl 24 (.tmp 2) (.tmp 33) rfl w.heap.size (u8s z32).toArray rfl rfl 24 _ HR2.out HI.out rfl (u8s_one z32) ?_)
            have hfin : (W2.setRow w.heap.size (u8s z32).toArray).heap[w.heap.size]? = some (.cells (u8s z32).toArray 24 (0, 0)) := setRow_heap _ _ _ _ _ _ HR2.out
            refine bodyPost_ret (results_row_tmp (P := Tryd.prog) (p := 2) (u := 3) (ty := 24) Tryd.results23 _ _ w.heap.size 24 (u8s z32).toArray (0, 0) _ rfl hfin Tryd.underlying24 rfl HI.out _ rfl) rfl ?_
            exact ⟨by unfold unV unE; rw [HN.out]; rfl, below_setRow HB2.out (Nat.le_refl _) _⟩
        · have hxb : (decide ((x : Int) > 15)) = true := by simp; omega
          have hno : unOk l = false := unOk_no l (2 * i) (by rw [HL.out]; omega) (by rw [HC.out, HX.out]; exact hx16)
          have HN := hidp hno; clear hno
          go_wp2_with (refine wpList_store_row rfl 24 (.tmp 2) (.tmp 33) rfl w.heap.size (u8s z32).toArray rfl rfl 24 _ HR2.out HI.out rfl (u8s_one z32) ?_)
          have hfin : (W2.setRow w.heap.size (u8s z32).toArray).heap[w.heap.size]? = some (.cells (u8s z32).toArray 24 (0, 0)) := setRow_heap _ _ _ _ _ _ HR2.out
          refine bodyPost_ret (results_row_tmp (P := Tryd.prog) (p := 2) (u := 3) (ty := 24) Tryd.results23 _ _ w.heap.size 24 (u8s z32).toArray (0, 0) _ rfl hfin Tryd.underlying24 rfl HI.out _ rfl) rfl ?_
          exact ⟨by unfold unV unE; rw [HN.out]; rfl, below_setRow HB2.out (Nat.le_refl _) _⟩
      · obtain rfl : i = 32 := by omega
        have hA := HA.out
        rw [unP_all] at hA
        have hok : unOk l = true := unOk_yes l HL.out (fun j hj => HD.out j (by omega))
        have HN := hidp hok; clear hok
        obtain ⟨X, hX⟩ : ∃ X, (u8s (unL l)).toArray = X := ⟨_, rfl⟩
        have HSX := hidp (show (Tryd.prog.info? 24).map (·.size) = some X.size from by rw [← hX]; exact hash_size (unL_len l))
        have hone := hidp (show X.all (·.oneCell') = true from by rw [← hX]; exact u8s_one _)
        have hlen := hidp (show (u8s z32).toArray.size = X.size from by rw [← hX]; simp [u8s_length, unL_len, z32_len])
        unfold Arr at hA
        rw [hX] at hA
        have HA := hidp hA; have HX := hidp hX
        clear hA hX
        go_wp2_with (first | (refine wpList_load_row rfl 24 (.tmp 4) rfl (w.heap.size + 1) rfl 24 X (0, 0) _ HA.out Tryd.underlying24 rfl HSX.out ?_) | (refine wpList_store_row rfl 24 (.tmp 2) (.tmp 40) rfl w.heap.size X rfl rfl 24 _ HR.out HSX.out hlen.out hone.out ?_))
        have hfin : (wr.setRow w.heap.size X).heap[w.heap.size]? = some (.cells X 24 (0, 0)) := setRow_heap _ _ _ _ _ _ HR.out
        refine bodyPost_ret (results_row_tmp (P := Tryd.prog) (p := 2) (u := 3) (ty := 24) Tryd.results23 _ _ w.heap.size 24 X (0, 0) _ rfl hfin Tryd.underlying24 rfl HSX.out _ rfl) rfl ?_
        exact ⟨by unfold unV unE; rw [HN.out, ← HX.out]; rfl, below_setRow HBW.out (Nat.le_refl _) _⟩
  · have hno := hidp (show unOk s.data.toList = false from by unfold unOk; simp; intro h; omega)
    have hne : ((s.size : Int) != 64) = true := by simp; omega
    have hld := hidp (show ∀ O, ((w.alloc (.cells (u8s z32).toArray 24)).alloc O).heap[w.heap.size]? = some (.cells (u8s z32).toArray 24 (0, 0)) from fun O => (Arr.new w 24 (u8s z32)).alloc O)
    have hld2 := hidp (show ∀ O, ((w.alloc O).alloc (.cells (u8s z32).toArray 24)).heap[w.heap.size + 1]? = some (.cells (u8s z32).toArray 24 (0, 0)) from fun O => by have := Arr.new (w.alloc O) 24 (u8s z32); rw [heap_size_alloc] at this; exact this)
    go_enter Tryd.func23, Tryd.ntmps23
    go_wp2_with (first | (refine wpList_load_row rfl 24 (.tmp 4) rfl (w.heap.size + 1) rfl 24 (u8s z32).toArray (0, 0) _ (hld2.out _) Tryd.underlying24 rfl HI.out ?_) | (refine wpList_store_row rfl 24 (.tmp 2) (.tmp 11) rfl w.heap.size (u8s z32).toArray rfl rfl 24 _ (hld.out _) HI.out rfl (u8s_one z32) ?_))
    have hfin := fun O => setRow_heap _ _ _ (u8s z32).toArray _ _ (hld.out O)
    refine bodyPost_ret (results_row_tmp (P := Tryd.prog) (p := 2) (u := 3) (ty := 24) Tryd.results23 _ _ w.heap.size 24 (u8s z32).toArray (0, 0) _ rfl (hfin _) Tryd.underlying24 rfl HI.out _ rfl) rfl ?_
    exact ⟨by unfold unV unE; rw [hno.out]; rfl, below_setRow (((Below.refl _ w).alloc (Nat.le_refl _) _).alloc (by simp) _) (Nat.le_refl _) _⟩
end Go.Proofs.YtcjehpojckdfnaaDoor
