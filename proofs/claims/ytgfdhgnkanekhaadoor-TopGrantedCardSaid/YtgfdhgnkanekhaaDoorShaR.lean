
/-
  palaverref02.Sum, the walk.
-/
import Derived.Test.YtgfdhgnkanekhaaDoorShaQ2
namespace Go.Proofs.YtgfdhgnkanekhaaDoor
set_option linter.unusedVariables false
set_option linter.unusedSimpArgs false
open Go.RowKit

/-- As RS, whatever stands in the row of the values. -/
def RT (w : World) (g kb : Nat) (F : List UInt8) (vs : List Nat) (wr : World) : Prop :=
  Arr wr (w.heap.size + 1) 117 (u32s vs) ∧ Arr wr kb 124 (u32s kk) ∧ Arr wr w.heap.size 26 (u8s z32) ∧ AtB wr ⟨g, 0, none⟩ F ∧ g < wr.heap.size ∧ w.heap.size + 1 < g ∧ w.heap.size + 1 < kb ∧ Below w.heap.size w wr
theorem RT.set {w : World} {g kb : Nat} {F : List UInt8} {vs : List Nat} {wr : World} (h : RT w g kb F vs wr) (k n : Nat) : RT w g kb F (vs.set k n) (wr.setCell ⟨w.heap.size + 1, k, none⟩ (.int .u32 (n : Int))) := by
  obtain ⟨a1, a2, a3, a4, a5, a6, a7, a8⟩ := h
  refine ⟨by rw [← u32s_set]; exact a1.set k _, a2.other _ (by simp; omega) _, a3.other _ (by simp) _, fun i hi => ?_, by simpa using a5, a6, a7, a8.setCell (by simp) _⟩
  rw [← a4 i hi]
  exact World.cell?_of_block (Below.heap_setCell wr _ _ g (by simp; omega))
theorem RT.drewN {w : World} {g kb : Nat} {F : List UInt8} {vs : List Nat} {wr : World} (h : RT w g kb F vs wr) (n : Nat) : RT w g kb F vs (wr.drewN n) := by
  obtain ⟨a1, a2, a3, a4, a5, a6, a7, a8⟩ := h
  exact ⟨arr_drewN a1 n, arr_drewN a2 n, arr_drewN a3 n, a4.below (below_drewN (Below.refl _ _) n) a5, by simpa using a5, a6, a7, below_drewN a8 n⟩
theorem t1_eq2 (e f g h k w : Nat) (a b c d : Nat) : (((h : Int) + ((bs1 e : Nat) : Int) + ((chf e f g : Nat) : Int) + (k : Int)) % 4294967296 + (w : Int)) % 4294967296 = ((t1f ⟨a, b, c, d, e, f, g, h⟩ k w : Nat) : Int) := by
  simp only [t1f, add32]; omega
theorem turned_q (x : Nat) (N : Int) (hx : x < 4294967296) (hN : IsRot N) (w : World) : Calls Tryd.prog 111 #[.int .u32 x, .int .i64 N] w fun e w' => e = .returned (.int .u32 (rotr N.toNat x : Nat)) ∧ ∃ n, w' = w.drewN n := turned_any x N hx hN w
set_option maxRecDepth 100000 in
set_option maxHeartbeats 8000000 in
theorem rsum_any (w : World) (s : ByteArray) (hs : s.size ≤ 281474976710656 / 4) :
    Calls Tryd.prog 94 #[.string s] w fun e w' => e = .returned (.agg (u8s (shaL s.data.toList)).toArray) ∧ Below w.heap.size w w' := by
  obtain ⟨i0, hi5, hz0, hz1, hz2⟩ := info_parts info5
  have HI5 := hidp hi5; have HZ1 := hidp hz1
  clear hi5 hz0 hz1 hz2
  have HZ64 := hidp (show (Tryd.prog.info? 124).map (·.size) = some 64 from by kernel_rfl)
  have HZ8 := hidp (show (Tryd.prog.info? 117).map (·.size) = some 8 from by kernel_rfl)
  have HFL := hidp (filled_any · s hs)
  have hfl := fillL_len s.data.toList
  have HSF := hidp (sha_fill s.data.toList)
  have hFs : (fillL s.data.toList).length ≤ s.size + 128 := by
    rw [hfl]; simp; split <;> omega
  obtain ⟨F, hF⟩ : ∃ F, fillL s.data.toList = F := ⟨_, rfl⟩
  rw [hF] at hfl HSF hFs
  have hF64 : F.length % 64 = 0 := by rw [hfl]; omega
  clear hfl
  have HF := hidp hF; clear hF
  go_enter Tryd.func94, Tryd.ntmps94
  go_wp2_with fail
  conv in (Obj.cells _ 26) => (change Obj.cells (u8s (List.replicate 32 0)).toArray 26; rw [← z32_eq])
  conv in (Obj.cells _ 117) => change Obj.cells (u32s init8.list).toArray 117
  obtain ⟨W0, hW0⟩ : ∃ W, (w.alloc (.cells (u8s z32).toArray 26)).alloc (.cells (u32s init8.list).toArray 117) = W := ⟨_, rfl⟩
  rw [hW0]
  have hb0 : Below w.heap.size w W0 := by rw [← hW0]; exact ((Below.refl _ w).alloc (Nat.le_refl _) _).alloc (by simp) _
  have ha0 : Arr W0 (w.heap.size + 1) 117 (u32s init8.list) := by
    rw [← hW0]
    have h := Arr.new (w.alloc (.cells (u8s z32).toArray 26)) 117 (u32s init8.list)
    rw [heap_size_alloc] at h; exact h
  have hz0 : Arr W0 w.heap.size 26 (u8s z32) := by rw [← hW0]; exact (Arr.new w 26 (u8s z32)).alloc _
  have hsz0 : W0.heap.size = w.heap.size + 2 := by rw [← hW0]; simp
  have HW0 := hidp hW0; have HB0 := hidp hb0; have HA0 := hidp ha0; have HZ0 := hidp hz0; have HS0 := hidp hsz0
  clear hW0 hb0 ha0 hz0 hsz0
  refine (HFL.out W0).mono ?_
  rintro e w1 ⟨v1, rfl, ho1, hb1⟩
  obtain ⟨g, cp, rfl, hle, hgl, hBg, hat⟩ := ho1.at
  rw [HF.out] at hle hat ⊢
  have hs1 := hb1.size
  have HS1 := hidp (show w.heap.size + 2 ≤ w1.heap.size from by rw [← HS0.out]; exact hs1)
  have HB1 := hidp hb1; have HAT := hidp hat
  have hg2 : w.heap.size + 1 < g := by have := HS0.out; omega
  clear hb1 hat ho1 hs1 hBg
  go_wp2_with fail
  refine (constants_any w1).mono ?_
  rintro e w2 ⟨rfl, hb2⟩
  have hs2 := hb2.size
  have HB2 := hidp hb2
  clear hb2
  obtain ⟨kx, hkx⟩ : ∃ kx, (u32s kk).toArray = kx := ⟨_, rfl⟩
  rw [hkx]
  have hkl := hidp (show kx.size = 64 from by rw [← hkx]; kernel_rfl)
  have hk1 := hidp (show kx.all (·.oneCell') = true from by rw [← hkx]; simp [u32s, Value.oneCell'])
  have HKX := hidp hkx
  clear hkx
  go_wp2_with (refine wpList_store_row rfl 124 (.tmp 5) (.tmp 17) rfl w2.heap.size kx rfl rfl 124 _ (heap_alloc_new w2 _) (by rw [hkl.out]; exact HZ64.out) (by rw [hkl.out]; rfl) hk1.out ?_)
  have hrs := hidp (show RS w g w2.heap.size F (blk F 0) ((w2.alloc (.cells (u32s (fill [])).toArray 124)).setRow w2.heap.size kx) from by
    have hB := (HB0.out.trans (HB1.out.mono HB0.out.size)).trans (HB2.out.mono (by have := HS1.out; omega))
    have h1 : Below w1.heap.size w1 ((w2.alloc (.cells (u32s (fill [])).toArray 124)).setRow w2.heap.size kx) := below_setRow (HB2.out.alloc hs2 _) hs2 _
    have h2 : Below W0.heap.size W0 ((w2.alloc (.cells (u32s (fill [])).toArray 124)).setRow w2.heap.size kx) := HB1.out.trans (h1.mono (by have := HS1.out; have := HS0.out; omega))
    refine ⟨?_, ?_, HZ0.out.below h2 HZ0.out.lt, HAT.out.below h1 hgl, ?_, hg2, by have := HS1.out; omega, HB0.out.trans (h2.mono HB0.out.size)⟩
    · rw [blk_zero]; exact HA0.out.below h2 HA0.out.lt
    · rw [← HKX.out]; exact Arr.row (xs := u32s (fill [])) (heap_alloc_new w2 _) (u32s kk)
    · simp; omega)
  conv in (Obj.cells _ 124) => change Obj.cells (u32s (fill [])).toArray 124
  have hkb : w.heap.size + 1 < w2.heap.size := by have := HS1.out; omega
  obtain ⟨kb, hkbe⟩ : ∃ kb, w2.heap.size = kb := ⟨_, rfl⟩
  obtain ⟨W3, hW3⟩ : ∃ W, (w2.alloc (.cells (u32s (fill [])).toArray 124)).setRow w2.heap.size kx = W := ⟨_, rfl⟩
  rw [hW3] at hrs
  rw [hW3, hkbe]
  rw [hkbe] at hrs hkb
  clear hW3 hkbe hs2 HB2 HB1 HAT HS1 HKX hkl hk1
  have H0 := hidp (show ∃ (i n off c : Nat), Value.slice (some ⟨g, 0, none⟩) F.length cp = .slice (some ⟨g, off, none⟩) n c ∧ n + 64 * i = F.length ∧ (0 < n → off = 64 * i) ∧ n ≤ c ∧ RS w g kb F (blk F i) W3 from ⟨0, F.length, 0, cp, rfl, by omega, fun _ => rfl, hle, hrs.out⟩)
  go_simp
  go_loopw [4] (fun t4 wr => ∃ (i n off c : Nat), t4 = .slice (some ⟨g, off, none⟩) n c ∧ n + 64 * i = F.length ∧ (0 < n → off = 64 * i) ∧ n ≤ c ∧ RS w g kb F (blk F i) wr) (fun t4 _ => sliceLen t4)
  case atStart => exact H0.out
  case round =>
    obtain ⟨i, n, off, c, rfl, hn, hoff, hnc, hrs⟩ := hrel
    have HN := hidp hn; have HRS := hidp hrs
    have hn64 : n % 64 = 0 := by omega
    clear hn hrs H0 HFL
    by_cases h0 : 0 < n
    · obtain rfl := hoff h0
      have h64 : 64 ≤ n := by omega
      obtain ⟨bl, hbl⟩ : ∃ bl, (F.drop (64 * i)).take 64 = bl := ⟨_, rfl⟩
      have hbll := hidp (show bl.length = 64 from by rw [← hbl]; have := HN.out; simp; omega)
      have hatb := hidp (show AtB wr ⟨g, 64 * i, none⟩ bl from by
        intro j hj
        rw [hbll.out] at hj
        have h := HRS.out.2.2.2.1 (64 * i + j) (by have := HN.out; omega)
        simp only [Nat.zero_add] at h
        rw [h, ← hbl]
        simp [List.getD_eq_getElem?_getD, List.getElem?_take, hj])
      have hgr := HRS.out.2.2.2.2.1
      have HBL := hidp hbl
      clear hbl
      go_wp2_with fail
      refine (words_any wr g (64 * i) c bl hbll.out (by omega) hatb.out hgr).mono ?_
      rintro e w4 ⟨rfl, hb4⟩
      have hs4 := hb4.size
      have HB4 := hidp hb4
      clear hb4
      obtain ⟨wx, hwx⟩ : ∃ kx, (u32s (sched bl 64)).toArray = kx := ⟨_, rfl⟩
      rw [hwx]
      have hwl := hidp (show wx.size = 64 from by rw [← hwx]; simp [u32s, sched_len])
      have hw1 := hidp (show wx.all (·.oneCell') = true from by rw [← hwx]; simp [u32s, Value.oneCell'])
      have HWX := hidp hwx
      clear hwx
      have hxlen := hidp (show (u32s (blk F i).list).toArray.size = 8 from by simp [u32s, S8.list])
      have hxone := hidp (show (u32s (blk F i).list).toArray.all (·.oneCell') = true from by simp [u32s, Value.oneCell'])
      have HRS5 := hidp (show RS w g kb F (blk F i) ((w4.alloc (.cells (u32s (fill [])).toArray 124)).setRow w4.heap.size wx) ∧ Arr ((w4.alloc (.cells (u32s (fill [])).toArray 124)).setRow w4.heap.size wx) w4.heap.size 124 (u32s (sched bl 64)) ∧ ((w4.alloc (.cells (u32s (fill [])).toArray 124)).setRow w4.heap.size wx).heap.size = w4.heap.size + 1 from by
        refine ⟨HRS.out.below (HB4.out.trans ((below_setRow ((Below.refl w4.heap.size w4).alloc (Nat.le_refl _) _) (Nat.le_refl _) _).mono hs4)), ?_, by simp⟩
        rw [← HWX.out]; exact Arr.row (xs := u32s (fill [])) (heap_alloc_new w4 _) (u32s (sched bl 64)))
      obtain ⟨vx, hvx⟩ : ∃ kx, (u32s (blk F i).list).toArray = kx := ⟨_, rfl⟩
      have hlv := hidp (show ∀ W, RS w g kb F (blk F i) W → W.heap[w.heap.size + 1]? = some (.cells vx 117 (0, 0)) from fun W h => by rw [← hvx]; exact h.1)
      rw [hvx] at hxlen hxone
      have hnx := hidp (show ∀ O, (((w4.alloc (.cells (u32s (fill [])).toArray 124)).setRow w4.heap.size wx).alloc O).heap[w4.heap.size + 1]? = some O from fun O => by
        have h := heap_alloc_new ((w4.alloc (.cells (u32s (fill [])).toArray 124)).setRow w4.heap.size wx) O
        rw [HRS5.out.2.2] at h; exact h)
      have H6 := hidp (show ∀ zs : List Value, RS w g kb F (blk F i) ((((w4.alloc (.cells (u32s (fill [])).toArray 124)).setRow w4.heap.size wx).alloc (.cells zs.toArray 117)).setRow (w4.heap.size + 1) vx) ∧
          Arr ((((w4.alloc (.cells (u32s (fill [])).toArray 124)).setRow w4.heap.size wx).alloc (.cells zs.toArray 117)).setRow (w4.heap.size + 1) vx) w4.heap.size 124 (u32s (sched bl 64)) ∧
          Arr ((((w4.alloc (.cells (u32s (fill [])).toArray 124)).setRow w4.heap.size wx).alloc (.cells zs.toArray 117)).setRow (w4.heap.size + 1) vx) (w4.heap.size + 1) 117 (u32s (blk F i).list) from fun zs => by
        have hbw : Below (w4.heap.size + 1) ((w4.alloc (.cells (u32s (fill [])).toArray 124)).setRow w4.heap.size wx) ((((w4.alloc (.cells (u32s (fill [])).toArray 124)).setRow w4.heap.size wx).alloc (.cells zs.toArray 117)).setRow (w4.heap.size + 1) vx) :=
          below_setRow ((Below.refl _ _).alloc (by rw [HRS5.out.2.2]; exact Nat.le_refl _) _) (Nat.le_refl _) _
        refine ⟨HRS5.out.1.below (by rw [HRS5.out.2.2]; exact hbw), HRS5.out.2.1.below hbw (by omega), ?_⟩
        rw [← hvx]; exact Arr.row (xs := zs) (hnx.out _) (u32s (blk F i).list))
      have HVX := hidp hvx
      clear hvx
      go_wp2_with (first
        | (refine wpList_store_row rfl 124 (.tmp 6) (.tmp 23) rfl w4.heap.size wx rfl rfl 124 _ (heap_alloc_new w4 _) (by rw [hwl.out]; exact HZ64.out) (by rw [hwl.out]; rfl) hw1.out ?_)
        | (refine wpList_slice_from rfl 76 (.tmp 24) (.const (.int .i64 64)) rfl Tryd.underlying76 i0 HI5.out HZ1.out g (64 * i) n c 64 rfl rfl h64 hnc ?_; intro off' hoff')
        | (refine wpList_load_row rfl 117 (.tmp 3) rfl (w.heap.size + 1) rfl 117 vx (0, 0) _ (hlv.out _ HRS5.out.1) Tryd.underlying117 rfl (by rw [hxlen.out]; exact HZ8.out) ?_)
        | (refine wpList_store_row rfl 117 (.tmp 7) (.tmp 26) rfl (w4.heap.size + 1) vx rfl rfl 117 _ (hnx.out _) (by rw [hxlen.out]; exact HZ8.out) (by rw [hxlen.out]; rfl) hxone.out ?_))
      conv in (Obj.cells _ 117) => change Obj.cells (u32s (List.replicate 8 0)).toArray 117
      conv in (Obj.cells _ 124) => change Obj.cells (u32s (fill [])).toArray 124
      have HRS6 := hidp (H6.out (u32s (List.replicate 8 0)))
      obtain ⟨W6, hW6⟩ : ∃ W, (((w4.alloc (.cells (u32s (fill [])).toArray 124)).setRow w4.heap.size wx).alloc (.cells (u32s (List.replicate 8 0)).toArray 117)).setRow (w4.heap.size + 1) vx = W := ⟨_, rfl⟩
      rw [hW6] at HRS6 ⊢
      have hmul : n - 64 + 64 * (i + 1) = F.length := by have := HN.out; omega
      have HMUL := hidp hmul
      have hoff2 : 0 < n - 64 → off' = 64 * (i + 1) := by intro h; rw [hoff' (by omega)]; omega
      have HOFF := hidp hoff2
      have hkb4 : kb < w4.heap.size := by have := HRS.out.2.1.lt; omega
      have hg4 : g < w4.heap.size := by omega
      clear hW6 hmul hoff2 hoff' H6 hnx hlv HRS5 hatb
      go_simp
      have hwb : w.heap.size + 1 < w4.heap.size := by omega
      obtain ⟨wb, hwbe⟩ : ∃ b, w4.heap.size = b := ⟨_, rfl⟩
      obtain ⟨v0, hv0⟩ : ∃ v, blk F i = v := ⟨_, rfl⟩
      have HV0OK := hidp (show v0.ok from by rw [← hv0]; exact blk_ok _ _)
      rw [hwbe] at HRS6 hwb hkb4 hg4 ⊢
      rw [hv0] at HRS6
      have HV0 := hidp hv0
      clear hwbe hv0
      go_loopw [8] (fun t8 wr => ∃ (t : Nat) (st : S8), t8 = .int .i64 (t : Int) ∧ t ≤ 64 ∧ st = rounds8 (sched bl 64) t v0 ∧ RS w g kb F v0 wr ∧ Arr wr wb 124 (u32s (sched bl 64)) ∧ Arr wr (wb + 1) 117 (u32s st.list)) (fun t8 _ => 64 - (intOf t8).toNat)
      case atStart => exact ⟨0, v0, rfl, by omega, (rounds8_zero _ _).symm, HRS6.out.1, HRS6.out.2.1, HRS6.out.2.2⟩
      case round =>
        obtain ⟨t, st, rfl, ht, hst, hrs, hwr, hxr⟩ := hrel
        have hok : st.ok := by rw [hst]; exact rounds8_ok _ _ _ HV0OK.out
        have HST := hidp hst; have HRS := hidp hrs; have HWR := hidp hwr; have HXR := hidp hxr
        clear hst hrs hwr hxr HRS6
        by_cases hlt : t < 64
        · obtain ⟨a, b, c', d, e, f, g', h8⟩ := st
          unfold S8.ok S8.list at hok
          simp only [List.mem_cons, List.not_mem_nil, or_false, forall_eq_or_imp, forall_eq] at hok
          obtain ⟨ha, hb, hc, hd, he, hf, hg, hh⟩ := hok
          have hca : wr.cell? ⟨wb + 1, 0, none⟩ = some (.int .u32 (a : Int)) := HXR.out.cell 0 (by simp [u32s, S8.list])
          have hcb : wr.cell? ⟨wb + 1, 1, none⟩ = some (.int .u32 (b : Int)) := HXR.out.cell 1 (by simp [u32s, S8.list])
          have hcc : wr.cell? ⟨wb + 1, 2, none⟩ = some (.int .u32 (c' : Int)) := HXR.out.cell 2 (by simp [u32s, S8.list])
          have hcd : wr.cell? ⟨wb + 1, 3, none⟩ = some (.int .u32 (d : Int)) := HXR.out.cell 3 (by simp [u32s, S8.list])
          have hce : wr.cell? ⟨wb + 1, 4, none⟩ = some (.int .u32 (e : Int)) := HXR.out.cell 4 (by simp [u32s, S8.list])
          have hcf : wr.cell? ⟨wb + 1, 5, none⟩ = some (.int .u32 (f : Int)) := HXR.out.cell 5 (by simp [u32s, S8.list])
          have hcg : wr.cell? ⟨wb + 1, 6, none⟩ = some (.int .u32 (g' : Int)) := HXR.out.cell 6 (by simp [u32s, S8.list])
          have hch : wr.cell? ⟨wb + 1, 7, none⟩ = some (.int .u32 (h8 : Int)) := HXR.out.cell 7 (by simp [u32s, S8.list])
          have hlen64 : t < (u32s (sched bl 64)).length := by rw [u32s_length, sched_len]; exact hlt
          have hcw := (HWR.out.cell t hlen64).trans (congrArg some (u32s_get _ t hlen64))
          have hlenk : t < (u32s kk).length := by rw [u32s_length, show kk.length = 64 from by kernel_rfl]; exact hlt
          have hck := (HRS.out.2.1.cell t hlenk).trans (congrArg some (u32s_get _ t hlenk))
          have hbk := kk_lt t
          have hbw := sched_getD_lt bl 64 t
          have hstep := rounds8_succ (sched bl 64) t v0
          obtain ⟨kt, hkt⟩ : ∃ k, kk.getD t 0 = k := ⟨_, rfl⟩
          obtain ⟨wt, hwt⟩ : ∃ k, (sched bl 64).getD t 0 = k := ⟨_, rfl⟩
          rw [hkt] at hck hbk hstep
          rw [hwt] at hcw hbw hstep
          rw [← HST.out] at hstep
          have HSTEP := hidp hstep
          clear hkt hwt hstep hlen64 hlenk
          have i1 : (0 : Int) ≤ (t : Int) := by omega
          have i2 : (t : Int) < 64 := by omega
          go_wp2_with fail
          go_quiet ((go_at_call 111; exact Calls.quiet_of (turned_q _ _ (by assumption) (by unfold IsRot; omega) _)))
          rw [bs1_eq e he, chf_eq e f g' he hf hg, t1_eq2 e f g' h8 kt wt a b c' d]
          clear hca hcb hcc hcd hce hcf hcg hch hcw hck
          have HRS7 := hidp (HRS.out.drewN nq); have HWR7 := hidp (arr_drewN HWR.out nq); have HXR7 := hidp (arr_drewN HXR.out nq)
          obtain ⟨W7, hW7⟩ : ∃ W, wr.drewN nq = W := ⟨_, rfl⟩
          obtain ⟨T1, hT1⟩ : ∃ T, t1f ⟨a, b, c', d, e, f, g', h8⟩ kt wt = T := ⟨_, rfl⟩
          rw [hW7] at HRS7 HWR7 HXR7 ⊢
          rw [hT1]
          have hT1l : T1 < 4294967296 := by rw [← hT1]; exact t1f_lt _ _ _
          have HT1 := hidp hT1
          clear hW7 hT1
          have hca : W7.cell? ⟨wb + 1, 0, none⟩ = some (.int .u32 (a : Int)) := HXR7.out.cell 0 (by simp [u32s, S8.list])
          have hcb : W7.cell? ⟨wb + 1, 1, none⟩ = some (.int .u32 (b : Int)) := HXR7.out.cell 1 (by simp [u32s, S8.list])
          have hcc : W7.cell? ⟨wb + 1, 2, none⟩ = some (.int .u32 (c' : Int)) := HXR7.out.cell 2 (by simp [u32s, S8.list])
          go_wp2_with fail
          go_quiet ((go_at_call 111; exact Calls.quiet_of (turned_q _ _ (by assumption) (by unfold IsRot; omega) _)))
          rw [bs0_eq a ha, maj_eq a b c' ha hb hc, t2_eq a b c' d e f g' h8]
          clear hca hcb hcc
          have HRS8 := hidp (HRS7.out.drewN nq); have HWR8 := hidp (arr_drewN HWR7.out nq); have HXR8 := hidp (arr_drewN HXR7.out nq)
          obtain ⟨W8, hW8⟩ : ∃ W, W7.drewN nq = W := ⟨_, rfl⟩
          obtain ⟨T2, hT2⟩ : ∃ T, t2f ⟨a, b, c', d, e, f, g', h8⟩ = T := ⟨_, rfl⟩
          rw [hW8] at HRS8 HWR8 HXR8 ⊢
          rw [hT2]
          have hT2l : T2 < 4294967296 := by rw [← hT2]; exact add32_lt _ _
          have HT2 := hidp hT2
          clear hW8 hT2
          have hca : W8.cell? ⟨wb + 1, 0, none⟩ = some (.int .u32 (a : Int)) := HXR8.out.cell 0 (by simp [u32s, S8.list])
          have hcb : W8.cell? ⟨wb + 1, 1, none⟩ = some (.int .u32 (b : Int)) := HXR8.out.cell 1 (by simp [u32s, S8.list])
          have hcc : W8.cell? ⟨wb + 1, 2, none⟩ = some (.int .u32 (c' : Int)) := HXR8.out.cell 2 (by simp [u32s, S8.list])
          have hcd : W8.cell? ⟨wb + 1, 3, none⟩ = some (.int .u32 (d : Int)) := HXR8.out.cell 3 (by simp [u32s, S8.list])
          have hce : W8.cell? ⟨wb + 1, 4, none⟩ = some (.int .u32 (e : Int)) := HXR8.out.cell 4 (by simp [u32s, S8.list])
          have hcf : W8.cell? ⟨wb + 1, 5, none⟩ = some (.int .u32 (f : Int)) := HXR8.out.cell 5 (by simp [u32s, S8.list])
          have hcg : W8.cell? ⟨wb + 1, 6, none⟩ = some (.int .u32 (g' : Int)) := HXR8.out.cell 6 (by simp [u32s, S8.list])
          have hrow := hidp (show #[Value.int .u32 (((T1 : Int) + (T2 : Int)) % 4294967296), .int .u32 (a : Int), .int .u32 (b : Int), .int .u32 (c' : Int), .int .u32 (((d : Int) + (T1 : Int)) % 4294967296), .int .u32 (e : Int), .int .u32 (f : Int), .int .u32 (g' : Int)] = (u32s (rounds8 (sched bl 64) (t + 1) v0).list).toArray from by
            rw [HSTEP.out, ← HT1.out, ← HT2.out]; exact stp_row a b c' d e f g' h8 kt wt)
          have hl8 := hidp (show (u32s (S8.list ⟨a, b, c', d, e, f, g', h8⟩)).toArray.size = (#[Value.int .u32 (((T1 : Int) + (T2 : Int)) % 4294967296), .int .u32 (a : Int), .int .u32 (b : Int), .int .u32 (c' : Int), .int .u32 (((d : Int) + (T1 : Int)) % 4294967296), .int .u32 (e : Int), .int .u32 (f : Int), .int .u32 (g' : Int)]).size from rfl)
          have ho8 := hidp (show (#[Value.int .u32 (((T1 : Int) + (T2 : Int)) % 4294967296), .int .u32 (a : Int), .int .u32 (b : Int), .int .u32 (c' : Int), .int .u32 (((d : Int) + (T1 : Int)) % 4294967296), .int .u32 (e : Int), .int .u32 (f : Int), .int .u32 (g' : Int)]).all (·.oneCell') = true from by simp [Value.oneCell'])
          go_wp2_with (refine wpList_store_row rfl 117 (.tmp 7) (.tmp 114) rfl (wb + 1) #[Value.int .u32 (((T1 : Int) + (T2 : Int)) % 4294967296), .int .u32 (a : Int), .int .u32 (b : Int), .int .u32 (c' : Int), .int .u32 (((d : Int) + (T1 : Int)) % 4294967296), .int .u32 (e : Int), .int .u32 (f : Int), .int .u32 (g' : Int)] rfl rfl 117 _ HXR8.out HZ8.out hl8.out ho8.out ?_)
          rw [hrow.out]
          have hkb1 : wb + 1 ≠ kb := by omega
          have hg1 : wb + 1 ≠ g := by omega
          have HRS9 := hidp (HRS8.out.row HXR8.out (by omega) (by omega) hkb1 hg1 (by omega) (u32s (rounds8 (sched bl 64) (t + 1) v0).list).toArray)
          have HWR9 := hidp (HWR8.out.row_other (wb + 1) (by omega) (u32s (rounds8 (sched bl 64) (t + 1) v0).list).toArray)
          have HXR9 := hidp (HXR8.out.row (u32s (rounds8 (sched bl 64) (t + 1) v0).list))
          exact ⟨⟨t + 1, rounds8 (sched bl 64) (t + 1) v0, by go_num, by omega, rfl, HRS9.out, HWR9.out, HXR9.out⟩, by simp [intOf]; omega⟩
        · have ht64 := hidp (show t = 64 from by omega)
          have hrok := hok
          have HRT := hidp (show RT w g kb F (mixl v0 st 0) wr from by rw [mixl_zero]; exact HRS.out)
          have hmix := hidp (show mixl v0 st 8 = (comp v0 bl).list from by rw [HST.out, ht64.out]; exact mixl_eight _ _)
          go_wp2_with fail
          go_loopw [11] (fun t11 wr => ∃ k : Nat, t11 = .int .i64 (k : Int) ∧ k ≤ 8 ∧ RT w g kb F (mixl v0 st k) wr ∧ Arr wr (wb + 1) 117 (u32s st.list)) (fun t11 _ => 8 - (intOf t11).toNat)
          case atStart => exact ⟨0, rfl, by omega, HRT.out, HXR.out⟩
          case round =>
            obtain ⟨k, rfl, hk8, hrt, hxr⟩ := hrel
            have HRT2 := hidp hrt; have HXR2 := hidp hxr
            clear hrt hxr
            by_cases hk : k < 8
            · have hlenv : k < (u32s (mixl v0 st k)).length := by rw [u32s_length, mixl_len _ _ _ (by omega)]; exact hk
              have hcv := (HRT2.out.1.cell k hlenv).trans (congrArg some (u32s_get _ k hlenv))
              have hlenx : k < (u32s st.list).length := by rw [u32s_length]; exact hk
              have hcx := (HXR2.out.cell k hlenx).trans (congrArg some (u32s_get _ k hlenx))
              rw [mixl_get _ _ _ hk] at hcv
              have hfz := HRT2.out.1.frozen k
              have hset := HRT2.out.set k (add32 (v0.list.getD k 0) (st.list.getD k 0))
              rw [mixl_set _ _ _ hk] at hset
              have b1 := list_getD_lt v0 HV0OK.out k hk
              have b2 := list_getD_lt st hrok k hk
              have hm := mod_add32 (v0.list.getD k 0) (st.list.getD k 0)
              obtain ⟨x, hx⟩ : ∃ x, v0.list.getD k 0 = x := ⟨_, rfl⟩
              obtain ⟨y, hy⟩ : ∃ y, st.list.getD k 0 = y := ⟨_, rfl⟩
              rw [hx] at hcv hset b1 hm
              rw [hy] at hcx hset b2 hm
              have HSET := hidp hset
              clear hx hy hset hlenv hlenx
              have i1 : (0 : Int) ≤ (k : Int) := by omega
              have i2 : (k : Int) < 8 := by omega
              go_wp2_with fail
              go_region
              go_wp2
              go_roundw
              case rel => exact ⟨k + 1, by go_num, by omega, HSET.out.drewN 1, arr_drewN (HXR2.out.other ⟨w.heap.size + 1, k, none⟩ (by simp; omega) _) 1⟩
              case measure => simp [intOf]; omega
            · obtain rfl : k = 8 := by omega
              have HEND := hidp (show RS w g kb F (blk F (i + 1)) wr from by
                rw [blk_succ, HBL.out, HV0.out]
                have h := HRT2.out
                rw [hmix.out] at h
                exact h)
              go_wp2_with fail
              refine ⟨⟨i + 1, n - 64, off', c - 64, rfl, HMUL.out, HOFF.out, by omega, HEND.out⟩, by simp [sliceLen]; omega⟩
    · have hfin := hidp (show blk F i = shaS s.data.toList from by
        rw [← HSF.out]; congr 1; have := HN.out; omega)
      have hSok := hidp (show (shaS s.data.toList).ok from shaS_ok _)
      obtain ⟨S, hS⟩ : ∃ S, shaS s.data.toList = S := ⟨_, rfl⟩
      have HSL := hidp (show shaL s.data.toList = joinL S from by rw [← hS]; rfl)
      rw [hS] at hfin hSok
      have hA := HRS.out.1
      rw [hfin.out] at hA
      have HA := hidp hA
      have HSS := hidp hS
      have hb := HRS.out.2.2.2.2.2.2.2
      have hbs := hb.size
      have HB := hidp hb
      have hal := HA.out.lt
      have HZ := hidp HRS.out.2.2.1
      clear hA hS hb
      go_wp2_with fail
      conv in (Obj.cells _ 26) => (change Obj.cells (u8s (List.replicate 32 0)).toArray 26; rw [← z32_eq])
      have H0 := hidp (show Arr (wr.alloc (.cells (u8s z32).toArray 26)) wr.heap.size 26 (u8s (fillB (joinL S) 0)) ∧ Arr (wr.alloc (.cells (u8s z32).toArray 26)) (w.heap.size + 1) 117 (u32s S.list) ∧ Arr (wr.alloc (.cells (u8s z32).toArray 26)) w.heap.size 26 (u8s z32) ∧ Below w.heap.size w (wr.alloc (.cells (u8s z32).toArray 26)) from by
        refine ⟨?_, HA.out.alloc _, HZ.out.alloc _, HB.out.alloc hbs _⟩
        rw [fillB_zero, joinL_len, ← z32_eq]; exact Arr.new wr 26 (u8s z32))
      obtain ⟨ob, hob⟩ : ∃ o, wr.heap.size = o := ⟨_, rfl⟩
      obtain ⟨W6, hW6⟩ : ∃ W, wr.alloc (.cells (u8s z32).toArray 26) = W := ⟨_, rfl⟩
      rw [hW6, hob] at H0
      rw [hW6, hob]
      rw [hob] at hal hbs
      clear hW6 hob
      go_loopw [13] (fun t13 wr => ∃ k : Nat, t13 = .int .i64 (k : Int) ∧ k ≤ 32 ∧ Arr wr ob 26 (u8s (fillB (joinL S) k)) ∧ Arr wr (w.heap.size + 1) 117 (u32s S.list) ∧ Arr wr w.heap.size 26 (u8s z32) ∧ Below w.heap.size w wr) (fun t13 _ => 32 - (intOf t13).toNat)
      case atStart => exact ⟨0, rfl, by omega, H0.out.1, H0.out.2.1, H0.out.2.2.1, H0.out.2.2.2⟩
      case round =>
        obtain ⟨k, rfl, hk32, hO, hA, hZ, hB⟩ := hrel
        have HO := hidp hO; have HA4 := hidp hA; have HZ4 := hidp hZ; have HB4 := hidp hB
        clear hO hA hZ hB H0
        by_cases hk : k < 32
        · have hlen4 : k / 4 < (u32s S.list).length := by rw [u32s_length]; show k / 4 < 8; omega
          have hc := (HA4.out.cell (k / 4) hlen4).trans (congrArg some (u32s_get _ (k / 4) hlen4))
          have hco := HO.out.cell k (by rw [u8s_length, fillB_len _ _ (by rw [joinL_len]; omega), joinL_len]; omega)
          have hfo := HO.out.frozen k
          have hjg := joinL_get S (k / 4) (k % 4) (by omega) (by omega)
          rw [show 4 * (k / 4) + k % 4 = k from by omega] at hjg
          have hset := HO.out.set k (.int .u8 (((joinL S).getD k 0).toNat : Int))
          rw [u8s_set, fillB_set _ _ (by rw [joinL_len]; omega)] at hset
          have hx32 := list_getD_lt S hSok.out (k / 4) (by omega)
          obtain ⟨x, hx⟩ : ∃ x, S.list.getD (k / 4) 0 = x := ⟨_, rfl⟩
          rw [hx] at hc hjg hx32
          have HJG := hidp hjg; have HSET := hidp hset
          clear hjg hset hx hlen4
          have e1 : ((k : Int) / 4).toNat = k / 4 := by omega
          have e2 : (24 - 8 * ((k : Int) % 4)).toNat = 24 - 8 * (k % 4) := by omega
          have e3 : 0 ≤ (k : Int) / 4 := by omega
          have e4 : (k : Int) / 4 < 8 := by omega
          have e5 : 0 ≤ 24 - 8 * ((k : Int) % 4) := by omega
          have e6 : 24 - 8 * ((k : Int) % 4) < 32 := by omega
          go_wp2_with fail
          rw [show ((x : Int) / 2 ^ (24 - 8 * (k % 4)) % 256) = (((joinL S).getD k 0).toNat : Int) from by rw [HJG.out]; simp]
          exact ⟨⟨k + 1, by simp, by omega, HSET.out, HA4.out.other _ (by simp; omega) _, HZ4.out.other _ (by simp; omega) _, HB4.out.setCell (by simp; omega) _⟩, by simp [intOf]; omega⟩
        · obtain rfl : k = 32 := by omega
          have hO := HO.out
          rw [show (32 : Nat) = (joinL S).length from (joinL_len S).symm, fillB_all] at hO
          obtain ⟨X, hX⟩ : ∃ X, (u8s (joinL S)).toArray = X := ⟨_, rfl⟩
          have HSX := hidp (show (Tryd.prog.info? 26).map (·.size) = some X.size from by rw [← hX]; exact hash_size (joinL_len S))
          have hone := hidp (show X.all (·.oneCell') = true from by rw [← hX]; exact u8s_one _)
          have hlen := hidp (show (u8s z32).toArray.size = X.size from by rw [← hX]; simp [u8s_length, joinL_len, z32_len])
          unfold Arr at hO
          rw [hX] at hO
          have HO2 := hidp hO; have HX := hidp hX
          clear hO hX
          go_wp2_with (first | (refine wpList_load_row rfl 26 (.tmp 12) rfl ob rfl 26 X (0, 0) _ HO2.out Tryd.underlying26 rfl HSX.out ?_) | (refine wpList_store_row rfl 26 (.tmp 2) (.tmp 143) rfl w.heap.size X rfl rfl 26 _ HZ4.out HSX.out hlen.out hone.out ?_))
          have hfin2 : (wr.setRow w.heap.size X).heap[w.heap.size]? = some (.cells X 26 (0, 0)) := setRow_heap _ _ _ _ _ _ HZ4.out
          refine bodyPost_ret (results_cell_row (P := Tryd.prog) (p := 2) (ty := 26) Tryd.results94 _ _ w.heap.size 26 X (0, 0) _ rfl hfin2 Tryd.underlying26 rfl HSX.out) rfl ?_
          exact ⟨by rw [HSL.out, HX.out], below_setRow HB4.out (Nat.le_refl _) _⟩
end Go.Proofs.YtgfdhgnkanekhaaDoor
