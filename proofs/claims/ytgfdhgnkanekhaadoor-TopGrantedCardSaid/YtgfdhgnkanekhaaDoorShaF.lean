
/-
  sha.Sum, the walk.
-/
import Derived.Test.YtgfdhgnkanekhaaDoorShaE
namespace Go.Proofs.YtgfdhgnkanekhaaDoor
set_option linter.unusedVariables false
set_option linter.unusedSimpArgs false
open Go.RowKit
set_option maxRecDepth 100000 in
set_option maxHeartbeats 8000000 in
theorem sum_any (w : World) (s : ByteArray) (hs : s.size ≤ 281474976710656) (hK : KT w) :
    Calls Tryd.prog 92 #[.string s] w fun e w' => e = .returned (.agg (u8s (shaL s.data.toList)).toArray) ∧ Below w.heap.size w w' := by
  obtain ⟨i0, hi, hz0, hz1, hz2⟩ := info_parts info5
  have hinfo := hidp (show (Tryd.prog.info? 5).map (·.size) = some 1 from by rw [hi]; simp [hz1])
  have HK := hidp hK; clear hK
  have hkp := HK.out.pos
  clear hi hz0 hz1 hz2
  go_enter Tryd.func92, Tryd.ntmps92
  go_wp2
  conv in (Obj.cells _ 26) => (change Obj.cells (u8s (List.replicate 32 0)).toArray 26; rw [← z32_eq])
  conv in (Obj.cells _ 117) => change Obj.cells (u32s init8.list).toArray 117
  conv in (Obj.cells _ 118) => (change Obj.cells (u8s (List.replicate 64 0)).toArray 118; rw [← z64_eq])
  obtain ⟨W0, hW0⟩ : ∃ W, ((w.alloc (.cells (u8s z32).toArray 26)).alloc (.cells (u32s init8.list).toArray 117)).alloc (.cells (u8s z64).toArray 118) = W := ⟨_, rfl⟩
  rw [hW0]
  have hb0 : Below w.heap.size w W0 := by rw [← hW0]; exact (((Below.refl _ w).alloc (Nat.le_refl _) _).alloc (by simp) _).alloc (by simp; omega) _
  have ha0 : Arr W0 (w.heap.size + 1) 117 (u32s init8.list) := by
    rw [← hW0]
    have h := (Arr.new (w.alloc (.cells (u8s z32).toArray 26)) 117 (u32s init8.list)).alloc (.cells (u8s z64).toArray 118)
    rw [heap_size_alloc] at h; exact h
  have hB0 : Arr W0 (w.heap.size + 1 + 1) 118 (u8s z64) := by
    rw [← hW0]
    have h := Arr.new ((w.alloc (.cells (u8s z32).toArray 26)).alloc (.cells (u32s init8.list).toArray 117)) 118 (u8s z64)
    rw [heap_size_alloc, heap_size_alloc] at h; exact h
  have hz0 : ∃ z, Arr W0 w.heap.size 26 (u8s z) ∧ z.length = 32 := ⟨z32, by rw [← hW0]; exact ((Arr.new w 26 (u8s z32)).alloc _).alloc _, z32_len⟩
  have HW0 := hidp hW0; have HB0 := hidp hb0; have HA0 := hidp ha0; have HBB0 := hidp hB0; have HZ0 := hidp hz0
  clear hW0 hb0 ha0 hB0 hz0
  go_loopw [5] (fun t5 wr => ∃ (i : Nat) (rest : ByteArray) (bc : List UInt8), t5 = .string rest ∧ rest.data.toList = s.data.toList.drop (64 * i) ∧ 64 * i ≤ s.data.toList.length ∧ bc.length = 64 ∧ Arr wr (w.heap.size + 1) 117 (u32s (blk s.data.toList i).list) ∧
      Arr wr (w.heap.size + 1 + 1) 118 (u8s bc) ∧ (∃ z, Arr wr w.heap.size 26 (u8s z) ∧ z.length = 32) ∧ Below w.heap.size w wr) (fun t5 _ => strSize t5)
  case atStart => exact ⟨0, s, z64, rfl, rfl, by simp, z64_len, by rw [blk_zero]; exact HA0.out, HBB0.out, HZ0.out, HB0.out⟩
  case round =>
    obtain ⟨i, rest, bc, rfl, hrest, hi64l, hbc, hA, hB, hZ, hbw⟩ := hrel
    have hbs := hbw.size
    have HA := hidp hA; have HB := hidp hB; have HZ := hidp hZ; have HR := hidp hrest; have HBC := hidp hbc; have HBW := hidp hbw; have HIL := hidp hi64l
    clear hA hB hZ hrest hbc hbw hi64l
    have hrs := hidp (show rest.data.toList.length = rest.size by simp)
    have hrl : rest.size ≤ 281474976710656 := by have := congrArg List.length HR.out; simp at this; omega
    by_cases h64 : 64 ≤ rest.size
    · obtain ⟨X, hX⟩ : ∃ X, u8s (rest.data.toList.take 64) = X := ⟨_, rfl⟩
      have hcp : (Builtin.copy_ #[76, 9] 3 #[.slice (some ⟨w.heap.size + 1 + 1, 0, none⟩) 64 64, .string rest]).run Tryd.prog wr = .ok (goInt 64) (wr.setRow (w.heap.size + 1 + 1) X.toArray) := by
        rw [← hX]
        exact run_copy_long (P := Tryd.prog) wr 76 9 3 5 (w.heap.size + 1 + 1) 64 64 rest _ 118 Tryd.underlying76 hinfo.out HB.out h64 (by simp [u8s_length, HBC.out])
      have HB2 := hidp (HB.out.row X)
      have HA2 := hidp (HA.out.row_other (w.heap.size + 1 + 1) (by omega) X.toArray)
      have HBW2 := hidp (below_setRow HBW.out (g := w.heap.size + 1 + 1) (by omega) X.toArray)
      have HZ2 := hidp (show ∃ z, Arr (wr.setRow (w.heap.size + 1 + 1) X.toArray) w.heap.size 26 (u8s z) ∧ z.length = 32 from by
        obtain ⟨z, hz, hzl⟩ := HZ.out
        exact ⟨z, hz.row_other (w.heap.size + 1 + 1) (by omega) X.toArray, hzl⟩)
      have HX := hidp hX; clear hX
      have HM := hidp (show Calls Tryd.prog 106 #[.pointer (some ⟨w.heap.size + 1, 0, none⟩), .pointer (some ⟨w.heap.size + 1 + 1, 0, none⟩)] (wr.setRow (w.heap.size + 1 + 1) X.toArray) fun e w' => e = .returned (.tuple #[]) ∧ Arr w' (w.heap.size + 1) 117 (u32s (comp (blk s.data.toList i) (rest.data.toList.take 64)).list) ∧ (wr.setRow (w.heap.size + 1 + 1) X.toArray).grownBy w' (some (w.heap.size + 1)) from
        mix_any _ (w.heap.size + 1) 117 (w.heap.size + 1 + 1) 118 (blk s.data.toList i) (blk_ok _ _) (rest.data.toList.take 64) (by have := hrs.out; simp; omega) HA2.out (by rw [HX.out]; exact HB2.out) (HK.out.below HBW2.out hkp) (by omega) (by omega))
      go_wp2_with fail
      refine HM.out.mono ?_
      rintro e w' ⟨rfl, hA3, hgr⟩
      have hbw3 := below_grown HBW2.out hgr (by simp; omega) (by omega)
      have HBW3 := hidp hbw3; have HA3 := hidp hA3; have HGR := hidp hgr
      clear hbw3 hA3 hgr hcp
      go_wp2_with fail
      have hlr : (rest.extract 64 rest.size).data.toList = s.data.toList.drop (64 * (i + 1)) := by
        rw [ByteArray.data_extract]
        simp only [Array.toList_extract, List.extract_eq_take_drop]
        rw [← hrs.out, HR.out, List.take_of_length_le (by simp; omega), List.drop_drop]
        congr 1
      refine ⟨⟨i + 1, _, rest.data.toList.take 64, rfl, hlr, ?_, ?_, ?_, ?_, ?_, HBW3.out⟩, ?_⟩
      · have h1 := congrArg List.length HR.out
        rw [hrs.out, List.length_drop] at h1
        omega
      · rw [List.length_take, hrs.out]; omega
      · rw [blk_succ, ← HR.out]; exact HA3.out
      · rw [HX.out]; exact HB2.out.grown HGR.out (fun e => by have := Option.some.inj e; omega)
      · obtain ⟨z, hz, hzl⟩ := HZ2.out
        exact ⟨z, hz.grown HGR.out (fun e => by have := Option.some.inj e; omega), hzl⟩
      · simp [strSize]; omega
    · have HZZ := hidp z64_size
      have hlenx := hidp (show (u8s bc).toArray.size = (u8s z64).toArray.size from by simp [u8s_length, HBC.out, z64_len])
      have HB1 := hidp (HB.out.row (u8s z64))
      obtain ⟨Y, hY⟩ : ∃ Y, u8s (rest.data.toList ++ List.replicate (64 - rest.data.toList.length) 0) = Y := ⟨_, rfl⟩
      have hcp : (Builtin.copy_ #[76, 9] 3 #[.slice (some ⟨w.heap.size + 1 + 1, 0, none⟩) 64 64, .string rest]).run Tryd.prog (wr.setRow (w.heap.size + 1 + 1) (u8s z64).toArray) =
          .ok (goInt rest.size) ((wr.setRow (w.heap.size + 1 + 1) (u8s z64).toArray).setRow (w.heap.size + 1 + 1) Y.toArray) := by
        rw [← hY, ← copied_row rest.data.toList rest.size hrs.out.symm (by omega)]
        exact Lib.run_copy_row_string (P := Tryd.prog) _ 76 9 3 5 (w.heap.size + 1 + 1) 0 64 64 rest _ 118 Tryd.underlying76 hinfo.out HB1.out (by omega) (by simp [u8s_length, z64_len]; omega)
      have hYl : Y.length = 64 := by rw [← hY, u8s_length, List.length_append, List.length_replicate, hrs.out]; omega
      have HB2 := hidp (HB1.out.row Y)
      have hc := HB2.out.cell rest.size (by omega)
      have hfz := HB2.out.frozen rest.size
      have HY := hidp hY
      clear hY
      by_cases h55 : 55 < rest.size
      · go_wp2_with (refine wpList_store_row rfl 118 (.tmp 4) (.tmp 19) rfl (w.heap.size + 1 + 1) (u8s z64).toArray rfl rfl 118 _ HB.out HZZ.out hlenx.out (u8s_one z64) ?_)
        obtain ⟨W4, hW4⟩ : ∃ W, (((wr.setRow (w.heap.size + 1 + 1) (u8s z64).toArray).setRow (w.heap.size + 1 + 1) Y.toArray).setCell { block := w.heap.size + 1 + 1, off := rest.size } (Value.int IntKind.u8 128)) = W := ⟨_, rfl⟩
        rw [hW4]
        obtain ⟨b0, hb⟩ : ∃ b0, b0 = ended rest.data.toList := ⟨_, rfl⟩
        obtain ⟨v0, hv⟩ : ∃ v0, v0 = blk s.data.toList i := ⟨_, rfl⟩
        have hbl0 := hidp (show b0.length = 64 from by rw [hb]; exact ended_len _ (by rw [hrs.out]; omega))
        have hvo0 := hidp (show v0.ok from by rw [hv]; exact blk_ok _ _)
        have hB4 : Arr W4 (w.heap.size + 1 + 1) 118 (u8s b0) := by
          rw [← hW4]
          have h := HB2.out.set rest.size (.int .u8 128)
          rw [← HY.out, ← hrs.out, show (Value.int IntKind.u8 128) = .int .u8 ((128 : UInt8).toNat : Int) from rfl, u8s_set, ended_set _ (by rw [hrs.out]; omega), ← hb] at h
          rw [← HY.out, ← hrs.out]
          exact h
        have HB4 := hidp hB4
        have HA4 := hidp (show Arr W4 (w.heap.size + 1) 117 (u32s v0.list) from by
          rw [← hW4, hv]
          exact ((HA.out.row_other _ (by omega) _).row_other _ (by omega) _).other _ (by simp) _)
        have HZ4 := hidp (show ∃ z, Arr W4 w.heap.size 26 (u8s z) ∧ z.length = 32 from by
          obtain ⟨z, hz, hzl⟩ := HZ.out
          exact ⟨z, by rw [← hW4]; exact ((hz.row_other _ (by omega) _).row_other _ (by omega) _).other _ (by simp; omega) _, hzl⟩)
        have HBW4 := hidp (show Below w.heap.size w W4 from by
          rw [← hW4]
          exact (below_setRow (below_setRow HBW.out (g := w.heap.size + 1 + 1) (by omega) _) (g := w.heap.size + 1 + 1) (by omega) _).setCell (by simp; omega) _)
        have hbs4 := HBW4.out.size
        have HM4 := hidp (mix_any _ (w.heap.size + 1) 117 (w.heap.size + 1 + 1) 118 v0 hvo0.out b0 hbl0.out HA4.out HB4.out (HK.out.below HBW4.out hkp) (by omega) (by omega))
        have HFIN := hidp (show comp (comp v0 b0) (sized z64 s.size) = shaS s.data.toList from by
          have hi := drop_small HR.out HIL.out (by rw [hrs.out]; omega)
          have hr := HR.out
          rw [hi] at hr
          have h55' : 55 < (s.data.toList.drop (64 * (s.data.toList.length / 64))).length := by rw [← hr, hrs.out]; omega
          rw [shaS_long _ h55', hv, hb, hr, ← hi]
          rfl)
        clear hb hv hW4 hB4 hc hfz hcp
        refine HM4.out.mono ?_
        rintro e w5 ⟨rfl, hA5, hgr5⟩
        have HBW5 := hidp (below_grown HBW4.out hgr5 (by omega) (by omega))
        have HA5 := hidp hA5
        have HB5 := hidp (HB4.out.grown hgr5 (fun e => by have := Option.some.inj e; omega))
        have HZ5 := hidp (show ∃ z, Arr w5 w.heap.size 26 (u8s z) ∧ z.length = 32 from by
          obtain ⟨z, hz, hzl⟩ := HZ4.out
          exact ⟨z, hz.grown hgr5 (fun e => by have := Option.some.inj e; omega), hzl⟩)
        have hlen5 := hidp (show (u8s b0).toArray.size = (u8s z64).toArray.size from by simp [u8s_length, hbl0.out, z64_len])
        clear hA5 hgr5
        go_wp2_with (refine wpList_store_row rfl 118 (.tmp 4) (.tmp 30) rfl (w.heap.size + 1 + 1) (u8s z64).toArray rfl rfl 118 _ HB5.out HZZ.out hlen5.out (u8s_one z64) ?_)
        have HB7 := hidp (HB5.out.row (u8s z64))
        have HA7 := hidp (HA5.out.row_other (w.heap.size + 1 + 1) (by omega) (u8s z64).toArray)
        have HZ7 := hidp (show ∃ z, Arr (w5.setRow (w.heap.size + 1 + 1) (u8s z64).toArray) w.heap.size 26 (u8s z) ∧ z.length = 32 from by
          obtain ⟨z, hz, hzl⟩ := HZ5.out
          exact ⟨z, hz.row_other (w.heap.size + 1 + 1) (by omega) _, hzl⟩)
        have HBW7 := hidp (below_setRow HBW5.out (g := w.heap.size + 1 + 1) (by omega) (u8s z64).toArray)
        clear HB5 HA5 HZ5 HBW5
        have hvo := hidp (comp_ok v0 b0)
        have hbl := hidp z64_len
        obtain ⟨W7, hW7⟩ : ∃ W, w5.setRow (w.heap.size + 1 + 1) (u8s z64).toArray = W := ⟨_, rfl⟩
        obtain ⟨v, hv'⟩ : ∃ v, comp v0 b0 = v := ⟨_, rfl⟩
        obtain ⟨b, hb'⟩ : ∃ b, z64 = b := ⟨_, rfl⟩
        have HA5 := hidp (show Arr W7 (w.heap.size + 1) 117 (u32s v.list) from by rw [← hW7, ← hv']; exact HA7.out)
        have HB5 := hidp (show Arr W7 (w.heap.size + 1 + 1) 118 (u8s b) from by rw [← hW7, ← hb']; exact HB7.out)
        have HZ5 := hidp (show ∃ z, Arr W7 w.heap.size 26 (u8s z) ∧ z.length = 32 from by rw [← hW7]; exact HZ7.out)
        have HBW5 := hidp (show Below w.heap.size w W7 from by rw [← hW7]; exact HBW7.out)
        rw [hW7]
        rw [hv', hb'] at HFIN
        rw [hv'] at hvo
        rw [hb'] at hbl
        clear HA7 HB7 HZ7 HBW7 hW7 hv' hb' hlen5
        go_loopw [35] (fun t35 wq => ∃ k : Nat, t35 = .int .i64 (k : Int) ∧ k ≤ 8 ∧ Arr wq (w.heap.size + 1) 117 (u32s v.list) ∧ Arr wq (w.heap.size + 1 + 1) 118 (u8s (sizedAt b s.size k)) ∧ (∃ z, Arr wq w.heap.size 26 (u8s z) ∧ z.length = 32) ∧ Below w.heap.size w wq) (fun t35 _ => 8 - (intOf t35).toNat)
        case atStart => exact ⟨0, rfl, by omega, HA5.out, by rw [sizedAt_zero _ _ hbl.out]; exact HB5.out, HZ5.out, HBW5.out⟩
        case round =>
          obtain ⟨k, rfl, hk8, hA6, hB6, hZ6, hbw6⟩ := hrel
          have HA6 := hidp hA6; have HB6 := hidp hB6; have HZ6 := hidp hZ6; have HBW6 := hidp hbw6
          clear hA6 hB6 hZ6 hbw6
          by_cases hk : k < 8
          · have hl6 := hidp (show (u8s (sizedAt b s.size k)).length = 64 from by rw [u8s_length, sizedAt_len _ _ _ hbl.out hk8])
            have hc := HB6.out.cell (63 - k) (by rw [hl6.out]; omega)
            have hfz := HB6.out.frozen (63 - k)
            go_wp2_with fail
            have hval : ((s.size : Int) * 8 / 2 ^ (8 * k) % 256) = (((len8 s.size).getD (7 - k) 0).toNat : Int) := by
              rw [len8_get _ _ (by omega), show 7 - (7 - k) = k from by omega]
              simp
            have hB7 := HB6.out.set (63 - k) (.int .u8 (((len8 s.size).getD (7 - k) 0).toNat : Int))
            rw [u8s_set, sizedAt_set _ _ _ hbl.out hk] at hB7
            rw [hval]
            refine ⟨⟨k + 1, by simp, by omega, HA6.out.other _ (by simp) _, hB7, ?_, HBW6.out.setCell (by simp; omega) _⟩, by simp [intOf]; omega⟩
            obtain ⟨z, hz, hzl⟩ := HZ6.out
            exact ⟨z, hz.other _ (by simp; omega) _, hzl⟩
          · have hke : k = 8 := by omega
            subst hke
            have hB7 := HB6.out
            rw [sizedAt_eight] at hB7
            have hbs6 := HBW6.out.size
            have HM := hidp (mix_any _ (w.heap.size + 1) 117 (w.heap.size + 1 + 1) 118 v hvo.out (sized b s.size) (sized_len _ _ hbl.out) HA6.out hB7 (HK.out.below HBW6.out hkp) (by omega) (by omega))
            clear hB7
            go_wp2_with fail
            refine HM.out.mono ?_
            rintro e w' ⟨rfl, hA8, hgr⟩
            have hbw8 := below_grown HBW6.out hgr (by omega) (by omega)
            have HBW8 := hidp hbw8; have HA8 := hidp hA8
            have HZ8 := hidp (show ∃ z, Arr w' w.heap.size 26 (u8s z) ∧ z.length = 32 from by
              obtain ⟨z, hz, hzl⟩ := HZ6.out
              exact ⟨z, hz.grown hgr (fun e => by have := Option.some.inj e; omega), hzl⟩)
            clear hbw8 hA8 hgr
            obtain ⟨xv, hxv⟩ : ∃ xv, (u32s (comp v (sized b s.size)).list).toArray = xv := ⟨_, rfl⟩
            have HI8 := hidp (show (Tryd.prog.info? 117).map (·.size) = some xv.size from by
              rw [show (Tryd.prog.info? 117).map (·.size) = some 8 from by kernel_rfl, ← hxv]
              simp [u32s, S8.list])
            have hg8 := HA8.out
            unfold Arr at hg8
            rw [hxv] at hg8
            have HG8 := hidp hg8
            have HXV := hidp hxv
            clear hg8 hxv
            go_wp2_with (refine wpList_load_row rfl 117 (.tmp 3) rfl (w.heap.size + 1) rfl 117 xv (0, 0) _ HG8.out Tryd.underlying117 rfl HI8.out ?_)
            rw [← HXV.out]
            refine (joined_any w' _ (comp_ok _ _)).mono ?_
            rintro e w9 ⟨rfl, hbw9⟩
            obtain ⟨z, hz, hzl⟩ := HZ8.out
            have hbs8 := HBW8.out.size
            have HZ9 := hidp (hz.below hbw9 (by have := hz.lt; omega))
            have HBW9 := hidp (HBW8.out.trans (hbw9.mono (by omega)))
            obtain ⟨xh, hxh⟩ : ∃ xh, (u8s (joinL (comp v (sized b s.size)))).toArray = xh := ⟨_, rfl⟩
            rw [hxh]
            have HI9 := hidp (show (Tryd.prog.info? 26).map (·.size) = some xh.size from by
              rw [show (Tryd.prog.info? 26).map (·.size) = some 32 from by kernel_rfl, ← hxh]
              simp [u8s, joinL_len])
            have hlenh := hidp (show (u8s z).toArray.size = xh.size from by rw [← hxh]; simp [u8s, joinL_len, hzl])
            have honeh := hidp (show xh.all (·.oneCell') = true from by rw [← hxh]; exact u8s_one _)
            have HXH := hidp hxh
            clear hxh hz
            go_wp2_with (refine wpList_store_row rfl 26 (.tmp 2) (.tmp 49) rfl w.heap.size xh rfl rfl 26 _ HZ9.out HI9.out hlenh.out honeh.out ?_)
            have hfin : (w9.setRow w.heap.size xh).heap[w.heap.size]? = some (.cells xh 26 (0, 0)) := setRow_heap _ _ _ _ _ _ HZ9.out
            refine bodyPost_ret (results_cell_row (P := Tryd.prog) (p := 2) (ty := 26) Tryd.results92 _ _ w.heap.size 26 xh (0, 0) _ rfl hfin Tryd.underlying26 rfl HI9.out) rfl ?_
            exact ⟨by rw [← HXH.out, HFIN.out]; rfl, below_setRow HBW9.out (by omega) _⟩
      · go_wp2_with (refine wpList_store_row rfl 118 (.tmp 4) (.tmp 19) rfl (w.heap.size + 1 + 1) (u8s z64).toArray rfl rfl 118 _ HB.out HZZ.out hlenx.out (u8s_one z64) ?_)
        obtain ⟨W4, hW4⟩ : ∃ W, (((wr.setRow (w.heap.size + 1 + 1) (u8s z64).toArray).setRow (w.heap.size + 1 + 1) Y.toArray).setCell { block := w.heap.size + 1 + 1, off := rest.size } (Value.int IntKind.u8 128)) = W := ⟨_, rfl⟩
        rw [hW4]
        obtain ⟨b, hb⟩ : ∃ b, b = ended rest.data.toList := ⟨_, rfl⟩
        obtain ⟨v, hv⟩ : ∃ v, v = blk s.data.toList i := ⟨_, rfl⟩
        have hbl := hidp (show b.length = 64 from by rw [hb]; exact ended_len _ (by rw [hrs.out]; omega))
        have hvo := hidp (show v.ok from by rw [hv]; exact blk_ok _ _)
        have hB5 : Arr W4 (w.heap.size + 1 + 1) 118 (u8s b) := by
          rw [← hW4]
          have h := HB2.out.set rest.size (.int .u8 128)
          rw [← HY.out, ← hrs.out, show (Value.int IntKind.u8 128) = .int .u8 ((128 : UInt8).toNat : Int) from rfl, u8s_set, ended_set _ (by rw [hrs.out]; omega), ← hb] at h
          rw [← HY.out, ← hrs.out]
          exact h
        have HB5 := hidp hB5
        have HA5 := hidp (show Arr W4 (w.heap.size + 1) 117 (u32s v.list) from by
          rw [← hW4, hv]
          exact ((HA.out.row_other _ (by omega) _).row_other _ (by omega) _).other _ (by simp) _)
        have HZ5 := hidp (show ∃ z, Arr W4 w.heap.size 26 (u8s z) ∧ z.length = 32 from by
          obtain ⟨z, hz, hzl⟩ := HZ.out
          exact ⟨z, by rw [← hW4]; exact ((hz.row_other _ (by omega) _).row_other _ (by omega) _).other _ (by simp; omega) _, hzl⟩)
        have HBW5 := hidp (show Below w.heap.size w W4 from by
          rw [← hW4]
          exact (below_setRow (below_setRow HBW.out (g := w.heap.size + 1 + 1) (by omega) _) (g := w.heap.size + 1 + 1) (by omega) _).setCell (by simp; omega) _)
        have HFIN := hidp (show comp v (sized b s.size) = shaS s.data.toList from by
          have hi := drop_small HR.out HIL.out (by rw [hrs.out]; omega)
          have hr := HR.out
          rw [hi] at hr
          have h55' : ¬ 55 < (s.data.toList.drop (64 * (s.data.toList.length / 64))).length := by rw [← hr, hrs.out]; omega
          rw [shaS_short _ h55', hv, hb, hr, ← hi]
          rfl)
        have Hb := hidp hb; have Hv := hidp hv; have HW4 := hidp hW4
        clear hb hv hW4 hB5 hc hfz hcp
        go_loopw [35] (fun t35 wq => ∃ k : Nat, t35 = .int .i64 (k : Int) ∧ k ≤ 8 ∧ Arr wq (w.heap.size + 1) 117 (u32s v.list) ∧ Arr wq (w.heap.size + 1 + 1) 118 (u8s (sizedAt b s.size k)) ∧ (∃ z, Arr wq w.heap.size 26 (u8s z) ∧ z.length = 32) ∧ Below w.heap.size w wq) (fun t35 _ => 8 - (intOf t35).toNat)
        case atStart => exact ⟨0, rfl, by omega, HA5.out, by rw [sizedAt_zero _ _ hbl.out]; exact HB5.out, HZ5.out, HBW5.out⟩
        case round =>
          obtain ⟨k, rfl, hk8, hA6, hB6, hZ6, hbw6⟩ := hrel
          have HA6 := hidp hA6; have HB6 := hidp hB6; have HZ6 := hidp hZ6; have HBW6 := hidp hbw6
          clear hA6 hB6 hZ6 hbw6
          by_cases hk : k < 8
          · have hl6 := hidp (show (u8s (sizedAt b s.size k)).length = 64 from by rw [u8s_length, sizedAt_len _ _ _ hbl.out hk8])
            have hc := HB6.out.cell (63 - k) (by rw [hl6.out]; omega)
            have hfz := HB6.out.frozen (63 - k)
            go_wp2_with fail
            have hval : ((s.size : Int) * 8 / 2 ^ (8 * k) % 256) = (((len8 s.size).getD (7 - k) 0).toNat : Int) := by
              rw [len8_get _ _ (by omega), show 7 - (7 - k) = k from by omega]
              simp
            have hB7 := HB6.out.set (63 - k) (.int .u8 (((len8 s.size).getD (7 - k) 0).toNat : Int))
            rw [u8s_set, sizedAt_set _ _ _ hbl.out hk] at hB7
            rw [hval]
            refine ⟨⟨k + 1, by simp, by omega, HA6.out.other _ (by simp) _, hB7, ?_, HBW6.out.setCell (by simp; omega) _⟩, by simp [intOf]; omega⟩
            obtain ⟨z, hz, hzl⟩ := HZ6.out
            exact ⟨z, hz.other _ (by simp; omega) _, hzl⟩
          · have hke : k = 8 := by omega
            subst hke
            have hB7 := HB6.out
            rw [sizedAt_eight] at hB7
            have hbs6 := HBW6.out.size
            have HM := hidp (mix_any _ (w.heap.size + 1) 117 (w.heap.size + 1 + 1) 118 v hvo.out (sized b s.size) (sized_len _ _ hbl.out) HA6.out hB7 (HK.out.below HBW6.out hkp) (by omega) (by omega))
            clear hB7
            go_wp2_with fail
            refine HM.out.mono ?_
            rintro e w' ⟨rfl, hA8, hgr⟩
            have hbw8 := below_grown HBW6.out hgr (by omega) (by omega)
            have HBW8 := hidp hbw8; have HA8 := hidp hA8
            have HZ8 := hidp (show ∃ z, Arr w' w.heap.size 26 (u8s z) ∧ z.length = 32 from by
              obtain ⟨z, hz, hzl⟩ := HZ6.out
              exact ⟨z, hz.grown hgr (fun e => by have := Option.some.inj e; omega), hzl⟩)
            clear hbw8 hA8 hgr
            obtain ⟨xv, hxv⟩ : ∃ xv, (u32s (comp v (sized b s.size)).list).toArray = xv := ⟨_, rfl⟩
            have HI8 := hidp (show (Tryd.prog.info? 117).map (·.size) = some xv.size from by
              rw [show (Tryd.prog.info? 117).map (·.size) = some 8 from by kernel_rfl, ← hxv]
              simp [u32s, S8.list])
            have hg8 := HA8.out
            unfold Arr at hg8
            rw [hxv] at hg8
            have HG8 := hidp hg8
            have HXV := hidp hxv
            clear hg8 hxv
            go_wp2_with (refine wpList_load_row rfl 117 (.tmp 3) rfl (w.heap.size + 1) rfl 117 xv (0, 0) _ HG8.out Tryd.underlying117 rfl HI8.out ?_)
            rw [← HXV.out]
            refine (joined_any w' _ (comp_ok _ _)).mono ?_
            rintro e w9 ⟨rfl, hbw9⟩
            obtain ⟨z, hz, hzl⟩ := HZ8.out
            have hbs8 := HBW8.out.size
            have HZ9 := hidp (hz.below hbw9 (by have := hz.lt; omega))
            have HBW9 := hidp (HBW8.out.trans (hbw9.mono (by omega)))
            obtain ⟨xh, hxh⟩ : ∃ xh, (u8s (joinL (comp v (sized b s.size)))).toArray = xh := ⟨_, rfl⟩
            rw [hxh]
            have HI9 := hidp (show (Tryd.prog.info? 26).map (·.size) = some xh.size from by
              rw [show (Tryd.prog.info? 26).map (·.size) = some 32 from by kernel_rfl, ← hxh]
              simp [u8s, joinL_len])
            have hlenh := hidp (show (u8s z).toArray.size = xh.size from by rw [← hxh]; simp [u8s, joinL_len, hzl])
            have honeh := hidp (show xh.all (·.oneCell') = true from by rw [← hxh]; exact u8s_one _)
            have HXH := hidp hxh
            clear hxh hz
            go_wp2_with (refine wpList_store_row rfl 26 (.tmp 2) (.tmp 49) rfl w.heap.size xh rfl rfl 26 _ HZ9.out HI9.out hlenh.out honeh.out ?_)
            have hfin : (w9.setRow w.heap.size xh).heap[w.heap.size]? = some (.cells xh 26 (0, 0)) := setRow_heap _ _ _ _ _ _ HZ9.out
            refine bodyPost_ret (results_cell_row (P := Tryd.prog) (p := 2) (ty := 26) Tryd.results92 _ _ w.heap.size 26 xh (0, 0) _ rfl hfin Tryd.underlying26 rfl HI9.out) rfl ?_
            exact ⟨by rw [← HXH.out, HFIN.out]; rfl, below_setRow HBW9.out (by omega) _⟩
end Go.Proofs.YtgfdhgnkanekhaaDoor
