
/-
  palaverref02: constants, words.
-/
import Derived.Test.YtgfdhgnkanekhaaDoorShaL
namespace Go.Proofs.YtgfdhgnkanekhaaDoor
set_option linter.unusedVariables false
set_option linter.unusedSimpArgs false
open Go.RowKit

theorem AtB.below {w w' : World} {a : Addr} {l : List UInt8} (h : AtB w a l) {B : Nat} (hb : Below B w w') (hB : a.block < B) : AtB w' a l :=
  fun i hi => (hb.cell (p := ⟨a.block, a.off + i, none⟩) hB).trans (h i hi)
set_option maxRecDepth 100000 in
set_option maxHeartbeats 8000000 in
theorem words_any (w : World) (bb off cap : Nat) (l : List UInt8) (hl : l.length = 64) (hcap : 64 ≤ cap) (hb : AtB w ⟨bb, off, none⟩ l) (hbl : bb < w.heap.size) :
    Calls Tryd.prog 110 #[.slice (some ⟨bb, off, none⟩) 64 cap] w fun e w' => e = .returned (.agg (u32s (sched l 64)).toArray) ∧ Below w.heap.size w w' := by
  have HBL := hidp hb; clear hb
  have HL := hidp hl; clear hl
  go_enter Tryd.func110, Tryd.ntmps110
  go_wp2
  go_loopw [4] (fun t12 wr => ∃ t : Nat, t12 = .int .i64 t ∧ t ≤ 16 ∧ Arr wr (w.heap.size + 1) 124 (u32s (fill (sched l t))) ∧ Arr wr w.heap.size 124 (u32s (fill [])) ∧ Below w.heap.size w wr) (fun t12 _ => 16 - (intOf t12).toNat)
  case atStart =>
    refine ⟨0, rfl, by omega, ?_, ?_, ((Below.refl _ w).alloc (Nat.le_refl _) _).alloc (by simp) _⟩
    · have h := Arr.new (w.alloc (.cells (u32s (fill [])).toArray 124)) 124 (u32s (fill []))
      rw [heap_size_alloc] at h; rw [sched_zero]; exact h
    · exact (Arr.new w 124 (u32s (fill []))).alloc _
  case round =>
    obtain ⟨t, rfl, ht, hA, hZ, hbw⟩ := hrel
    have hsl := sched_len l t
    have HA := hidp hA; have HZ := hidp hZ; have HSL := hidp hsl; clear hA hZ hsl
    have hlen := hbw.size
    by_cases h16 : t < 16
    · have hd16 : decide ((t : Int) < 16) = true := decide_eq_true (by omega)
      have hpw := hidp (fill_snoc_zero (sched l t) (by rw [HSL.out]; omega))
      go_wp2
      go_loopw [5] (fun t24 wr => ∃ j : Nat, t24 = .int .i64 j ∧ j ≤ 4 ∧ Arr wr (w.heap.size + 1) 124 (u32s (fill (sched l t ++ [partW l t j]))) ∧ Arr wr w.heap.size 124 (u32s (fill [])) ∧ Below w.heap.size w wr) (fun t24 _ => 4 - (intOf t24).toNat)
      case atStart => exact ⟨0, rfl, by omega, by rw [partW, hpw.out]; exact HA.out, HZ.out, hbw⟩
      case round =>
        obtain ⟨j, rfl, hj, hA, hZ, hbw2⟩ := hrel
        have hlen2 := hbw2.size
        have HA2 := hidp hA; have HZ2 := hidp hZ; clear hA hZ
        by_cases h4 : j < 4
        · have hcb := (HBL.out.below hbw2 hbl) (4 * t + j) (by rw [HL.out]; omega)
          have hlenA : t < (u32s (fill (sched l t ++ [partW l t j]))).length := by rw [u32s_length, fill_len _ (by simp [HSL.out]; omega)]; omega
          have hcw := (HA2.out.cell t hlenA).trans (congrArg some (u32s_get _ t hlenA))
          have hlast := fill_last (sched l t) (partW l t j)
          rw [HSL.out] at hlast
          rw [hlast] at hcw
          clear hlast
          have hfz := HA2.out.frozen t
          have hpl : partW l t j < 16777216 := by
            have h1 := partW_lt l t j
            have h2 : (256 : Nat) ^ j ≤ 256 ^ 3 := Nat.pow_le_pow_right (by omega) (by omega)
            have h3 : (256 : Nat) ^ 3 = 16777216 := by decide
            omega
          have hb256 := (l.getD (4 * t + j) 0).toNat_lt
          have hst := hidp (HA2.out.set t (.int .u32 ((partW l t (j + 1) : Nat) : Int)))
          rw [u32s_set] at hst
          have hset := fill_set_last (sched l t) (partW l t j) (partW l t (j + 1)) (by rw [HSL.out]; omega)
          rw [HSL.out] at hset
          have hst := hidp (hset ▸ hst.out)
          clear hset
          have hstep := hidp (show partW l t (j + 1) = partW l t j * 256 + (l.getD (4 * t + j) 0).toNat from rfl)
          obtain ⟨pj, hpj⟩ : ∃ p, partW l t j = p := ⟨_, rfl⟩
          obtain ⟨bn, hbn⟩ : ∃ b, (l.getD (4 * t + j) 0).toNat = b := ⟨_, rfl⟩
          rw [hpj] at hcw hpl hstep
          rw [hbn] at hcb hb256 hstep
          clear hpj hbn
          have i1 : (0 : Int) ≤ 4 * (t : Int) + (j : Int) := by omega
          have i2 : 4 * (t : Int) + (j : Int) < 64 := by omega
          have i3 : (4 * (t : Int) + (j : Int)).toNat = 4 * t + j := by omega
          have i4 : (0 : Int) ≤ (t : Int) := by omega
          have i5 : (t : Int) < 64 := by omega
          go_wp2_with fail
          go_region
          go_wp2
          rw [show ((pj : Int) * 256 + (bn : Int)) = ((partW l t (j + 1) : Nat) : Int) from by rw [hstep.out]; omega]
          go_roundw
          case rel => exact ⟨j + 1, by go_num, by omega, hst.out, HZ2.out.other ⟨w.heap.size + 1, t, none⟩ (by simp) _, (below_drewN hbw2 _).setCell (p := ⟨w.heap.size + 1, t, none⟩) (by simp) _⟩
          case measure => simp [intOf]; omega
        · obtain rfl : j = 4 := by omega
          have hfin := HA2.out
          rw [partW_four] at hfin
          have hsch : sched l (t + 1) = sched l t ++ [firstW l t] := sched_first l t h16
          have hfin := hidp (hsch ▸ hfin)
          clear hsch
          go_wp2
          refine ⟨⟨t + 1, by go_num, by omega, hfin.out, HZ2.out, hbw2⟩, by simp [intOf]; omega⟩
    · have HA16 := hidp (show Arr wr (w.heap.size + 1) 124 (u32s (fill (sched l 16))) from by have h := HA.out; rw [show t = 16 from by omega] at h; exact h)
      go_wp2
      go_loopw [6] (fun t7 wr => ∃ t : Nat, t7 = .int .i64 t ∧ 16 ≤ t ∧ t ≤ 64 ∧ Arr wr (w.heap.size + 1) 124 (u32s (fill (sched l t))) ∧ Arr wr w.heap.size 124 (u32s (fill [])) ∧ Below w.heap.size w wr) (fun t7 _ => 64 - (intOf t7).toNat)
      case atStart => exact ⟨16, rfl, by omega, by omega, HA16.out, HZ.out, hbw⟩
      case round =>
        obtain ⟨t, rfl, h16, h64, hA, hZ, hbw2⟩ := hrel
        have hlen2 := hbw2.size
        have hsl2 := hidp (sched_len l t)
        have HA2 := hidp hA; have HZ2 := hidp hZ; clear hA hZ HSL
        by_cases hlt : t < 64
        · have cellf : Hid (∀ i, i < t → wr.cell? ⟨w.heap.size + 1, i, none⟩ = some (.int .u32 (((sched l t).getD i 0 : Nat) : Int))) := hidp fun i hi => by
            have hlenA : i < (u32s (fill (sched l t))).length := by rw [u32s_length, fill_len _ (by rw [hsl2.out]; omega)]; omega
            rw [HA2.out.cell i hlenA, u32s_get, fill_getD _ _ (by rw [hsl2.out]; omega)]
          have c15 := cellf.out (t - 15) (by omega)
          have c2 := cellf.out (t - 2) (by omega)
          have c16 := cellf.out (t - 16) (by omega)
          have c7 := cellf.out (t - 7) (by omega)
          have hold : ∃ v, wr.cell? ⟨w.heap.size + 1, t, none⟩ = some v := ⟨_, HA2.out.cell t (by rw [u32s_length, fill_len _ (by rw [hsl2.out]; omega)]; omega)⟩
          obtain ⟨vold, hold⟩ := hold
          have hfz := HA2.out.frozen t
          have b15 := sched_getD_lt l t (t - 15)
          have b2 := sched_getD_lt l t (t - 2)
          have b16 := sched_getD_lt l t (t - 16)
          have b7 := sched_getD_lt l t (t - 7)
          have hnext := hidp (show sched l (t + 1) = sched l t ++ [nextW (sched l t) t] from sched_next l t (by omega))
          have hnw := hidp (show nextW (sched l t) t = add32 (add32 (add32 ((sched l t).getD (t - 16) 0) (sg0 ((sched l t).getD (t - 15) 0))) ((sched l t).getD (t - 7) 0)) (sg1 ((sched l t).getD (t - 2) 0)) from nextW_eq _ _)
          have hst := hidp (HA2.out.set t (.int .u32 ((nextW (sched l t) t : Nat) : Int)))
          obtain ⟨x, hx⟩ : ∃ x, (sched l t).getD (t - 15) 0 = x := ⟨_, rfl⟩
          obtain ⟨y, hy⟩ : ∃ y, (sched l t).getD (t - 2) 0 = y := ⟨_, rfl⟩
          obtain ⟨p, hp⟩ : ∃ p, (sched l t).getD (t - 16) 0 = p := ⟨_, rfl⟩
          obtain ⟨q, hq⟩ : ∃ q, (sched l t).getD (t - 7) 0 = q := ⟨_, rfl⟩
          rw [hx] at c15 b15
          rw [hy] at c2 b2
          rw [hp] at c16 b16
          rw [hq] at c7 b7
          have hnw := hidp (show nextW (sched l t) t = add32 (add32 (add32 p (sg0 x)) q) (sg1 y) from by rw [← hx, ← hy, ← hp, ← hq]; exact hnw.out)
          clear hx hy hp hq
          have i15 : ((t : Int) - 15).toNat = t - 15 := by omega
          have i2 : ((t : Int) - 2).toNat = t - 2 := by omega
          have i16 : ((t : Int) - 16).toNat = t - 16 := by omega
          have i7 : ((t : Int) - 7).toNat = t - 7 := by omega
          have k1 : (0 : Int) ≤ (t : Int) - 15 := by omega
          have k2 : (t : Int) - 15 < 64 := by omega
          have k3 : (0 : Int) ≤ (t : Int) - 2 := by omega
          have k4 : (t : Int) - 2 < 64 := by omega
          have hs0 := sg0_eq x b15
          have hs1 := sg1_eq y b2
          have n0 := sg0_lt x b15
          have n1 := sg1_lt y b2
          have m1 := mod_add32 p (sg0 x)
          have m2 := mod_add32 (add32 p (sg0 x)) q
          have m3 := mod_add32 (add32 (add32 p (sg0 x)) q) (sg1 y)
          have n2 := add32_lt p (sg0 x)
          have n3 := add32_lt (add32 p (sg0 x)) q
          go_wp2
          go_quiet (fail)
          go_wp2_with (first | (go_at_call 111; refine (turned_any _ _ (by assumption) (by unfold IsRot; omega) _).mono ?_; rintro e w9 ⟨rfl, nn, rfl⟩) | (go_at_call 115; refine (shifted_any _ _ (by assumption) (by omega) _).mono ?_; rintro e w9 ⟨rfl, rfl⟩))
          have hst2 := hst.out
          rw [u32s_set] at hst2
          have hsetl := fill_set (sched l t) (nextW (sched l t) t) (by rw [hsl2.out]; omega)
          rw [hsl2.out] at hsetl
          rw [hsetl, ← hnext.out, hnw.out] at hst2
          have HST := hidp hst2
          clear hst2 hsetl
          go_region
          go_wp2
          go_roundw
          case rel => exact ⟨t + 1, by go_num, by omega, by omega, HST.out, (HZ2.out.other ⟨w.heap.size + 1, t, none⟩ (by simp) _), (below_drewN hbw2 _).setCell (p := ⟨w.heap.size + 1, t, none⟩) (by simp) _⟩
          case measure => simp [intOf]; omega
        · obtain rfl : t = 64 := by omega
          have hfull : fill (sched l 64) = sched l 64 := by unfold fill; rw [sched_len]; simp
          rw [hfull] at HA2
          have hi64 : (Tryd.prog.info? 124).map (·.size) = some (u32s (sched l 64)).toArray.size := by
            have h1 : (Tryd.prog.info? 124).map (·.size) = some 64 := by kernel_rfl
            rw [h1]; simp [u32s, sched_len]
          obtain ⟨xs, hxs⟩ : ∃ xs, (u32s (sched l 64)).toArray = xs := ⟨_, rfl⟩
          have hg1 := HA2.out
          have hg2 := HZ2.out
          unfold Arr at hg1 hg2
          rw [hxs] at hg1 hi64
          have HXS := hidp hxs
          have hlenx := hidp (show (u32s (fill [])).toArray.size = xs.size from by rw [← hxs]; simp [u32s, sched_len, fill])
          have hone := hidp (show xs.all (·.oneCell') = true from by rw [← hxs]; simp [u32s, Value.oneCell'])
          clear hxs
          have H1 := hidp hg1; have H2 := hidp hg2; have HI := hidp hi64
          clear hg1 hg2 hi64
          go_wp2_with (first
            | (refine wpList_load_row rfl 124 (.tmp 3) rfl (w.heap.size + 1) rfl 124 xs (0, 0) _ H1.out Tryd.underlying124 rfl HI.out ?_)
            | (refine wpList_store_row rfl 124 (.tmp 2) (.tmp 77) rfl w.heap.size xs rfl rfl 124 _ H2.out HI.out hlenx.out hone.out ?_))
          have hfin : (wr.setRow w.heap.size xs).heap[w.heap.size]? = some (.cells xs 124 (0, 0)) := setRow_heap _ _ _ _ _ _ H2.out
          refine bodyPost_ret (results_cell_row (P := Tryd.prog) (p := 2) (ty := 124) Tryd.results110 _ _ w.heap.size 124 xs (0, 0) _ rfl hfin Tryd.underlying124 rfl HI.out) rfl ?_
          exact ⟨by rw [HXS.out], below_setRow hbw2 (Nat.le_refl _) _⟩
end Go.Proofs.YtgfdhgnkanekhaaDoor
