
/-
  sha.spread: the words of a block.
-/
import Derived.Test.YtgfdhgnkanekhaaDoorShaA
import Derived.RegionTactic
import Derived.StillTailTactics
namespace Go.Proofs.YtgfdhgnkanekhaaDoor
set_option linter.unusedVariables false
set_option linter.unusedSimpArgs false
open Go.RowKit

theorem info5 : (Tryd.prog.info? 5).map (fun i => (i.zero, i.size, i.bytes)) = some (some (.int .u8 0), 1, 1) := by kernel_rfl
def u8s (l : List UInt8) : List Value := l.map fun b => .int .u8 b.toNat
theorem u8s_length (l : List UInt8) : (u8s l).length = l.length := by simp [u8s]
theorem u8s_get (l : List UInt8) (i : Nat) (h : i < (u8s l).length) : (u8s l)[i] = .int .u8 (((l.getD i 0).toNat : Nat) : Int) := by
  have h' : i < l.length := by simpa [u8s] using h
  simp [u8s, List.getD_eq_getElem?_getD, h']
/-- The words so far, and noughts. -/
def fill (ws : List Nat) : List Nat := ws ++ List.replicate (64 - ws.length) 0
theorem fill_len (ws : List Nat) (h : ws.length ≤ 64) : (fill ws).length = 64 := by simp [fill]; omega
theorem fill_getD (ws : List Nat) (i : Nat) (h : i < ws.length) : (fill ws).getD i 0 = ws.getD i 0 := by
  unfold fill; rw [List.getD_eq_getElem?_getD, List.getElem?_append_left h, ← List.getD_eq_getElem?_getD]
theorem fill_set (ws : List Nat) (n : Nat) (h : ws.length < 64) : (fill ws).set ws.length n = fill (ws ++ [n]) := by
  unfold fill
  rw [List.set_append_right _ _ (Nat.le_refl _), Nat.sub_self]
  have e : 64 - ws.length = (64 - (ws ++ [n]).length) + 1 := by simp; omega
  rw [e, List.replicate_succ, List.set_cons_zero]
  simp

theorem fill_snoc_zero (ws : List Nat) (h : ws.length < 64) : fill (ws ++ [0]) = fill ws := by
  unfold fill
  have e : 64 - ws.length = (64 - (ws ++ [0]).length) + 1 := by simp; omega
  rw [e, List.replicate_succ]; simp
theorem fill_set_last (ws : List Nat) (v n : Nat) (h : ws.length < 64) : (fill (ws ++ [v])).set ws.length n = fill (ws ++ [n]) := by
  unfold fill
  rw [List.append_assoc, List.append_assoc, List.set_append_right _ _ (Nat.le_refl _), Nat.sub_self]
  simp
theorem fill_last (ws : List Nat) (v : Nat) : (fill (ws ++ [v])).getD ws.length 0 = v := by
  rw [fill_getD _ _ (by simp)]; simp
/-- The bytes of a word so far. -/
def partW (l : List UInt8) (t : Nat) : Nat → Nat
  | 0 => 0
  | j + 1 => partW l t j * 256 + (l.getD (4 * t + j) 0).toNat
theorem partW_four (l : List UInt8) (t : Nat) : partW l t 4 = firstW l t := by unfold firstW; simp [partW]
theorem partW_lt (l : List UInt8) (t j : Nat) : partW l t j < 256 ^ j := by
  induction j with
  | zero => simp [partW]
  | succ j ih => have := (l.getD (4 * t + j) 0).toNat_lt; simp only [partW, Nat.pow_succ]; omega
theorem shl_or (x b : Nat) (hx : x < 16777216) (hb : b < 256) : bits .or .u32 ((x : Int) * 256) (b : Int) = ((x * 256 + b : Nat) : Int) := by
  have e : (x : Int) * 256 = ((x * 256 : Nat) : Int) := by omega
  rw [e, or32 _ _ (by omega) (by omega)]
  have := Nat.two_pow_add_eq_or_of_lt (i := 8) (b := b) (by simpa using hb) x
  rw [Nat.mul_comm] at this
  simp only [Nat.reducePow] at this
  rw [← this]

theorem slice64 (bb t : Nat) (h : t < 16) (W : World) : (Instr.sliceAt 118 (.pointer (some ⟨bb, 0, none⟩)) (some (.int .i64 (4 * (t : Int)))) (some (.int .i64 (4 * ((t : Int) + 1)))) none).run Tryd.prog W = .ok (.slice (some ⟨bb, 4 * t, none⟩) 4 (64 - 4 * t)) W := by
  have hal : Tryd.prog.arrayLen 118 = 64 := by kernel_rfl
  have hel : Tryd.prog.elem 118 = 5 := by kernel_rfl
  have hu : Tryd.prog.underlying 118 = some (.array (Tryd.prog.arrayLen 118) (Tryd.prog.elem 118)) := by kernel_rfl
  have hs := run_sliceAt_array_lh (P := Tryd.prog) W 118 ⟨bb, 0, none⟩ hu .i64 .i64 (4 * (t : Int)) (4 * ((t : Int) + 1)) (by omega) (by omega) (by rw [hal]; omega)
  obtain ⟨i0, hi, hz0, hz1, hz2⟩ := info_parts info5
  have hsz : (sizeOf 5).run Tryd.prog W = .ok 1 W := by simp [sizeOf, typeInfo, hi, hz1]
  rw [hs, hal, hel, hsz]
  have e1 : (4 * (t : Int)).toNat = 4 * t := by omega
  have e2 : (4 * ((t : Int) + 1)).toNat = 4 * (t + 1) := by omega
  have e3 : 4 * (t + 1) - 4 * t = 4 := by omega
  simp only [Result.andThen, slicedAt, e1, e2, e3, Nat.mul_one]
  rw [if_neg (by omega)]
  unfold Addr.add
  by_cases h0 : t = 0
  · subst h0; simp
  · rw [if_neg (by omega)]; simp

set_option maxRecDepth 100000 in
set_option maxHeartbeats 4000000 in
theorem spread_any (w : World) (bb tb : Nat) (l : List UInt8) (hl : l.length = 64) (hb : Arr w bb tb (u8s l)) :
    Calls Tryd.prog 113 #[.pointer (some ⟨bb, 0, none⟩)] w fun e w' => e = .returned (.agg (u32s (sched l 64)).toArray) ∧ Below w.heap.size w w' := by
  have hbl := hb.lt
  go_enter Tryd.func113, Tryd.ntmps113
  go_wp2
  go_loopw [12] (fun t12 wr => ∃ t : Nat, t12 = .int .i64 t ∧ t ≤ 16 ∧ Arr wr (w.heap.size + 1) 124 (u32s (fill (sched l t))) ∧ Arr wr w.heap.size 124 (u32s (fill [])) ∧ Below w.heap.size w wr) (fun t12 _ => 16 - (intOf t12).toNat)
  case atStart =>
    refine ⟨0, rfl, by omega, ?_, ?_, ((Below.refl _ w).alloc (Nat.le_refl _) _).alloc (by simp) _⟩
    · have h := Arr.new (w.alloc (.cells (u32s (fill [])).toArray 124)) 124 (u32s (fill []))
      rw [heap_size_alloc] at h; rw [sched_zero]; exact h
    · exact (Arr.new w 124 (u32s (fill []))).alloc _
  case round =>
    obtain ⟨t, rfl, ht, hA, hZ, hbw⟩ := hrel
    have hsl := sched_len l t
    have HA := hidp hA; have HZ := hidp hZ; have HSL := hidp hsl; clear hA hZ hsl
    have hlen := hbw.size
    by_cases h16 : t < 16
    · obtain ⟨wo, hwo⟩ : ∃ wo : World, wo = wr := ⟨_, rfl⟩
      have hslc : ∀ W : World, (Instr.sliceAt 118 (.pointer (some ⟨bb, 0, none⟩)) (some (.int .i64 (4 * (t : Int)))) (some (.int .i64 (4 * ((t : Int) + 1)))) none).run Tryd.prog W = .ok (.slice (some ⟨bb, 4 * t, none⟩) 4 (64 - 4 * t)) W := slice64 bb t h16
      have hpw := hidp (fill_snoc_zero (sched l t) (by rw [HSL.out]; omega))
      go_wp2
      go_loopw [24] (fun t24 wr => ∃ j : Nat, t24 = .int .i64 j ∧ j ≤ 4 ∧ Arr wr (w.heap.size + 1) 124 (u32s (fill (sched l t ++ [partW l t j]))) ∧ Arr wr w.heap.size 124 (u32s (fill [])) ∧ Below w.heap.size w wr) (fun t24 _ => 4 - (intOf t24).toNat)
      case atStart => exact ⟨0, rfl, by omega, by rw [partW, hpw.out]; exact HA.out, HZ.out, hbw⟩
      case round =>
        obtain ⟨j, rfl, hj, hA, hZ, hbw2⟩ := hrel
        have hlen2 := hbw2.size
        have HA2 := hidp hA; have HZ2 := hidp hZ; clear hA hZ
        by_cases h4 : j < 4
        · have hcb := ((hb.below hbw2 hbl).cell (4 * t + j) (by rw [u8s_length]; omega)).trans (congrArg some (u8s_get l (4 * t + j) (by rw [u8s_length]; omega)))
          have hlenA : t < (u32s (fill (sched l t ++ [partW l t j]))).length := by rw [u32s_length, fill_len _ (by simp [HSL.out]; omega)]; omega
          have hcw := (HA2.out.cell t hlenA).trans (congrArg some (u32s_get _ t hlenA))
          have hlast := fill_last (sched l t) (partW l t j)
          rw [HSL.out] at hlast
          rw [hlast] at hcw
          clear hlast
          have hfz := HA2.out.frozen t
          have hpl : partW l t j < 16777216 := by
            have h1 := partW_lt l t j
            have h2 : (256 : Nat) ^ j ≤ 256 ^ 3 := Nat.pow_le_pow_right (by omega) (by omega)
            have h3 : (256 : Nat) ^ 3 = 16777216 := by decide
            omega
          have hb256 := (l.getD (4 * t + j) 0).toNat_lt
          have hor := shl_or (partW l t j) (l.getD (4 * t + j) 0).toNat (by omega) (by omega)
          have hst := hidp (HA2.out.set t (.int .u32 ((partW l t (j + 1) : Nat) : Int)))
          rw [u32s_set] at hst
          have hset := fill_set_last (sched l t) (partW l t j) (partW l t (j + 1)) (by rw [HSL.out]; omega)
          rw [HSL.out] at hset
          have hst := hidp (hset ▸ hst.out)
          clear hset
          have hstep : partW l t (j + 1) = partW l t j * 256 + (l.getD (4 * t + j) 0).toNat := rfl
          rw [← hstep] at hor
          clear hstep
          obtain ⟨pj, hpj⟩ : ∃ p, partW l t j = p := ⟨_, rfl⟩
          obtain ⟨pj1, hpj1⟩ : ∃ p, partW l t (j + 1) = p := ⟨_, rfl⟩
          obtain ⟨bn, hbn⟩ : ∃ b, (l.getD (4 * t + j) 0).toNat = b := ⟨_, rfl⟩
          rw [hpj] at hcw hor hpl
          rw [hpj1] at hor hst
          rw [hbn] at hcb hor hb256
          have HP := hidp hpj1
          clear hpj hpj1 hbn
          go_wp2
          refine ⟨⟨j + 1, by go_num, by omega, by rw [HP.out]; exact hst.out, HZ2.out.other _ (by simp) _, hbw2.setCell (p := ⟨w.heap.size + 1, t, none⟩) (by simp) _⟩, by simp [intOf]; omega⟩
        · obtain rfl : j = 4 := by omega
          have hfin := HA2.out
          rw [partW_four] at hfin
          have hsch : sched l (t + 1) = sched l t ++ [firstW l t] := sched_first l t h16
          have hfin := hidp (hsch ▸ hfin)
          clear hsch
          go_wp2
          refine ⟨⟨t + 1, by go_num, by omega, hfin.out, HZ2.out, hbw2⟩, by simp [intOf]; omega⟩
    · have HA16 := hidp (show Arr wr (w.heap.size + 1) 124 (u32s (fill (sched l 16))) from by have h := HA.out; rw [show t = 16 from by omega] at h; exact h)
      go_wp2
      go_loopw [7] (fun t7 wr => ∃ t : Nat, t7 = .int .i64 t ∧ 16 ≤ t ∧ t ≤ 64 ∧ Arr wr (w.heap.size + 1) 124 (u32s (fill (sched l t))) ∧ Arr wr w.heap.size 124 (u32s (fill [])) ∧ Below w.heap.size w wr) (fun t7 _ => 64 - (intOf t7).toNat)
      case atStart => exact ⟨16, rfl, by omega, by omega, HA16.out, HZ.out, hbw⟩
      case round =>
        obtain ⟨t, rfl, h16, h64, hA, hZ, hbw2⟩ := hrel
        have hlen2 := hbw2.size
        have hsl2 := hidp (sched_len l t)
        have HA2 := hidp hA; have HZ2 := hidp hZ; clear hA hZ HSL
        by_cases hlt : t < 64
        · have cellf : Hid (∀ i, i < t → wr.cell? ⟨w.heap.size + 1, i, none⟩ = some (.int .u32 (((sched l t).getD i 0 : Nat) : Int))) := hidp fun i hi => by
            have hlenA : i < (u32s (fill (sched l t))).length := by rw [u32s_length, fill_len _ (by rw [hsl2.out]; omega)]; omega
            rw [HA2.out.cell i hlenA, u32s_get, fill_getD _ _ (by rw [hsl2.out]; omega)]
          have c15 := cellf.out (t - 15) (by omega)
          have c2 := cellf.out (t - 2) (by omega)
          have c16 := cellf.out (t - 16) (by omega)
          have c7 := cellf.out (t - 7) (by omega)
          have hold : ∃ v, wr.cell? ⟨w.heap.size + 1, t, none⟩ = some v := ⟨_, HA2.out.cell t (by rw [u32s_length, fill_len _ (by rw [hsl2.out]; omega)]; omega)⟩
          obtain ⟨vold, hold⟩ := hold
          have hfz := HA2.out.frozen t
          have b15 := sched_getD_lt l t (t - 15)
          have b2 := sched_getD_lt l t (t - 2)
          have b16 := sched_getD_lt l t (t - 16)
          have b7 := sched_getD_lt l t (t - 7)
          have hnext := hidp (show sched l (t + 1) = sched l t ++ [nextW (sched l t) t] from sched_next l t (by omega))
          have hnw := hidp (show nextW (sched l t) t = add32 (add32 (add32 ((sched l t).getD (t - 16) 0) (sg0 ((sched l t).getD (t - 15) 0))) ((sched l t).getD (t - 7) 0)) (sg1 ((sched l t).getD (t - 2) 0)) from nextW_eq _ _)
          have hst := hidp (HA2.out.set t (.int .u32 ((nextW (sched l t) t : Nat) : Int)))
          obtain ⟨x, hx⟩ : ∃ x, (sched l t).getD (t - 15) 0 = x := ⟨_, rfl⟩
          obtain ⟨y, hy⟩ : ∃ y, (sched l t).getD (t - 2) 0 = y := ⟨_, rfl⟩
          obtain ⟨p, hp⟩ : ∃ p, (sched l t).getD (t - 16) 0 = p := ⟨_, rfl⟩
          obtain ⟨q, hq⟩ : ∃ q, (sched l t).getD (t - 7) 0 = q := ⟨_, rfl⟩
          rw [hx] at c15 b15
          rw [hy] at c2 b2
          rw [hp] at c16 b16
          rw [hq] at c7 b7
          have hnw := hidp (show nextW (sched l t) t = add32 (add32 (add32 p (sg0 x)) q) (sg1 y) from by rw [← hx, ← hy, ← hp, ← hq]; exact hnw.out)
          clear hx hy hp hq
          have i15 : ((t : Int) - 15).toNat = t - 15 := by omega
          have i2 : ((t : Int) - 2).toNat = t - 2 := by omega
          have i16 : ((t : Int) - 16).toNat = t - 16 := by omega
          have i7 : ((t : Int) - 7).toNat = t - 7 := by omega
          have k1 : (0 : Int) ≤ (t : Int) - 15 := by omega
          have k2 : (t : Int) - 15 < 64 := by omega
          have k3 : (0 : Int) ≤ (t : Int) - 2 := by omega
          have k4 : (t : Int) - 2 < 64 := by omega
          have hs0 := sg0_eq x b15
          have hs1 := sg1_eq y b2
          have n0 := sg0_lt x b15
          have n1 := sg1_lt y b2
          have m1 := mod_add32 p (sg0 x)
          have m2 := mod_add32 (add32 p (sg0 x)) q
          have m3 := mod_add32 (add32 (add32 p (sg0 x)) q) (sg1 y)
          have n2 := add32_lt p (sg0 x)
          have n3 := add32_lt (add32 p (sg0 x)) q
          go_wp2
          go_quiet (fail)
          go_wp2_with ((go_at_call 114; refine (right_any _ _ (by assumption) (by unfold IsRot; omega) _).mono ?_; rintro e w9 ⟨rfl, rfl⟩))
          have hst2 := hst.out
          rw [u32s_set] at hst2
          have hsetl := fill_set (sched l t) (nextW (sched l t) t) (by rw [hsl2.out]; omega)
          rw [hsl2.out] at hsetl
          rw [hsetl, ← hnext.out, hnw.out] at hst2
          have HST := hidp hst2
          clear hst2 hsetl
          go_region
          go_wp2
          go_roundw
          case rel => exact ⟨t + 1, by go_num, by omega, by omega, HST.out, (HZ2.out.other ⟨w.heap.size + 1, t, none⟩ (by simp) _), (below_drewN hbw2 (nq + 1)).setCell (p := ⟨w.heap.size + 1, t, none⟩) (by simp) _⟩
          case measure => simp [intOf]; omega
        · obtain rfl : t = 64 := by omega
          have hfull : fill (sched l 64) = sched l 64 := by unfold fill; rw [sched_len]; simp
          rw [hfull] at HA2
          have hi64 : (Tryd.prog.info? 124).map (·.size) = some (u32s (sched l 64)).toArray.size := by
            have h1 : (Tryd.prog.info? 124).map (·.size) = some 64 := by kernel_rfl
            rw [h1]; simp [u32s, sched_len]
          obtain ⟨xs, hxs⟩ : ∃ xs, (u32s (sched l 64)).toArray = xs := ⟨_, rfl⟩
          have hg1 := HA2.out
          have hg2 := HZ2.out
          unfold Arr at hg1 hg2
          rw [hxs] at hg1 hi64
          have HXS := hidp hxs
          have hlenx := hidp (show (u32s (fill [])).toArray.size = xs.size from by rw [← hxs]; simp [u32s, sched_len, fill])
          have hone := hidp (show xs.all (·.oneCell') = true from by rw [← hxs]; simp [u32s, Value.oneCell'])
          clear hxs
          have H1 := hidp hg1; have H2 := hidp hg2; have HI := hidp hi64
          clear hg1 hg2 hi64
          go_wp2_with (first
            | (refine wpList_load_row rfl 124 (.tmp 3) rfl (w.heap.size + 1) rfl 124 xs (0, 0) _ H1.out Tryd.underlying124 rfl HI.out ?_)
            | (refine wpList_store_row rfl 124 (.tmp 2) (.tmp 82) rfl w.heap.size xs rfl rfl 124 _ H2.out HI.out hlenx.out hone.out ?_))
          have hfin : (wr.setRow w.heap.size xs).heap[w.heap.size]? = some (.cells xs 124 (0, 0)) := setRow_heap _ _ _ _ _ _ H2.out
          refine bodyPost_ret (results_cell_row (P := Tryd.prog) (p := 2) (ty := 124) Tryd.results113 _ _ w.heap.size 124 xs (0, 0) _ rfl hfin Tryd.underlying124 rfl HI.out) rfl ?_
          exact ⟨by rw [HXS.out], below_setRow hbw2 (Nat.le_refl _) _⟩
end Go.Proofs.YtgfdhgnkanekhaaDoor
