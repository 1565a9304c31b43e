
/-
  sha.mix: a block taken into the values.
-/
import Derived.Test.YtgfdhgnkanekhaaDoorShaB
namespace Go.Proofs.YtgfdhgnkanekhaaDoor
set_option linter.unusedVariables false
set_option linter.unusedSimpArgs false
open Go.RowKit

theorem grown_trans {a b c : World} {row : Option Nat} (h : a.grownBy b row) (k : b.grownBy c row) : a.grownBy c row :=
  ⟨k.os.trans h.os, k.tape.trans h.tape, k.output.trans h.output, Nat.le_trans h.size k.size, fun i hi hne => (k.block i (Nat.lt_of_lt_of_le hi h.size) hne).trans (h.block i hi hne)⟩
theorem grown_of_below' {w w' : World} (h : Below w.heap.size w w') (row : Option Nat) : w.grownBy w' row := ⟨h.os, h.tape, h.output, h.size, fun k hk _ => h.block k hk⟩
theorem grownBy_setCellAt (W : World) (B i : Nat) (u : Value) : W.grownBy (W.setCell ⟨B, i, none⟩ u) (some B) :=
  ⟨rfl, rfl, rfl, by simp [World.setCell], fun k _ hk => Below.heap_setCell W ⟨B, i, none⟩ u k (fun e => hk (by simp at e; rw [e]))⟩
theorem grownBy_drewN {a b : World} {row : Option Nat} (h : a.grownBy b row) (n : Nat) : a.grownBy (b.drewN n) row := grown_trans h ⟨rfl, rfl, rfl, Nat.le_refl _, fun _ _ _ => rfl⟩
theorem Arr.grown {w w' : World} {b t : Nat} {xs : List Value} (h : Arr w b t xs) {row : Option Nat} (hg : w.grownBy w' row) (hne : some b ≠ row) : Arr w' b t xs := (hg.block b h.lt hne).trans h
theorem KT.grown {w w' : World} (h : KT w) {row : Option Nat} (hg : w.grownBy w' row) (hne : some 0 ≠ row) : KT w' := fun i hi => hg.cell (h i hi) hne

set_option maxRecDepth 100000 in
set_option maxHeartbeats 8000000 in
theorem mix_any (w : World) (bv tv bb tb : Nat) (v : S8) (hv : v.ok) (l : List UInt8) (hl : l.length = 64) (hA : Arr w bv tv (u32s v.list)) (hB : Arr w bb tb (u8s l)) (hK : KT w) (h0 : 0 < bv) (hne : bv ≠ bb) :
    Calls Tryd.prog 106 #[.pointer (some ⟨bv, 0, none⟩), .pointer (some ⟨bb, 0, none⟩)] w fun e w' => e = .returned (.tuple #[]) ∧ Arr w' bv tv (u32s (comp v l).list) ∧ w.grownBy w' (some bv) := by
  have hsp := spread_any w bb tb l hl hB
  have hi64 : (Tryd.prog.info? 124).map (·.size) = some (u32s (sched l 64)).toArray.size := by
    have h1 : (Tryd.prog.info? 124).map (·.size) = some 64 := by kernel_rfl
    rw [h1]; simp [u32s, sched_len]
  obtain ⟨xs, hxs⟩ : ∃ xs, (u32s (sched l 64)).toArray = xs := ⟨_, rfl⟩
  have hone := hidp (show xs.all (·.oneCell') = true from by rw [← hxs]; simp [u32s, Value.oneCell'])
  have hsize := hidp (show xs.size = 64 from by rw [← hxs]; simp [u32s, sched_len])
  rw [hxs] at hi64 hsp
  have hsp := hidp hsp
  have HI := hidp hi64; clear hi64
  have HXS := hidp hxs; clear hxs
  have HA := hidp hA; have HB := hidp hB; have HK := hidp hK; clear hB hK hA
  go_enter Tryd.func106, Tryd.ntmps106
  go_wp2_with fail
  refine hsp.out.mono ?_
  rintro e w1 ⟨rfl, hb1⟩
  have HB1 := hidp hb1; clear hb1
  have hnew := fun o => hidp (heap_alloc_new w1 o)
  go_wp2_with (refine wpList_store_row rfl 124 (.tmp 4) (.tmp 19) rfl w1.heap.size xs rfl rfl 124 _ (hnew _).out HI.out ?_ hone.out ?_)
  · rw [hsize.out]; rfl
  · generalize hW2 : World.setRow _ w1.heap.size xs = W2
    have hAn : Arr W2 w1.heap.size 124 (u32s (sched l 64)) := by
      unfold Arr; rw [HXS.out, ← hW2]; exact setRow_heap _ _ _ _ _ _ (hnew _).out
    have hg2 : w.grownBy W2 (some bv) := by
      have hb1 := HB1.out
      have hb2 : Below w.heap.size w W2 := by rw [← hW2]; exact below_setRow (hb1.alloc hb1.size _) hb1.size _
      exact grown_of_below' hb2 _
    have hbn : Below w.heap.size w W2 := by
      have hb1 := HB1.out
      rw [← hW2]; exact below_setRow (hb1.alloc hb1.size _) hb1.size _
    clear hnew hW2
    have hA2 := HA.out.below hbn HA.out.lt
    have hK2 := HK.out.below hbn HK.out.pos
    obtain ⟨a0, b0, c0, d0, e0, f0, g0, h0'⟩ := v
    have hca : W2.cell? ⟨bv, 0, none⟩ = some (.int .u32 (a0 : Int)) := hA2.cell 0 (by simp [u32s, S8.list])
    have hcb : W2.cell? ⟨bv, 1, none⟩ = some (.int .u32 (b0 : Int)) := hA2.cell 1 (by simp [u32s, S8.list])
    have hcc : W2.cell? ⟨bv, 2, none⟩ = some (.int .u32 (c0 : Int)) := hA2.cell 2 (by simp [u32s, S8.list])
    have hcd : W2.cell? ⟨bv, 3, none⟩ = some (.int .u32 (d0 : Int)) := hA2.cell 3 (by simp [u32s, S8.list])
    have hce : W2.cell? ⟨bv, 4, none⟩ = some (.int .u32 (e0 : Int)) := hA2.cell 4 (by simp [u32s, S8.list])
    have hcf : W2.cell? ⟨bv, 5, none⟩ = some (.int .u32 (f0 : Int)) := hA2.cell 5 (by simp [u32s, S8.list])
    have hcg : W2.cell? ⟨bv, 6, none⟩ = some (.int .u32 (g0 : Int)) := hA2.cell 6 (by simp [u32s, S8.list])
    have hch : W2.cell? ⟨bv, 7, none⟩ = some (.int .u32 (h0' : Int)) := hA2.cell 7 (by simp [u32s, S8.list])
    have HA2 := hidp hA2; have HK2 := hidp hK2; have HAN := hidp hAn; have HG2 := hidp hg2; have HV := hidp hv
    clear hA2 hK2 hAn hg2 hbn hv
    go_quiet (fail)
    go_wp2
    go_quiet (fail)
    clear hca hcb hcc hcd hce hcf hcg hch
    go_wp2
    go_loopw [5, 6, 7, 8, 9, 10, 11, 12, 52] (fun t5 t6 t7 t8 t9 t10 t11 t12 t52 wr => ∃ (t : Nat) (s : S8), t52 = .int .i64 t ∧ t ≤ 64 ∧ s = rounds8 (sched l 64) t ⟨a0, b0, c0, d0, e0, f0, g0, h0'⟩ ∧
        t5 = .int .u32 s.a ∧ t6 = .int .u32 s.b ∧ t7 = .int .u32 s.c ∧ t8 = .int .u32 s.d ∧ t9 = .int .u32 s.e ∧ t10 = .int .u32 s.f ∧ t11 = .int .u32 s.g ∧ t12 = .int .u32 s.h ∧ Below W2.heap.size W2 wr)
      (fun _ _ _ _ _ _ _ _ t52 _ => 64 - (intOf t52).toNat)
    case atStart => exact ⟨0, ⟨a0, b0, c0, d0, e0, f0, g0, h0'⟩, rfl, by omega, (rounds8_zero _ _).symm, rfl, rfl, rfl, rfl, rfl, rfl, rfl, rfl, by repeat (first | exact Below.refl _ _ | refine below_drewN ?_ _)⟩
    case round =>
      obtain ⟨t, ⟨a, b, c, d, e, f, g, h⟩, rfl, ht, hs, rfl, rfl, rfl, rfl, rfl, rfl, rfl, rfl, hbw⟩ := hrel
      have hok := rounds8_ok (sched l 64) t _ HV.out
      rw [← hs] at hok
      unfold S8.ok S8.list at hok
      simp only [List.mem_cons, List.not_mem_nil, or_false, forall_eq_or_imp, forall_eq] at hok
      obtain ⟨ha, hb, hc, hd, he, hf, hg, hh⟩ := hok
      have HS := hidp hs; clear hs
      have HB2 := hidp hbw; clear hbw
      by_cases hlt : t < 64
      · have hck := (HK2.out.below HB2.out HK2.out.pos) t hlt
        have hlen64 : t < (u32s (sched l 64)).length := by rw [u32s_length, sched_len]; exact hlt
        have hcw := ((HAN.out.below HB2.out HAN.out.lt).cell t hlen64).trans (congrArg some (u32s_get _ t hlen64))
        have hbk := kk_lt t
        have hbw := sched_getD_lt l 64 t
        have hstep := hidp (rounds8_succ (sched l 64) t ⟨a0, b0, c0, d0, e0, f0, g0, h0'⟩)
        obtain ⟨kt, hkt⟩ : ∃ k, kk.getD t 0 = k := ⟨_, rfl⟩
        obtain ⟨wt, hwt⟩ : ∃ k, (sched l 64).getD t 0 = k := ⟨_, rfl⟩
        rw [hkt] at hck hbk
        rw [hwt] at hcw hbw
        have hstep := hidp (show rounds8 (sched l 64) (t + 1) ⟨a0, b0, c0, d0, e0, f0, g0, h0'⟩ = stp ⟨a, b, c, d, e, f, g, h⟩ kt wt from by rw [hstep.out, hkt, hwt, ← HS.out])
        clear hkt hwt
        have i1 : (0 : Int) ≤ (t : Int) := by omega
        have i2 : (t : Int) < 64 := by omega
        go_wp2
        go_quiet ((go_at_call 114; exact Calls.quiet_of_same (right_q _ _ (by assumption) (by unfold IsRot; omega) _)))
        go_wp2_with ((go_at_call 114; refine (right_any _ _ (by assumption) (by unfold IsRot; omega) _).mono ?_; rintro e9 w9 ⟨rfl, rfl⟩))
        rw [bs1_eq e he, chf_eq e f g he hf hg, bs0_eq a ha, maj_eq a b c ha hb hc, (round_eq a b c d e f g h kt wt).1, (round_eq a b c d e f g h kt wt).2]
        exact ⟨⟨t + 1, stp ⟨a, b, c, d, e, f, g, h⟩ kt wt, by go_num, by omega, hstep.out.symm, rfl, rfl, rfl, rfl, rfl, rfl, rfl, rfl, below_drewN HB2.out _⟩, by simp [intOf]; omega⟩
      · have ht64 := hidp (show t = 64 from by omega)
        obtain ⟨v0, hv0⟩ : ∃ v0 : S8, v0 = ⟨a0, b0, c0, d0, e0, f0, g0, h0'⟩ := ⟨_, rfl⟩
        obtain ⟨r0, hr0⟩ : ∃ r0 : S8, r0 = ⟨a, b, c, d, e, f, g, h⟩ := ⟨_, rfl⟩
        have hfin := hidp (show comp v0 l = comp ⟨a0, b0, c0, d0, e0, f0, g0, h0'⟩ l ∧ mixl v0 r0 8 = (comp v0 l).list from by
          refine ⟨by rw [hv0], ?_⟩
          rw [← mixl_eight, hr0, HS.out, ht64.out, hv0])
        have hrl := hidp (show r0.list = [a, b, c, d, e, f, g, h] from by rw [hr0]; rfl)
        have hvl := hidp (show v0.list = [a0, b0, c0, d0, e0, f0, g0, h0'] from by rw [hv0]; rfl)
        have hidx := hidp (show ∀ (i : Nat) (W : World), i < 8 → (Instr.index 117 (.agg #[.int .u32 a, .int .u32 b, .int .u32 c, .int .u32 d, .int .u32 e, .int .u32 f, .int .u32 g, .int .u32 h]) (.int .i64 (i : Int))).run Tryd.prog W = .ok (.int .u32 ((r0.list.getD i 0 : Nat) : Int)) W from by
          intro i W hi
          rw [hrl.out]
          rcases (by omega : i = 0 ∨ i = 1 ∨ i = 2 ∨ i = 3 ∨ i = 4 ∨ i = 5 ∨ i = 6 ∨ i = 7) with rfl | rfl | rfl | rfl | rfl | rfl | rfl | rfl <;> kernel_rfl)
        have hv0ok := hidp (show v0.ok from by rw [hv0]; exact HV.out)
        have hr0ok := hidp (show r0.ok from by rw [hr0, HS.out]; exact rounds8_ok _ _ _ HV.out)
        have hg0 := hidp (grown_trans HG2.out (grown_of_below' HB2.out _))
        have hA0 := hidp (HA2.out.below HB2.out HA2.out.lt)
        clear hv0 hr0 ha hb hc hd he hf hg hh
        go_wp2
        go_loopw [124] (fun t124 wr => ∃ i : Nat, t124 = .int .i64 i ∧ i ≤ 8 ∧ Arr wr bv tv (u32s (mixl v0 r0 i)) ∧ w.grownBy wr (some bv)) (fun t124 _ => 8 - (intOf t124).toNat)
        case atStart => exact ⟨0, rfl, by omega, by rw [mixl_zero, hvl.out]; exact hA0.out, hg0.out⟩
        case round =>
          obtain ⟨i, rfl, hi, hA, hG⟩ := hrel
          have HA3 := hidp hA; have HG3 := hidp hG; clear hA hG
          by_cases h8 : i < 8
          · have hlen := mixl_len v0 r0 i (by omega)
            have hlen' : i < (u32s (mixl v0 r0 i)).length := by rw [u32s_length, hlen]; omega
            have hc := (HA3.out.cell i hlen').trans (congrArg some (u32s_get _ i hlen'))
            rw [mixl_get _ _ _ h8] at hc
            have hfz := HA3.out.frozen i
            have hix := fun W => hidx.out i W h8
            have hset := HA3.out.set i (.int .u32 ((add32 (v0.list.getD i 0) (r0.list.getD i 0) : Nat) : Int))
            rw [u32s_set, mixl_set _ _ _ h8] at hset
            have b1 := list_getD_lt v0 hv0ok.out i h8
            have b2 := list_getD_lt r0 hr0ok.out i h8
            have hm := mod_add32 (v0.list.getD i 0) (r0.list.getD i 0)
            obtain ⟨x, hx⟩ : ∃ x, v0.list.getD i 0 = x := ⟨_, rfl⟩
            obtain ⟨y, hy⟩ : ∃ y, r0.list.getD i 0 = y := ⟨_, rfl⟩
            rw [hx] at hc hset b1 hm
            rw [hy] at hix hset b2 hm
            have HST := hidp hset
            clear hset hx hy hlen hlen'
            have i1 : (0 : Int) ≤ (i : Int) := by omega
            have i2 : (i : Int) < 8 := by omega
            go_wp2
            go_region
            go_wp2
            go_roundw
            case rel => exact ⟨i + 1, by go_num, by omega, HST.out, grown_trans (grown_trans HG3.out (grownBy_setCellAt wr bv i _)) ⟨rfl, rfl, rfl, Nat.le_refl _, fun _ _ _ => rfl⟩⟩
            case measure => simp [intOf]; omega
          · have hi8 : i = 8 := by omega
            have hA8 := HA3.out
            rw [hi8, hfin.out.2, hfin.out.1] at hA8
            have HA8 := hidp hA8
            clear hA8 hi8
            go_wp2
            go_end0
            exact ⟨rfl, HA8.out, HG3.out⟩
end Go.Proofs.YtgfdhgnkanekhaaDoor
