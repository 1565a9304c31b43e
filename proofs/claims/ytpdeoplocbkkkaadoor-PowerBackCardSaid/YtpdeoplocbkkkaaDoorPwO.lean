/-
  PowerNoHigher: what a change that may be leaves; the walk.
-/
import Derived.Test.YtpdeoplocbkkkaaDoorPwN
namespace Go.Proofs.YtpdeoplocbkkkaaDoor
set_option maxRecDepth 100000
set_option linter.unusedVariables false
set_option linter.unusedSimpArgs false
open Go.RowKit Rw Go.Shelf
attribute [local go_sem] Oper.semAt_some


theorem ba_inj {a b : ByteArray} (h : a.toList = b.toList) : a = b := by
  rw [ByteArray.toList_eq, ByteArray.toList_eq] at h
  cases a; cases b; simp only [ByteArray.mk.injEq]; exact Array.toList_inj.1 h
theorem own_mem : ∀ {us : List (ByteArray × Int)} {x : ByteArray} {k : Int}, ownL us x = some k → ∃ p ∈ us, p.1 = x ∧ p.2 = k
  | [], _, _, h => by cases h
  | p :: r, x, k, h => by
    unfold ownL at h
    split at h
    · rename_i he
      exact ⟨p, List.mem_cons_self .., ba_inj (beq_iff_eq.1 he), by simpa using h⟩
    · obtain ⟨q, hq, e⟩ := own_mem h
      exact ⟨q, List.mem_cons_of_mem _ hq, e⟩
theorem nh_parts {was is : Lv} {u : ByteArray} (h : chE was is u = 0) : nBad was is (ofL was u) 0 = false ∧ ∀ x ∈ chL was.us is.us, uBad was is u (ofL was u) x = false := by
  unfold chE at h
  split at h
  · split at h
    · cases h
    · rename_i h1
      split at h
      · cases h
      · rename_i h2
        refine ⟨?_, fun x hx => ?_⟩
        · cases hb : nBad was is (ofL was u) 0 with
          | false => rfl
          | true => exact absurd (any_range_at (by omega) hb) h1
        · cases hb : uBad was is u (ofL was u) x with
          | false => rfl
          | true => exact absurd (List.any_eq_true.2 ⟨x, hx, hb⟩) h2
  · cases h
theorem nh_user {was is : Lv} {u x : ByteArray} {lev : Int} (h : uBad was is u lev x = false) : ofL was x ≤ lev ∧ ofL is x ≤ lev := by
  unfold uBad at h
  simp only [Bool.or_eq_false_iff, decide_eq_false_iff_not] at h
  omega
theorem no_higher {was is : Lv} {u : ByteArray} (h : chE was is u = 0) (x : ByteArray) : (ofL was x ≤ ofL was u ∧ ofL is x ≤ ofL was u) ∨ ofL was x = ofL is x := by
  obtain ⟨h0, hu⟩ := nh_parts h
  cases h1 : ownL was.us x with
  | some k =>
    obtain ⟨p, hp, rfl, rfl⟩ := own_mem h1
    cases hf : chF is.us p with
    | true =>
      refine .inl (nh_user (hu p.1 ?_))
      unfold chL chI chW
      refine List.mem_append_left _ (List.mem_map_of_mem (List.mem_filter.2 ⟨?_, hf⟩))
      rw [List.take_length]; exact hp
    | false =>
      unfold chF at hf
      cases h2 : ownL is.us p.1 with
      | none => rw [h2] at hf; cases hf
      | some k =>
        rw [h2] at hf
        have : k = p.2 := by simpa using hf
        refine .inr ?_
        unfold ofL
        rw [h1, h2, this]; rfl
  | none =>
    cases h2 : ownL is.us x with
    | some k =>
      obtain ⟨p, hp, rfl, rfl⟩ := own_mem h2
      refine .inl (nh_user (hu p.1 ?_))
      unfold chL chI
      refine List.mem_append_right _ (List.mem_map_of_mem (List.mem_filter.2 ⟨?_, by unfold chG; rw [h1]; rfl⟩))
      rw [List.take_length]; exact hp
    | none =>
      have e1 : ofL was x = was.a := by unfold ofL; rw [h1]; rfl
      have e2 : ofL is x = is.a := by unfold ofL; rw [h2]; rfl
      rw [e1, e2]
      unfold nBad at h0
      simp only [sixL, List.getD_cons_zero, Bool.and_eq_false_iff, decide_eq_false_iff_not, bne_eq_false_iff_eq] at h0
      rcases h0 with h0 | h0
      · exact .inr h0
      · exact .inl (by omega)

set_option maxHeartbeats 16000000 in
theorem noHigher_any (w : World) (was is : Lv) (vw vi : Value) (u o : ByteArray) (hvw : UsAt w vw was.us) (hvi : UsAt w vi is.us) (hP : PT w) :
    Calls Tryd.prog 4 #[.agg #[.int .i64 was.a, .int .i64 was.s, .int .i64 was.i, .int .i64 was.k, .int .i64 was.b, .int .i64 was.r, vw], .agg #[.int .i64 is.a, .int .i64 is.s, .int .i64 is.i, .int .i64 is.k, .int .i64 is.b, .int .i64 is.r, vi], .string u, .string o] w fun e w' => e = .returned (.bool true) ∧ Below w.heap.size w w' := by
  have HP := hidp hP; have HVw := hidp hvw; have HVi := hidp hvi
  clear hP hvw hvi
  have L := hidp (fun W h => lives15_any W h)
  have CH := hidp (fun W h h' h2 => change_any W was is vw vi u h h' h2)
  by_cases hc : chE was is u = 0
  · have hn := no_higher hc o
    have hu := no_higher hc u
    rw [hc] at CH
    have k1 := hidp (fun W h => of_any W was vw u h); have k2 := hidp (fun W h => of_any W was vw o h); have k3 := hidp (fun W h => of_any W is vi o h); have k4 := hidp (fun W h => of_any W is vi u h)
    obtain ⟨lev, hl⟩ : ∃ z, ofL was u = z := ⟨_, rfl⟩
    obtain ⟨x, hx⟩ : ∃ z, ofL was o = z := ⟨_, rfl⟩
    obtain ⟨y, hy⟩ : ∃ z, ofL is o = z := ⟨_, rfl⟩
    obtain ⟨z, hz⟩ : ∃ z, ofL is u = z := ⟨_, rfl⟩
    rw [hl] at k1 hn hu; rw [hx] at k2 hn; rw [hy] at k3 hn; rw [hz] at k4 hu
    clear hl hx hy hz hc
    have q4 : decide (z ≤ lev) = true := by simp; omega
    have q4n : z ≤ lev := by omega
    clear hu
    by_cases hb : x ≤ lev ∧ y ≤ lev
    · obtain ⟨q1n, q2n⟩ := hb
      have q1 : decide (x ≤ lev) = true := by simp; omega
      have q2 : decide (y ≤ lev) = true := by simp; omega
      clear hn
      go_enter Tryd.func4, Tryd.ntmps4
      go_wp2_with (first | (refine Rt.wpL_box 24 rfl (.tmp 0) rfl [.int .i64 was.a, .int .i64 was.s, .int .i64 was.i, .int .i64 was.k, .int .i64 was.b, .int .i64 was.r, vw] rfl ?_; intro b4 w1 n1; have HB1 := hidp n1.below; have hg_b4 := hidp n1.le; have HA1 := hidp n1.arr; clear n1) | (refine Rt.wpL_box 24 rfl (.tmp 1) rfl [.int .i64 is.a, .int .i64 is.s, .int .i64 is.i, .int .i64 is.k, .int .i64 is.b, .int .i64 is.r, vi] rfl ?_; intro b5 w2 n2; have HB2 := hidp (HB1.out.trans (n2.below.mono HB1.out.size)); have hg_b5 := hidp (Nat.le_trans HB1.out.size n2.le); have HA2 := hidp (n2.old HA1.out); have hl_HA_b5 := hidp (show b4 < b5 from by have := n2.at_; have := HA1.out.lt; omega); have HC2 := hidp n2.arr; clear n2 HA1 HB1) | (go_at_call 6; refine (L.out _ (HP.out.below HB2.out (Nat.le_refl _))).mono ?_; rintro e w3 ⟨rfl, hb⟩; have HB3 := hidp (HB2.out.trans (hb.mono HB2.out.size)); have HA3 := hidp (HA2.out.below hb HA2.out.lt); have HC3 := hidp (HC2.out.below hb HC2.out.lt); clear hb HB2 HA2 HC2; clear L) | (refine Rt.wpL_get tyL rfl (.tmp 4) rfl b4 [.int .i64 was.a, .int .i64 was.s, .int .i64 was.i, .int .i64 was.k, .int .i64 was.b, .int .i64 was.r, vw] rfl rfl HA3.out ?_) | (refine Rt.wpL_get tyL rfl (.tmp 5) rfl b5 [.int .i64 is.a, .int .i64 is.s, .int .i64 is.i, .int .i64 is.k, .int .i64 is.b, .int .i64 is.r, vi] rfl rfl HC3.out ?_) | (go_at_call 10; refine (CH.out _ (HVw.out.to' HB3.out) (HVi.out.to' HB3.out) (HP.out.below HB3.out (Nat.le_refl _))).mono ?_; rintro e w4 ⟨rfl, hb⟩; have HB4 := hidp (HB3.out.trans (hb.mono HB3.out.size)); have HA4 := hidp (HA3.out.below hb HA3.out.lt); have HC4 := hidp (HC3.out.below hb HC3.out.lt); clear hb HB3 HA3 HC3; clear CH) | (refine Rt.wpL_get tyL rfl (.tmp 4) rfl b4 [.int .i64 was.a, .int .i64 was.s, .int .i64 was.i, .int .i64 was.k, .int .i64 was.b, .int .i64 was.r, vw] rfl rfl HA4.out ?_) | (go_at_call 11; refine (k1.out _ (HVw.out.to' HB4.out)).mono ?_; rintro e w5 ⟨rfl, hb⟩; have HB5 := hidp (HB4.out.trans (hb.mono HB4.out.size)); have HA5 := hidp (HA4.out.below hb HA4.out.lt); have HC5 := hidp (HC4.out.below hb HC4.out.lt); clear hb HB4 HA4 HC4; clear k1))
      obtain ⟨X0, hU⟩ : ∃ U, ({ w5 with drawn := w5.drawn + 1 } : World) = U := ⟨_, rfl⟩
      have HX0 : Hid (Below w5.heap.size w5 X0) := hidp (by rw [← hU]; exact (Below.refl _ _).drew)
      have HS := hidp (show Arr X0 b4 24 [.int .i64 was.a, .int .i64 was.s, .int .i64 was.i, .int .i64 was.k, .int .i64 was.b, .int .i64 was.r, vw] ∧ Arr X0 b5 24 [.int .i64 is.a, .int .i64 is.s, .int .i64 is.i, .int .i64 is.k, .int .i64 is.b, .int .i64 is.r, vi] from ⟨HA5.out.below HX0.out HA5.out.lt, HC5.out.below HX0.out HC5.out.lt⟩)
      refine wp_region_noPanic ?_
      refine wp_region_scr (S := fun W => Arr W b4 24 [.int .i64 was.a, .int .i64 was.s, .int .i64 was.i, .int .i64 was.k, .int .i64 was.b, .int .i64 was.r, vw] ∧ Arr W b5 24 [.int .i64 is.a, .int .i64 is.s, .int .i64 is.i, .int .i64 is.k, .int .i64 is.b, .int .i64 is.r, vi]) (.take 0 (.take 1 (.take 3 (.take 4 (.one 2 (.one 5 (.take 6 (.take 7 .done)))))))) (by kernel_rfl) (by kernel_rfl) (fun _ _ _ _ _ h => h) (by simp [Scr.depth]) (by kernel_rfl) (by rw [hU]; exact HS.out) ?_
      simp only [hU]
      clear hU HS
      refine Rt.s_get tyL rfl rfl (.tmp 4) rfl b4 [.int .i64 was.a, .int .i64 was.s, .int .i64 was.i, .int .i64 was.k, .int .i64 was.b, .int .i64 was.r, vw] rfl rfl (fun w h => h.1) ?_
      simp only [Act.put, List.getElem_toArray, List.getElem_cons_zero, List.getElem_cons_succ, List.setIfInBounds_toArray, List.set_cons_zero, List.set_cons_succ]
      apply s_val
      case ho => rfl
      case hw => rfl
      case hv => intro w hw; go_simp; first | done | with_reducible rfl | rfl
      simp only [Act.put, List.getElem_toArray, List.getElem_cons_zero, List.getElem_cons_succ, List.setIfInBounds_toArray, List.set_cons_zero, List.set_cons_succ]
      refine Rt.s_get tyL rfl rfl (.tmp 5) rfl b5 [.int .i64 is.a, .int .i64 is.s, .int .i64 is.i, .int .i64 is.k, .int .i64 is.b, .int .i64 is.r, vi] rfl rfl (fun w h => h.2) ?_
      simp only [Act.put, List.getElem_toArray, List.getElem_cons_zero, List.getElem_cons_succ, List.setIfInBounds_toArray, List.set_cons_zero, List.set_cons_succ]
      apply s_val
      case ho => rfl
      case hw => rfl
      case hv => intro w hw; go_simp; first | done | with_reducible rfl | rfl
      simp only [Act.put, List.getElem_toArray, List.getElem_cons_zero, List.getElem_cons_succ, List.setIfInBounds_toArray, List.set_cons_zero, List.set_cons_succ]
      apply o_call (f := 11) (args := #[.agg #[.int .i64 was.a, .int .i64 was.s, .int .i64 was.i, .int .i64 was.k, .int .i64 was.b, .int .i64 was.r, vw], .string o]) (v := .int .i64 x) (hc := k2.out _ (HVw.out.to' (HB5.out.trans (HX0.out.mono HB5.out.size))))
      case ho => rfl
      case hw => rfl
      case hop => go_simp; first | done | rfl
      rintro X1 hb
      have HX1 := hidp (HX0.out.trans (hb.mono HX0.out.size))
      refine ⟨⟨HA5.out.below HX1.out HA5.out.lt, HC5.out.below HX1.out HC5.out.lt⟩, ?_⟩
      clear hb HX0
      simp only [Act.put, List.getElem_toArray, List.getElem_cons_zero, List.getElem_cons_succ, List.setIfInBounds_toArray, List.set_cons_zero, List.set_cons_succ]
      apply o_call (f := 11) (args := #[.agg #[.int .i64 is.a, .int .i64 is.s, .int .i64 is.i, .int .i64 is.k, .int .i64 is.b, .int .i64 is.r, vi], .string o]) (v := .int .i64 y) (hc := k3.out _ (HVi.out.to' (HB5.out.trans (HX1.out.mono HB5.out.size))))
      case ho => rfl
      case hw => rfl
      case hop => go_simp; first | done | rfl
      rintro X2 hb
      have HX2 := hidp (HX1.out.trans (hb.mono HX1.out.size))
      refine ⟨⟨HA5.out.below HX2.out HA5.out.lt, HC5.out.below HX2.out HC5.out.lt⟩, ?_⟩
      clear hb HX1
      simp only [Act.put, List.getElem_toArray, List.getElem_cons_zero, List.getElem_cons_succ, List.setIfInBounds_toArray, List.set_cons_zero, List.set_cons_succ]
      apply s_val
      case ho => rfl
      case hw => rfl
      case hv => intro w hw; go_simp; first | done | with_reducible rfl | rfl
      simp only [Act.put, List.getElem_toArray, List.getElem_cons_zero, List.getElem_cons_succ, List.setIfInBounds_toArray, List.set_cons_zero, List.set_cons_succ]
      apply s_val
      case ho => rfl
      case hw => rfl
      case hv => intro w hw; go_simp; first | done | with_reducible rfl | rfl
      simp only [Act.put, List.getElem_toArray, List.getElem_cons_zero, List.getElem_cons_succ, List.setIfInBounds_toArray, List.set_cons_zero, List.set_cons_succ]
      refine NoPanic.normal ?_
      have HBF := hidp (HB5.out.trans (HX2.out.mono HB5.out.size)); have HCF := hidp (HC5.out.below HX2.out HC5.out.lt)
      clear HX2 HA5 HC5 HB5
      go_wp2_with (first | (refine Rt.wpL_get tyL rfl (.tmp 5) rfl b5 [.int .i64 is.a, .int .i64 is.s, .int .i64 is.i, .int .i64 is.k, .int .i64 is.b, .int .i64 is.r, vi] rfl rfl HCF.out ?_) | (go_at_call 11; refine (k4.out _ (HVi.out.to' HBF.out)).mono ?_; rintro e wz ⟨rfl, hb⟩; have HBG := hidp (HBF.out.trans (hb.mono HBF.out.size)); clear hb HBF HCF))
      go_ret
      exact ⟨rfl, HBG.out⟩
    · obtain rfl : x = y := by rcases hn with h | h <;> first | exact absurd h hb | exact h
      have q1n : ¬ x ≤ lev := by omega
      have q1 : decide (x ≤ lev) = false := by simp; omega
      clear hn hb
      go_enter Tryd.func4, Tryd.ntmps4
      go_wp2_with (first | (refine Rt.wpL_box 24 rfl (.tmp 0) rfl [.int .i64 was.a, .int .i64 was.s, .int .i64 was.i, .int .i64 was.k, .int .i64 was.b, .int .i64 was.r, vw] rfl ?_; intro b4 w1 n1; have HB1 := hidp n1.below; have hg_b4 := hidp n1.le; have HA1 := hidp n1.arr; clear n1) | (refine Rt.wpL_box 24 rfl (.tmp 1) rfl [.int .i64 is.a, .int .i64 is.s, .int .i64 is.i, .int .i64 is.k, .int .i64 is.b, .int .i64 is.r, vi] rfl ?_; intro b5 w2 n2; have HB2 := hidp (HB1.out.trans (n2.below.mono HB1.out.size)); have hg_b5 := hidp (Nat.le_trans HB1.out.size n2.le); have HA2 := hidp (n2.old HA1.out); have hl_HA_b5 := hidp (show b4 < b5 from by have := n2.at_; have := HA1.out.lt; omega); have HC2 := hidp n2.arr; clear n2 HA1 HB1) | (go_at_call 6; refine (L.out _ (HP.out.below HB2.out (Nat.le_refl _))).mono ?_; rintro e w3 ⟨rfl, hb⟩; have HB3 := hidp (HB2.out.trans (hb.mono HB2.out.size)); have HA3 := hidp (HA2.out.below hb HA2.out.lt); have HC3 := hidp (HC2.out.below hb HC2.out.lt); clear hb HB2 HA2 HC2; clear L) | (refine Rt.wpL_get tyL rfl (.tmp 4) rfl b4 [.int .i64 was.a, .int .i64 was.s, .int .i64 was.i, .int .i64 was.k, .int .i64 was.b, .int .i64 was.r, vw] rfl rfl HA3.out ?_) | (refine Rt.wpL_get tyL rfl (.tmp 5) rfl b5 [.int .i64 is.a, .int .i64 is.s, .int .i64 is.i, .int .i64 is.k, .int .i64 is.b, .int .i64 is.r, vi] rfl rfl HC3.out ?_) | (go_at_call 10; refine (CH.out _ (HVw.out.to' HB3.out) (HVi.out.to' HB3.out) (HP.out.below HB3.out (Nat.le_refl _))).mono ?_; rintro e w4 ⟨rfl, hb⟩; have HB4 := hidp (HB3.out.trans (hb.mono HB3.out.size)); have HA4 := hidp (HA3.out.below hb HA3.out.lt); have HC4 := hidp (HC3.out.below hb HC3.out.lt); clear hb HB3 HA3 HC3; clear CH) | (refine Rt.wpL_get tyL rfl (.tmp 4) rfl b4 [.int .i64 was.a, .int .i64 was.s, .int .i64 was.i, .int .i64 was.k, .int .i64 was.b, .int .i64 was.r, vw] rfl rfl HA4.out ?_) | (go_at_call 11; refine (k1.out _ (HVw.out.to' HB4.out)).mono ?_; rintro e w5 ⟨rfl, hb⟩; have HB5 := hidp (HB4.out.trans (hb.mono HB4.out.size)); have HA5 := hidp (HA4.out.below hb HA4.out.lt); have HC5 := hidp (HC4.out.below hb HC4.out.lt); clear hb HB4 HA4 HC4; clear k1))
      obtain ⟨X0, hU⟩ : ∃ U, ({ w5 with drawn := w5.drawn + 1 } : World) = U := ⟨_, rfl⟩
      have HX0 : Hid (Below w5.heap.size w5 X0) := hidp (by rw [← hU]; exact (Below.refl _ _).drew)
      have HS := hidp (show Arr X0 b4 24 [.int .i64 was.a, .int .i64 was.s, .int .i64 was.i, .int .i64 was.k, .int .i64 was.b, .int .i64 was.r, vw] ∧ Arr X0 b5 24 [.int .i64 is.a, .int .i64 is.s, .int .i64 is.i, .int .i64 is.k, .int .i64 is.b, .int .i64 is.r, vi] from ⟨HA5.out.below HX0.out HA5.out.lt, HC5.out.below HX0.out HC5.out.lt⟩)
      refine wp_region_noPanic ?_
      refine wp_region_scr (S := fun W => Arr W b4 24 [.int .i64 was.a, .int .i64 was.s, .int .i64 was.i, .int .i64 was.k, .int .i64 was.b, .int .i64 was.r, vw] ∧ Arr W b5 24 [.int .i64 is.a, .int .i64 is.s, .int .i64 is.i, .int .i64 is.k, .int .i64 is.b, .int .i64 is.r, vi]) (.take 0 (.take 1 (.take 3 (.take 4 (.one 2 (.one 5 (.take 6 (.take 7 .done)))))))) (by kernel_rfl) (by kernel_rfl) (fun _ _ _ _ _ h => h) (by simp [Scr.depth]) (by kernel_rfl) (by rw [hU]; exact HS.out) ?_
      simp only [hU]
      clear hU HS
      refine Rt.s_get tyL rfl rfl (.tmp 4) rfl b4 [.int .i64 was.a, .int .i64 was.s, .int .i64 was.i, .int .i64 was.k, .int .i64 was.b, .int .i64 was.r, vw] rfl rfl (fun w h => h.1) ?_
      simp only [Act.put, List.getElem_toArray, List.getElem_cons_zero, List.getElem_cons_succ, List.setIfInBounds_toArray, List.set_cons_zero, List.set_cons_succ]
      apply s_val
      case ho => rfl
      case hw => rfl
      case hv => intro w hw; go_simp; first | done | with_reducible rfl | rfl
      simp only [Act.put, List.getElem_toArray, List.getElem_cons_zero, List.getElem_cons_succ, List.setIfInBounds_toArray, List.set_cons_zero, List.set_cons_succ]
      refine Rt.s_get tyL rfl rfl (.tmp 5) rfl b5 [.int .i64 is.a, .int .i64 is.s, .int .i64 is.i, .int .i64 is.k, .int .i64 is.b, .int .i64 is.r, vi] rfl rfl (fun w h => h.2) ?_
      simp only [Act.put, List.getElem_toArray, List.getElem_cons_zero, List.getElem_cons_succ, List.setIfInBounds_toArray, List.set_cons_zero, List.set_cons_succ]
      apply s_val
      case ho => rfl
      case hw => rfl
      case hv => intro w hw; go_simp; first | done | with_reducible rfl | rfl
      simp only [Act.put, List.getElem_toArray, List.getElem_cons_zero, List.getElem_cons_succ, List.setIfInBounds_toArray, List.set_cons_zero, List.set_cons_succ]
      apply o_call (f := 11) (args := #[.agg #[.int .i64 was.a, .int .i64 was.s, .int .i64 was.i, .int .i64 was.k, .int .i64 was.b, .int .i64 was.r, vw], .string o]) (v := .int .i64 x) (hc := k2.out _ (HVw.out.to' (HB5.out.trans (HX0.out.mono HB5.out.size))))
      case ho => rfl
      case hw => rfl
      case hop => go_simp; first | done | rfl
      rintro X1 hb
      have HX1 := hidp (HX0.out.trans (hb.mono HX0.out.size))
      refine ⟨⟨HA5.out.below HX1.out HA5.out.lt, HC5.out.below HX1.out HC5.out.lt⟩, ?_⟩
      clear hb HX0
      simp only [Act.put, List.getElem_toArray, List.getElem_cons_zero, List.getElem_cons_succ, List.setIfInBounds_toArray, List.set_cons_zero, List.set_cons_succ]
      apply o_call (f := 11) (args := #[.agg #[.int .i64 is.a, .int .i64 is.s, .int .i64 is.i, .int .i64 is.k, .int .i64 is.b, .int .i64 is.r, vi], .string o]) (v := .int .i64 x) (hc := k3.out _ (HVi.out.to' (HB5.out.trans (HX1.out.mono HB5.out.size))))
      case ho => rfl
      case hw => rfl
      case hop => go_simp; first | done | rfl
      rintro X2 hb
      have HX2 := hidp (HX1.out.trans (hb.mono HX1.out.size))
      refine ⟨⟨HA5.out.below HX2.out HA5.out.lt, HC5.out.below HX2.out HC5.out.lt⟩, ?_⟩
      clear hb HX1
      simp only [Act.put, List.getElem_toArray, List.getElem_cons_zero, List.getElem_cons_succ, List.setIfInBounds_toArray, List.set_cons_zero, List.set_cons_succ]
      apply s_val
      case ho => rfl
      case hw => rfl
      case hv => intro w hw; go_simp; first | done | with_reducible rfl | rfl
      simp only [Act.put, List.getElem_toArray, List.getElem_cons_zero, List.getElem_cons_succ, List.setIfInBounds_toArray, List.set_cons_zero, List.set_cons_succ]
      apply s_val
      case ho => rfl
      case hw => rfl
      case hv => intro w hw; go_simp; first | done | with_reducible rfl | rfl
      simp only [Act.put, List.getElem_toArray, List.getElem_cons_zero, List.getElem_cons_succ, List.setIfInBounds_toArray, List.set_cons_zero, List.set_cons_succ]
      refine NoPanic.normal ?_
      have HBF := hidp (HB5.out.trans (HX2.out.mono HB5.out.size)); have HCF := hidp (HC5.out.below HX2.out HC5.out.lt)
      clear HX2 HA5 HC5 HB5
      go_wp2_with (first | (refine Rt.wpL_get tyL rfl (.tmp 5) rfl b5 [.int .i64 is.a, .int .i64 is.s, .int .i64 is.i, .int .i64 is.k, .int .i64 is.b, .int .i64 is.r, vi] rfl rfl HCF.out ?_) | (go_at_call 11; refine (k4.out _ (HVi.out.to' HBF.out)).mono ?_; rintro e wz ⟨rfl, hb⟩; have HBG := hidp (HBF.out.trans (hb.mono HBF.out.size)); clear hb HBF HCF))
      go_ret
      exact ⟨rfl, HBG.out⟩
  · obtain ⟨z, hz⟩ : ∃ z, chE was is u = z := ⟨_, rfl⟩
    rw [hz] at hc CH
    have q : decide (z = 0) = false := by simpa using hc
    have q2 : (z == 0) = false := by simpa using hc
    clear hz
    go_enter Tryd.func4, Tryd.ntmps4
    go_wp2_with (first | (refine Rt.wpL_box 24 rfl (.tmp 0) rfl [.int .i64 was.a, .int .i64 was.s, .int .i64 was.i, .int .i64 was.k, .int .i64 was.b, .int .i64 was.r, vw] rfl ?_; intro b4 w1 n1; have HB1 := hidp n1.below; have hg_b4 := hidp n1.le; have HA1 := hidp n1.arr; clear n1) | (refine Rt.wpL_box 24 rfl (.tmp 1) rfl [.int .i64 is.a, .int .i64 is.s, .int .i64 is.i, .int .i64 is.k, .int .i64 is.b, .int .i64 is.r, vi] rfl ?_; intro b5 w2 n2; have HB2 := hidp (HB1.out.trans (n2.below.mono HB1.out.size)); have hg_b5 := hidp (Nat.le_trans HB1.out.size n2.le); have HA2 := hidp (n2.old HA1.out); have hl_HA_b5 := hidp (show b4 < b5 from by have := n2.at_; have := HA1.out.lt; omega); have HC2 := hidp n2.arr; clear n2 HA1 HB1) | (go_at_call 6; refine (L.out _ (HP.out.below HB2.out (Nat.le_refl _))).mono ?_; rintro e w3 ⟨rfl, hb⟩; have HB3 := hidp (HB2.out.trans (hb.mono HB2.out.size)); have HA3 := hidp (HA2.out.below hb HA2.out.lt); have HC3 := hidp (HC2.out.below hb HC2.out.lt); clear hb HB2 HA2 HC2; clear L) | (refine Rt.wpL_get tyL rfl (.tmp 4) rfl b4 [.int .i64 was.a, .int .i64 was.s, .int .i64 was.i, .int .i64 was.k, .int .i64 was.b, .int .i64 was.r, vw] rfl rfl HA3.out ?_) | (refine Rt.wpL_get tyL rfl (.tmp 5) rfl b5 [.int .i64 is.a, .int .i64 is.s, .int .i64 is.i, .int .i64 is.k, .int .i64 is.b, .int .i64 is.r, vi] rfl rfl HC3.out ?_) | (go_at_call 10; refine (CH.out _ (HVw.out.to' HB3.out) (HVi.out.to' HB3.out) (HP.out.below HB3.out (Nat.le_refl _))).mono ?_; rintro e w4 ⟨rfl, hb⟩; have HB4 := hidp (HB3.out.trans (hb.mono HB3.out.size)); have HA4 := hidp (HA3.out.below hb HA3.out.lt); have HC4 := hidp (HC3.out.below hb HC3.out.lt); clear hb HB3 HA3 HC3; clear CH))
    go_ret
    exact ⟨rfl, HB4.out⟩
end Go.Proofs.YtpdeoplocbkkkaaDoor
