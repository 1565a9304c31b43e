/-
  Joined: HoD.
-/
import Derived.Test.YtldokjbfnhgamaaGreatDoorQP
namespace Go.Proofs.YtldokjbfnhgamaaGreatDoor.Ho
set_option maxRecDepth 100000
set_option linter.unusedVariables false
set_option linter.unusedSimpArgs false
open Go.RowKit
open List (getElem_toArray getElem_cons_zero getElem_cons_succ setIfInBounds_toArray set_cons_zero set_cons_succ)

theorem dP_bad {t : ByteArray} (h : (al t).2 ≠ 0) : dP t = none := by unfold dP; rw [if_neg h]
theorem dP_len {t : ByteArray} (h : (al t).1.length ≠ 2) : dP t = none := by
  unfold dP
  split
  · unfold dPL
    split
    · rename_i hl; rw [hl] at h; simp at h
    · rfl
  · rfl
theorem dP_two {t a b : ByteArray} (h0 : (al t).2 = 0) (hL : (al t).1 = [a, b]) : dP t = (rd a).map fun d => wSig d b := by
  unfold dP; rw [if_pos h0, hL]; rfl
set_option maxHeartbeats 32000000 in
theorem parse_any (w : World) (t : ByteArray) (ht : t.size ≤ 281474976710656) (hI : IT w) (hT : HT w) :
    Calls Tryz.prog 15 #[.string t] w fun e w' => e = .returned (.tuple #[.agg (dpV t).row.toArray, .int .i64 (dpE t)]) ∧ Below w.heap.size w w' := by
  have HI := hidp hI; have HT0 := hidp hT; clear hI hT
  have ca := hidp (fun W => all_any W t ht)
  have H := hidp (Mm.M.nil w)
  by_cases h0 : (al t).2 = 0
  · by_cases h6 : (al t).1.length = 2
    · obtain ⟨a, b, hL⟩ : ∃ a b, (al t).1 = [a, b] := by
        match hL : (al t).1, h6 with
        | [a, b], _ => exact ⟨a, b, rfl⟩
      have hSS := al_sz t ht
      rw [hL] at hSS
      have hP := dP_two h0 hL
      rw [h0, hL] at ca
      clear hL h6 h0
      have en : (((2 : Nat) : Int) != 2) = false := rfl
      have cr := hidp (fun W h h' => read_any W a (by have := hSS a (by simp); omega) h h')
      clear hSS
      cases hr : rd a with
      | none =>
        rw [show rdV a = zD from by unfold rdV; rw [hr]; rfl, show rdE a = 6 from by unfold rdE; rw [hr]; rfl] at cr
        rw [hr] at hP
        have HV := hidp (show dpV t = zD from by unfold dpV; rw [hP]; rfl)
        have HE := hidp (show dpE t = 6 from by unfold dpE; rw [hP]; rfl)
        clear hr hP
        go_enter Tryz.func15, Tryz.ntmps15
        have tk0 := hidp trivial
        go_wp2_with (first | (clear tk0; (refine Mm.new rtD H (some 2) rfl rfl rfl ?_; clear H; intro b2 _ H nw; have hb := nw.below; clear hb nw); (try simp only [Act.put, setIfInBounds_toArray, set_cons_zero, set_cons_succ]); have tk1 := hidp trivial) | (clear tk1; (go_at_call 60; refine (ca.out _).mono ?_; rintro e w1 ⟨v, rfl, hst, hb⟩; have H0 := hidp (H.out.call hb); obtain ⟨g, off, cv, rfl, hg, hcs⟩ := Sl.strs_pos hst (by simp); have HIB := hidp (HI.out.below H0.out.below (Nat.le_refl _)); have HTB := hidp (HT0.out.below H0.out.below (Nat.le_refl _)); clear H hst hb ca; have HC := hidp (show ∀ W, Below w1.heap.size w1 W → W.cell? ⟨g, off, none⟩ = some (.string a) ∧ W.cell? ⟨g, off + 1, none⟩ = some (.string b) from fun W hW => ⟨(hW.cell (p := ⟨g, off, none⟩) hg).trans (hcs 0 (by simp)), (hW.cell (p := ⟨g, off + 1, none⟩) hg).trans (hcs 1 (by simp))⟩); clear hcs; have H := hidp (Mm.M.nil w1); obtain ⟨m1, m2⟩ := HC.out _ H.out.below); (try simp only [Act.put, setIfInBounds_toArray, set_cons_zero, set_cons_succ]); have tk2 := hidp trivial) | (clear tk2; (go_at_call 61; refine (cr.out _ (HIB.out.below H.out.below (Nat.le_refl _)) (HTB.out.below H.out.below (Nat.le_refl _))).mono ?_; rintro e _ ⟨rfl, hb⟩; replace H := hidp (H.out.call hb); clear cr m1 m2; clear hb); (try simp only [Act.put, setIfInBounds_toArray, set_cons_zero, set_cons_succ]); have tk3 := hidp trivial) | (clear tk3; (refine Mm.new rtD H (some 6) rfl rfl rfl ?_; clear H; intro b6 _ H nw; have hb := nw.below; clear hb nw); (try simp only [Act.put, setIfInBounds_toArray, set_cons_zero, set_cons_succ]); have tk4 := hidp trivial) | (clear tk4; (refine Mm.put0 rtD H rfl (.tmp 6) (.tmp 25) zDr rfl rfl rfl rfl (by simp [zDr, Value.oneCell']) rfl ?_; intro _ H2 st; clear st H; have H := H2; clear H2; replace H := hidp (Sl.join H0.out H.out)); (try simp only [Act.put, setIfInBounds_toArray, set_cons_zero, set_cons_succ]); have tk5 := hidp trivial) | (clear tk5; (refine Rt.wpL_build rfl 24 _ rfl zDr (by kernel_rfl) ?_); (try simp only [Act.put, setIfInBounds_toArray, set_cons_zero, set_cons_succ]); have tk6 := hidp trivial) | (clear tk6; (refine Mm.put1 rtD H rfl (.tmp 2) (.tmp 29) zDr rfl rfl rfl rfl (by simp [zDr, Value.oneCell']) rfl ?_; intro _ H2 st; clear st H; have H := H2; clear H2); (try simp only [Act.put, setIfInBounds_toArray, set_cons_zero, set_cons_succ]); have tk7 := hidp trivial))
        try clear tk7
        refine bodyPost_ret (Mm.ret_rowv rtD Tryz.results15 _ b2 _ _ rfl rfl H.out.at1 rfl) rfl ⟨by rw [HV.out, HE.out]; rfl, H.out.below⟩
      | some d =>
        rw [show rdV a = d from by unfold rdV; rw [hr]; rfl, show rdE a = 0 from by unfold rdE; rw [hr]; rfl] at cr
        rw [hr] at hP
        have HV := hidp (show dpV t = wSig d b from by unfold dpV; rw [hP]; rfl)
        have HE := hidp (show dpE t = 0 from by unfold dpE; rw [hP]; rfl)
        obtain ⟨k, r, x, y, z, u, sg0⟩ := d
        clear hr hP
        go_enter Tryz.func15, Tryz.ntmps15
        have tk0 := hidp trivial
        go_wp2_with (first | (clear tk0; (refine Mm.new rtD H (some 2) rfl rfl rfl ?_; clear H; intro b2 _ H nw; have hb := nw.below; clear hb nw); (try simp only [Act.put, setIfInBounds_toArray, set_cons_zero, set_cons_succ]); have tk1 := hidp trivial) | (clear tk1; (go_at_call 60; refine (ca.out _).mono ?_; rintro e w1 ⟨v, rfl, hst, hb⟩; have H0 := hidp (H.out.call hb); obtain ⟨g, off, cv, rfl, hg, hcs⟩ := Sl.strs_pos hst (by simp); have HIB := hidp (HI.out.below H0.out.below (Nat.le_refl _)); have HTB := hidp (HT0.out.below H0.out.below (Nat.le_refl _)); clear H hst hb ca; have HC := hidp (show ∀ W, Below w1.heap.size w1 W → W.cell? ⟨g, off, none⟩ = some (.string a) ∧ W.cell? ⟨g, off + 1, none⟩ = some (.string b) from fun W hW => ⟨(hW.cell (p := ⟨g, off, none⟩) hg).trans (hcs 0 (by simp)), (hW.cell (p := ⟨g, off + 1, none⟩) hg).trans (hcs 1 (by simp))⟩); clear hcs; have H := hidp (Mm.M.nil w1); obtain ⟨m1, m2⟩ := HC.out _ H.out.below); (try simp only [Act.put, setIfInBounds_toArray, set_cons_zero, set_cons_succ]); have tk2 := hidp trivial) | (clear tk2; (go_at_call 61; refine (cr.out _ (HIB.out.below H.out.below (Nat.le_refl _)) (HTB.out.below H.out.below (Nat.le_refl _))).mono ?_; rintro e _ ⟨rfl, hb⟩; replace H := hidp (H.out.call hb); clear cr m1 m2; clear hb); (try simp only [Act.put, setIfInBounds_toArray, set_cons_zero, set_cons_succ]); have tk3 := hidp trivial) | (clear tk3; (refine Mm.new rtD H (some 6) rfl rfl rfl ?_; clear H; intro b6 _ H nw; have hb := nw.below; clear hb nw); (try simp only [Act.put, setIfInBounds_toArray, set_cons_zero, set_cons_succ]); have tk4 := hidp trivial) | (clear tk4; (refine Mm.put0 rtD H rfl (.tmp 6) (.tmp 25) [.int .u8 (k : Int), .string r, .int .i64 x, .int .i64 y, .int .i64 z, .int .i64 u, .string sg0] rfl rfl rfl rfl (by simp [Value.oneCell']) rfl ?_; intro _ H2 st; clear st H; have H := H2; clear H2; obtain ⟨m1, m2⟩ := HC.out _ H.out.below); (try simp only [Act.put, setIfInBounds_toArray, set_cons_zero, set_cons_succ]); have tk5 := hidp trivial) | (clear tk5; (refine Mm.putF0 H rfl 9 (.tmp 34) (.tmp 33) 6 (.string b) rfl rfl rfl (by kernel_rfl) rfl (of_decide_eq_true rfl) ?_; intro _ H2 st; clear st H; have H : Hid (Mm.M w1.heap.size w1 _ ([⟨b6, 24, [.int .u8 (k : Int), .string r, .int .i64 x, .int .i64 y, .int .i64 z, .int .i64 u, .string b]⟩])) := H2; clear H2); (try simp only [Act.put, setIfInBounds_toArray, set_cons_zero, set_cons_succ]); have tk6 := hidp trivial) | (clear tk6; (refine Mm.get0 rtD H rfl (.tmp 6) rfl rfl rfl ?_; replace H := hidp (Sl.join H0.out H.out)); (try simp only [Act.put, setIfInBounds_toArray, set_cons_zero, set_cons_succ]); have tk7 := hidp trivial) | (clear tk7; (refine Mm.put1 rtD H rfl (.tmp 2) (.tmp 35) [.int .u8 (k : Int), .string r, .int .i64 x, .int .i64 y, .int .i64 z, .int .i64 u, .string b] rfl rfl rfl rfl (by simp [Value.oneCell']) rfl ?_; intro _ H2 st; clear st H; have H := H2; clear H2); (try simp only [Act.put, setIfInBounds_toArray, set_cons_zero, set_cons_succ]); have tk8 := hidp trivial))
        try clear tk8
        refine bodyPost_ret (Mm.ret_rowv rtD Tryz.results15 _ b2 _ _ rfl rfl H.out.at1 rfl) rfl ⟨by rw [HV.out, HE.out]; rfl, H.out.below⟩
    · have HV := hidp (show dpV t = zD from by unfold dpV; rw [dP_len h6]; rfl)
      have HE := hidp (show dpE t = 6 from by unfold dpE; rw [dP_len h6]; rfl)
      rw [h0] at ca
      obtain ⟨ss, hss⟩ : ∃ ss, (al t).1 = ss := ⟨_, rfl⟩
      rw [hss] at ca h6
      obtain ⟨n, hn⟩ : ∃ n, ss.length = n := ⟨_, rfl⟩
      have e1 : ((n : Int) != 2) = true := by simp; omega
      have g1 : ¬ n = 2 := by omega
      have g2 : (n != 2) = true := by simpa using g1
      clear hss h0
      have cb := hidp (fun W => (ca.out W).mono fun e w' ⟨v, h1, h2, h3⟩ => (⟨v, h1, ⟨Sl.strs_form h2, h3⟩⟩ : ∃ v, e = Ending.returned (.tuple #[v, .int .i64 ((0 : Nat) : Int)]) ∧ (∃ a c, v = Value.slice a ss.length c) ∧ Below W.heap.size W w'))
      rw [hn] at cb
      clear ca hn h6
      go_enter Tryz.func15, Tryz.ntmps15
      have tk0 := hidp trivial
      go_wp2_with (first | (clear tk0; (refine Mm.new rtD H (some 2) rfl rfl rfl ?_; clear H; intro b2 _ H nw; have hb := nw.below; clear hb nw); (try simp only [Act.put, setIfInBounds_toArray, set_cons_zero, set_cons_succ]); have tk1 := hidp trivial) | (clear tk1; (go_at_call 60; refine (cb.out _).mono ?_; rintro e _ ⟨v, rfl, ⟨av, cv, rfl⟩, hb⟩; replace H := hidp (H.out.call hb); clear hb cb); (try simp only [Act.put, setIfInBounds_toArray, set_cons_zero, set_cons_succ]); have tk2 := hidp trivial) | (clear tk2; (refine Rt.wpL_build rfl 24 _ rfl zDr (by kernel_rfl) ?_); (try simp only [Act.put, setIfInBounds_toArray, set_cons_zero, set_cons_succ]); have tk3 := hidp trivial) | (clear tk3; (refine Mm.put0 rtD H rfl (.tmp 2) (.tmp 19) zDr rfl rfl rfl rfl (by simp [zDr, Value.oneCell']) rfl ?_; intro _ H2 st; clear st H; have H := H2; clear H2); (try simp only [Act.put, setIfInBounds_toArray, set_cons_zero, set_cons_succ]); have tk4 := hidp trivial))
      try clear tk4
      refine bodyPost_ret (Mm.ret_rowv rtD Tryz.results15 _ b2 _ _ rfl rfl H.out.at0 rfl) rfl ⟨by rw [HV.out, HE.out]; rfl, H.out.below⟩
  · have HV := hidp (show dpV t = zD from by unfold dpV; rw [dP_bad h0]; rfl)
    have HE := hidp (show dpE t = 6 from by unfold dpE; rw [dP_bad h0]; rfl)
    obtain ⟨E, hE⟩ : ∃ E, (al t).2 = E := ⟨_, rfl⟩
    rw [hE] at ca h0
    have e1 : ((E : Int) != 0) = true := by simp; omega
    have g1 : ¬ (E : Int) = 0 := by omega
    have g2 : ¬ E = 0 := h0
    clear hE h0
    go_enter Tryz.func15, Tryz.ntmps15
    have tk0 := hidp trivial
    go_wp2_with (first | (clear tk0; (refine Mm.new rtD H (some 2) rfl rfl rfl ?_; clear H; intro b2 _ H nw; have hb := nw.below; clear hb nw); (try simp only [Act.put, setIfInBounds_toArray, set_cons_zero, set_cons_succ]); have tk1 := hidp trivial) | (clear tk1; (go_at_call 60; refine (ca.out _).mono ?_; rintro e _ ⟨v, rfl, hst, hb⟩; replace H := hidp (H.out.call hb); obtain ⟨av, cv, rfl⟩ := Sl.strs_form hst; clear hst hb ca); (try simp only [Act.put, setIfInBounds_toArray, set_cons_zero, set_cons_succ]); have tk2 := hidp trivial) | (clear tk2; (refine Rt.wpL_build rfl 24 _ rfl zDr (by kernel_rfl) ?_); (try simp only [Act.put, setIfInBounds_toArray, set_cons_zero, set_cons_succ]); have tk3 := hidp trivial) | (clear tk3; (refine Mm.put0 rtD H rfl (.tmp 2) (.tmp 19) zDr rfl rfl rfl rfl (by simp [zDr, Value.oneCell']) rfl ?_; intro _ H2 st; clear st H; have H := H2; clear H2); (try simp only [Act.put, setIfInBounds_toArray, set_cons_zero, set_cons_succ]); have tk4 := hidp trivial))
    try clear tk4
    refine bodyPost_ret (Mm.ret_rowv rtD Tryz.results15 _ b2 _ _ rfl rfl H.out.at0 rfl) rfl ⟨by rw [HV.out, HE.out]; rfl, H.out.below⟩
end Go.Proofs.YtldokjbfnhgamaaGreatDoor.Ho
