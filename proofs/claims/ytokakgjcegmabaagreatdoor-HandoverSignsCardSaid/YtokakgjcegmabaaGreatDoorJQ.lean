import Derived.Test.YtokakgjcegmabaaGreatDoorJP
set_option linter.unusedVariables false
set_option linter.unusedSimpArgs false
set_option maxHeartbeats 64000000
set_option maxRecDepth 100000
namespace Go.Proofs.YtokakgjcegmabaaGreatDoor.Ho
open Go.RowKit
open List (getElem_toArray getElem_cons_zero getElem_cons_succ setIfInBounds_toArray set_cons_zero set_cons_succ)
theorem dP_bad {t : ByteArray} (h : (al t).2 ≠ 0) : dP t = none := by unfold dP; rw [if_neg h]
theorem dP_len {t : ByteArray} (h : (al t).1.length ≠ 2) : dP t = none := by
 unfold dP
 split
 · unfold dPL
   split
   · rename_i hl; rw [hl] at h; simp at h
   · rfl
 · rfl
theorem dP_two {t a b : ByteArray} (h0 : (al t).2 = 0) (hL : (al t).1 = [a, b]) : dP t = (rd a).map fun d => wSig d b := by
 unfold dP; rw [if_pos h0, hL]; rfl
theorem parse_any (w : World) (t : ByteArray) (ht : t.size ≤ 281474976710656) (hI : IT w) (hT : HT w) :
 Calls Tryz.prog 25 #[.string t] w fun e w' => e = .returned (.tuple #[.agg (dpV t).row.toArray, .int .i64 (dpE t)]) ∧ Below w.heap.size w w' := by
 have HI := hidp hI; have HT0 := hidp hT; clear hI hT
 have ca := hidp (fun W => all_any W t ht)
 have H := hidp (Mm.M.nil w)
 by_cases h0 : (al t).2 = 0
 · by_cases h6 : (al t).1.length = 2
   · obtain ⟨a, b, hL⟩ : ∃ a b, (al t).1 = [a, b] := by
      match hL : (al t).1, h6 with
      | [a, b], _ => exact ⟨a, b, rfl⟩
     have hSS := al_sz t ht
     rw [hL] at hSS
     have hP := dP_two h0 hL
     rw [h0, hL] at ca
     clear hL h6 h0
     have en : (((2 : Nat) : Int) != 2) = false := rfl
     have cr := hidp (fun W h h' => read_any W a (by have := hSS a (by simp); omega) h h')
     clear hSS
     cases hr : rd a with
     | none =>
       rw [show rdV a = zD from by unfold rdV; rw [hr]; rfl, show rdE a = 6 from by unfold rdE; rw [hr]; rfl] at cr
       rw [hr] at hP
       have HV := hidp (show dpV t = zD from by unfold dpV; rw [hP]; rfl)
       have HE := hidp (show dpE t = 6 from by unfold dpE; rw [hP]; rfl)
       clear hr hP
       go_enter Tryz.func25, Tryz.ntmps25
       have tk0 := hT
       go_wp2_with (first | (clear tk0; (refine Mm.new rtD H (some 2) rfl rfl rfl ?_; clear H; intro b2 _ H nw; clear nw); (try simp only [Act.put, aQ]); have tk1 := hT) | (clear tk1; (go_at_call 74; refine (ca.out _).mono ?_; rintro e w1 ⟨v, rfl, hst, hb⟩; have H0 := hidp (H.out.call hb); obtain ⟨g, off, cv, rfl, hg, hcs⟩ := Sl.strs_pos hst (by simp); have HIB := hidp (HI.out.below H0.out.below (Nat.le_refl _)); have HTB := hidp (HT0.out.below H0.out.below (Nat.le_refl _)); clear H hst hb ca; have HC := hidp (show ∀ W, Below w1.heap.size w1 W → W.cell? ⟨g, off, none⟩ = some (.string a) ∧ W.cell? ⟨g, off + 1, none⟩ = some (.string b) from fun W hW => ⟨(hW.cell (p := ⟨g, off, none⟩) hg).trans (hcs 0 (by simp)), (hW.cell (p := ⟨g, off + 1, none⟩) hg).trans (hcs 1 (by simp))⟩); clear hcs; have H := hidp (Mm.M.nil w1); obtain ⟨m1, m2⟩ := HC.out _ H.out.below); (try simp only [Act.put, aQ]); have tk2 := hT) | (clear tk2; (go_at_call 75; refine (cr.out _ (HIB.out.below H.out.below (Nat.le_refl _)) (HTB.out.below H.out.below (Nat.le_refl _))).mono ?_; rintro e _ ⟨rfl, hb⟩; replace H := hidp (H.out.call hb); clear cr m1 m2; clear hb); (try simp only [Act.put, aQ]); have tk3 := hT) | (clear tk3; (refine Mm.new rtD H (some 6) rfl rfl rfl ?_; clear H; intro b6 _ H nw; clear nw); (try simp only [Act.put, aQ]); have tk4 := hT) | (clear tk4; (refine Mm.put0 rtD H rfl (.tmp 6) (.tmp 25) zDr rfl rfl rfl rfl (by simp [zDr, Value.oneCell']) rfl ?_; intro _ H2 st; clear st H; have H := H2; clear H2; replace H := hidp (Sl.join H0.out H.out)); (try simp only [Act.put, aQ]); have tk5 := hT) | (clear tk5; (refine Rt.wpL_build rfl 26 _ rfl zDr (by kernel_rfl) ?_); (try simp only [Act.put, aQ]); have tk6 := hT) | (clear tk6; (refine Mm.put1 rtD H rfl (.tmp 2) (.tmp 29) zDr rfl rfl rfl rfl (by simp [zDr, Value.oneCell']) rfl ?_; intro _ H2 st; clear st H; have H := H2; clear H2); (try simp only [Act.put, aQ]); have tk7 := hT))
       try clear tk7
       refine bodyPost_ret (Mm.ret_rowv rtD Tryz.results25 _ b2 _ _ rfl rfl H.out.at1 rfl) rfl ⟨by rw [HV.out, HE.out]; rfl, H.out.below⟩
     | some d =>
       rw [show rdV a = d from by unfold rdV; rw [hr]; rfl, show rdE a = 0 from by unfold rdE; rw [hr]; rfl] at cr
       rw [hr] at hP
       have HV := hidp (show dpV t = wSig d b from by unfold dpV; rw [hP]; rfl)
       have HE := hidp (show dpE t = 0 from by unfold dpE; rw [hP]; rfl)
       obtain ⟨k, r, x, y, z, u, sg0⟩ := d
       clear hr hP
       go_enter Tryz.func25, Tryz.ntmps25
       have tk0 := hT
       go_wp2_with (first | (clear tk0; (refine Mm.new rtD H (some 2) rfl rfl rfl ?_; clear H; intro b2 _ H nw; clear nw); (try simp only [Act.put, aQ]); have tk1 := hT) | (clear tk1; (go_at_call 74; refine (ca.out _).mono ?_; rintro e w1 ⟨v, rfl, hst, hb⟩; have H0 := hidp (H.out.call hb); obtain ⟨g, off, cv, rfl, hg, hcs⟩ := Sl.strs_pos hst (by simp); have HIB := hidp (HI.out.below H0.out.below (Nat.le_refl _)); have HTB := hidp (HT0.out.below H0.out.below (Nat.le_refl _)); clear H hst hb ca; have HC := hidp (show ∀ W, Below w1.heap.size w1 W → W.cell? ⟨g, off, none⟩ = some (.string a) ∧ W.cell? ⟨g, off + 1, none⟩ = some (.string b) from fun W hW => ⟨(hW.cell (p := ⟨g, off, none⟩) hg).trans (hcs 0 (by simp)), (hW.cell (p := ⟨g, off + 1, none⟩) hg).trans (hcs 1 (by simp))⟩); clear hcs; have H := hidp (Mm.M.nil w1); obtain ⟨m1, m2⟩ := HC.out _ H.out.below); (try simp only [Act.put, aQ]); have tk2 := hT) | (clear tk2; (go_at_call 75; refine (cr.out _ (HIB.out.below H.out.below (Nat.le_refl _)) (HTB.out.below H.out.below (Nat.le_refl _))).mono ?_; rintro e _ ⟨rfl, hb⟩; replace H := hidp (H.out.call hb); clear cr m1 m2; clear hb); (try simp only [Act.put, aQ]); have tk3 := hT) | (clear tk3; (refine Mm.new rtD H (some 6) rfl rfl rfl ?_; clear H; intro b6 _ H nw; clear nw); (try simp only [Act.put, aQ]); have tk4 := hT) | (clear tk4; (refine Mm.put0 rtD H rfl (.tmp 6) (.tmp 25) [.int .u8 (k : Int), .string r, .int .i64 x, .int .i64 y, .int .i64 z, .int .i64 u, .string sg0] rfl rfl rfl rfl (by simp [Value.oneCell']) rfl ?_; intro _ H2 st; clear st H; have H := H2; clear H2; obtain ⟨m1, m2⟩ := HC.out _ H.out.below); (try simp only [Act.put, aQ]); have tk5 := hT) | (clear tk5; (refine Mm.putF0 H rfl 9 (.tmp 34) (.tmp 33) 6 (.string b) rfl rfl rfl (by kernel_rfl) rfl (of_decide_eq_true rfl) ?_; intro _ H2 st; clear st H; have H : Hid (Mm.M w1.heap.size w1 _ ([⟨b6, 26, [.int .u8 (k : Int), .string r, .int .i64 x, .int .i64 y, .int .i64 z, .int .i64 u, .string b]⟩])) := H2; clear H2); (try simp only [Act.put, aQ]); have tk6 := hT) | (clear tk6; (refine Mm.get0 rtD H rfl (.tmp 6) rfl rfl rfl ?_; replace H := hidp (Sl.join H0.out H.out)); (try simp only [Act.put, aQ]); have tk7 := hT) | (clear tk7; (refine Mm.put1 rtD H rfl (.tmp 2) (.tmp 35) [.int .u8 (k : Int), .string r, .int .i64 x, .int .i64 y, .int .i64 z, .int .i64 u, .string b] rfl rfl rfl rfl (by simp [Value.oneCell']) rfl ?_; intro _ H2 st; clear st H; have H := H2; clear H2); (try simp only [Act.put, aQ]); have tk8 := hT))
       try clear tk8
       refine bodyPost_ret (Mm.ret_rowv rtD Tryz.results25 _ b2 _ _ rfl rfl H.out.at1 rfl) rfl ⟨by rw [HV.out, HE.out]; rfl, H.out.below⟩
   · have HV := hidp (show dpV t = zD from by unfold dpV; rw [dP_len h6]; rfl)
     have HE := hidp (show dpE t = 6 from by unfold dpE; rw [dP_len h6]; rfl)
     rw [h0] at ca
     obtain ⟨ss, hss⟩ : ∃ ss, (al t).1 = ss := ⟨_, rfl⟩
     rw [hss] at ca h6
     obtain ⟨n, hn⟩ : ∃ n, ss.length = n := ⟨_, rfl⟩
     have e1 : ((n : Int) != 2) = true := by simp; omega
     have g1 : ¬ n = 2 := by omega
     have g2 : (n != 2) = true := by simpa using g1
     clear hss h0
     have cb := hidp (fun W => (ca.out W).mono fun e w' ⟨v, h1, h2, h3⟩ => (⟨v, h1, ⟨Sl.strs_form h2, h3⟩⟩ : ∃ v, e = Ending.returned (.tuple #[v, .int .i64 ((0 : Nat) : Int)]) ∧ (∃ a c, v = Value.slice a ss.length c) ∧ Below W.heap.size W w'))
     rw [hn] at cb
     clear ca hn h6
     go_enter Tryz.func25, Tryz.ntmps25
     have tk0 := hT
     go_wp2_with (first | (clear tk0; (refine Mm.new rtD H (some 2) rfl rfl rfl ?_; clear H; intro b2 _ H nw; clear nw); (try simp only [Act.put, aQ]); have tk1 := hT) | (clear tk1; (go_at_call 74; refine (cb.out _).mono ?_; rintro e _ ⟨v, rfl, ⟨av, cv, rfl⟩, hb⟩; replace H := hidp (H.out.call hb); clear hb cb); (try simp only [Act.put, aQ]); have tk2 := hT) | (clear tk2; (refine Rt.wpL_build rfl 26 _ rfl zDr (by kernel_rfl) ?_); (try simp only [Act.put, aQ]); have tk3 := hT) | (clear tk3; (refine Mm.put0 rtD H rfl (.tmp 2) (.tmp 19) zDr rfl rfl rfl rfl (by simp [zDr, Value.oneCell']) rfl ?_; intro _ H2 st; clear st H; have H := H2; clear H2); (try simp only [Act.put, aQ]); have tk4 := hT))
     try clear tk4
     refine bodyPost_ret (Mm.ret_rowv rtD Tryz.results25 _ b2 _ _ rfl rfl H.out.at0 rfl) rfl ⟨by rw [HV.out, HE.out]; rfl, H.out.below⟩
 · have HV := hidp (show dpV t = zD from by unfold dpV; rw [dP_bad h0]; rfl)
   have HE := hidp (show dpE t = 6 from by unfold dpE; rw [dP_bad h0]; rfl)
   obtain ⟨E, hE⟩ : ∃ E, (al t).2 = E := ⟨_, rfl⟩
   rw [hE] at ca h0
   have e1 : ((E : Int) != 0) = true := by simp; omega
   have g1 : ¬ (E : Int) = 0 := by omega
   have g2 : ¬ E = 0 := h0
   clear hE h0
   go_enter Tryz.func25, Tryz.ntmps25
   have tk0 := hT
   go_wp2_with (first | (clear tk0; (refine Mm.new rtD H (some 2) rfl rfl rfl ?_; clear H; intro b2 _ H nw; clear nw); (try simp only [Act.put, aQ]); have tk1 := hT) | (clear tk1; (go_at_call 74; refine (ca.out _).mono ?_; rintro e _ ⟨v, rfl, hst, hb⟩; replace H := hidp (H.out.call hb); obtain ⟨av, cv, rfl⟩ := Sl.strs_form hst; clear hst hb ca); (try simp only [Act.put, aQ]); have tk2 := hT) | (clear tk2; (refine Rt.wpL_build rfl 26 _ rfl zDr (by kernel_rfl) ?_); (try simp only [Act.put, aQ]); have tk3 := hT) | (clear tk3; (refine Mm.put0 rtD H rfl (.tmp 2) (.tmp 19) zDr rfl rfl rfl rfl (by simp [zDr, Value.oneCell']) rfl ?_; intro _ H2 st; clear st H; have H := H2; clear H2); (try simp only [Act.put, aQ]); have tk4 := hT))
   try clear tk4
   refine bodyPost_ret (Mm.ret_rowv rtD Tryz.results25 _ b2 _ _ rfl rfl H.out.at0 rfl) rfl ⟨by rw [HV.out, HE.out]; rfl, H.out.below⟩
theorem answer_any (w : World) (d : De) (hd : d.ok) (hI : IT w) (hT : HT w) :
 Calls Tryz.prog 26 #[.agg d.row.toArray] w fun e w' => e = .returned (.tuple #[.agg (anV d).row.toArray, .int .i64 (anE d)]) ∧ Below w.heap.size w w' := by
 obtain ⟨k, r, ep, ix, hu, nx, sg⟩ := d
 have HI := hidp hI; have HT0 := hidp hT; clear hI hT
 have cc := hidp (show ∀ W, IT W → HT W → Calls Tryz.prog 53 #[.agg #[.int .u8 (k : Int), .string r, .int .i64 ep, .int .i64 ix, .int .i64 hu, .int .i64 nx, .string sg]] W (fun e w' => e = .returned (.int .i64 (dE (⟨k, r, ep, ix, hu, nx, sg⟩ : De))) ∧ Below W.heap.size W w') from fun W h h' => dcheck_any W (⟨k, r, ep, ix, hu, nx, sg⟩ : De) hd h h')
 have co := hidp (show ∀ W, Calls Tryz.prog 63 #[.agg #[.int .u8 2, .string r, .int .i64 ep, .int .i64 ix, .int .i64 hu, .int .i64 nx, .string ⟨#[]⟩]] W (fun e w' => e = .returned (.agg #[.int .u8 2, .string r, .int .i64 ep, .int .i64 ix, .int .i64 hu, .int .i64 nx, .string ⟨#[]⟩]) ∧ Below W.heap.size W w') from fun W => owned_any W 2 r ep ix hu nx ⟨#[]⟩ (by have := hd.2.1; simp only at this; omega) (by decide))
 show Calls Tryz.prog 26 #[.agg #[.int .u8 (k : Int), .string r, .int .i64 ep, .int .i64 ix, .int .i64 hu, .int .i64 nx, .string sg]] w _
 have H := hidp (Mm.M.nil w)
 clear hd
 cases hok : dOk (⟨k, r, ep, ix, hu, nx, sg⟩ : De) with
 | false =>
   rw [dE_no hok] at cc
   have HV := hidp (show anV (⟨k, r, ep, ix, hu, nx, sg⟩ : De) = zD from by unfold anV; rw [hok]; rfl)
   have HE := hidp (show anE (⟨k, r, ep, ix, hu, nx, sg⟩ : De) = 2 from by unfold anE; rw [hok]; rfl)
   clear hok co
   go_enter Tryz.func26, Tryz.ntmps26
   have tk0 := hT
   go_wp2_with (first | (clear tk0; (refine Mm.box 26 H rfl (.tmp 0) rfl [.int .u8 (k : Int), .string r, .int .i64 ep, .int .i64 ix, .int .i64 hu, .int .i64 nx, .string sg] rfl ?_; clear H; intro b1 _ H nw; clear nw); (try simp only [Act.put, aQ]); have tk1 := hT) | (clear tk1; (refine Mm.new rtD H (some 2) rfl rfl rfl ?_; clear H; intro b2 _ H nw; clear nw); (try simp only [Act.put, aQ]); have tk2 := hT) | (clear tk2; (refine Mm.get1 rtD H rfl (.tmp 1) rfl rfl rfl ?_); (try simp only [Act.put, aQ]); have tk3 := hT) | (clear tk3; (go_at_call 53; refine (cc.out _ (HI.out.below H.out.below (Nat.le_refl _)) (HT0.out.below H.out.below (Nat.le_refl _))).mono ?_; rintro e _ ⟨rfl, hb⟩; replace H := hidp (H.out.call hb); clear cc; clear hb); (try simp only [Act.put, aQ]); have tk4 := hT) | (clear tk4; (refine Rt.wpL_build rfl 26 _ rfl zDr (by kernel_rfl) ?_); (try simp only [Act.put, aQ]); have tk5 := hT) | (clear tk5; (refine Mm.put0 rtD H rfl (.tmp 2) (.tmp 9) zDr rfl rfl rfl rfl (by simp [zDr, Value.oneCell']) rfl ?_; intro _ H2 st; clear st H; have H := H2; clear H2); (try simp only [Act.put, aQ]); have tk6 := hT))
   try clear tk6
   refine bodyPost_ret (Mm.ret_rowv rtD Tryz.results26 _ b2 _ _ rfl rfl H.out.at0 rfl) rfl ⟨by rw [HV.out, HE.out]; rfl, H.out.below⟩
 | true =>
   rw [dE_yes hok] at cc
   by_cases hk : k = 1
   · have e1 : ((k : Int) != 1) = false := by rw [hk]; rfl
     have HV := hidp (show anV (⟨k, r, ep, ix, hu, nx, sg⟩ : De) = ⟨2, r, ep, ix, hu, nx, ⟨#[]⟩⟩ from by unfold anV; rw [if_pos ⟨hok, hk⟩])
     have HE := hidp (show anE (⟨k, r, ep, ix, hu, nx, sg⟩ : De) = 0 from by unfold anE; rw [hok, if_pos rfl, if_pos hk])
     clear hok hk
     go_enter Tryz.func26, Tryz.ntmps26
     have tk0 := hT
     go_wp2_with (first | (clear tk0; (refine Mm.box 26 H rfl (.tmp 0) rfl [.int .u8 (k : Int), .string r, .int .i64 ep, .int .i64 ix, .int .i64 hu, .int .i64 nx, .string sg] rfl ?_; clear H; intro b1 _ H nw; clear nw); (try simp only [Act.put, aQ]); have tk1 := hT) | (clear tk1; (refine Mm.new rtD H (some 2) rfl rfl rfl ?_; clear H; intro b2 _ H nw; clear nw); (try simp only [Act.put, aQ]); have tk2 := hT) | (clear tk2; (refine Mm.get1 rtD H rfl (.tmp 1) rfl rfl rfl ?_); (try simp only [Act.put, aQ]); have tk3 := hT) | (clear tk3; (go_at_call 53; refine (cc.out _ (HI.out.below H.out.below (Nat.le_refl _)) (HT0.out.below H.out.below (Nat.le_refl _))).mono ?_; rintro e _ ⟨rfl, hb⟩; replace H := hidp (H.out.call hb); clear cc; clear hb); (try simp only [Act.put, aQ]); have tk4 := hT) | (clear tk4; (refine Mm.ld1 naDK H rfl (.tmp 11) 0 (.int .u8 (k : Int)) rfl rfl rfl ?_); (try simp only [Act.put, aQ]); have tk5 := hT) | (clear tk5; (refine Mm.putF1 H rfl 24 (.tmp 15) (.const (.int .u8 2)) 0 (.int .u8 2) rfl rfl rfl (by kernel_rfl) rfl (of_decide_eq_true rfl) ?_; intro _ H2 st; clear st H; have H : Hid (Mm.M w.heap.size w _ ([⟨b2, 26, zDr⟩, ⟨b1, 26, [.int .u8 2, .string r, .int .i64 ep, .int .i64 ix, .int .i64 hu, .int .i64 nx, .string sg]⟩])) := H2; clear H2); (try simp only [Act.put, aQ]); have tk6 := hT) | (clear tk6; (refine Mm.putF1 H rfl 9 (.tmp 16) (.const (.string ⟨#[]⟩)) 6 (.string ⟨#[]⟩) rfl rfl rfl (by kernel_rfl) rfl (of_decide_eq_true rfl) ?_; intro _ H2 st; clear st H; have H : Hid (Mm.M w.heap.size w _ ([⟨b2, 26, zDr⟩, ⟨b1, 26, [.int .u8 2, .string r, .int .i64 ep, .int .i64 ix, .int .i64 hu, .int .i64 nx, .string ⟨#[]⟩]⟩])) := H2; clear H2); (try simp only [Act.put, aQ]); have tk7 := hT) | (clear tk7; (refine Mm.get1 rtD H rfl (.tmp 1) rfl rfl rfl ?_); (try simp only [Act.put, aQ]); have tk8 := hT) | (clear tk8; (go_at_call 63; refine (co.out _).mono ?_; rintro e _ ⟨rfl, hb⟩; replace H := hidp (H.out.call hb); clear co; clear hb); (try simp only [Act.put, aQ]); have tk9 := hT) | (clear tk9; (refine Mm.put0 rtD H rfl (.tmp 2) (.tmp 18) [.int .u8 2, .string r, .int .i64 ep, .int .i64 ix, .int .i64 hu, .int .i64 nx, .string ⟨#[]⟩] rfl rfl rfl rfl (by simp [Value.oneCell']) rfl ?_; intro _ H2 st; clear st H; have H := H2; clear H2); (try simp only [Act.put, aQ]); have tk10 := hT))
     try clear tk10
     refine bodyPost_ret (Mm.ret_rowv rtD Tryz.results26 _ b2 _ _ rfl rfl H.out.at0 rfl) rfl ⟨by rw [HV.out, HE.out]; rfl, H.out.below⟩
   · have e1 : ((k : Int) != 1) = true := by simp; omega
     have HV := hidp (show anV (⟨k, r, ep, ix, hu, nx, sg⟩ : De) = zD from by unfold anV; rw [if_neg (fun h => hk h.2)])
     have HE := hidp (show anE (⟨k, r, ep, ix, hu, nx, sg⟩ : De) = 11 from by unfold anE; rw [hok, if_pos rfl, if_neg hk])
     clear hok hk co
     go_enter Tryz.func26, Tryz.ntmps26
     have tk0 := hT
     go_wp2_with (first | (clear tk0; (refine Mm.box 26 H rfl (.tmp 0) rfl [.int .u8 (k : Int), .string r, .int .i64 ep, .int .i64 ix, .int .i64 hu, .int .i64 nx, .string sg] rfl ?_; clear H; intro b1 _ H nw; clear nw); (try simp only [Act.put, aQ]); have tk1 := hT) | (clear tk1; (refine Mm.new rtD H (some 2) rfl rfl rfl ?_; clear H; intro b2 _ H nw; clear nw); (try simp only [Act.put, aQ]); have tk2 := hT) | (clear tk2; (refine Mm.get1 rtD H rfl (.tmp 1) rfl rfl rfl ?_); (try simp only [Act.put, aQ]); have tk3 := hT) | (clear tk3; (go_at_call 53; refine (cc.out _ (HI.out.below H.out.below (Nat.le_refl _)) (HT0.out.below H.out.below (Nat.le_refl _))).mono ?_; rintro e _ ⟨rfl, hb⟩; replace H := hidp (H.out.call hb); clear cc; clear hb); (try simp only [Act.put, aQ]); have tk4 := hT) | (clear tk4; (refine Mm.ld1 naDK H rfl (.tmp 11) 0 (.int .u8 (k : Int)) rfl rfl rfl ?_); (try simp only [Act.put, aQ]); have tk5 := hT) | (clear tk5; (refine Rt.wpL_build rfl 26 _ rfl zDr (by kernel_rfl) ?_); (try simp only [Act.put, aQ]); have tk6 := hT) | (clear tk6; (refine Mm.put0 rtD H rfl (.tmp 2) (.tmp 14) zDr rfl rfl rfl rfl (by simp [zDr, Value.oneCell']) rfl ?_; intro _ H2 st; clear st H; have H := H2; clear H2); (try simp only [Act.put, aQ]); have tk7 := hT))
     try clear tk7
     refine bodyPost_ret (Mm.ret_rowv rtD Tryz.results26 _ b2 _ _ rfl rfl H.out.at0 rfl) rfl ⟨by rw [HV.out, HE.out]; rfl, H.out.below⟩
def eqD (x y : De) : Bool := decide (x.k = y.k) && (x.r.toList == y.r.toList) && decide (x.e = y.e) && decide (x.i = y.i) && decide (x.h = y.h) && decide (x.n = y.n) && (x.g.toList == y.g.toList)
theorem eqin_deal (W : World) (k1 k2 : Nat) (r1 r2 g1 g2 : ByteArray) (a1 a2 b1 b2 c1 c2 d1 d2 : Int) :
 (Op.equalIn 10000 26 (.agg #[.int .u8 (k1 : Int), .string r1, .int .i64 a1, .int .i64 b1, .int .i64 c1, .int .i64 d1, .string g1]) (.agg #[.int .u8 (k2 : Int), .string r2, .int .i64 a2, .int .i64 b2, .int .i64 c2, .int .i64 d2, .string g2])).run Tryz.prog W = .ok (eqD ⟨k1, r1, a1, b1, c1, d1, g1⟩ ⟨k2, r2, a2, b2, c2, d2, g2⟩) W := by
 have ht : Tryz.prog.underlying 26 = some (.struct (Tryz.prog.fieldsOf 26)) := by kernel_rfl
 have hp : Tryz.prog.stoodInHeld 26 = false := by kernel_rfl
 have hu := Tryz.underlying26
 have hus := Tryz.underlying9
 have hui := Tryz.underlying3
 have huk := Tryz.underlying24
 have hk : ((k1 : Int) == (k2 : Int)) = decide (k1 = k2) := by rw [Bool.eq_iff_iff]; simp; omega
 have ha : (a1 == a2) = decide (a1 = a2) := by rw [Bool.eq_iff_iff]; simp
 have hb : (b1 == b2) = decide (b1 = b2) := by rw [Bool.eq_iff_iff]; simp
 have hc : (c1 == c2) = decide (c1 = c2) := by rw [Bool.eq_iff_iff]; simp
 have hd : (d1 == d2) = decide (d1 = d2) := by rw [Bool.eq_iff_iff]; simp
 rw [run_equalIn_agg W 9999 _ _ _ ht hp]
 unfold Program.fieldsOf eqD
 rw [hu]
 go_simp
 (repeat' split) <;> simp [*]
theorem eql_deal (W : World) (k1 k2 : Nat) (r1 r2 g1 g2 : ByteArray) (a1 a2 b1 b2 c1 c2 d1 d2 : Int) :
 (binOp .eql 26 (.agg #[.int .u8 (k1 : Int), .string r1, .int .i64 a1, .int .i64 b1, .int .i64 c1, .int .i64 d1, .string g1]) (.agg #[.int .u8 (k2 : Int), .string r2, .int .i64 a2, .int .i64 b2, .int .i64 c2, .int .i64 d2, .string g2])).run Tryz.prog W = .ok (.bool (eqD ⟨k1, r1, a1, b1, c1, d1, g1⟩ ⟨k2, r2, a2, b2, c2, d2, g2⟩)) W := by
 rw [run_eql_struct, eqin_deal]; rfl
theorem toL_inj {a b : ByteArray} (h : a.toList = b.toList) : a = b := by
 rw [ByteArray.toList_eq, ByteArray.toList_eq] at h
 cases a; cases b; simp only [ByteArray.mk.injEq]; exact Array.toList_inj.1 h
theorem eqD_iff {x y : De} : eqD x y = true ↔ x = y := by
 obtain ⟨k1, r1, a1, b1, c1, d1, g1⟩ := x
 obtain ⟨k2, r2, a2, b2, c2, d2, g2⟩ := y
 unfold eqD
 simp only [Bool.and_eq_true, decide_eq_true_eq, beq_iff_eq, De.mk.injEq]
 constructor
 · rintro ⟨⟨⟨⟨⟨⟨h1, h2⟩, h3⟩, h4⟩, h5⟩, h6⟩, h7⟩; exact ⟨h1, toL_inj h2, h3, h4, h5, h6, toL_inj h7⟩
 · rintro ⟨h1, h2, h3, h4, h5, h6, h7⟩; subst h1 h2 h3 h4 h5 h6 h7; simp
theorem eqD_self (x : De) : eqD x x = true := eqD_iff.2 rfl
theorem fits_no {d e : De} (h : anE d ≠ 0) : fits d e = false := by
 unfold anE at h; unfold fits
 split at h
 · split at h
   · exact absurd rfl h
   · rename_i h1 h2; simp [h2]
 · rename_i h1; simp [h1]
theorem fits_bad {d e : De} (h : dOk e = false) : fits d e = false := by unfold fits; simp [h]
theorem anE_zero {d : De} (h : anE d = 0) : dOk d = true ∧ d.k = 1 := by
 unfold anE at h
 split at h
 · split at h
   · exact ⟨by assumption, by assumption⟩
   · cases h
 · cases h
theorem fits_yes {d e : De} (h : anE d = 0) (he : dOk e = true) : fits d e = eqD (wSig e ⟨#[]⟩) (anV d) := by
 obtain ⟨h1, h2⟩ := anE_zero h
 unfold anV
 rw [if_pos ⟨h1, h2⟩, Bool.eq_iff_iff, eqD_iff]
 unfold fits wSig
 simp only [h1, he, h2, Bool.and_eq_true, decide_eq_true_eq, beq_iff_eq, De.mk.injEq, true_and, and_true]
 constructor
 · rintro ⟨⟨⟨⟨⟨h3, h4⟩, h5⟩, h6⟩, h7⟩, h8⟩; exact ⟨h3, (toL_inj h4).symm, h5.symm, h6.symm, h7.symm, h8.symm⟩
 · rintro ⟨h3, h4, h5, h6, h7, h8⟩; exact ⟨⟨⟨⟨⟨h3, by rw [h4]⟩, h5.symm⟩, h6.symm⟩, h7.symm⟩, h8.symm⟩
theorem fits_any (w : World) (d e : De) (hd : d.ok) (hde : e.ok) (hI : IT w) (hT : HT w) :
 Calls Tryz.prog 29 #[.agg d.row.toArray, .agg e.row.toArray] w fun x w' => x = .returned (.bool (fits d e)) ∧ Below w.heap.size w w' := by
 have hno := fits_no (d := d) (e := e); have hbad := fits_bad (d := d) (e := e); have hyes := fits_yes (d := d) (e := e)
 obtain ⟨A, hA⟩ : ∃ A, anV d = A := ⟨_, rfl⟩
 obtain ⟨X, hX⟩ : ∃ X, anE d = X := ⟨_, rfl⟩
 rw [hX] at hno hyes
 rw [hA] at hyes
 obtain ⟨F, hF⟩ : ∃ F, fits d e = F := ⟨_, rfl⟩
 rw [hF] at hno hbad hyes ⊢
 clear hF
 obtain ⟨k, r, ep, ix, hu, nx, sg⟩ := d
 obtain ⟨ke, re, ee, ie, he, ne, ge⟩ := e
 have HI := hidp hI; have HT0 := hidp hT; clear hI hT
 have ca := hidp (show ∀ W, IT W → HT W → Calls Tryz.prog 26 #[.agg #[.int .u8 (k : Int), .string r, .int .i64 ep, .int .i64 ix, .int .i64 hu, .int .i64 nx, .string sg]] W (fun e w' => e = .returned (.tuple #[.agg (anV (⟨k, r, ep, ix, hu, nx, sg⟩ : De)).row.toArray, .int .i64 (anE (⟨k, r, ep, ix, hu, nx, sg⟩ : De))]) ∧ Below W.heap.size W w') from fun W h h' => answer_any W (⟨k, r, ep, ix, hu, nx, sg⟩ : De) hd h h')
 have cc := hidp (show ∀ W, IT W → HT W → Calls Tryz.prog 53 #[.agg #[.int .u8 (ke : Int), .string re, .int .i64 ee, .int .i64 ie, .int .i64 he, .int .i64 ne, .string ge]] W (fun e w' => e = .returned (.int .i64 (dE (⟨ke, re, ee, ie, he, ne, ge⟩ : De))) ∧ Below W.heap.size W w') from fun W h h' => dcheck_any W (⟨ke, re, ee, ie, he, ne, ge⟩ : De) hde h h')
 show Calls Tryz.prog 29 #[.agg #[.int .u8 (k : Int), .string r, .int .i64 ep, .int .i64 ix, .int .i64 hu, .int .i64 nx, .string sg], .agg #[.int .u8 (ke : Int), .string re, .int .i64 ee, .int .i64 ie, .int .i64 he, .int .i64 ne, .string ge]] w _
 rw [hA, hX] at ca
 clear hA hX hd hde
 obtain ⟨ka, ra, ea, ia, ha, na, ga⟩ := A
 have H := hidp (Mm.M.nil w)
 by_cases hx : X = 0
 · subst hx
   clear hno
   cases hok : dOk (⟨ke, re, ee, ie, he, ne, ge⟩ : De) with
   | false =>
     rw [dE_no hok] at cc
     have HF := hidp (hbad hok)
     clear hok hbad hyes
     go_enter Tryz.func29, Tryz.ntmps29
     have tk0 := hT
     go_wp2_with (first | (clear tk0; (refine Mm.box 26 H rfl (.tmp 0) rfl [.int .u8 (k : Int), .string r, .int .i64 ep, .int .i64 ix, .int .i64 hu, .int .i64 nx, .string sg] rfl ?_; clear H; intro b2 _ H nw; clear nw); (try simp only [Act.put, aQ]); have tk1 := hT) | (clear tk1; (refine Mm.box 26 H rfl (.tmp 1) rfl [.int .u8 (ke : Int), .string re, .int .i64 ee, .int .i64 ie, .int .i64 he, .int .i64 ne, .string ge] rfl ?_; clear H; intro b3 _ H nw; clear nw); (try simp only [Act.put, aQ]); have tk2 := hT) | (clear tk2; (refine Mm.get1 rtD H rfl (.tmp 2) rfl rfl rfl ?_); (try simp only [Act.put, aQ]); have tk3 := hT) | (clear tk3; (go_at_call 26; refine (ca.out _ (HI.out.below H.out.below (Nat.le_refl _)) (HT0.out.below H.out.below (Nat.le_refl _))).mono ?_; rintro e _ ⟨rfl, hb⟩; replace H := hidp (H.out.call hb); clear ca; clear hb); (try simp only [Act.put, aQ]); have tk4 := hT) | (clear tk4; (refine Mm.new rtD H (some 5) rfl rfl rfl ?_; clear H; intro b5 _ H nw; clear nw); (try simp only [Act.put, aQ]); have tk5 := hT) | (clear tk5; (refine Mm.put0 rtD H rfl (.tmp 5) (.tmp 10) [.int .u8 (ka : Int), .string ra, .int .i64 ea, .int .i64 ia, .int .i64 ha, .int .i64 na, .string ga] rfl rfl rfl rfl (by simp [Value.oneCell']) rfl ?_; intro _ H2 st; clear st H; have H := H2; clear H2); (try simp only [Act.put, aQ]); have tk6 := hT) | (clear tk6; (refine Mm.get1 rtD H rfl (.tmp 3) rfl rfl rfl ?_); (try simp only [Act.put, aQ]); have tk7 := hT) | (clear tk7; (go_at_call 53; refine (cc.out _ (HI.out.below H.out.below (Nat.le_refl _)) (HT0.out.below H.out.below (Nat.le_refl _))).mono ?_; rintro e _ ⟨rfl, hb⟩; replace H := hidp (H.out.call hb); clear cc; clear hb); (try simp only [Act.put, aQ]); have tk8 := hT))
     try clear tk8
     go_ret
     exact ⟨by rw [HF.out]; rfl, H.out.below⟩
   | true =>
     rw [dE_yes hok] at cc
     have HF := hidp (hyes rfl hok)
     have heq := fun W => eql_deal W ke ka re ra ⟨#[]⟩ ga ee ea ie ia he ha ne na
     rw [show (⟨ke, re, ee, ie, he, ne, ⟨#[]⟩⟩ : De) = wSig (⟨ke, re, ee, ie, he, ne, ge⟩ : De) ⟨#[]⟩ from rfl, ← HF.out] at heq
     clear hok hbad hyes HF
     have HF := hidp (rfl : F = F)
     go_enter Tryz.func29, Tryz.ntmps29
     have tk0 := hT
     go_wp2_with (first | (clear tk0; (refine Mm.box 26 H rfl (.tmp 0) rfl [.int .u8 (k : Int), .string r, .int .i64 ep, .int .i64 ix, .int .i64 hu, .int .i64 nx, .string sg] rfl ?_; clear H; intro b2 _ H nw; clear nw); (try simp only [Act.put, aQ]); have tk1 := hT) | (clear tk1; (refine Mm.box 26 H rfl (.tmp 1) rfl [.int .u8 (ke : Int), .string re, .int .i64 ee, .int .i64 ie, .int .i64 he, .int .i64 ne, .string ge] rfl ?_; clear H; intro b3 _ H nw; clear nw); (try simp only [Act.put, aQ]); have tk2 := hT) | (clear tk2; (refine Mm.get1 rtD H rfl (.tmp 2) rfl rfl rfl ?_); (try simp only [Act.put, aQ]); have tk3 := hT) | (clear tk3; (go_at_call 26; refine (ca.out _ (HI.out.below H.out.below (Nat.le_refl _)) (HT0.out.below H.out.below (Nat.le_refl _))).mono ?_; rintro e _ ⟨rfl, hb⟩; replace H := hidp (H.out.call hb); clear ca; clear hb); (try simp only [Act.put, aQ]); have tk4 := hT) | (clear tk4; (refine Mm.new rtD H (some 5) rfl rfl rfl ?_; clear H; intro b5 _ H nw; clear nw); (try simp only [Act.put, aQ]); have tk5 := hT) | (clear tk5; (refine Mm.put0 rtD H rfl (.tmp 5) (.tmp 10) [.int .u8 (ka : Int), .string ra, .int .i64 ea, .int .i64 ia, .int .i64 ha, .int .i64 na, .string ga] rfl rfl rfl rfl (by simp [Value.oneCell']) rfl ?_; intro _ H2 st; clear st H; have H := H2; clear H2); (try simp only [Act.put, aQ]); have tk6 := hT) | (clear tk6; (refine Mm.get1 rtD H rfl (.tmp 3) rfl rfl rfl ?_); (try simp only [Act.put, aQ]); have tk7 := hT) | (clear tk7; (go_at_call 53; refine (cc.out _ (HI.out.below H.out.below (Nat.le_refl _)) (HT0.out.below H.out.below (Nat.le_refl _))).mono ?_; rintro e _ ⟨rfl, hb⟩; replace H := hidp (H.out.call hb); clear cc; clear hb); (try simp only [Act.put, aQ]); have tk8 := hT) | (clear tk8; (refine Mm.putF1 H rfl 9 (.tmp 19) (.const (.string ⟨#[]⟩)) 6 (.string ⟨#[]⟩) rfl rfl rfl (by kernel_rfl) rfl (of_decide_eq_true rfl) ?_; intro _ H2 st; clear st H; have H : Hid (Mm.M w.heap.size w _ ([⟨b5, 26, [.int .u8 (ka : Int), .string ra, .int .i64 ea, .int .i64 ia, .int .i64 ha, .int .i64 na, .string ga]⟩, ⟨b3, 26, [.int .u8 (ke : Int), .string re, .int .i64 ee, .int .i64 ie, .int .i64 he, .int .i64 ne, .string ⟨#[]⟩]⟩, ⟨b2, 26, [.int .u8 (k : Int), .string r, .int .i64 ep, .int .i64 ix, .int .i64 hu, .int .i64 nx, .string sg]⟩])) := H2; clear H2); (try simp only [Act.put, aQ]); have tk9 := hT) | (clear tk9; (refine Mm.get1 rtD H rfl (.tmp 3) rfl rfl rfl ?_); (try simp only [Act.put, aQ]); have tk10 := hT) | (clear tk10; (refine Mm.get0 rtD H rfl (.tmp 5) rfl rfl rfl ?_); (try simp only [Act.put, aQ]); have tk11 := hT))
     try clear tk11
     go_ret
     exact ⟨rfl, H.out.below⟩
 · have e1 : (X != 0) = true := by simpa using hx
   have HF := hidp (hno hx)
   clear hno hbad hyes hx cc
   go_enter Tryz.func29, Tryz.ntmps29
   have tk0 := hT
   go_wp2_with (first | (clear tk0; (refine Mm.box 26 H rfl (.tmp 0) rfl [.int .u8 (k : Int), .string r, .int .i64 ep, .int .i64 ix, .int .i64 hu, .int .i64 nx, .string sg] rfl ?_; clear H; intro b2 _ H nw; clear nw); (try simp only [Act.put, aQ]); have tk1 := hT) | (clear tk1; (refine Mm.box 26 H rfl (.tmp 1) rfl [.int .u8 (ke : Int), .string re, .int .i64 ee, .int .i64 ie, .int .i64 he, .int .i64 ne, .string ge] rfl ?_; clear H; intro b3 _ H nw; clear nw); (try simp only [Act.put, aQ]); have tk2 := hT) | (clear tk2; (refine Mm.get1 rtD H rfl (.tmp 2) rfl rfl rfl ?_); (try simp only [Act.put, aQ]); have tk3 := hT) | (clear tk3; (go_at_call 26; refine (ca.out _ (HI.out.below H.out.below (Nat.le_refl _)) (HT0.out.below H.out.below (Nat.le_refl _))).mono ?_; rintro e _ ⟨rfl, hb⟩; replace H := hidp (H.out.call hb); clear ca; clear hb); (try simp only [Act.put, aQ]); have tk4 := hT) | (clear tk4; (refine Mm.new rtD H (some 5) rfl rfl rfl ?_; clear H; intro b5 _ H nw; clear nw); (try simp only [Act.put, aQ]); have tk5 := hT) | (clear tk5; (refine Mm.put0 rtD H rfl (.tmp 5) (.tmp 10) [.int .u8 (ka : Int), .string ra, .int .i64 ea, .int .i64 ia, .int .i64 ha, .int .i64 na, .string ga] rfl rfl rfl rfl (by simp [Value.oneCell']) rfl ?_; intro _ H2 st; clear st H; have H := H2; clear H2); (try simp only [Act.put, aQ]); have tk6 := hT) | (clear tk6; (refine Mm.skipd 15 rfl _ _ rfl rfl ?_); (try simp only [Act.put, aQ]); have tk7 := hT) | (clear tk7; (refine Mm.skipd 16 rfl _ _ rfl rfl ?_); (try simp only [Act.put, aQ]); have tk8 := hT) | (clear tk8; (refine Mm.skipd 17 rfl _ _ rfl rfl ?_); (try simp only [Act.put, aQ]); have tk9 := hT))
   try clear tk9
   go_ret
   exact ⟨by rw [HF.out]; rfl, H.out.below⟩
end Go.Proofs.YtokakgjcegmabaaGreatDoor.Ho
