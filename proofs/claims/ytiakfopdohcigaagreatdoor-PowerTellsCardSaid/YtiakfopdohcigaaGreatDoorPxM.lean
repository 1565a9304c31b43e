
/-
  power: what levels tell.
-/
import Derived.Test.YtiakfopdohcigaaGreatDoorPxH
import Derived.Test.YtiakfopdohcigaaGreatDoorPxL
import Derived.Test.YtiakfopdohcigaaGreatDoorPwN
import Derived.Test.YtiakfopdohcigaaGreatDoorPwQ
namespace Go.Proofs.YtiakfopdohcigaaGreatDoor
set_option maxRecDepth 100000
set_option linter.unusedVariables false
set_option linter.unusedSimpArgs false
open Go.RowKit Rw
open List (getElem_toArray getElem_cons_zero getElem_cons_succ setIfInBounds_toArray set_cons_zero set_cons_succ)

attribute [local go_sem] Oper.semAt_some
theorem Mm.M.join {N : Nat} {w0 w W : World} {L L' : List Mm.Bx} (h : Mm.M N w0 w L) (k : Mm.M w.heap.size w W L') : Mm.M N w0 W (L' ++ L) := by
  refine ⟨h.below.trans (k.below.mono h.le), Nat.le_trans h.le k.below.size, fun x hx => ?_, ?_, fun x hx => ?_⟩
  · rcases List.mem_append.1 hx with hx | hx
    · exact Nat.le_trans h.le (k.ge x hx)
    · exact h.ge x hx
  · refine List.pairwise_append.2 ⟨k.inc, h.inc, fun x hx y hy => ?_⟩
    exact Nat.lt_of_lt_of_le (h.has y hy).lt (k.ge x hx)
  · rcases List.mem_append.1 hx with hx | hx
    · exact k.has x hx
    · exact (h.has x hx).below k.below (h.has x hx).lt
set_option maxHeartbeats 16000000 in
theorem rfirst_any (w : World) (u : ByteArray) (hs : u.size ≤ 140737488351232) :
    Calls Tryz.prog 26 #[.string u] w fun e w' => ∃ v, e = .returned (.agg #[.int .i64 (fsL u).a, .int .i64 (fsL u).s, .int .i64 (fsL u).i, .int .i64 (fsL u).k, .int .i64 (fsL u).b, .int .i64 (fsL u).r, v]) ∧ UsAt w' v (fsL u).us ∧ Below w.heap.size w w' := by
  have cu := hidp (fun W => ruser_any W u (by omega))
  simp only [whoVx] at cu
  have H := hidp (Mm.M.nil w)
  cases hu : usr u with
  | true =>
    have HF := hidp (show fsL u = ⟨0, 50, 0, 50, 50, 50, [(u, 100)]⟩ from by unfold fsL; rw [hu]; rfl)
    rw [show (who 1 u).isSome = true from hu] at cu
    clear hu
    go_enter Tryz.func26, Tryz.ntmps26
    have tk0 := hidp trivial
    go_wp2_with (first | (clear tk0; (refine Mm.new tyL H (some 2) rfl rfl rfl ?_; clear H; intro b2 _ H nw; have hb := nw.below; clear hb nw); (try simp only [Act.put, setIfInBounds_toArray, set_cons_zero, set_cons_succ]); have tk1 := hidp trivial) | (clear tk1; (refine Mm.new tyL H (some 3) rfl rfl rfl ?_; clear H; intro b3 _ H nw; have hb := nw.below; clear hb nw); (try simp only [Act.put, setIfInBounds_toArray, set_cons_zero, set_cons_succ]); have tk2 := hidp trivial) | (clear tk2; (refine Mm.put0 tyL H rfl (.tmp 3) (.tmp 6) [.int .i64 0, .int .i64 50, .int .i64 0, .int .i64 50, .int .i64 50, .int .i64 50, .slice none 0 0] rfl rfl rfl rfl (by simp [Value.oneCell']) rfl ?_; intro _ H2 st; clear st H; have H := H2; clear H2); (try simp only [Act.put, setIfInBounds_toArray, set_cons_zero, set_cons_succ]); have tk3 := hidp trivial) | (clear tk3; (go_at_call 74; refine (cu.out _).mono ?_; rintro e _ ⟨rfl, hb⟩; replace H := hidp (H.out.call hb); clear cu; clear hb); (try simp only [Act.put, setIfInBounds_toArray, set_cons_zero, set_cons_succ]); have tk4 := hidp trivial) | (clear tk4; (refine wpL_bs1R tyU rfl (.tmp 14) rfl (uR (u, 100)) rfl rfl ?_; intro b15 _ nw; replace H := hidp (H.out.new nw); clear nw); (try simp only [Act.put, setIfInBounds_toArray, set_cons_zero, set_cons_succ]); have tk5 := hidp trivial) | (clear tk5; (refine Mm.putF1 H rfl 35 (.tmp 16) (.tmp 15) 6 (.slice (some ⟨b15, 0, none⟩) 1 1) rfl rfl rfl (by kernel_rfl) rfl (of_decide_eq_true rfl) ?_; intro _ H2 st; clear st H; have H : Hid (Mm.M w.heap.size w _ ([⟨b15, 83, (uR (u, 100))⟩, ⟨b3, 37, [.int .i64 0, .int .i64 50, .int .i64 0, .int .i64 50, .int .i64 50, .int .i64 50, .slice (some ⟨b15, 0, none⟩) 1 1]⟩, ⟨b2, 37, zL⟩])) := H2; clear H2); (try simp only [Act.put, setIfInBounds_toArray, set_cons_zero, set_cons_succ]); have tk6 := hidp trivial) | (clear tk6; (refine Mm.get1 tyL H rfl (.tmp 3) rfl rfl rfl ?_); (try simp only [Act.put, setIfInBounds_toArray, set_cons_zero, set_cons_succ]); have tk7 := hidp trivial) | (clear tk7; (refine Mm.put2 tyL H rfl (.tmp 2) (.tmp 17) [.int .i64 0, .int .i64 50, .int .i64 0, .int .i64 50, .int .i64 50, .int .i64 50, .slice (some ⟨b15, 0, none⟩) 1 1] rfl rfl rfl rfl (by simp [Value.oneCell']) rfl ?_; intro _ H2 st; clear st H; have H := H2; clear H2); (try simp only [Act.put, setIfInBounds_toArray, set_cons_zero, set_cons_succ]); have tk8 := hidp trivial))
    try clear tk8
    refine bodyPost_ret (Mm.ret_row tyL Tryz.results26 _ b2 _ rfl H.out.at2 rfl) rfl ⟨_, by rw [HF.out], by rw [HF.out]; exact ⟨⟨uRs_all _, .inr ⟨b15, 0, 1, rfl, by simp [uRs], H.out.at0.lt, by have := H.out.at0.range; simpa [uRs] using this⟩⟩, by simp, by simp; omega⟩, H.out.below⟩
  | false =>
    have HF := hidp (show fsL u = ⟨0, 50, 0, 50, 50, 50, []⟩ from by unfold fsL; rw [hu]; rfl)
    rw [show (who 1 u).isSome = false from hu] at cu
    clear hu
    go_enter Tryz.func26, Tryz.ntmps26
    have tk0 := hidp trivial
    go_wp2_with (first | (clear tk0; (refine Mm.new tyL H (some 2) rfl rfl rfl ?_; clear H; intro b2 _ H nw; have hb := nw.below; clear hb nw); (try simp only [Act.put, setIfInBounds_toArray, set_cons_zero, set_cons_succ]); have tk1 := hidp trivial) | (clear tk1; (refine Mm.new tyL H (some 3) rfl rfl rfl ?_; clear H; intro b3 _ H nw; have hb := nw.below; clear hb nw); (try simp only [Act.put, setIfInBounds_toArray, set_cons_zero, set_cons_succ]); have tk2 := hidp trivial) | (clear tk2; (refine Mm.put0 tyL H rfl (.tmp 3) (.tmp 6) [.int .i64 0, .int .i64 50, .int .i64 0, .int .i64 50, .int .i64 50, .int .i64 50, .slice none 0 0] rfl rfl rfl rfl (by simp [Value.oneCell']) rfl ?_; intro _ H2 st; clear st H; have H := H2; clear H2); (try simp only [Act.put, setIfInBounds_toArray, set_cons_zero, set_cons_succ]); have tk3 := hidp trivial) | (clear tk3; (go_at_call 74; refine (cu.out _).mono ?_; rintro e _ ⟨rfl, hb⟩; replace H := hidp (H.out.call hb); clear cu; clear hb); (try simp only [Act.put, setIfInBounds_toArray, set_cons_zero, set_cons_succ]); have tk4 := hidp trivial) | (clear tk4; (refine Mm.get0 tyL H rfl (.tmp 3) rfl rfl rfl ?_); (try simp only [Act.put, setIfInBounds_toArray, set_cons_zero, set_cons_succ]); have tk5 := hidp trivial) | (clear tk5; (refine Mm.put1 tyL H rfl (.tmp 2) (.tmp 17) [.int .i64 0, .int .i64 50, .int .i64 0, .int .i64 50, .int .i64 50, .int .i64 50, .slice none 0 0] rfl rfl rfl rfl (by simp [Value.oneCell']) rfl ?_; intro _ H2 st; clear st H; have H := H2; clear H2); (try simp only [Act.put, setIfInBounds_toArray, set_cons_zero, set_cons_succ]); have tk6 := hidp trivial))
    try clear tk6
    refine bodyPost_ret (Mm.ret_row tyL Tryz.results26 _ b2 _ rfl H.out.at1 rfl) rfl ⟨_, by rw [HF.out], by rw [HF.out]; exact UsAt.nil _, H.out.below⟩

set_option maxHeartbeats 64000000 in
theorem walk_powerTells (w : World) (was : Lv) (vw : Value) (hvw : UsAt w vw was.us) (t : ByteArray) (ht : t.size ≤ 140737488351232) (u : ByteArray) (hu : u.size ≤ 140737488351232) (hP : PT w) :
    Calls Tryz.prog 4 #[.agg #[.int .i64 was.a, .int .i64 was.s, .int .i64 was.i, .int .i64 was.k, .int .i64 was.b, .int .i64 was.r, vw], .string t, .string u] w fun e w' => e = .returned (.bool true) ∧ Below w.heap.size w w' := by
  have HVW := hidp hvw; have HP := hidp hP
  have li := hidp (fun W h => lives15_any W h)
  have H := hidp (Mm.M.nil w)
  by_cases h1 : 4096 < t.size
  · have e1 : decide ((4096 : Int) < (t.size : Int)) = true := by simp; omega
    have e1n : (4096 : Int) < (t.size : Int) := by omega
    clear hvw hP
    go_enter Tryz.func4, Tryz.ntmps4
    have tk0 := hidp trivial
    go_wp2_with (first | (clear tk0; (refine Mm.box 37 H rfl (.tmp 0) rfl [.int .i64 was.a, .int .i64 was.s, .int .i64 was.i, .int .i64 was.k, .int .i64 was.b, .int .i64 was.r, vw] rfl ?_; clear H; intro b3 _ H nw; have hb := nw.below; clear hb nw); (try simp only [Act.put, setIfInBounds_toArray, set_cons_zero, set_cons_succ]); have tk1 := hidp trivial) | (clear tk1; (go_at_call 17; refine (li.out _ (HP.out.below H.out.below (Nat.le_refl _))).mono ?_; rintro e _ ⟨rfl, hb⟩; replace H := hidp (H.out.call hb); clear li; clear hb); (try simp only [Act.put, setIfInBounds_toArray, set_cons_zero, set_cons_succ]); have tk2 := hidp trivial))
    try clear tk2
    go_ret
    exact ⟨rfl, H.out.below⟩
  · have e1 : decide ((4096 : Int) < (t.size : Int)) = false := by simp; omega
    have e1n : ¬ (4096 : Int) < (t.size : Int) := by omega
    by_cases h2 : 4096 < u.size
    · have e2 : decide ((4096 : Int) < (u.size : Int)) = true := by simp; omega
      have e2n : (4096 : Int) < (u.size : Int) := by omega
      clear hvw hP
      go_enter Tryz.func4, Tryz.ntmps4
      have tk0 := hidp trivial
      go_wp2_with (first | (clear tk0; (refine Mm.box 37 H rfl (.tmp 0) rfl [.int .i64 was.a, .int .i64 was.s, .int .i64 was.i, .int .i64 was.k, .int .i64 was.b, .int .i64 was.r, vw] rfl ?_; clear H; intro b3 _ H nw; have hb := nw.below; clear hb nw); (try simp only [Act.put, setIfInBounds_toArray, set_cons_zero, set_cons_succ]); have tk1 := hidp trivial) | (clear tk1; (go_at_call 17; refine (li.out _ (HP.out.below H.out.below (Nat.le_refl _))).mono ?_; rintro e _ ⟨rfl, hb⟩; replace H := hidp (H.out.call hb); clear li; clear hb); (try simp only [Act.put, setIfInBounds_toArray, set_cons_zero, set_cons_succ]); have tk2 := hidp trivial))
      try clear tk2
      go_ret
      exact ⟨rfl, H.out.below⟩
    · have e2 : decide ((4096 : Int) < (u.size : Int)) = false := by simp; omega
      have e2n : ¬ (4096 : Int) < (u.size : Int) := by omega
      have ct := hidp (fun W h hp => text_any W was vw h hp); have crt := hidp (fun W h => rlvText_any W was vw h)
      have cp := hidp (fun W hp => lvParse_any W t ht hp); have crp := hidp (fun W => rlvParse_any W t (by omega))
      have ck := hidp (fun W h hp => lvCheck_any W was vw h hp); have crk := hidp (fun W h => rlvCheck_any W was vw h)
      have cs := hidp (fun W v1 v2 h h' => same_any W (psV t) v1 v2 h h'); have csf := hidp (fun W v1 v2 h h' => same_any W (fsL u) v1 v2 h h')
      have co := hidp (fun W h => of_any W was vw u h); have cro := hidp (fun W h => rof_any W was vw u h)
      have cf : Hid (∀ W, PT W → Calls Tryz.prog 25 #[.string u] W fun e w' => ∃ v, e = .returned v ∧ (∃ vf, v = .agg #[.int .i64 (fsL u).a, .int .i64 (fsL u).s, .int .i64 (fsL u).i, .int .i64 (fsL u).k, .int .i64 (fsL u).b, .int .i64 (fsL u).r, vf] ∧ UsAt w' vf (fsL u).us) ∧ Below W.heap.size W w') := hidp (fun W hp => (first_any W u hu hp).mono fun e w' ⟨v, h1, h2, h3⟩ => ⟨_, h1, ⟨v, rfl, h2⟩, h3⟩)
      have crf : Hid (∀ W, Calls Tryz.prog 26 #[.string u] W fun e w' => ∃ v, e = .returned v ∧ (∃ vf, v = .agg #[.int .i64 (fsL u).a, .int .i64 (fsL u).s, .int .i64 (fsL u).i, .int .i64 (fsL u).k, .int .i64 (fsL u).b, .int .i64 (fsL u).r, vf] ∧ UsAt w' vf (fsL u).us) ∧ Below W.heap.size W w') := hidp (fun W => (rfirst_any W u hu).mono fun e w' ⟨v, h1, h2, h3⟩ => ⟨_, h1, ⟨v, rfl, h2⟩, h3⟩)
      obtain ⟨E, hE⟩ : ∃ z, lvE was = z := ⟨_, rfl⟩
      obtain ⟨X, hX⟩ : ∃ z, txV was = z := ⟨_, rfl⟩
      obtain ⟨l1, hl1⟩ : ∃ z, psV t = z := ⟨_, rfl⟩
      obtain ⟨p1, hp1⟩ : ∃ z, psX t = z := ⟨_, rfl⟩
      obtain ⟨f, hf⟩ : ∃ z, fsL u = z := ⟨_, rfl⟩
      obtain ⟨O, hO⟩ : ∃ z, ofL was u = z := ⟨_, rfl⟩
      rw [hE, hX] at ct crt
      rw [hE] at ck crk
      rw [hl1, hp1] at cp crp
      rw [hl1] at cs
      rw [hf] at csf cf crf
      rw [hO] at co cro
      obtain ⟨n1, hn1⟩ : ∃ z, l1.us.length = z := ⟨_, rfl⟩
      have HL1 := hidp hn1
      have eE : (E == E) = true := by simp
      have eP : (p1 == p1) = true := by simp
      have eO : (O == O) = true := by simp
      have eX : (X.toList == X.toList) = true := by simp
      clear hvw hP hE hX hl1 hp1 hf hO hn1
      go_enter Tryz.func4, Tryz.ntmps4
      have tk0 := hidp trivial
      go_wp2_with (first | (clear tk0; (refine Mm.box 37 H rfl (.tmp 0) rfl [.int .i64 was.a, .int .i64 was.s, .int .i64 was.i, .int .i64 was.k, .int .i64 was.b, .int .i64 was.r, vw] rfl ?_; clear H; intro b3 _ H nw; have hb := nw.below; clear hb nw); (try simp only [Act.put, setIfInBounds_toArray, set_cons_zero, set_cons_succ]); have tk1 := hidp trivial) | (clear tk1; (refine Mm.get0 tyL H rfl (.tmp 3) rfl rfl rfl ?_); (try simp only [Act.put, setIfInBounds_toArray, set_cons_zero, set_cons_succ]); have tk2 := hidp trivial) | (clear tk2; (go_at_call 18; refine (ct.out _ (HVW.out.to H.out.below) (HP.out.below H.out.below (Nat.le_refl _))).mono ?_; rintro e _ ⟨rfl, hb⟩; replace H := hidp (H.out.call hb); clear ct; clear hb); (try simp only [Act.put, setIfInBounds_toArray, set_cons_zero, set_cons_succ]); have tk3 := hidp trivial) | (clear tk3; (refine Mm.get0 tyL H rfl (.tmp 3) rfl rfl rfl ?_); (try simp only [Act.put, setIfInBounds_toArray, set_cons_zero, set_cons_succ]); have tk4 := hidp trivial) | (clear tk4; (go_at_call 19; refine (crt.out _ (HVW.out.to H.out.below)).mono ?_; rintro e _ ⟨rfl, hb⟩; replace H := hidp (H.out.call hb); clear crt; clear hb); (try simp only [Act.put, setIfInBounds_toArray, set_cons_zero, set_cons_succ]); have tk5 := hidp trivial) | (clear tk5; (go_at_call 20; refine (cp.out _ (HP.out.below H.out.below (Nat.le_refl _))).mono ?_; rintro e w1 ⟨v1, rfl, hu1, hb⟩; obtain ⟨a1, c1, rfl⟩ := hu1.form; rw [HL1.out] at hu1 ⊢; have HU1 := hidp hu1; have H0 := hidp (H.out.call hb); clear cp hb hu1 H; have H := hidp (Mm.M.nil w1)); (try simp only [Act.put, setIfInBounds_toArray, set_cons_zero, set_cons_succ]); have tk6 := hidp trivial) | (clear tk6; (refine Mm.new tyL H (some 11) rfl rfl rfl ?_; clear H; intro b11 _ H nw; have hb := nw.below; clear hb nw); (try simp only [Act.put, setIfInBounds_toArray, set_cons_zero, set_cons_succ]); have tk7 := hidp trivial) | (clear tk7; (refine Mm.put0 tyL H rfl (.tmp 11) (.tmp 37) [.int .i64 l1.a, .int .i64 l1.s, .int .i64 l1.i, .int .i64 l1.k, .int .i64 l1.b, .int .i64 l1.r, .slice a1 n1 c1] rfl rfl rfl rfl (by simp [Value.oneCell']) rfl ?_; intro _ H2 st; clear st H; have H := H2; clear H2); (try simp only [Act.put, setIfInBounds_toArray, set_cons_zero, set_cons_succ]); have tk8 := hidp trivial) | (clear tk8; (go_at_call 21; refine (crp.out _).mono ?_; rintro e w2 ⟨v2, rfl, hu2, hb⟩; obtain ⟨a2, c2, rfl⟩ := hu2.form; rw [HL1.out] at hu2 ⊢; have HU2 := hidp hu2; have H1 := hidp (H.out.call hb); clear crp hb hu2 H; have H := hidp (Mm.M.nil w2)); (try simp only [Act.put, setIfInBounds_toArray, set_cons_zero, set_cons_succ]); have tk9 := hidp trivial) | (clear tk9; (refine Mm.new tyL H (some 13) rfl rfl rfl ?_; clear H; intro b13 _ H nw; have hb := nw.below; clear hb nw); (try simp only [Act.put, setIfInBounds_toArray, set_cons_zero, set_cons_succ]); have tk10 := hidp trivial) | (clear tk10; (refine Mm.put0 tyL H rfl (.tmp 13) (.tmp 42) [.int .i64 l1.a, .int .i64 l1.s, .int .i64 l1.i, .int .i64 l1.k, .int .i64 l1.b, .int .i64 l1.r, .slice a2 n1 c2] rfl rfl rfl rfl (by simp [Value.oneCell']) rfl ?_; intro _ H2 st; clear st H; have H := H2; clear H2); (try simp only [Act.put, setIfInBounds_toArray, set_cons_zero, set_cons_succ]); have tk11 := hidp trivial))
      try clear tk11
      have HZ := hidp ((H0.out.join H1.out).join H.out)
      have HV0 := hidp (HVW.out.to HZ.out.below)
      have HV1 := hidp (HU1.out.to (H1.out.join H.out).below)
      have HV2 := hidp (HU2.out.to H.out.below)
      clear H H0 H1 HU1 HU2 HVW
      have H : Hid (Mm.M w.heap.size w _ [⟨b13, 37, [.int .i64 l1.a, .int .i64 l1.s, .int .i64 l1.i, .int .i64 l1.k, .int .i64 l1.b, .int .i64 l1.r, .slice a2 n1 c2]⟩, ⟨b11, 37, [.int .i64 l1.a, .int .i64 l1.s, .int .i64 l1.i, .int .i64 l1.k, .int .i64 l1.b, .int .i64 l1.r, .slice a1 n1 c1]⟩, ⟨b3, 37, [.int .i64 was.a, .int .i64 was.s, .int .i64 was.i, .int .i64 was.k, .int .i64 was.b, .int .i64 was.r, vw]⟩]) := HZ
      clear HZ
      go_wp2_with fail
      refine Mm.region H (.one 0 (.take 1 (.take 2 (.take 4 (.one 3 (.one 5 (.take 6 (.take 7 (.take 8 (.take 9 (.take 10 (.take 11 (.take 12 (.take 13 (.take 14 (.take 15 (.take 16 (.take 17 (.take 18 (.take 19 (.take 20 (.one 21 (.take 22 (.take 23 (.take 24 (.take 25 (.take 26 (.take 27 (.take 28 (.take 29 (.take 31 (.one 30 (.one 32 (.one 33 (.take 34 (.take 35 (.take 36 (.take 37 (.take 39 (.take 40 (.one 38 (.one 41 (.take 42 (.take 43 (.take 44 .done))))))))))))))))))))))))))))))))))))))))))))) (by kernel_rfl) (by kernel_rfl) (by simp [Scr.depth]) (by kernel_rfl) ?_
      clear H
      intro _ H hb
      replace HV0 := hidp (HV0.out.to hb); replace HV1 := hidp (HV1.out.to hb); replace HV2 := hidp (HV2.out.to hb); clear hb
      refine Mm.o_callH (v := .bool true) H (fun W h => h) rfl rfl 17 (#[]) (by go_simp; first | done | rfl) (li.out _ (HP.out.below H.out.below (Nat.le_refl _))) ?_
      clear H
      intro _ H hb
      replace HV0 := hidp (HV0.out.to hb); replace HV1 := hidp (HV1.out.to hb); replace HV2 := hidp (HV2.out.to hb); clear hb
      simp only [Act.put, getElem_toArray, getElem_cons_zero, getElem_cons_succ, setIfInBounds_toArray, set_cons_zero, set_cons_succ]
      apply s_val
      case ho | hw => rfl
      case hv => intro w hw; go_simp; first | done | rfl
      simp only [Act.put, getElem_toArray, getElem_cons_zero, getElem_cons_succ, setIfInBounds_toArray, set_cons_zero, set_cons_succ]
      refine Mm.sget2 tyL (fun w h => h) rfl rfl (.tmp 3) rfl rfl rfl ?_
      simp only [Act.put, getElem_toArray, getElem_cons_zero, getElem_cons_succ, setIfInBounds_toArray, set_cons_zero, set_cons_succ]
      refine Mm.sget2 tyL (fun w h => h) rfl rfl (.tmp 3) rfl rfl rfl ?_
      simp only [Act.put, getElem_toArray, getElem_cons_zero, getElem_cons_succ, setIfInBounds_toArray, set_cons_zero, set_cons_succ]
      refine Mm.o_callH (v := .int .i64 E) H (fun W h => h) rfl rfl 22 (#[.agg #[.int .i64 was.a, .int .i64 was.s, .int .i64 was.i, .int .i64 was.k, .int .i64 was.b, .int .i64 was.r, vw]]) (by go_simp; first | done | rfl) (ck.out _ HV0.out (HP.out.below H.out.below (Nat.le_refl _))) ?_
      clear H
      intro _ H hb
      replace HV0 := hidp (HV0.out.to hb); replace HV1 := hidp (HV1.out.to hb); replace HV2 := hidp (HV2.out.to hb); clear hb
      simp only [Act.put, getElem_toArray, getElem_cons_zero, getElem_cons_succ, setIfInBounds_toArray, set_cons_zero, set_cons_succ]
      refine Mm.o_callH (v := .int .i64 E) H (fun W h => h) rfl rfl 23 (#[.agg #[.int .i64 was.a, .int .i64 was.s, .int .i64 was.i, .int .i64 was.k, .int .i64 was.b, .int .i64 was.r, vw]]) (by go_simp; first | done | rfl) (crk.out _ HV0.out) ?_
      clear H
      intro _ H hb
      replace HV0 := hidp (HV0.out.to hb); replace HV1 := hidp (HV1.out.to hb); replace HV2 := hidp (HV2.out.to hb); clear hb
      simp only [Act.put, getElem_toArray, getElem_cons_zero, getElem_cons_succ, setIfInBounds_toArray, set_cons_zero, set_cons_succ]
      apply s_val
      case ho | hw => rfl
      case hv => intro w hw; have q := eE; have q2 := eX; have q3 := eP; have q4 := eO; go_simp; first | done | rfl
      simp only [Act.put, getElem_toArray, getElem_cons_zero, getElem_cons_succ, setIfInBounds_toArray, set_cons_zero, set_cons_succ]
      apply s_val
      case ho | hw => rfl
      case hv => intro w hw; go_simp; first | done | rfl
      simp only [Act.put, getElem_toArray, getElem_cons_zero, getElem_cons_succ, setIfInBounds_toArray, set_cons_zero, set_cons_succ]
      apply s_val
      case ho | hw => rfl
      case hv => intro w hw; go_simp; first | done | rfl
      simp only [Act.put, getElem_toArray, getElem_cons_zero, getElem_cons_succ, setIfInBounds_toArray, set_cons_zero, set_cons_succ]
      apply s_val
      case ho | hw => rfl
      case hv => intro w hw; go_simp; first | done | rfl
      simp only [Act.put, getElem_toArray, getElem_cons_zero, getElem_cons_succ, setIfInBounds_toArray, set_cons_zero, set_cons_succ]
      apply s_val
      case ho | hw => rfl
      case hv => intro w hw; go_simp; first | done | rfl
      simp only [Act.put, getElem_toArray, getElem_cons_zero, getElem_cons_succ, setIfInBounds_toArray, set_cons_zero, set_cons_succ]
      apply s_val
      case ho | hw => rfl
      case hv => intro w hw; have q := eE; have q2 := eX; have q3 := eP; have q4 := eO; go_simp; first | done | rfl
      simp only [Act.put, getElem_toArray, getElem_cons_zero, getElem_cons_succ, setIfInBounds_toArray, set_cons_zero, set_cons_succ]
      apply s_val
      case ho | hw => rfl
      case hv => intro w hw; go_simp; first | done | rfl
      simp only [Act.put, getElem_toArray, getElem_cons_zero, getElem_cons_succ, setIfInBounds_toArray, set_cons_zero, set_cons_succ]
      apply s_val
      case ho | hw => rfl
      case hv => intro w hw; go_simp; first | done | rfl
      simp only [Act.put, getElem_toArray, getElem_cons_zero, getElem_cons_succ, setIfInBounds_toArray, set_cons_zero, set_cons_succ]
      apply s_val
      case ho | hw => rfl
      case hv => intro w hw; go_simp; first | done | rfl
      simp only [Act.put, getElem_toArray, getElem_cons_zero, getElem_cons_succ, setIfInBounds_toArray, set_cons_zero, set_cons_succ]
      apply s_val
      case ho | hw => rfl
      case hv => intro w hw; go_simp; first | done | rfl
      simp only [Act.put, getElem_toArray, getElem_cons_zero, getElem_cons_succ, setIfInBounds_toArray, set_cons_zero, set_cons_succ]
      apply s_val
      case ho | hw => rfl
      case hv => intro w hw; have q := eE; have q2 := eX; have q3 := eP; have q4 := eO; go_simp; first | done | rfl
      simp only [Act.put, getElem_toArray, getElem_cons_zero, getElem_cons_succ, setIfInBounds_toArray, set_cons_zero, set_cons_succ]
      apply s_val
      case ho | hw => rfl
      case hv => intro w hw; go_simp; first | done | rfl
      simp only [Act.put, getElem_toArray, getElem_cons_zero, getElem_cons_succ, setIfInBounds_toArray, set_cons_zero, set_cons_succ]
      apply s_val
      case ho | hw => rfl
      case hv => intro w hw; go_simp; first | done | rfl
      simp only [Act.put, getElem_toArray, getElem_cons_zero, getElem_cons_succ, setIfInBounds_toArray, set_cons_zero, set_cons_succ]
      refine Mm.sget1 tyL (fun w h => h) rfl rfl (.tmp 11) rfl rfl rfl ?_
      simp only [Act.put, getElem_toArray, getElem_cons_zero, getElem_cons_succ, setIfInBounds_toArray, set_cons_zero, set_cons_succ]
      refine Mm.sget0 tyL (fun w h => h) rfl rfl (.tmp 13) rfl rfl rfl ?_
      simp only [Act.put, getElem_toArray, getElem_cons_zero, getElem_cons_succ, setIfInBounds_toArray, set_cons_zero, set_cons_succ]
      refine Mm.o_callH (v := .bool true) H (fun W h => h) rfl rfl 24 (#[.agg #[.int .i64 l1.a, .int .i64 l1.s, .int .i64 l1.i, .int .i64 l1.k, .int .i64 l1.b, .int .i64 l1.r, .slice a1 n1 c1], .agg #[.int .i64 l1.a, .int .i64 l1.s, .int .i64 l1.i, .int .i64 l1.k, .int .i64 l1.b, .int .i64 l1.r, .slice a2 n1 c2]]) (by go_simp; first | done | rfl) (cs.out _ _ _ HV1.out HV2.out) ?_
      clear H
      intro _ H hb
      replace HV0 := hidp (HV0.out.to hb); replace HV1 := hidp (HV1.out.to hb); replace HV2 := hidp (HV2.out.to hb); clear hb
      simp only [Act.put, getElem_toArray, getElem_cons_zero, getElem_cons_succ, setIfInBounds_toArray, set_cons_zero, set_cons_succ]
      apply s_val
      case ho | hw => rfl
      case hv => intro w hw; go_simp; first | done | rfl
      simp only [Act.put, getElem_toArray, getElem_cons_zero, getElem_cons_succ, setIfInBounds_toArray, set_cons_zero, set_cons_succ]
      apply s_val
      case ho | hw => rfl
      case hv => intro w hw; go_simp; first | done | rfl
      simp only [Act.put, getElem_toArray, getElem_cons_zero, getElem_cons_succ, setIfInBounds_toArray, set_cons_zero, set_cons_succ]
      apply s_val
      case ho | hw => rfl
      case hv => intro w hw; go_simp; first | done | rfl
      simp only [Act.put, getElem_toArray, getElem_cons_zero, getElem_cons_succ, setIfInBounds_toArray, set_cons_zero, set_cons_succ]
      apply s_val
      case ho | hw => rfl
      case hv => intro w hw; go_simp; first | done | rfl
      simp only [Act.put, getElem_toArray, getElem_cons_zero, getElem_cons_succ, setIfInBounds_toArray, set_cons_zero, set_cons_succ]
      apply s_val
      case ho | hw => rfl
      case hv => intro w hw; have q := eE; have q2 := eX; have q3 := eP; have q4 := eO; go_simp; first | done | rfl
      simp only [Act.put, getElem_toArray, getElem_cons_zero, getElem_cons_succ, setIfInBounds_toArray, set_cons_zero, set_cons_succ]
      apply s_val
      case ho | hw => rfl
      case hv => intro w hw; go_simp; first | done | rfl
      simp only [Act.put, getElem_toArray, getElem_cons_zero, getElem_cons_succ, setIfInBounds_toArray, set_cons_zero, set_cons_succ]
      apply s_val
      case ho | hw => rfl
      case hv => intro w hw; go_simp; first | done | rfl
      simp only [Act.put, getElem_toArray, getElem_cons_zero, getElem_cons_succ, setIfInBounds_toArray, set_cons_zero, set_cons_succ]
      apply s_val
      case ho | hw => rfl
      case hv => intro w hw; go_simp; first | done | rfl
      simp only [Act.put, getElem_toArray, getElem_cons_zero, getElem_cons_succ, setIfInBounds_toArray, set_cons_zero, set_cons_succ]
      apply s_val
      case ho | hw => rfl
      case hv => intro w hw; go_simp; first | done | rfl
      simp only [Act.put, getElem_toArray, getElem_cons_zero, getElem_cons_succ, setIfInBounds_toArray, set_cons_zero, set_cons_succ]
      refine Mm.o_callX H (fun W h => h) rfl rfl 25 (#[.string u]) (by go_simp; first | done | rfl) (cf.out _ (HP.out.below H.out.below (Nat.le_refl _))) ?_
      clear H
      intro V1 _ H hr hb
      obtain ⟨vf1, rfl, huf⟩ := hr; have HF1 := hidp huf; clear huf; replace HV0 := hidp (HV0.out.to hb); replace HV1 := hidp (HV1.out.to hb); replace HV2 := hidp (HV2.out.to hb); clear hb
      simp only [Act.put, getElem_toArray, getElem_cons_zero, getElem_cons_succ, setIfInBounds_toArray, set_cons_zero, set_cons_succ]
      refine Mm.o_callX H (fun W h => h) rfl rfl 26 (#[.string u]) (by go_simp; first | done | rfl) (crf.out _) ?_
      clear H
      intro V2 _ H hr hb
      obtain ⟨vf2, rfl, huf⟩ := hr; have HF2 := hidp huf; clear huf; replace HV0 := hidp (HV0.out.to hb); replace HV1 := hidp (HV1.out.to hb); replace HV2 := hidp (HV2.out.to hb); replace HF1 := hidp (HF1.out.to hb); clear hb
      simp only [Act.put, getElem_toArray, getElem_cons_zero, getElem_cons_succ, setIfInBounds_toArray, set_cons_zero, set_cons_succ]
      refine Mm.o_callH (v := .bool true) H (fun W h => h) rfl rfl 24 (#[.agg #[.int .i64 f.a, .int .i64 f.s, .int .i64 f.i, .int .i64 f.k, .int .i64 f.b, .int .i64 f.r, vf1], .agg #[.int .i64 f.a, .int .i64 f.s, .int .i64 f.i, .int .i64 f.k, .int .i64 f.b, .int .i64 f.r, vf2]]) (by go_simp; first | done | rfl) (csf.out _ _ _ HF1.out HF2.out) ?_
      clear H
      intro _ H hb
      replace HV0 := hidp (HV0.out.to hb); replace HV1 := hidp (HV1.out.to hb); replace HV2 := hidp (HV2.out.to hb); replace HF1 := hidp (HF1.out.to hb); replace HF2 := hidp (HF2.out.to hb); clear hb
      simp only [Act.put, getElem_toArray, getElem_cons_zero, getElem_cons_succ, setIfInBounds_toArray, set_cons_zero, set_cons_succ]
      apply s_val
      case ho | hw => rfl
      case hv => intro w hw; go_simp; first | done | rfl
      simp only [Act.put, getElem_toArray, getElem_cons_zero, getElem_cons_succ, setIfInBounds_toArray, set_cons_zero, set_cons_succ]
      apply s_val
      case ho | hw => rfl
      case hv => intro w hw; go_simp; first | done | rfl
      simp only [Act.put, getElem_toArray, getElem_cons_zero, getElem_cons_succ, setIfInBounds_toArray, set_cons_zero, set_cons_succ]
      refine Mm.sget2 tyL (fun w h => h) rfl rfl (.tmp 3) rfl rfl rfl ?_
      simp only [Act.put, getElem_toArray, getElem_cons_zero, getElem_cons_succ, setIfInBounds_toArray, set_cons_zero, set_cons_succ]
      apply s_val
      case ho | hw => rfl
      case hv => intro w hw; go_simp; first | done | rfl
      simp only [Act.put, getElem_toArray, getElem_cons_zero, getElem_cons_succ, setIfInBounds_toArray, set_cons_zero, set_cons_succ]
      refine Mm.sget2 tyL (fun w h => h) rfl rfl (.tmp 3) rfl rfl rfl ?_
      simp only [Act.put, getElem_toArray, getElem_cons_zero, getElem_cons_succ, setIfInBounds_toArray, set_cons_zero, set_cons_succ]
      apply s_val
      case ho | hw => rfl
      case hv => intro w hw; go_simp; first | done | rfl
      simp only [Act.put, getElem_toArray, getElem_cons_zero, getElem_cons_succ, setIfInBounds_toArray, set_cons_zero, set_cons_succ]
      refine Mm.o_callH (v := .int .i64 O) H (fun W h => h) rfl rfl 27 (#[.agg #[.int .i64 was.a, .int .i64 was.s, .int .i64 was.i, .int .i64 was.k, .int .i64 was.b, .int .i64 was.r, vw], .string u]) (by go_simp; first | done | rfl) (co.out _ HV0.out) ?_
      clear H
      intro _ H hb
      replace HV0 := hidp (HV0.out.to hb); replace HV1 := hidp (HV1.out.to hb); replace HV2 := hidp (HV2.out.to hb); replace HF1 := hidp (HF1.out.to hb); replace HF2 := hidp (HF2.out.to hb); clear hb
      simp only [Act.put, getElem_toArray, getElem_cons_zero, getElem_cons_succ, setIfInBounds_toArray, set_cons_zero, set_cons_succ]
      refine Mm.o_callH (v := .int .i64 O) H (fun W h => h) rfl rfl 28 (#[.agg #[.int .i64 was.a, .int .i64 was.s, .int .i64 was.i, .int .i64 was.k, .int .i64 was.b, .int .i64 was.r, vw], .string u]) (by go_simp; first | done | rfl) (cro.out _ HV0.out) ?_
      clear H
      intro _ H hb
      replace HV0 := hidp (HV0.out.to hb); replace HV1 := hidp (HV1.out.to hb); replace HV2 := hidp (HV2.out.to hb); replace HF1 := hidp (HF1.out.to hb); replace HF2 := hidp (HF2.out.to hb); clear hb
      simp only [Act.put, getElem_toArray, getElem_cons_zero, getElem_cons_succ, setIfInBounds_toArray, set_cons_zero, set_cons_succ]
      apply s_val
      case ho | hw => rfl
      case hv => intro w hw; have q := eE; have q2 := eX; have q3 := eP; have q4 := eO; go_simp; first | done | rfl
      simp only [Act.put, getElem_toArray, getElem_cons_zero, getElem_cons_succ, setIfInBounds_toArray, set_cons_zero, set_cons_succ]
      apply s_val
      case ho | hw => rfl
      case hv => intro w hw; go_simp; first | done | rfl
      simp only [Act.put, getElem_toArray, getElem_cons_zero, getElem_cons_succ, setIfInBounds_toArray, set_cons_zero, set_cons_succ]
      apply s_val
      case ho | hw => rfl
      case hv => intro w hw; go_simp; first | done | rfl
      simp only [Act.put, getElem_toArray, getElem_cons_zero, getElem_cons_succ, setIfInBounds_toArray, set_cons_zero, set_cons_succ]
      refine NoPanic.normal ?_
      go_wp2_with fail
      go_ret
      exact ⟨rfl, H.out.below⟩
end Go.Proofs.YtiakfopdohcigaaGreatDoor
