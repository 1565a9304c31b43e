
/-
  auth: memberships; Allowed.
-/
import Derived.Test.YtkcgmimcopoknaaGreatDoorAuD
namespace Go.Proofs.YtkcgmimcopoknaaGreatDoor
set_option maxRecDepth 100000
set_option linter.unusedVariables false
set_option linter.unusedSimpArgs false
open Go.RowKit Rw


theorem mis (w : World) (x : ByteArray) : Calls Tryz.prog 63 #[.string x] w fun e w' => e = .returned (.bool (isB x)) ∧ Below w.heap.size w w' := is_any w x
set_option maxHeartbeats 32000000 in
theorem dmember_any (w : World) (e : Ev) (v : Value) (l : Lv) (u : Value) (r : ByteArray) (hu : UsAt w u l.us) (cs : List Ce) (hv : CsAt w v cs) (fo : ByteArray) : Calls Tryz.prog 31 #[.agg (dkR e v l u r).toArray, .string fo] w fun x w' => x = .returned (.int .i64 (mbE cs e fo l r)) ∧ Below w.heap.size w w' := by
  have HU := hidp hu; have HV := hidp hv
  obtain ⟨a0, c0, rfl⟩ := hv.form
  have h47 := hv.len
  obtain ⟨n, hn⟩ : ∃ n, cs.length = n := ⟨_, rfl⟩
  rw [hn] at HV h47 ⊢
  have ci := hidp (fun W => mis W e.body)
  have H := hidp (Mm.M.nil w)
  cases hb : isB e.body with
  | false =>
    rw [hb] at ci
    have HF := hidp (show mbE cs e fo l r = 2 from by unfold mbE; rw [hb]; rfl)
    clear hb hu hv hn
    go_enter Tryz.func31, Tryz.ntmps31
    go_wp2_with (first | (refine Mm.box 64 H rfl (.tmp 0) rfl (dkR e (.slice a0 n c0) l u r) rfl ?_; clear H; intro b2 _ H nw; have hb := nw.below; clear hb nw) | (refine Mm.ld0 naS H rfl (.tmp 6) 4 (.string e.body) rfl rfl rfl ?_) | (go_at_call 63; refine (ci.out _).mono ?_; rintro e _ ⟨rfl, hb⟩; replace H := hidp (H.out.call hb); clear hb))
    go_ret
    exact ⟨by rw [HF.out]; rfl, H.out.below⟩
  | true =>
    rw [hb] at ci
    have hgo : ¬ (n = 1 ∧ e.sender.toList = fo.toList ∧ e.key.toList = fo.toList ∧ e.body.toList = wJoin.toList) → mbE cs e fo l r = mvE cs e l r := fun h => by unfold mbE; rw [hn, if_pos hb, if_neg h]
    have hlet : (n = 1 ∧ e.sender.toList = fo.toList ∧ e.key.toList = fo.toList ∧ e.body.toList = wJoin.toList) → mbE cs e fo l r = 0 := fun h => by unfold mbE; rw [hn, if_pos hb, if_pos h]
    have q1 := hidp (fun W h => mem_any W (.slice a0 n c0) cs h e.sender); have q2 := hidp (fun W h => mem_any W (.slice a0 n c0) cs h e.key)
    have q3 := hidp (fun W h => dreaches_any W e (.slice a0 n c0) l u r h l.i); have q4 := hidp (fun W h => dreaches_any W e (.slice a0 n c0) l u r h l.k); have q5 := hidp (fun W h => dreaches_any W e (.slice a0 n c0) l u r h l.b)
    have q6 := hidp (fun W h => dlevel_any W e (.slice a0 n c0) l u r h); have q7 := hidp (fun W h => of_any W l u e.key h)
    unfold mvE at hgo
    obtain ⟨m1, hm1⟩ : ∃ x, memS cs e.sender = x := ⟨_, rfl⟩
    obtain ⟨m2, hm2⟩ : ∃ x, memS cs e.key = x := ⟨_, rfl⟩
    obtain ⟨SF, hSF⟩ : ∃ x, (e.sender.toList == e.key.toList) = x := ⟨_, rfl⟩
    obtain ⟨oa, hoa⟩ : ∃ x, ofL l e.sender = x := ⟨_, rfl⟩
    obtain ⟨ob, hob⟩ : ∃ x, ofL l e.key = x := ⟨_, rfl⟩
    rw [hm1] at q1; rw [hm2] at q2; rw [hoa] at q3 q4 q5 q6; rw [hob] at q7
    rw [hm1, hm2, hSF, hoa, hob] at hgo
    obtain ⟨BI, hBI⟩ : ∃ x, decide (l.i ≤ oa) = x := ⟨_, rfl⟩
    obtain ⟨BK, hBK⟩ : ∃ x, decide (l.k ≤ oa) = x := ⟨_, rfl⟩
    obtain ⟨BB, hBB⟩ : ∃ x, decide (l.b ≤ oa) = x := ⟨_, rfl⟩
    obtain ⟨AB, hAB⟩ : ∃ x, decide (ob < oa) = x := ⟨_, rfl⟩
    rw [hBI] at q3 hgo; rw [hBK] at q4 hgo; rw [hBB] at q5 hgo; rw [hAB] at hgo
    have hAB2 : decide (oa > ob) = AB := hAB
    have q8 := hidp (fun W => allowed_any W r m1 m2 e.body SF BI BK BB AB)
    obtain ⟨Z, hZ⟩ : ∃ Z, alE r m1 m2 e.body SF BI BK BB AB = Z := ⟨_, rfl⟩
    rw [hZ] at q8 hgo
    clear hm1 hm2 hoa hob hBI hBK hBB hZ hb hu hv hn
    cases c1 : ((n : Int) == 1) with
    | false =>
      have HF := hidp (show mbE cs e fo l r = Z from hgo (fun h => by simp [h.1] at c1))
      go_enter Tryz.func31, Tryz.ntmps31
      go_wp2_with (first | (refine Mm.box 64 H rfl (.tmp 0) rfl (dkR e (.slice a0 n c0) l u r) rfl ?_; clear H; intro b2 _ H nw; have hb := nw.below; clear hb nw) | (refine Mm.ld0 naS H rfl (.tmp 6) 4 (.string e.body) rfl rfl rfl ?_) | (go_at_call 63; refine (ci.out _).mono ?_; rintro e _ ⟨rfl, hb⟩; replace H := hidp (H.out.call hb); clear hb) | (refine Mm.skipd 15 rfl _ _ rfl rfl ?_) | (refine Mm.skipd 16 rfl _ _ rfl rfl ?_) | (refine Mm.skipd 17 rfl _ _ rfl rfl ?_) | (refine Mm.skipd 18 rfl _ _ rfl rfl ?_) | (refine Mm.skipd 19 rfl _ _ rfl rfl ?_) | (refine Mm.skipd 22 rfl _ _ rfl rfl ?_) | (refine Mm.skipd 23 rfl _ _ rfl rfl ?_) | (refine Mm.skipd 24 rfl _ _ rfl rfl ?_) | (refine Mm.skipd 25 rfl _ _ rfl rfl ?_) | (refine Mm.skipd 26 rfl _ _ rfl rfl ?_) | (refine Mm.skipd 29 rfl _ _ rfl rfl ?_) | (refine Mm.skipd 30 rfl _ _ rfl rfl ?_) | (refine Mm.skipd 31 rfl _ _ rfl rfl ?_) | (refine Mm.skipd 32 rfl _ _ rfl rfl ?_) | (refine Mm.ld0 naC H rfl (.tmp 10) 6 _ rfl rfl rfl ?_))
      refine Mm.region H (.take 0 (.take 1 (.take 2 (.take 3 (.take 4 (.take 5 (.take 6 (.take 8 (.take 9 (.take 10 (.take 11 (.take 12 (.take 14 (.take 15 (.take 16 (.take 17 (.take 18 (.take 19 (.take 20 (.take 21 (.take 22 (.take 23 (.take 24 (.take 25 (.take 26 (.take 27 (.take 29 (.take 30 (.take 31 (.take 32 (.take 34 (.take 35 (.take 36 (.take 37 (.take 39 (.take 41 (.take 42 (.take 43 (.take 44 (.take 45 (.one 7 (.one 13 (.one 28 (.one 33 (.one 38 (.one 40 (.one 46 (.take 47 (.take 48 (.one 49 (.take 50 .done))))))))))))))))))))))))))))))))))))))))))))))))))) (by kernel_rfl) (by kernel_rfl) (by simp [Scr.depth]) (by kernel_rfl) ?_
      clear H
      intro _ H hb
      clear hb
      apply s_val
      case ho => rfl
      case hw => rfl
      case hv => intro w hw; go_simp; first | done | with_reducible rfl | rfl
      simp only [Act.put, List.getElem_toArray, List.getElem_cons_zero, List.getElem_cons_succ, List.setIfInBounds_toArray, List.set_cons_zero, List.set_cons_succ]
      refine Mm.sld0 naS (fun w h => h) rfl rfl (.tmp 34) 14 (.string r) rfl rfl rfl ?_
      simp only [Act.put, List.getElem_toArray, List.getElem_cons_zero, List.getElem_cons_succ, List.setIfInBounds_toArray, List.set_cons_zero, List.set_cons_succ]
      apply s_val
      case ho => rfl
      case hw => rfl
      case hv => intro w hw; go_simp; first | done | with_reducible rfl | rfl
      simp only [Act.put, List.getElem_toArray, List.getElem_cons_zero, List.getElem_cons_succ, List.setIfInBounds_toArray, List.set_cons_zero, List.set_cons_succ]
      refine Mm.sld0 naC (fun w h => h) rfl rfl (.tmp 36) 6 _ rfl rfl rfl ?_
      simp only [Act.put, List.getElem_toArray, List.getElem_cons_zero, List.getElem_cons_succ, List.setIfInBounds_toArray, List.set_cons_zero, List.set_cons_succ]
      apply s_val
      case ho => rfl
      case hw => rfl
      case hv => intro w hw; go_simp; first | done | with_reducible rfl | rfl
      simp only [Act.put, List.getElem_toArray, List.getElem_cons_zero, List.getElem_cons_succ, List.setIfInBounds_toArray, List.set_cons_zero, List.set_cons_succ]
      apply s_val
      case ho => rfl
      case hw => rfl
      case hv => intro w hw; go_simp; first | done | with_reducible rfl | rfl
      simp only [Act.put, List.getElem_toArray, List.getElem_cons_zero, List.getElem_cons_succ, List.setIfInBounds_toArray, List.set_cons_zero, List.set_cons_succ]
      refine Mm.sld0 naS (fun w h => h) rfl rfl (.tmp 39) 1 (.string e.sender) rfl rfl rfl ?_
      simp only [Act.put, List.getElem_toArray, List.getElem_cons_zero, List.getElem_cons_succ, List.setIfInBounds_toArray, List.set_cons_zero, List.set_cons_succ]
      apply s_val
      case ho => rfl
      case hw => rfl
      case hv => intro w hw; go_simp; first | done | with_reducible rfl | rfl
      simp only [Act.put, List.getElem_toArray, List.getElem_cons_zero, List.getElem_cons_succ, List.setIfInBounds_toArray, List.set_cons_zero, List.set_cons_succ]
      refine Mm.sld0 naC (fun w h => h) rfl rfl (.tmp 42) 6 _ rfl rfl rfl ?_
      simp only [Act.put, List.getElem_toArray, List.getElem_cons_zero, List.getElem_cons_succ, List.setIfInBounds_toArray, List.set_cons_zero, List.set_cons_succ]
      apply s_val
      case ho => rfl
      case hw => rfl
      case hv => intro w hw; go_simp; first | done | with_reducible rfl | rfl
      simp only [Act.put, List.getElem_toArray, List.getElem_cons_zero, List.getElem_cons_succ, List.setIfInBounds_toArray, List.set_cons_zero, List.set_cons_succ]
      apply s_val
      case ho => rfl
      case hw => rfl
      case hv => intro w hw; go_simp; first | done | with_reducible rfl | rfl
      simp only [Act.put, List.getElem_toArray, List.getElem_cons_zero, List.getElem_cons_succ, List.setIfInBounds_toArray, List.set_cons_zero, List.set_cons_succ]
      refine Mm.sld0 naS (fun w h => h) rfl rfl (.tmp 45) 3 (.string e.key) rfl rfl rfl ?_
      simp only [Act.put, List.getElem_toArray, List.getElem_cons_zero, List.getElem_cons_succ, List.setIfInBounds_toArray, List.set_cons_zero, List.set_cons_succ]
      apply s_val
      case ho => rfl
      case hw => rfl
      case hv => intro w hw; go_simp; first | done | with_reducible rfl | rfl
      simp only [Act.put, List.getElem_toArray, List.getElem_cons_zero, List.getElem_cons_succ, List.setIfInBounds_toArray, List.set_cons_zero, List.set_cons_succ]
      apply s_val
      case ho => rfl
      case hw => rfl
      case hv => intro w hw; go_simp; first | done | with_reducible rfl | rfl
      simp only [Act.put, List.getElem_toArray, List.getElem_cons_zero, List.getElem_cons_succ, List.setIfInBounds_toArray, List.set_cons_zero, List.set_cons_succ]
      refine Mm.sld0 naS (fun w h => h) rfl rfl (.tmp 49) 4 (.string e.body) rfl rfl rfl ?_
      simp only [Act.put, List.getElem_toArray, List.getElem_cons_zero, List.getElem_cons_succ, List.setIfInBounds_toArray, List.set_cons_zero, List.set_cons_succ]
      apply s_val
      case ho => rfl
      case hw => rfl
      case hv => intro w hw; go_simp; first | done | with_reducible rfl | rfl
      simp only [Act.put, List.getElem_toArray, List.getElem_cons_zero, List.getElem_cons_succ, List.setIfInBounds_toArray, List.set_cons_zero, List.set_cons_succ]
      apply s_val
      case ho => rfl
      case hw => rfl
      case hv => intro w hw; go_simp; first | done | with_reducible rfl | rfl
      simp only [Act.put, List.getElem_toArray, List.getElem_cons_zero, List.getElem_cons_succ, List.setIfInBounds_toArray, List.set_cons_zero, List.set_cons_succ]
      refine Mm.sld0 naS (fun w h => h) rfl rfl (.tmp 52) 1 (.string e.sender) rfl rfl rfl ?_
      simp only [Act.put, List.getElem_toArray, List.getElem_cons_zero, List.getElem_cons_succ, List.setIfInBounds_toArray, List.set_cons_zero, List.set_cons_succ]
      apply s_val
      case ho => rfl
      case hw => rfl
      case hv => intro w hw; go_simp; first | done | with_reducible rfl | rfl
      simp only [Act.put, List.getElem_toArray, List.getElem_cons_zero, List.getElem_cons_succ, List.setIfInBounds_toArray, List.set_cons_zero, List.set_cons_succ]
      apply s_val
      case ho => rfl
      case hw => rfl
      case hv => intro w hw; go_simp; first | done | with_reducible rfl | rfl
      simp only [Act.put, List.getElem_toArray, List.getElem_cons_zero, List.getElem_cons_succ, List.setIfInBounds_toArray, List.set_cons_zero, List.set_cons_succ]
      refine Mm.sld0 naS (fun w h => h) rfl rfl (.tmp 55) 3 (.string e.key) rfl rfl rfl ?_
      simp only [Act.put, List.getElem_toArray, List.getElem_cons_zero, List.getElem_cons_succ, List.setIfInBounds_toArray, List.set_cons_zero, List.set_cons_succ]
      apply s_val (v := .bool SF)
      case ho => rfl
      case hw => rfl
      case hv => intro w hw; have q := hSF; go_simp; first | done | with_reducible rfl | rfl
      simp only [Act.put, List.getElem_toArray, List.getElem_cons_zero, List.getElem_cons_succ, List.setIfInBounds_toArray, List.set_cons_zero, List.set_cons_succ]
      refine Mm.sget0 rtD (fun w h => h) rfl rfl (.tmp 2) rfl rfl rfl ?_
      simp only [Act.put, List.getElem_toArray, List.getElem_cons_zero, List.getElem_cons_succ, List.setIfInBounds_toArray, List.set_cons_zero, List.set_cons_succ]
      apply s_val
      case ho => rfl
      case hw => rfl
      case hv => intro w hw; go_simp; first | done | with_reducible rfl | rfl
      simp only [Act.put, List.getElem_toArray, List.getElem_cons_zero, List.getElem_cons_succ, List.setIfInBounds_toArray, List.set_cons_zero, List.set_cons_succ]
      apply s_val
      case ho => rfl
      case hw => rfl
      case hv => intro w hw; go_simp; first | done | with_reducible rfl | rfl
      simp only [Act.put, List.getElem_toArray, List.getElem_cons_zero, List.getElem_cons_succ, List.setIfInBounds_toArray, List.set_cons_zero, List.set_cons_succ]
      refine Mm.sld0 naInt (fun w h => h) rfl rfl (.tmp 60) 9 (.int .i64 l.i) rfl rfl rfl ?_
      simp only [Act.put, List.getElem_toArray, List.getElem_cons_zero, List.getElem_cons_succ, List.setIfInBounds_toArray, List.set_cons_zero, List.set_cons_succ]
      refine Mm.sget0 rtD (fun w h => h) rfl rfl (.tmp 2) rfl rfl rfl ?_
      simp only [Act.put, List.getElem_toArray, List.getElem_cons_zero, List.getElem_cons_succ, List.setIfInBounds_toArray, List.set_cons_zero, List.set_cons_succ]
      apply s_val
      case ho => rfl
      case hw => rfl
      case hv => intro w hw; go_simp; first | done | with_reducible rfl | rfl
      simp only [Act.put, List.getElem_toArray, List.getElem_cons_zero, List.getElem_cons_succ, List.setIfInBounds_toArray, List.set_cons_zero, List.set_cons_succ]
      apply s_val
      case ho => rfl
      case hw => rfl
      case hv => intro w hw; go_simp; first | done | with_reducible rfl | rfl
      simp only [Act.put, List.getElem_toArray, List.getElem_cons_zero, List.getElem_cons_succ, List.setIfInBounds_toArray, List.set_cons_zero, List.set_cons_succ]
      refine Mm.sld0 naInt (fun w h => h) rfl rfl (.tmp 65) 10 (.int .i64 l.k) rfl rfl rfl ?_
      simp only [Act.put, List.getElem_toArray, List.getElem_cons_zero, List.getElem_cons_succ, List.setIfInBounds_toArray, List.set_cons_zero, List.set_cons_succ]
      refine Mm.sget0 rtD (fun w h => h) rfl rfl (.tmp 2) rfl rfl rfl ?_
      simp only [Act.put, List.getElem_toArray, List.getElem_cons_zero, List.getElem_cons_succ, List.setIfInBounds_toArray, List.set_cons_zero, List.set_cons_succ]
      apply s_val
      case ho => rfl
      case hw => rfl
      case hv => intro w hw; go_simp; first | done | with_reducible rfl | rfl
      simp only [Act.put, List.getElem_toArray, List.getElem_cons_zero, List.getElem_cons_succ, List.setIfInBounds_toArray, List.set_cons_zero, List.set_cons_succ]
      apply s_val
      case ho => rfl
      case hw => rfl
      case hv => intro w hw; go_simp; first | done | with_reducible rfl | rfl
      simp only [Act.put, List.getElem_toArray, List.getElem_cons_zero, List.getElem_cons_succ, List.setIfInBounds_toArray, List.set_cons_zero, List.set_cons_succ]
      refine Mm.sld0 naInt (fun w h => h) rfl rfl (.tmp 70) 11 (.int .i64 l.b) rfl rfl rfl ?_
      simp only [Act.put, List.getElem_toArray, List.getElem_cons_zero, List.getElem_cons_succ, List.setIfInBounds_toArray, List.set_cons_zero, List.set_cons_succ]
      refine Mm.sget0 rtD (fun w h => h) rfl rfl (.tmp 2) rfl rfl rfl ?_
      simp only [Act.put, List.getElem_toArray, List.getElem_cons_zero, List.getElem_cons_succ, List.setIfInBounds_toArray, List.set_cons_zero, List.set_cons_succ]
      apply s_val
      case ho => rfl
      case hw => rfl
      case hv => intro w hw; go_simp; first | done | with_reducible rfl | rfl
      simp only [Act.put, List.getElem_toArray, List.getElem_cons_zero, List.getElem_cons_succ, List.setIfInBounds_toArray, List.set_cons_zero, List.set_cons_succ]
      refine s_mid tyL rfl rfl (.tmp 75) b2 7 [.int .i64 l.a, .int .i64 l.s, .int .i64 l.i, .int .i64 l.k, .int .i64 l.b, .int .i64 l.r, u] rfl rfl rfl (fun w h => dk_lv (Mm.M.at0 h)) ?_
      simp only [Act.put, List.getElem_toArray, List.getElem_cons_zero, List.getElem_cons_succ, List.setIfInBounds_toArray, List.set_cons_zero, List.set_cons_succ]
      apply s_val
      case ho => rfl
      case hw => rfl
      case hv => intro w hw; go_simp; first | done | with_reducible rfl | rfl
      simp only [Act.put, List.getElem_toArray, List.getElem_cons_zero, List.getElem_cons_succ, List.setIfInBounds_toArray, List.set_cons_zero, List.set_cons_succ]
      apply s_val
      case ho => rfl
      case hw => rfl
      case hv => intro w hw; go_simp; first | done | with_reducible rfl | rfl
      simp only [Act.put, List.getElem_toArray, List.getElem_cons_zero, List.getElem_cons_succ, List.setIfInBounds_toArray, List.set_cons_zero, List.set_cons_succ]
      refine Mm.sld0 naS (fun w h => h) rfl rfl (.tmp 78) 3 (.string e.key) rfl rfl rfl ?_
      simp only [Act.put, List.getElem_toArray, List.getElem_cons_zero, List.getElem_cons_succ, List.setIfInBounds_toArray, List.set_cons_zero, List.set_cons_succ]
      refine Mm.o_callH (v := .string m1) H (fun W h => h) rfl rfl 11 (#[.slice a0 n c0, .string e.sender]) (by go_simp; first | done | rfl) (q1.out _ (HV.out.to H.out.below)) ?_
      clear H
      intro _ H hb
      clear hb
      simp only [Act.put, List.getElem_toArray, List.getElem_cons_zero, List.getElem_cons_succ, List.setIfInBounds_toArray, List.set_cons_zero, List.set_cons_succ]
      refine Mm.o_callH (v := .string m2) H (fun W h => h) rfl rfl 11 (#[.slice a0 n c0, .string e.key]) (by go_simp; first | done | rfl) (q2.out _ (HV.out.to H.out.below)) ?_
      clear H
      intro _ H hb
      clear hb
      simp only [Act.put, List.getElem_toArray, List.getElem_cons_zero, List.getElem_cons_succ, List.setIfInBounds_toArray, List.set_cons_zero, List.set_cons_succ]
      refine Mm.o_callH (v := .bool BI) H (fun W h => h) rfl rfl 65 (#[.agg (dkR e (.slice a0 n c0) l u r).toArray, .int .i64 l.i]) (by go_simp; first | done | rfl) (q3.out _ (HU.out.to H.out.below)) ?_
      clear H
      intro _ H hb
      clear hb
      simp only [Act.put, List.getElem_toArray, List.getElem_cons_zero, List.getElem_cons_succ, List.setIfInBounds_toArray, List.set_cons_zero, List.set_cons_succ]
      refine Mm.o_callH (v := .bool BK) H (fun W h => h) rfl rfl 65 (#[.agg (dkR e (.slice a0 n c0) l u r).toArray, .int .i64 l.k]) (by go_simp; first | done | rfl) (q4.out _ (HU.out.to H.out.below)) ?_
      clear H
      intro _ H hb
      clear hb
      simp only [Act.put, List.getElem_toArray, List.getElem_cons_zero, List.getElem_cons_succ, List.setIfInBounds_toArray, List.set_cons_zero, List.set_cons_succ]
      refine Mm.o_callH (v := .bool BB) H (fun W h => h) rfl rfl 65 (#[.agg (dkR e (.slice a0 n c0) l u r).toArray, .int .i64 l.b]) (by go_simp; first | done | rfl) (q5.out _ (HU.out.to H.out.below)) ?_
      clear H
      intro _ H hb
      clear hb
      simp only [Act.put, List.getElem_toArray, List.getElem_cons_zero, List.getElem_cons_succ, List.setIfInBounds_toArray, List.set_cons_zero, List.set_cons_succ]
      refine Mm.o_callH (v := .int .i64 oa) H (fun W h => h) rfl rfl 66 (#[.agg (dkR e (.slice a0 n c0) l u r).toArray]) (by go_simp; first | done | rfl) (q6.out _ (HU.out.to H.out.below)) ?_
      clear H
      intro _ H hb
      clear hb
      simp only [Act.put, List.getElem_toArray, List.getElem_cons_zero, List.getElem_cons_succ, List.setIfInBounds_toArray, List.set_cons_zero, List.set_cons_succ]
      refine Mm.o_callH (v := .int .i64 ob) H (fun W h => h) rfl rfl 22 (#[.agg #[.int .i64 l.a, .int .i64 l.s, .int .i64 l.i, .int .i64 l.k, .int .i64 l.b, .int .i64 l.r, u], .string e.key]) (by go_simp; first | done | rfl) (q7.out _ (HU.out.to H.out.below)) ?_
      clear H
      intro _ H hb
      clear hb
      simp only [Act.put, List.getElem_toArray, List.getElem_cons_zero, List.getElem_cons_succ, List.setIfInBounds_toArray, List.set_cons_zero, List.set_cons_succ]
      apply s_val (v := .bool AB)
      case ho => rfl
      case hw => rfl
      case hv => intro w hw; have q := hAB; have q2 := hAB2; go_simp; first | done | with_reducible rfl | rfl
      simp only [Act.put, List.getElem_toArray, List.getElem_cons_zero, List.getElem_cons_succ, List.setIfInBounds_toArray, List.set_cons_zero, List.set_cons_succ]
      apply s_val (v := .agg #[.string r, .string m1, .string m2, .string e.body, .bool SF, .bool BI, .bool BK, .bool BB, .bool AB])
      case ho => rfl
      case hw => rfl
      case hv => intro w hw; go_simp; first | done | with_reducible rfl | rfl
      simp only [Act.put, List.getElem_toArray, List.getElem_cons_zero, List.getElem_cons_succ, List.setIfInBounds_toArray, List.set_cons_zero, List.set_cons_succ]
      refine Mm.o_callH (v := .int .i64 Z) H (fun W h => h) rfl rfl 64 (#[.agg #[.string r, .string m1, .string m2, .string e.body, .bool SF, .bool BI, .bool BK, .bool BB, .bool AB]]) (by go_simp; first | done | rfl) (q8.out _) ?_
      clear H
      intro _ H hb
      clear hb
      simp only [Act.put, List.getElem_toArray, List.getElem_cons_zero, List.getElem_cons_succ, List.setIfInBounds_toArray, List.set_cons_zero, List.set_cons_succ]
      apply s_val
      case ho => rfl
      case hw => rfl
      case hv => intro w hw; go_simp; first | done | with_reducible rfl | rfl
      simp only [Act.put, List.getElem_toArray, List.getElem_cons_zero, List.getElem_cons_succ, List.setIfInBounds_toArray, List.set_cons_zero, List.set_cons_succ]
      refine NoPanic.normal ?_
      go_wp2_with fail
      go_ret
      exact ⟨by rw [HF.out]; rfl, H.out.below⟩
    | true =>
      have hn1 : n = 1 := by have := beq_iff_eq.1 c1; omega
      cases c2 : (e.sender.toList == fo.toList) with
      | false =>
        have HF := hidp (show mbE cs e fo l r = Z from hgo (fun h => by simp [h.2.1] at c2))
        clear hn1
        go_enter Tryz.func31, Tryz.ntmps31
        go_wp2_with (first | (refine Mm.box 64 H rfl (.tmp 0) rfl (dkR e (.slice a0 n c0) l u r) rfl ?_; clear H; intro b2 _ H nw; have hb := nw.below; clear hb nw) | (refine Mm.ld0 naS H rfl (.tmp 6) 4 (.string e.body) rfl rfl rfl ?_) | (go_at_call 63; refine (ci.out _).mono ?_; rintro e _ ⟨rfl, hb⟩; replace H := hidp (H.out.call hb); clear hb) | (refine Mm.skipd 22 rfl _ _ rfl rfl ?_) | (refine Mm.skipd 23 rfl _ _ rfl rfl ?_) | (refine Mm.skipd 24 rfl _ _ rfl rfl ?_) | (refine Mm.skipd 25 rfl _ _ rfl rfl ?_) | (refine Mm.skipd 26 rfl _ _ rfl rfl ?_) | (refine Mm.skipd 29 rfl _ _ rfl rfl ?_) | (refine Mm.skipd 30 rfl _ _ rfl rfl ?_) | (refine Mm.skipd 31 rfl _ _ rfl rfl ?_) | (refine Mm.skipd 32 rfl _ _ rfl rfl ?_) | (refine Mm.ld0 naC H rfl (.tmp 10) 6 _ rfl rfl rfl ?_) | (refine Mm.ld0 naS H rfl (.tmp 16) 1 (.string e.sender) rfl rfl rfl ?_))
        refine Mm.region H (.take 0 (.take 1 (.take 2 (.take 3 (.take 4 (.take 5 (.take 6 (.take 8 (.take 9 (.take 10 (.take 11 (.take 12 (.take 14 (.take 15 (.take 16 (.take 17 (.take 18 (.take 19 (.take 20 (.take 21 (.take 22 (.take 23 (.take 24 (.take 25 (.take 26 (.take 27 (.take 29 (.take 30 (.take 31 (.take 32 (.take 34 (.take 35 (.take 36 (.take 37 (.take 39 (.take 41 (.take 42 (.take 43 (.take 44 (.take 45 (.one 7 (.one 13 (.one 28 (.one 33 (.one 38 (.one 40 (.one 46 (.take 47 (.take 48 (.one 49 (.take 50 .done))))))))))))))))))))))))))))))))))))))))))))))))))) (by kernel_rfl) (by kernel_rfl) (by simp [Scr.depth]) (by kernel_rfl) ?_
        clear H
        intro _ H hb
        clear hb
        apply s_val
        case ho => rfl
        case hw => rfl
        case hv => intro w hw; go_simp; first | done | with_reducible rfl | rfl
        simp only [Act.put, List.getElem_toArray, List.getElem_cons_zero, List.getElem_cons_succ, List.setIfInBounds_toArray, List.set_cons_zero, List.set_cons_succ]
        refine Mm.sld0 naS (fun w h => h) rfl rfl (.tmp 34) 14 (.string r) rfl rfl rfl ?_
        simp only [Act.put, List.getElem_toArray, List.getElem_cons_zero, List.getElem_cons_succ, List.setIfInBounds_toArray, List.set_cons_zero, List.set_cons_succ]
        apply s_val
        case ho => rfl
        case hw => rfl
        case hv => intro w hw; go_simp; first | done | with_reducible rfl | rfl
        simp only [Act.put, List.getElem_toArray, List.getElem_cons_zero, List.getElem_cons_succ, List.setIfInBounds_toArray, List.set_cons_zero, List.set_cons_succ]
        refine Mm.sld0 naC (fun w h => h) rfl rfl (.tmp 36) 6 _ rfl rfl rfl ?_
        simp only [Act.put, List.getElem_toArray, List.getElem_cons_zero, List.getElem_cons_succ, List.setIfInBounds_toArray, List.set_cons_zero, List.set_cons_succ]
        apply s_val
        case ho => rfl
        case hw => rfl
        case hv => intro w hw; go_simp; first | done | with_reducible rfl | rfl
        simp only [Act.put, List.getElem_toArray, List.getElem_cons_zero, List.getElem_cons_succ, List.setIfInBounds_toArray, List.set_cons_zero, List.set_cons_succ]
        apply s_val
        case ho => rfl
        case hw => rfl
        case hv => intro w hw; go_simp; first | done | with_reducible rfl | rfl
        simp only [Act.put, List.getElem_toArray, List.getElem_cons_zero, List.getElem_cons_succ, List.setIfInBounds_toArray, List.set_cons_zero, List.set_cons_succ]
        refine Mm.sld0 naS (fun w h => h) rfl rfl (.tmp 39) 1 (.string e.sender) rfl rfl rfl ?_
        simp only [Act.put, List.getElem_toArray, List.getElem_cons_zero, List.getElem_cons_succ, List.setIfInBounds_toArray, List.set_cons_zero, List.set_cons_succ]
        apply s_val
        case ho => rfl
        case hw => rfl
        case hv => intro w hw; go_simp; first | done | with_reducible rfl | rfl
        simp only [Act.put, List.getElem_toArray, List.getElem_cons_zero, List.getElem_cons_succ, List.setIfInBounds_toArray, List.set_cons_zero, List.set_cons_succ]
        refine Mm.sld0 naC (fun w h => h) rfl rfl (.tmp 42) 6 _ rfl rfl rfl ?_
        simp only [Act.put, List.getElem_toArray, List.getElem_cons_zero, List.getElem_cons_succ, List.setIfInBounds_toArray, List.set_cons_zero, List.set_cons_succ]
        apply s_val
        case ho => rfl
        case hw => rfl
        case hv => intro w hw; go_simp; first | done | with_reducible rfl | rfl
        simp only [Act.put, List.getElem_toArray, List.getElem_cons_zero, List.getElem_cons_succ, List.setIfInBounds_toArray, List.set_cons_zero, List.set_cons_succ]
        apply s_val
        case ho => rfl
        case hw => rfl
        case hv => intro w hw; go_simp; first | done | with_reducible rfl | rfl
        simp only [Act.put, List.getElem_toArray, List.getElem_cons_zero, List.getElem_cons_succ, List.setIfInBounds_toArray, List.set_cons_zero, List.set_cons_succ]
        refine Mm.sld0 naS (fun w h => h) rfl rfl (.tmp 45) 3 (.string e.key) rfl rfl rfl ?_
        simp only [Act.put, List.getElem_toArray, List.getElem_cons_zero, List.getElem_cons_succ, List.setIfInBounds_toArray, List.set_cons_zero, List.set_cons_succ]
        apply s_val
        case ho => rfl
        case hw => rfl
        case hv => intro w hw; go_simp; first | done | with_reducible rfl | rfl
        simp only [Act.put, List.getElem_toArray, List.getElem_cons_zero, List.getElem_cons_succ, List.setIfInBounds_toArray, List.set_cons_zero, List.set_cons_succ]
        apply s_val
        case ho => rfl
        case hw => rfl
        case hv => intro w hw; go_simp; first | done | with_reducible rfl | rfl
        simp only [Act.put, List.getElem_toArray, List.getElem_cons_zero, List.getElem_cons_succ, List.setIfInBounds_toArray, List.set_cons_zero, List.set_cons_succ]
        refine Mm.sld0 naS (fun w h => h) rfl rfl (.tmp 49) 4 (.string e.body) rfl rfl rfl ?_
        simp only [Act.put, List.getElem_toArray, List.getElem_cons_zero, List.getElem_cons_succ, List.setIfInBounds_toArray, List.set_cons_zero, List.set_cons_succ]
        apply s_val
        case ho => rfl
        case hw => rfl
        case hv => intro w hw; go_simp; first | done | with_reducible rfl | rfl
        simp only [Act.put, List.getElem_toArray, List.getElem_cons_zero, List.getElem_cons_succ, List.setIfInBounds_toArray, List.set_cons_zero, List.set_cons_succ]
        apply s_val
        case ho => rfl
        case hw => rfl
        case hv => intro w hw; go_simp; first | done | with_reducible rfl | rfl
        simp only [Act.put, List.getElem_toArray, List.getElem_cons_zero, List.getElem_cons_succ, List.setIfInBounds_toArray, List.set_cons_zero, List.set_cons_succ]
        refine Mm.sld0 naS (fun w h => h) rfl rfl (.tmp 52) 1 (.string e.sender) rfl rfl rfl ?_
        simp only [Act.put, List.getElem_toArray, List.getElem_cons_zero, List.getElem_cons_succ, List.setIfInBounds_toArray, List.set_cons_zero, List.set_cons_succ]
        apply s_val
        case ho => rfl
        case hw => rfl
        case hv => intro w hw; go_simp; first | done | with_reducible rfl | rfl
        simp only [Act.put, List.getElem_toArray, List.getElem_cons_zero, List.getElem_cons_succ, List.setIfInBounds_toArray, List.set_cons_zero, List.set_cons_succ]
        apply s_val
        case ho => rfl
        case hw => rfl
        case hv => intro w hw; go_simp; first | done | with_reducible rfl | rfl
        simp only [Act.put, List.getElem_toArray, List.getElem_cons_zero, List.getElem_cons_succ, List.setIfInBounds_toArray, List.set_cons_zero, List.set_cons_succ]
        refine Mm.sld0 naS (fun w h => h) rfl rfl (.tmp 55) 3 (.string e.key) rfl rfl rfl ?_
        simp only [Act.put, List.getElem_toArray, List.getElem_cons_zero, List.getElem_cons_succ, List.setIfInBounds_toArray, List.set_cons_zero, List.set_cons_succ]
        apply s_val (v := .bool SF)
        case ho => rfl
        case hw => rfl
        case hv => intro w hw; have q := hSF; go_simp; first | done | with_reducible rfl | rfl
        simp only [Act.put, List.getElem_toArray, List.getElem_cons_zero, List.getElem_cons_succ, List.setIfInBounds_toArray, List.set_cons_zero, List.set_cons_succ]
        refine Mm.sget0 rtD (fun w h => h) rfl rfl (.tmp 2) rfl rfl rfl ?_
        simp only [Act.put, List.getElem_toArray, List.getElem_cons_zero, List.getElem_cons_succ, List.setIfInBounds_toArray, List.set_cons_zero, List.set_cons_succ]
        apply s_val
        case ho => rfl
        case hw => rfl
        case hv => intro w hw; go_simp; first | done | with_reducible rfl | rfl
        simp only [Act.put, List.getElem_toArray, List.getElem_cons_zero, List.getElem_cons_succ, List.setIfInBounds_toArray, List.set_cons_zero, List.set_cons_succ]
        apply s_val
        case ho => rfl
        case hw => rfl
        case hv => intro w hw; go_simp; first | done | with_reducible rfl | rfl
        simp only [Act.put, List.getElem_toArray, List.getElem_cons_zero, List.getElem_cons_succ, List.setIfInBounds_toArray, List.set_cons_zero, List.set_cons_succ]
        refine Mm.sld0 naInt (fun w h => h) rfl rfl (.tmp 60) 9 (.int .i64 l.i) rfl rfl rfl ?_
        simp only [Act.put, List.getElem_toArray, List.getElem_cons_zero, List.getElem_cons_succ, List.setIfInBounds_toArray, List.set_cons_zero, List.set_cons_succ]
        refine Mm.sget0 rtD (fun w h => h) rfl rfl (.tmp 2) rfl rfl rfl ?_
        simp only [Act.put, List.getElem_toArray, List.getElem_cons_zero, List.getElem_cons_succ, List.setIfInBounds_toArray, List.set_cons_zero, List.set_cons_succ]
        apply s_val
        case ho => rfl
        case hw => rfl
        case hv => intro w hw; go_simp; first | done | with_reducible rfl | rfl
        simp only [Act.put, List.getElem_toArray, List.getElem_cons_zero, List.getElem_cons_succ, List.setIfInBounds_toArray, List.set_cons_zero, List.set_cons_succ]
        apply s_val
        case ho => rfl
        case hw => rfl
        case hv => intro w hw; go_simp; first | done | with_reducible rfl | rfl
        simp only [Act.put, List.getElem_toArray, List.getElem_cons_zero, List.getElem_cons_succ, List.setIfInBounds_toArray, List.set_cons_zero, List.set_cons_succ]
        refine Mm.sld0 naInt (fun w h => h) rfl rfl (.tmp 65) 10 (.int .i64 l.k) rfl rfl rfl ?_
        simp only [Act.put, List.getElem_toArray, List.getElem_cons_zero, List.getElem_cons_succ, List.setIfInBounds_toArray, List.set_cons_zero, List.set_cons_succ]
        refine Mm.sget0 rtD (fun w h => h) rfl rfl (.tmp 2) rfl rfl rfl ?_
        simp only [Act.put, List.getElem_toArray, List.getElem_cons_zero, List.getElem_cons_succ, List.setIfInBounds_toArray, List.set_cons_zero, List.set_cons_succ]
        apply s_val
        case ho => rfl
        case hw => rfl
        case hv => intro w hw; go_simp; first | done | with_reducible rfl | rfl
        simp only [Act.put, List.getElem_toArray, List.getElem_cons_zero, List.getElem_cons_succ, List.setIfInBounds_toArray, List.set_cons_zero, List.set_cons_succ]
        apply s_val
        case ho => rfl
        case hw => rfl
        case hv => intro w hw; go_simp; first | done | with_reducible rfl | rfl
        simp only [Act.put, List.getElem_toArray, List.getElem_cons_zero, List.getElem_cons_succ, List.setIfInBounds_toArray, List.set_cons_zero, List.set_cons_succ]
        refine Mm.sld0 naInt (fun w h => h) rfl rfl (.tmp 70) 11 (.int .i64 l.b) rfl rfl rfl ?_
        simp only [Act.put, List.getElem_toArray, List.getElem_cons_zero, List.getElem_cons_succ, List.setIfInBounds_toArray, List.set_cons_zero, List.set_cons_succ]
        refine Mm.sget0 rtD (fun w h => h) rfl rfl (.tmp 2) rfl rfl rfl ?_
        simp only [Act.put, List.getElem_toArray, List.getElem_cons_zero, List.getElem_cons_succ, List.setIfInBounds_toArray, List.set_cons_zero, List.set_cons_succ]
        apply s_val
        case ho => rfl
        case hw => rfl
        case hv => intro w hw; go_simp; first | done | with_reducible rfl | rfl
        simp only [Act.put, List.getElem_toArray, List.getElem_cons_zero, List.getElem_cons_succ, List.setIfInBounds_toArray, List.set_cons_zero, List.set_cons_succ]
        refine s_mid tyL rfl rfl (.tmp 75) b2 7 [.int .i64 l.a, .int .i64 l.s, .int .i64 l.i, .int .i64 l.k, .int .i64 l.b, .int .i64 l.r, u] rfl rfl rfl (fun w h => dk_lv (Mm.M.at0 h)) ?_
        simp only [Act.put, List.getElem_toArray, List.getElem_cons_zero, List.getElem_cons_succ, List.setIfInBounds_toArray, List.set_cons_zero, List.set_cons_succ]
        apply s_val
        case ho => rfl
        case hw => rfl
        case hv => intro w hw; go_simp; first | done | with_reducible rfl | rfl
        simp only [Act.put, List.getElem_toArray, List.getElem_cons_zero, List.getElem_cons_succ, List.setIfInBounds_toArray, List.set_cons_zero, List.set_cons_succ]
        apply s_val
        case ho => rfl
        case hw => rfl
        case hv => intro w hw; go_simp; first | done | with_reducible rfl | rfl
        simp only [Act.put, List.getElem_toArray, List.getElem_cons_zero, List.getElem_cons_succ, List.setIfInBounds_toArray, List.set_cons_zero, List.set_cons_succ]
        refine Mm.sld0 naS (fun w h => h) rfl rfl (.tmp 78) 3 (.string e.key) rfl rfl rfl ?_
        simp only [Act.put, List.getElem_toArray, List.getElem_cons_zero, List.getElem_cons_succ, List.setIfInBounds_toArray, List.set_cons_zero, List.set_cons_succ]
        refine Mm.o_callH (v := .string m1) H (fun W h => h) rfl rfl 11 (#[.slice a0 n c0, .string e.sender]) (by go_simp; first | done | rfl) (q1.out _ (HV.out.to H.out.below)) ?_
        clear H
        intro _ H hb
        clear hb
        simp only [Act.put, List.getElem_toArray, List.getElem_cons_zero, List.getElem_cons_succ, List.setIfInBounds_toArray, List.set_cons_zero, List.set_cons_succ]
        refine Mm.o_callH (v := .string m2) H (fun W h => h) rfl rfl 11 (#[.slice a0 n c0, .string e.key]) (by go_simp; first | done | rfl) (q2.out _ (HV.out.to H.out.below)) ?_
        clear H
        intro _ H hb
        clear hb
        simp only [Act.put, List.getElem_toArray, List.getElem_cons_zero, List.getElem_cons_succ, List.setIfInBounds_toArray, List.set_cons_zero, List.set_cons_succ]
        refine Mm.o_callH (v := .bool BI) H (fun W h => h) rfl rfl 65 (#[.agg (dkR e (.slice a0 n c0) l u r).toArray, .int .i64 l.i]) (by go_simp; first | done | rfl) (q3.out _ (HU.out.to H.out.below)) ?_
        clear H
        intro _ H hb
        clear hb
        simp only [Act.put, List.getElem_toArray, List.getElem_cons_zero, List.getElem_cons_succ, List.setIfInBounds_toArray, List.set_cons_zero, List.set_cons_succ]
        refine Mm.o_callH (v := .bool BK) H (fun W h => h) rfl rfl 65 (#[.agg (dkR e (.slice a0 n c0) l u r).toArray, .int .i64 l.k]) (by go_simp; first | done | rfl) (q4.out _ (HU.out.to H.out.below)) ?_
        clear H
        intro _ H hb
        clear hb
        simp only [Act.put, List.getElem_toArray, List.getElem_cons_zero, List.getElem_cons_succ, List.setIfInBounds_toArray, List.set_cons_zero, List.set_cons_succ]
        refine Mm.o_callH (v := .bool BB) H (fun W h => h) rfl rfl 65 (#[.agg (dkR e (.slice a0 n c0) l u r).toArray, .int .i64 l.b]) (by go_simp; first | done | rfl) (q5.out _ (HU.out.to H.out.below)) ?_
        clear H
        intro _ H hb
        clear hb
        simp only [Act.put, List.getElem_toArray, List.getElem_cons_zero, List.getElem_cons_succ, List.setIfInBounds_toArray, List.set_cons_zero, List.set_cons_succ]
        refine Mm.o_callH (v := .int .i64 oa) H (fun W h => h) rfl rfl 66 (#[.agg (dkR e (.slice a0 n c0) l u r).toArray]) (by go_simp; first | done | rfl) (q6.out _ (HU.out.to H.out.below)) ?_
        clear H
        intro _ H hb
        clear hb
        simp only [Act.put, List.getElem_toArray, List.getElem_cons_zero, List.getElem_cons_succ, List.setIfInBounds_toArray, List.set_cons_zero, List.set_cons_succ]
        refine Mm.o_callH (v := .int .i64 ob) H (fun W h => h) rfl rfl 22 (#[.agg #[.int .i64 l.a, .int .i64 l.s, .int .i64 l.i, .int .i64 l.k, .int .i64 l.b, .int .i64 l.r, u], .string e.key]) (by go_simp; first | done | rfl) (q7.out _ (HU.out.to H.out.below)) ?_
        clear H
        intro _ H hb
        clear hb
        simp only [Act.put, List.getElem_toArray, List.getElem_cons_zero, List.getElem_cons_succ, List.setIfInBounds_toArray, List.set_cons_zero, List.set_cons_succ]
        apply s_val (v := .bool AB)
        case ho => rfl
        case hw => rfl
        case hv => intro w hw; have q := hAB; have q2 := hAB2; go_simp; first | done | with_reducible rfl | rfl
        simp only [Act.put, List.getElem_toArray, List.getElem_cons_zero, List.getElem_cons_succ, List.setIfInBounds_toArray, List.set_cons_zero, List.set_cons_succ]
        apply s_val (v := .agg #[.string r, .string m1, .string m2, .string e.body, .bool SF, .bool BI, .bool BK, .bool BB, .bool AB])
        case ho => rfl
        case hw => rfl
        case hv => intro w hw; go_simp; first | done | with_reducible rfl | rfl
        simp only [Act.put, List.getElem_toArray, List.getElem_cons_zero, List.getElem_cons_succ, List.setIfInBounds_toArray, List.set_cons_zero, List.set_cons_succ]
        refine Mm.o_callH (v := .int .i64 Z) H (fun W h => h) rfl rfl 64 (#[.agg #[.string r, .string m1, .string m2, .string e.body, .bool SF, .bool BI, .bool BK, .bool BB, .bool AB]]) (by go_simp; first | done | rfl) (q8.out _) ?_
        clear H
        intro _ H hb
        clear hb
        simp only [Act.put, List.getElem_toArray, List.getElem_cons_zero, List.getElem_cons_succ, List.setIfInBounds_toArray, List.set_cons_zero, List.set_cons_succ]
        apply s_val
        case ho => rfl
        case hw => rfl
        case hv => intro w hw; go_simp; first | done | with_reducible rfl | rfl
        simp only [Act.put, List.getElem_toArray, List.getElem_cons_zero, List.getElem_cons_succ, List.setIfInBounds_toArray, List.set_cons_zero, List.set_cons_succ]
        refine NoPanic.normal ?_
        go_wp2_with fail
        go_ret
        exact ⟨by rw [HF.out]; rfl, H.out.below⟩
      | true =>
        cases c3 : (e.key.toList == fo.toList) with
        | false =>
          have HF := hidp (show mbE cs e fo l r = Z from hgo (fun h => by simp [h.2.2.1] at c3))
          clear hn1
          go_enter Tryz.func31, Tryz.ntmps31
          go_wp2_with (first | (refine Mm.box 64 H rfl (.tmp 0) rfl (dkR e (.slice a0 n c0) l u r) rfl ?_; clear H; intro b2 _ H nw; have hb := nw.below; clear hb nw) | (refine Mm.ld0 naS H rfl (.tmp 6) 4 (.string e.body) rfl rfl rfl ?_) | (go_at_call 63; refine (ci.out _).mono ?_; rintro e _ ⟨rfl, hb⟩; replace H := hidp (H.out.call hb); clear hb) | (refine Mm.skipd 29 rfl _ _ rfl rfl ?_) | (refine Mm.skipd 30 rfl _ _ rfl rfl ?_) | (refine Mm.skipd 31 rfl _ _ rfl rfl ?_) | (refine Mm.skipd 32 rfl _ _ rfl rfl ?_) | (refine Mm.ld0 naC H rfl (.tmp 10) 6 _ rfl rfl rfl ?_) | (refine Mm.ld0 naS H rfl (.tmp 16) 1 (.string e.sender) rfl rfl rfl ?_) | (refine Mm.ld0 naS H rfl (.tmp 23) 3 (.string e.key) rfl rfl rfl ?_))
          refine Mm.region H (.take 0 (.take 1 (.take 2 (.take 3 (.take 4 (.take 5 (.take 6 (.take 8 (.take 9 (.take 10 (.take 11 (.take 12 (.take 14 (.take 15 (.take 16 (.take 17 (.take 18 (.take 19 (.take 20 (.take 21 (.take 22 (.take 23 (.take 24 (.take 25 (.take 26 (.take 27 (.take 29 (.take 30 (.take 31 (.take 32 (.take 34 (.take 35 (.take 36 (.take 37 (.take 39 (.take 41 (.take 42 (.take 43 (.take 44 (.take 45 (.one 7 (.one 13 (.one 28 (.one 33 (.one 38 (.one 40 (.one 46 (.take 47 (.take 48 (.one 49 (.take 50 .done))))))))))))))))))))))))))))))))))))))))))))))))))) (by kernel_rfl) (by kernel_rfl) (by simp [Scr.depth]) (by kernel_rfl) ?_
          clear H
          intro _ H hb
          clear hb
          apply s_val
          case ho => rfl
          case hw => rfl
          case hv => intro w hw; go_simp; first | done | with_reducible rfl | rfl
          simp only [Act.put, List.getElem_toArray, List.getElem_cons_zero, List.getElem_cons_succ, List.setIfInBounds_toArray, List.set_cons_zero, List.set_cons_succ]
          refine Mm.sld0 naS (fun w h => h) rfl rfl (.tmp 34) 14 (.string r) rfl rfl rfl ?_
          simp only [Act.put, List.getElem_toArray, List.getElem_cons_zero, List.getElem_cons_succ, List.setIfInBounds_toArray, List.set_cons_zero, List.set_cons_succ]
          apply s_val
          case ho => rfl
          case hw => rfl
          case hv => intro w hw; go_simp; first | done | with_reducible rfl | rfl
          simp only [Act.put, List.getElem_toArray, List.getElem_cons_zero, List.getElem_cons_succ, List.setIfInBounds_toArray, List.set_cons_zero, List.set_cons_succ]
          refine Mm.sld0 naC (fun w h => h) rfl rfl (.tmp 36) 6 _ rfl rfl rfl ?_
          simp only [Act.put, List.getElem_toArray, List.getElem_cons_zero, List.getElem_cons_succ, List.setIfInBounds_toArray, List.set_cons_zero, List.set_cons_succ]
          apply s_val
          case ho => rfl
          case hw => rfl
          case hv => intro w hw; go_simp; first | done | with_reducible rfl | rfl
          simp only [Act.put, List.getElem_toArray, List.getElem_cons_zero, List.getElem_cons_succ, List.setIfInBounds_toArray, List.set_cons_zero, List.set_cons_succ]
          apply s_val
          case ho => rfl
          case hw => rfl
          case hv => intro w hw; go_simp; first | done | with_reducible rfl | rfl
          simp only [Act.put, List.getElem_toArray, List.getElem_cons_zero, List.getElem_cons_succ, List.setIfInBounds_toArray, List.set_cons_zero, List.set_cons_succ]
          refine Mm.sld0 naS (fun w h => h) rfl rfl (.tmp 39) 1 (.string e.sender) rfl rfl rfl ?_
          simp only [Act.put, List.getElem_toArray, List.getElem_cons_zero, List.getElem_cons_succ, List.setIfInBounds_toArray, List.set_cons_zero, List.set_cons_succ]
          apply s_val
          case ho => rfl
          case hw => rfl
          case hv => intro w hw; go_simp; first | done | with_reducible rfl | rfl
          simp only [Act.put, List.getElem_toArray, List.getElem_cons_zero, List.getElem_cons_succ, List.setIfInBounds_toArray, List.set_cons_zero, List.set_cons_succ]
          refine Mm.sld0 naC (fun w h => h) rfl rfl (.tmp 42) 6 _ rfl rfl rfl ?_
          simp only [Act.put, List.getElem_toArray, List.getElem_cons_zero, List.getElem_cons_succ, List.setIfInBounds_toArray, List.set_cons_zero, List.set_cons_succ]
          apply s_val
          case ho => rfl
          case hw => rfl
          case hv => intro w hw; go_simp; first | done | with_reducible rfl | rfl
          simp only [Act.put, List.getElem_toArray, List.getElem_cons_zero, List.getElem_cons_succ, List.setIfInBounds_toArray, List.set_cons_zero, List.set_cons_succ]
          apply s_val
          case ho => rfl
          case hw => rfl
          case hv => intro w hw; go_simp; first | done | with_reducible rfl | rfl
          simp only [Act.put, List.getElem_toArray, List.getElem_cons_zero, List.getElem_cons_succ, List.setIfInBounds_toArray, List.set_cons_zero, List.set_cons_succ]
          refine Mm.sld0 naS (fun w h => h) rfl rfl (.tmp 45) 3 (.string e.key) rfl rfl rfl ?_
          simp only [Act.put, List.getElem_toArray, List.getElem_cons_zero, List.getElem_cons_succ, List.setIfInBounds_toArray, List.set_cons_zero, List.set_cons_succ]
          apply s_val
          case ho => rfl
          case hw => rfl
          case hv => intro w hw; go_simp; first | done | with_reducible rfl | rfl
          simp only [Act.put, List.getElem_toArray, List.getElem_cons_zero, List.getElem_cons_succ, List.setIfInBounds_toArray, List.set_cons_zero, List.set_cons_succ]
          apply s_val
          case ho => rfl
          case hw => rfl
          case hv => intro w hw; go_simp; first | done | with_reducible rfl | rfl
          simp only [Act.put, List.getElem_toArray, List.getElem_cons_zero, List.getElem_cons_succ, List.setIfInBounds_toArray, List.set_cons_zero, List.set_cons_succ]
          refine Mm.sld0 naS (fun w h => h) rfl rfl (.tmp 49) 4 (.string e.body) rfl rfl rfl ?_
          simp only [Act.put, List.getElem_toArray, List.getElem_cons_zero, List.getElem_cons_succ, List.setIfInBounds_toArray, List.set_cons_zero, List.set_cons_succ]
          apply s_val
          case ho => rfl
          case hw => rfl
          case hv => intro w hw; go_simp; first | done | with_reducible rfl | rfl
          simp only [Act.put, List.getElem_toArray, List.getElem_cons_zero, List.getElem_cons_succ, List.setIfInBounds_toArray, List.set_cons_zero, List.set_cons_succ]
          apply s_val
          case ho => rfl
          case hw => rfl
          case hv => intro w hw; go_simp; first | done | with_reducible rfl | rfl
          simp only [Act.put, List.getElem_toArray, List.getElem_cons_zero, List.getElem_cons_succ, List.setIfInBounds_toArray, List.set_cons_zero, List.set_cons_succ]
          refine Mm.sld0 naS (fun w h => h) rfl rfl (.tmp 52) 1 (.string e.sender) rfl rfl rfl ?_
          simp only [Act.put, List.getElem_toArray, List.getElem_cons_zero, List.getElem_cons_succ, List.setIfInBounds_toArray, List.set_cons_zero, List.set_cons_succ]
          apply s_val
          case ho => rfl
          case hw => rfl
          case hv => intro w hw; go_simp; first | done | with_reducible rfl | rfl
          simp only [Act.put, List.getElem_toArray, List.getElem_cons_zero, List.getElem_cons_succ, List.setIfInBounds_toArray, List.set_cons_zero, List.set_cons_succ]
          apply s_val
          case ho => rfl
          case hw => rfl
          case hv => intro w hw; go_simp; first | done | with_reducible rfl | rfl
          simp only [Act.put, List.getElem_toArray, List.getElem_cons_zero, List.getElem_cons_succ, List.setIfInBounds_toArray, List.set_cons_zero, List.set_cons_succ]
          refine Mm.sld0 naS (fun w h => h) rfl rfl (.tmp 55) 3 (.string e.key) rfl rfl rfl ?_
          simp only [Act.put, List.getElem_toArray, List.getElem_cons_zero, List.getElem_cons_succ, List.setIfInBounds_toArray, List.set_cons_zero, List.set_cons_succ]
          apply s_val (v := .bool SF)
          case ho => rfl
          case hw => rfl
          case hv => intro w hw; have q := hSF; go_simp; first | done | with_reducible rfl | rfl
          simp only [Act.put, List.getElem_toArray, List.getElem_cons_zero, List.getElem_cons_succ, List.setIfInBounds_toArray, List.set_cons_zero, List.set_cons_succ]
          refine Mm.sget0 rtD (fun w h => h) rfl rfl (.tmp 2) rfl rfl rfl ?_
          simp only [Act.put, List.getElem_toArray, List.getElem_cons_zero, List.getElem_cons_succ, List.setIfInBounds_toArray, List.set_cons_zero, List.set_cons_succ]
          apply s_val
          case ho => rfl
          case hw => rfl
          case hv => intro w hw; go_simp; first | done | with_reducible rfl | rfl
          simp only [Act.put, List.getElem_toArray, List.getElem_cons_zero, List.getElem_cons_succ, List.setIfInBounds_toArray, List.set_cons_zero, List.set_cons_succ]
          apply s_val
          case ho => rfl
          case hw => rfl
          case hv => intro w hw; go_simp; first | done | with_reducible rfl | rfl
          simp only [Act.put, List.getElem_toArray, List.getElem_cons_zero, List.getElem_cons_succ, List.setIfInBounds_toArray, List.set_cons_zero, List.set_cons_succ]
          refine Mm.sld0 naInt (fun w h => h) rfl rfl (.tmp 60) 9 (.int .i64 l.i) rfl rfl rfl ?_
          simp only [Act.put, List.getElem_toArray, List.getElem_cons_zero, List.getElem_cons_succ, List.setIfInBounds_toArray, List.set_cons_zero, List.set_cons_succ]
          refine Mm.sget0 rtD (fun w h => h) rfl rfl (.tmp 2) rfl rfl rfl ?_
          simp only [Act.put, List.getElem_toArray, List.getElem_cons_zero, List.getElem_cons_succ, List.setIfInBounds_toArray, List.set_cons_zero, List.set_cons_succ]
          apply s_val
          case ho => rfl
          case hw => rfl
          case hv => intro w hw; go_simp; first | done | with_reducible rfl | rfl
          simp only [Act.put, List.getElem_toArray, List.getElem_cons_zero, List.getElem_cons_succ, List.setIfInBounds_toArray, List.set_cons_zero, List.set_cons_succ]
          apply s_val
          case ho => rfl
          case hw => rfl
          case hv => intro w hw; go_simp; first | done | with_reducible rfl | rfl
          simp only [Act.put, List.getElem_toArray, List.getElem_cons_zero, List.getElem_cons_succ, List.setIfInBounds_toArray, List.set_cons_zero, List.set_cons_succ]
          refine Mm.sld0 naInt (fun w h => h) rfl rfl (.tmp 65) 10 (.int .i64 l.k) rfl rfl rfl ?_
          simp only [Act.put, List.getElem_toArray, List.getElem_cons_zero, List.getElem_cons_succ, List.setIfInBounds_toArray, List.set_cons_zero, List.set_cons_succ]
          refine Mm.sget0 rtD (fun w h => h) rfl rfl (.tmp 2) rfl rfl rfl ?_
          simp only [Act.put, List.getElem_toArray, List.getElem_cons_zero, List.getElem_cons_succ, List.setIfInBounds_toArray, List.set_cons_zero, List.set_cons_succ]
          apply s_val
          case ho => rfl
          case hw => rfl
          case hv => intro w hw; go_simp; first | done | with_reducible rfl | rfl
          simp only [Act.put, List.getElem_toArray, List.getElem_cons_zero, List.getElem_cons_succ, List.setIfInBounds_toArray, List.set_cons_zero, List.set_cons_succ]
          apply s_val
          case ho => rfl
          case hw => rfl
          case hv => intro w hw; go_simp; first | done | with_reducible rfl | rfl
          simp only [Act.put, List.getElem_toArray, List.getElem_cons_zero, List.getElem_cons_succ, List.setIfInBounds_toArray, List.set_cons_zero, List.set_cons_succ]
          refine Mm.sld0 naInt (fun w h => h) rfl rfl (.tmp 70) 11 (.int .i64 l.b) rfl rfl rfl ?_
          simp only [Act.put, List.getElem_toArray, List.getElem_cons_zero, List.getElem_cons_succ, List.setIfInBounds_toArray, List.set_cons_zero, List.set_cons_succ]
          refine Mm.sget0 rtD (fun w h => h) rfl rfl (.tmp 2) rfl rfl rfl ?_
          simp only [Act.put, List.getElem_toArray, List.getElem_cons_zero, List.getElem_cons_succ, List.setIfInBounds_toArray, List.set_cons_zero, List.set_cons_succ]
          apply s_val
          case ho => rfl
          case hw => rfl
          case hv => intro w hw; go_simp; first | done | with_reducible rfl | rfl
          simp only [Act.put, List.getElem_toArray, List.getElem_cons_zero, List.getElem_cons_succ, List.setIfInBounds_toArray, List.set_cons_zero, List.set_cons_succ]
          refine s_mid tyL rfl rfl (.tmp 75) b2 7 [.int .i64 l.a, .int .i64 l.s, .int .i64 l.i, .int .i64 l.k, .int .i64 l.b, .int .i64 l.r, u] rfl rfl rfl (fun w h => dk_lv (Mm.M.at0 h)) ?_
          simp only [Act.put, List.getElem_toArray, List.getElem_cons_zero, List.getElem_cons_succ, List.setIfInBounds_toArray, List.set_cons_zero, List.set_cons_succ]
          apply s_val
          case ho => rfl
          case hw => rfl
          case hv => intro w hw; go_simp; first | done | with_reducible rfl | rfl
          simp only [Act.put, List.getElem_toArray, List.getElem_cons_zero, List.getElem_cons_succ, List.setIfInBounds_toArray, List.set_cons_zero, List.set_cons_succ]
          apply s_val
          case ho => rfl
          case hw => rfl
          case hv => intro w hw; go_simp; first | done | with_reducible rfl | rfl
          simp only [Act.put, List.getElem_toArray, List.getElem_cons_zero, List.getElem_cons_succ, List.setIfInBounds_toArray, List.set_cons_zero, List.set_cons_succ]
          refine Mm.sld0 naS (fun w h => h) rfl rfl (.tmp 78) 3 (.string e.key) rfl rfl rfl ?_
          simp only [Act.put, List.getElem_toArray, List.getElem_cons_zero, List.getElem_cons_succ, List.setIfInBounds_toArray, List.set_cons_zero, List.set_cons_succ]
          refine Mm.o_callH (v := .string m1) H (fun W h => h) rfl rfl 11 (#[.slice a0 n c0, .string e.sender]) (by go_simp; first | done | rfl) (q1.out _ (HV.out.to H.out.below)) ?_
          clear H
          intro _ H hb
          clear hb
          simp only [Act.put, List.getElem_toArray, List.getElem_cons_zero, List.getElem_cons_succ, List.setIfInBounds_toArray, List.set_cons_zero, List.set_cons_succ]
          refine Mm.o_callH (v := .string m2) H (fun W h => h) rfl rfl 11 (#[.slice a0 n c0, .string e.key]) (by go_simp; first | done | rfl) (q2.out _ (HV.out.to H.out.below)) ?_
          clear H
          intro _ H hb
          clear hb
          simp only [Act.put, List.getElem_toArray, List.getElem_cons_zero, List.getElem_cons_succ, List.setIfInBounds_toArray, List.set_cons_zero, List.set_cons_succ]
          refine Mm.o_callH (v := .bool BI) H (fun W h => h) rfl rfl 65 (#[.agg (dkR e (.slice a0 n c0) l u r).toArray, .int .i64 l.i]) (by go_simp; first | done | rfl) (q3.out _ (HU.out.to H.out.below)) ?_
          clear H
          intro _ H hb
          clear hb
          simp only [Act.put, List.getElem_toArray, List.getElem_cons_zero, List.getElem_cons_succ, List.setIfInBounds_toArray, List.set_cons_zero, List.set_cons_succ]
          refine Mm.o_callH (v := .bool BK) H (fun W h => h) rfl rfl 65 (#[.agg (dkR e (.slice a0 n c0) l u r).toArray, .int .i64 l.k]) (by go_simp; first | done | rfl) (q4.out _ (HU.out.to H.out.below)) ?_
          clear H
          intro _ H hb
          clear hb
          simp only [Act.put, List.getElem_toArray, List.getElem_cons_zero, List.getElem_cons_succ, List.setIfInBounds_toArray, List.set_cons_zero, List.set_cons_succ]
          refine Mm.o_callH (v := .bool BB) H (fun W h => h) rfl rfl 65 (#[.agg (dkR e (.slice a0 n c0) l u r).toArray, .int .i64 l.b]) (by go_simp; first | done | rfl) (q5.out _ (HU.out.to H.out.below)) ?_
          clear H
          intro _ H hb
          clear hb
          simp only [Act.put, List.getElem_toArray, List.getElem_cons_zero, List.getElem_cons_succ, List.setIfInBounds_toArray, List.set_cons_zero, List.set_cons_succ]
          refine Mm.o_callH (v := .int .i64 oa) H (fun W h => h) rfl rfl 66 (#[.agg (dkR e (.slice a0 n c0) l u r).toArray]) (by go_simp; first | done | rfl) (q6.out _ (HU.out.to H.out.below)) ?_
          clear H
          intro _ H hb
          clear hb
          simp only [Act.put, List.getElem_toArray, List.getElem_cons_zero, List.getElem_cons_succ, List.setIfInBounds_toArray, List.set_cons_zero, List.set_cons_succ]
          refine Mm.o_callH (v := .int .i64 ob) H (fun W h => h) rfl rfl 22 (#[.agg #[.int .i64 l.a, .int .i64 l.s, .int .i64 l.i, .int .i64 l.k, .int .i64 l.b, .int .i64 l.r, u], .string e.key]) (by go_simp; first | done | rfl) (q7.out _ (HU.out.to H.out.below)) ?_
          clear H
          intro _ H hb
          clear hb
          simp only [Act.put, List.getElem_toArray, List.getElem_cons_zero, List.getElem_cons_succ, List.setIfInBounds_toArray, List.set_cons_zero, List.set_cons_succ]
          apply s_val (v := .bool AB)
          case ho => rfl
          case hw => rfl
          case hv => intro w hw; have q := hAB; have q2 := hAB2; go_simp; first | done | with_reducible rfl | rfl
          simp only [Act.put, List.getElem_toArray, List.getElem_cons_zero, List.getElem_cons_succ, List.setIfInBounds_toArray, List.set_cons_zero, List.set_cons_succ]
          apply s_val (v := .agg #[.string r, .string m1, .string m2, .string e.body, .bool SF, .bool BI, .bool BK, .bool BB, .bool AB])
          case ho => rfl
          case hw => rfl
          case hv => intro w hw; go_simp; first | done | with_reducible rfl | rfl
          simp only [Act.put, List.getElem_toArray, List.getElem_cons_zero, List.getElem_cons_succ, List.setIfInBounds_toArray, List.set_cons_zero, List.set_cons_succ]
          refine Mm.o_callH (v := .int .i64 Z) H (fun W h => h) rfl rfl 64 (#[.agg #[.string r, .string m1, .string m2, .string e.body, .bool SF, .bool BI, .bool BK, .bool BB, .bool AB]]) (by go_simp; first | done | rfl) (q8.out _) ?_
          clear H
          intro _ H hb
          clear hb
          simp only [Act.put, List.getElem_toArray, List.getElem_cons_zero, List.getElem_cons_succ, List.setIfInBounds_toArray, List.set_cons_zero, List.set_cons_succ]
          apply s_val
          case ho => rfl
          case hw => rfl
          case hv => intro w hw; go_simp; first | done | with_reducible rfl | rfl
          simp only [Act.put, List.getElem_toArray, List.getElem_cons_zero, List.getElem_cons_succ, List.setIfInBounds_toArray, List.set_cons_zero, List.set_cons_succ]
          refine NoPanic.normal ?_
          go_wp2_with fail
          go_ret
          exact ⟨by rw [HF.out]; rfl, H.out.below⟩
        | true =>
          cases c4 : (e.body.toList == ([106, 111, 105, 110] : List UInt8)) with
          | false =>
            have HF := hidp (show mbE cs e fo l r = Z from hgo (fun h => by rw [beq_eq_false_iff_ne] at c4; exact c4 (h.2.2.2.trans (toList_lit _))))
            clear hn1
            go_enter Tryz.func31, Tryz.ntmps31
            go_wp2_with (first | (refine Mm.box 64 H rfl (.tmp 0) rfl (dkR e (.slice a0 n c0) l u r) rfl ?_; clear H; intro b2 _ H nw; have hb := nw.below; clear hb nw) | (refine Mm.ld0 naS H rfl (.tmp 6) 4 (.string e.body) rfl rfl rfl ?_) | (go_at_call 63; refine (ci.out _).mono ?_; rintro e _ ⟨rfl, hb⟩; replace H := hidp (H.out.call hb); clear hb) | (refine Mm.ld0 naC H rfl (.tmp 10) 6 _ rfl rfl rfl ?_) | (refine Mm.ld0 naS H rfl (.tmp 16) 1 (.string e.sender) rfl rfl rfl ?_) | (refine Mm.ld0 naS H rfl (.tmp 23) 3 (.string e.key) rfl rfl rfl ?_) | (refine Mm.ld0 naS H rfl (.tmp 30) 4 (.string e.body) rfl rfl rfl ?_))
            refine Mm.region H (.take 0 (.take 1 (.take 2 (.take 3 (.take 4 (.take 5 (.take 6 (.take 8 (.take 9 (.take 10 (.take 11 (.take 12 (.take 14 (.take 15 (.take 16 (.take 17 (.take 18 (.take 19 (.take 20 (.take 21 (.take 22 (.take 23 (.take 24 (.take 25 (.take 26 (.take 27 (.take 29 (.take 30 (.take 31 (.take 32 (.take 34 (.take 35 (.take 36 (.take 37 (.take 39 (.take 41 (.take 42 (.take 43 (.take 44 (.take 45 (.one 7 (.one 13 (.one 28 (.one 33 (.one 38 (.one 40 (.one 46 (.take 47 (.take 48 (.one 49 (.take 50 .done))))))))))))))))))))))))))))))))))))))))))))))))))) (by kernel_rfl) (by kernel_rfl) (by simp [Scr.depth]) (by kernel_rfl) ?_
            clear H
            intro _ H hb
            clear hb
            apply s_val
            case ho => rfl
            case hw => rfl
            case hv => intro w hw; go_simp; first | done | with_reducible rfl | rfl
            simp only [Act.put, List.getElem_toArray, List.getElem_cons_zero, List.getElem_cons_succ, List.setIfInBounds_toArray, List.set_cons_zero, List.set_cons_succ]
            refine Mm.sld0 naS (fun w h => h) rfl rfl (.tmp 34) 14 (.string r) rfl rfl rfl ?_
            simp only [Act.put, List.getElem_toArray, List.getElem_cons_zero, List.getElem_cons_succ, List.setIfInBounds_toArray, List.set_cons_zero, List.set_cons_succ]
            apply s_val
            case ho => rfl
            case hw => rfl
            case hv => intro w hw; go_simp; first | done | with_reducible rfl | rfl
            simp only [Act.put, List.getElem_toArray, List.getElem_cons_zero, List.getElem_cons_succ, List.setIfInBounds_toArray, List.set_cons_zero, List.set_cons_succ]
            refine Mm.sld0 naC (fun w h => h) rfl rfl (.tmp 36) 6 _ rfl rfl rfl ?_
            simp only [Act.put, List.getElem_toArray, List.getElem_cons_zero, List.getElem_cons_succ, List.setIfInBounds_toArray, List.set_cons_zero, List.set_cons_succ]
            apply s_val
            case ho => rfl
            case hw => rfl
            case hv => intro w hw; go_simp; first | done | with_reducible rfl | rfl
            simp only [Act.put, List.getElem_toArray, List.getElem_cons_zero, List.getElem_cons_succ, List.setIfInBounds_toArray, List.set_cons_zero, List.set_cons_succ]
            apply s_val
            case ho => rfl
            case hw => rfl
            case hv => intro w hw; go_simp; first | done | with_reducible rfl | rfl
            simp only [Act.put, List.getElem_toArray, List.getElem_cons_zero, List.getElem_cons_succ, List.setIfInBounds_toArray, List.set_cons_zero, List.set_cons_succ]
            refine Mm.sld0 naS (fun w h => h) rfl rfl (.tmp 39) 1 (.string e.sender) rfl rfl rfl ?_
            simp only [Act.put, List.getElem_toArray, List.getElem_cons_zero, List.getElem_cons_succ, List.setIfInBounds_toArray, List.set_cons_zero, List.set_cons_succ]
            apply s_val
            case ho => rfl
            case hw => rfl
            case hv => intro w hw; go_simp; first | done | with_reducible rfl | rfl
            simp only [Act.put, List.getElem_toArray, List.getElem_cons_zero, List.getElem_cons_succ, List.setIfInBounds_toArray, List.set_cons_zero, List.set_cons_succ]
            refine Mm.sld0 naC (fun w h => h) rfl rfl (.tmp 42) 6 _ rfl rfl rfl ?_
            simp only [Act.put, List.getElem_toArray, List.getElem_cons_zero, List.getElem_cons_succ, List.setIfInBounds_toArray, List.set_cons_zero, List.set_cons_succ]
            apply s_val
            case ho => rfl
            case hw => rfl
            case hv => intro w hw; go_simp; first | done | with_reducible rfl | rfl
            simp only [Act.put, List.getElem_toArray, List.getElem_cons_zero, List.getElem_cons_succ, List.setIfInBounds_toArray, List.set_cons_zero, List.set_cons_succ]
            apply s_val
            case ho => rfl
            case hw => rfl
            case hv => intro w hw; go_simp; first | done | with_reducible rfl | rfl
            simp only [Act.put, List.getElem_toArray, List.getElem_cons_zero, List.getElem_cons_succ, List.setIfInBounds_toArray, List.set_cons_zero, List.set_cons_succ]
            refine Mm.sld0 naS (fun w h => h) rfl rfl (.tmp 45) 3 (.string e.key) rfl rfl rfl ?_
            simp only [Act.put, List.getElem_toArray, List.getElem_cons_zero, List.getElem_cons_succ, List.setIfInBounds_toArray, List.set_cons_zero, List.set_cons_succ]
            apply s_val
            case ho => rfl
            case hw => rfl
            case hv => intro w hw; go_simp; first | done | with_reducible rfl | rfl
            simp only [Act.put, List.getElem_toArray, List.getElem_cons_zero, List.getElem_cons_succ, List.setIfInBounds_toArray, List.set_cons_zero, List.set_cons_succ]
            apply s_val
            case ho => rfl
            case hw => rfl
            case hv => intro w hw; go_simp; first | done | with_reducible rfl | rfl
            simp only [Act.put, List.getElem_toArray, List.getElem_cons_zero, List.getElem_cons_succ, List.setIfInBounds_toArray, List.set_cons_zero, List.set_cons_succ]
            refine Mm.sld0 naS (fun w h => h) rfl rfl (.tmp 49) 4 (.string e.body) rfl rfl rfl ?_
            simp only [Act.put, List.getElem_toArray, List.getElem_cons_zero, List.getElem_cons_succ, List.setIfInBounds_toArray, List.set_cons_zero, List.set_cons_succ]
            apply s_val
            case ho => rfl
            case hw => rfl
            case hv => intro w hw; go_simp; first | done | with_reducible rfl | rfl
            simp only [Act.put, List.getElem_toArray, List.getElem_cons_zero, List.getElem_cons_succ, List.setIfInBounds_toArray, List.set_cons_zero, List.set_cons_succ]
            apply s_val
            case ho => rfl
            case hw => rfl
            case hv => intro w hw; go_simp; first | done | with_reducible rfl | rfl
            simp only [Act.put, List.getElem_toArray, List.getElem_cons_zero, List.getElem_cons_succ, List.setIfInBounds_toArray, List.set_cons_zero, List.set_cons_succ]
            refine Mm.sld0 naS (fun w h => h) rfl rfl (.tmp 52) 1 (.string e.sender) rfl rfl rfl ?_
            simp only [Act.put, List.getElem_toArray, List.getElem_cons_zero, List.getElem_cons_succ, List.setIfInBounds_toArray, List.set_cons_zero, List.set_cons_succ]
            apply s_val
            case ho => rfl
            case hw => rfl
            case hv => intro w hw; go_simp; first | done | with_reducible rfl | rfl
            simp only [Act.put, List.getElem_toArray, List.getElem_cons_zero, List.getElem_cons_succ, List.setIfInBounds_toArray, List.set_cons_zero, List.set_cons_succ]
            apply s_val
            case ho => rfl
            case hw => rfl
            case hv => intro w hw; go_simp; first | done | with_reducible rfl | rfl
            simp only [Act.put, List.getElem_toArray, List.getElem_cons_zero, List.getElem_cons_succ, List.setIfInBounds_toArray, List.set_cons_zero, List.set_cons_succ]
            refine Mm.sld0 naS (fun w h => h) rfl rfl (.tmp 55) 3 (.string e.key) rfl rfl rfl ?_
            simp only [Act.put, List.getElem_toArray, List.getElem_cons_zero, List.getElem_cons_succ, List.setIfInBounds_toArray, List.set_cons_zero, List.set_cons_succ]
            apply s_val (v := .bool SF)
            case ho => rfl
            case hw => rfl
            case hv => intro w hw; have q := hSF; go_simp; first | done | with_reducible rfl | rfl
            simp only [Act.put, List.getElem_toArray, List.getElem_cons_zero, List.getElem_cons_succ, List.setIfInBounds_toArray, List.set_cons_zero, List.set_cons_succ]
            refine Mm.sget0 rtD (fun w h => h) rfl rfl (.tmp 2) rfl rfl rfl ?_
            simp only [Act.put, List.getElem_toArray, List.getElem_cons_zero, List.getElem_cons_succ, List.setIfInBounds_toArray, List.set_cons_zero, List.set_cons_succ]
            apply s_val
            case ho => rfl
            case hw => rfl
            case hv => intro w hw; go_simp; first | done | with_reducible rfl | rfl
            simp only [Act.put, List.getElem_toArray, List.getElem_cons_zero, List.getElem_cons_succ, List.setIfInBounds_toArray, List.set_cons_zero, List.set_cons_succ]
            apply s_val
            case ho => rfl
            case hw => rfl
            case hv => intro w hw; go_simp; first | done | with_reducible rfl | rfl
            simp only [Act.put, List.getElem_toArray, List.getElem_cons_zero, List.getElem_cons_succ, List.setIfInBounds_toArray, List.set_cons_zero, List.set_cons_succ]
            refine Mm.sld0 naInt (fun w h => h) rfl rfl (.tmp 60) 9 (.int .i64 l.i) rfl rfl rfl ?_
            simp only [Act.put, List.getElem_toArray, List.getElem_cons_zero, List.getElem_cons_succ, List.setIfInBounds_toArray, List.set_cons_zero, List.set_cons_succ]
            refine Mm.sget0 rtD (fun w h => h) rfl rfl (.tmp 2) rfl rfl rfl ?_
            simp only [Act.put, List.getElem_toArray, List.getElem_cons_zero, List.getElem_cons_succ, List.setIfInBounds_toArray, List.set_cons_zero, List.set_cons_succ]
            apply s_val
            case ho => rfl
            case hw => rfl
            case hv => intro w hw; go_simp; first | done | with_reducible rfl | rfl
            simp only [Act.put, List.getElem_toArray, List.getElem_cons_zero, List.getElem_cons_succ, List.setIfInBounds_toArray, List.set_cons_zero, List.set_cons_succ]
            apply s_val
            case ho => rfl
            case hw => rfl
            case hv => intro w hw; go_simp; first | done | with_reducible rfl | rfl
            simp only [Act.put, List.getElem_toArray, List.getElem_cons_zero, List.getElem_cons_succ, List.setIfInBounds_toArray, List.set_cons_zero, List.set_cons_succ]
            refine Mm.sld0 naInt (fun w h => h) rfl rfl (.tmp 65) 10 (.int .i64 l.k) rfl rfl rfl ?_
            simp only [Act.put, List.getElem_toArray, List.getElem_cons_zero, List.getElem_cons_succ, List.setIfInBounds_toArray, List.set_cons_zero, List.set_cons_succ]
            refine Mm.sget0 rtD (fun w h => h) rfl rfl (.tmp 2) rfl rfl rfl ?_
            simp only [Act.put, List.getElem_toArray, List.getElem_cons_zero, List.getElem_cons_succ, List.setIfInBounds_toArray, List.set_cons_zero, List.set_cons_succ]
            apply s_val
            case ho => rfl
            case hw => rfl
            case hv => intro w hw; go_simp; first | done | with_reducible rfl | rfl
            simp only [Act.put, List.getElem_toArray, List.getElem_cons_zero, List.getElem_cons_succ, List.setIfInBounds_toArray, List.set_cons_zero, List.set_cons_succ]
            apply s_val
            case ho => rfl
            case hw => rfl
            case hv => intro w hw; go_simp; first | done | with_reducible rfl | rfl
            simp only [Act.put, List.getElem_toArray, List.getElem_cons_zero, List.getElem_cons_succ, List.setIfInBounds_toArray, List.set_cons_zero, List.set_cons_succ]
            refine Mm.sld0 naInt (fun w h => h) rfl rfl (.tmp 70) 11 (.int .i64 l.b) rfl rfl rfl ?_
            simp only [Act.put, List.getElem_toArray, List.getElem_cons_zero, List.getElem_cons_succ, List.setIfInBounds_toArray, List.set_cons_zero, List.set_cons_succ]
            refine Mm.sget0 rtD (fun w h => h) rfl rfl (.tmp 2) rfl rfl rfl ?_
            simp only [Act.put, List.getElem_toArray, List.getElem_cons_zero, List.getElem_cons_succ, List.setIfInBounds_toArray, List.set_cons_zero, List.set_cons_succ]
            apply s_val
            case ho => rfl
            case hw => rfl
            case hv => intro w hw; go_simp; first | done | with_reducible rfl | rfl
            simp only [Act.put, List.getElem_toArray, List.getElem_cons_zero, List.getElem_cons_succ, List.setIfInBounds_toArray, List.set_cons_zero, List.set_cons_succ]
            refine s_mid tyL rfl rfl (.tmp 75) b2 7 [.int .i64 l.a, .int .i64 l.s, .int .i64 l.i, .int .i64 l.k, .int .i64 l.b, .int .i64 l.r, u] rfl rfl rfl (fun w h => dk_lv (Mm.M.at0 h)) ?_
            simp only [Act.put, List.getElem_toArray, List.getElem_cons_zero, List.getElem_cons_succ, List.setIfInBounds_toArray, List.set_cons_zero, List.set_cons_succ]
            apply s_val
            case ho => rfl
            case hw => rfl
            case hv => intro w hw; go_simp; first | done | with_reducible rfl | rfl
            simp only [Act.put, List.getElem_toArray, List.getElem_cons_zero, List.getElem_cons_succ, List.setIfInBounds_toArray, List.set_cons_zero, List.set_cons_succ]
            apply s_val
            case ho => rfl
            case hw => rfl
            case hv => intro w hw; go_simp; first | done | with_reducible rfl | rfl
            simp only [Act.put, List.getElem_toArray, List.getElem_cons_zero, List.getElem_cons_succ, List.setIfInBounds_toArray, List.set_cons_zero, List.set_cons_succ]
            refine Mm.sld0 naS (fun w h => h) rfl rfl (.tmp 78) 3 (.string e.key) rfl rfl rfl ?_
            simp only [Act.put, List.getElem_toArray, List.getElem_cons_zero, List.getElem_cons_succ, List.setIfInBounds_toArray, List.set_cons_zero, List.set_cons_succ]
            refine Mm.o_callH (v := .string m1) H (fun W h => h) rfl rfl 11 (#[.slice a0 n c0, .string e.sender]) (by go_simp; first | done | rfl) (q1.out _ (HV.out.to H.out.below)) ?_
            clear H
            intro _ H hb
            clear hb
            simp only [Act.put, List.getElem_toArray, List.getElem_cons_zero, List.getElem_cons_succ, List.setIfInBounds_toArray, List.set_cons_zero, List.set_cons_succ]
            refine Mm.o_callH (v := .string m2) H (fun W h => h) rfl rfl 11 (#[.slice a0 n c0, .string e.key]) (by go_simp; first | done | rfl) (q2.out _ (HV.out.to H.out.below)) ?_
            clear H
            intro _ H hb
            clear hb
            simp only [Act.put, List.getElem_toArray, List.getElem_cons_zero, List.getElem_cons_succ, List.setIfInBounds_toArray, List.set_cons_zero, List.set_cons_succ]
            refine Mm.o_callH (v := .bool BI) H (fun W h => h) rfl rfl 65 (#[.agg (dkR e (.slice a0 n c0) l u r).toArray, .int .i64 l.i]) (by go_simp; first | done | rfl) (q3.out _ (HU.out.to H.out.below)) ?_
            clear H
            intro _ H hb
            clear hb
            simp only [Act.put, List.getElem_toArray, List.getElem_cons_zero, List.getElem_cons_succ, List.setIfInBounds_toArray, List.set_cons_zero, List.set_cons_succ]
            refine Mm.o_callH (v := .bool BK) H (fun W h => h) rfl rfl 65 (#[.agg (dkR e (.slice a0 n c0) l u r).toArray, .int .i64 l.k]) (by go_simp; first | done | rfl) (q4.out _ (HU.out.to H.out.below)) ?_
            clear H
            intro _ H hb
            clear hb
            simp only [Act.put, List.getElem_toArray, List.getElem_cons_zero, List.getElem_cons_succ, List.setIfInBounds_toArray, List.set_cons_zero, List.set_cons_succ]
            refine Mm.o_callH (v := .bool BB) H (fun W h => h) rfl rfl 65 (#[.agg (dkR e (.slice a0 n c0) l u r).toArray, .int .i64 l.b]) (by go_simp; first | done | rfl) (q5.out _ (HU.out.to H.out.below)) ?_
            clear H
            intro _ H hb
            clear hb
            simp only [Act.put, List.getElem_toArray, List.getElem_cons_zero, List.getElem_cons_succ, List.setIfInBounds_toArray, List.set_cons_zero, List.set_cons_succ]
            refine Mm.o_callH (v := .int .i64 oa) H (fun W h => h) rfl rfl 66 (#[.agg (dkR e (.slice a0 n c0) l u r).toArray]) (by go_simp; first | done | rfl) (q6.out _ (HU.out.to H.out.below)) ?_
            clear H
            intro _ H hb
            clear hb
            simp only [Act.put, List.getElem_toArray, List.getElem_cons_zero, List.getElem_cons_succ, List.setIfInBounds_toArray, List.set_cons_zero, List.set_cons_succ]
            refine Mm.o_callH (v := .int .i64 ob) H (fun W h => h) rfl rfl 22 (#[.agg #[.int .i64 l.a, .int .i64 l.s, .int .i64 l.i, .int .i64 l.k, .int .i64 l.b, .int .i64 l.r, u], .string e.key]) (by go_simp; first | done | rfl) (q7.out _ (HU.out.to H.out.below)) ?_
            clear H
            intro _ H hb
            clear hb
            simp only [Act.put, List.getElem_toArray, List.getElem_cons_zero, List.getElem_cons_succ, List.setIfInBounds_toArray, List.set_cons_zero, List.set_cons_succ]
            apply s_val (v := .bool AB)
            case ho => rfl
            case hw => rfl
            case hv => intro w hw; have q := hAB; have q2 := hAB2; go_simp; first | done | with_reducible rfl | rfl
            simp only [Act.put, List.getElem_toArray, List.getElem_cons_zero, List.getElem_cons_succ, List.setIfInBounds_toArray, List.set_cons_zero, List.set_cons_succ]
            apply s_val (v := .agg #[.string r, .string m1, .string m2, .string e.body, .bool SF, .bool BI, .bool BK, .bool BB, .bool AB])
            case ho => rfl
            case hw => rfl
            case hv => intro w hw; go_simp; first | done | with_reducible rfl | rfl
            simp only [Act.put, List.getElem_toArray, List.getElem_cons_zero, List.getElem_cons_succ, List.setIfInBounds_toArray, List.set_cons_zero, List.set_cons_succ]
            refine Mm.o_callH (v := .int .i64 Z) H (fun W h => h) rfl rfl 64 (#[.agg #[.string r, .string m1, .string m2, .string e.body, .bool SF, .bool BI, .bool BK, .bool BB, .bool AB]]) (by go_simp; first | done | rfl) (q8.out _) ?_
            clear H
            intro _ H hb
            clear hb
            simp only [Act.put, List.getElem_toArray, List.getElem_cons_zero, List.getElem_cons_succ, List.setIfInBounds_toArray, List.set_cons_zero, List.set_cons_succ]
            apply s_val
            case ho => rfl
            case hw => rfl
            case hv => intro w hw; go_simp; first | done | with_reducible rfl | rfl
            simp only [Act.put, List.getElem_toArray, List.getElem_cons_zero, List.getElem_cons_succ, List.setIfInBounds_toArray, List.set_cons_zero, List.set_cons_succ]
            refine NoPanic.normal ?_
            go_wp2_with fail
            go_ret
            exact ⟨by rw [HF.out]; rfl, H.out.below⟩
          | true =>
            have HF := hidp (show mbE cs e fo l r = 0 from hlet ⟨hn1, beq_iff_eq.1 c2, beq_iff_eq.1 c3, (beq_iff_eq.1 c4).trans (toList_lit _).symm⟩)
            clear hn1
            go_enter Tryz.func31, Tryz.ntmps31
            go_wp2_with (first | (refine Mm.box 64 H rfl (.tmp 0) rfl (dkR e (.slice a0 n c0) l u r) rfl ?_; clear H; intro b2 _ H nw; have hb := nw.below; clear hb nw) | (refine Mm.ld0 naS H rfl (.tmp 6) 4 (.string e.body) rfl rfl rfl ?_) | (go_at_call 63; refine (ci.out _).mono ?_; rintro e _ ⟨rfl, hb⟩; replace H := hidp (H.out.call hb); clear hb) | (refine Mm.ld0 naC H rfl (.tmp 10) 6 _ rfl rfl rfl ?_) | (refine Mm.ld0 naS H rfl (.tmp 16) 1 (.string e.sender) rfl rfl rfl ?_) | (refine Mm.ld0 naS H rfl (.tmp 23) 3 (.string e.key) rfl rfl rfl ?_) | (refine Mm.ld0 naS H rfl (.tmp 30) 4 (.string e.body) rfl rfl rfl ?_))
            go_ret
            exact ⟨by rw [HF.out]; rfl, H.out.below⟩
end Go.Proofs.YtkcgmimcopoknaaGreatDoor
