/-
  Joined: WiB.
-/
import Derived.Test.YtfenjincbhkodaaGreatDoorVK
namespace Go.Proofs.YtfenjincbhkodaaGreatDoor.Wi
set_option maxRecDepth 100000
set_option linter.unusedVariables false
set_option linter.unusedSimpArgs false
open Go.RowKit
open List (getElem_toArray getElem_cons_zero getElem_cons_succ setIfInBounds_toArray set_cons_zero set_cons_succ)
open En (naS naI rtH u8_one hsV hsE hsV_len ohash_any s_bld wpL_slc num4_in)
open Ho (inE inV in_zero in_not al_sz allInt_any)


set_option maxHeartbeats 16000000 in
theorem pparse_any (w : World) (s : ByteArray) (hs : s.size ≤ 281474976710656) :
    Calls Tryz.prog 47 #[.string s] w fun e w' => ∃ v, e = .returned (.tuple #[v, .int .i64 (ppE s)]) ∧ Below w.heap.size w w' := by
  have ca := hidp (fun W => all_any W s hs)
  have H := hidp (Mm.M.nil w)
  by_cases h0 : (al s).2 = 0
  · by_cases h6 : (al s).1.length = 5
    · obtain ⟨a, b, c, d, f, hL⟩ : ∃ a b c d f, (al s).1 = [a, b, c, d, f] := by
        match hL : (al s).1, h6 with
        | [a, b, c, d, f], _ => exact ⟨a, b, c, d, f, rfl⟩
      have hss := al_sz s hs
      rw [hL] at hss
      have a0 : at' s 0 = a := by unfold at'; rw [hL]; rfl
      have hP : ppE s = if inE a 63 = 0 then 0 else 6 := by unfold ppE; rw [a0]; simp only [h0, h6, true_and]
      have c1 := hidp (show ∀ W, Calls Tryz.prog 26 #[.string a, .int .i64 63] W (fun e w' => e = .returned (.tuple #[.int .i64 (inV a 63 : Nat), .int .i64 (inE a 63)]) ∧ Below W.heap.size W w') from fun W => allInt_any W a 63 (by omega) (by have := hss a (by simp); omega))
      rw [h0, hL] at ca
      obtain ⟨V1, hV1⟩ : ∃ V : Int, ((inV a 63 : Nat) : Int) = V := ⟨_, rfl⟩
      obtain ⟨E1, hE1⟩ : ∃ V, inE a 63 = V := ⟨_, rfl⟩
      rw [hV1, hE1] at c1
      rw [hE1] at hP
      have en : (((5 : Nat) : Int) != 5) = false := rfl
      clear hss h0 h6 hL a0 hV1 hE1
      by_cases hz : E1 = 0
      · subst hz
        have HE := hidp (show ppE s = 0 from hP)
        clear hP
        go_enter Tryz.func47, Tryz.ntmps47
        have tk0 := hidp trivial
        go_wp2_with (first | (clear tk0; (refine Mm.new rtP H (some 2) rfl rfl rfl ?_; clear H; intro b2 _ H nw; have hb := nw.below; clear hb nw); (try simp only [Act.put, setIfInBounds_toArray, set_cons_zero, set_cons_succ]); have tk1 := hidp trivial) | (clear tk1; (go_at_call 20; refine (ca.out _).mono ?_; rintro e w1 ⟨v, rfl, hst, hb⟩; have H0 := hidp (H.out.call hb); obtain ⟨g, off, cv, rfl, hg, hcs⟩ := Sl.strs_pos hst (by simp); clear H hst hb ca; have HC := hidp (show ∀ W, Below w1.heap.size w1 W → W.cell? ⟨g, off, none⟩ = some (.string a) ∧ W.cell? ⟨g, off + 1, none⟩ = some (.string b) ∧ W.cell? ⟨g, off + 2, none⟩ = some (.string c) ∧ W.cell? ⟨g, off + 3, none⟩ = some (.string d) ∧ W.cell? ⟨g, off + 4, none⟩ = some (.string f) from fun W hW => ⟨(hW.cell (p := ⟨g, off, none⟩) hg).trans (hcs 0 (by simp)), (hW.cell (p := ⟨g, off + 1, none⟩) hg).trans (hcs 1 (by simp)), (hW.cell (p := ⟨g, off + 2, none⟩) hg).trans (hcs 2 (by simp)), (hW.cell (p := ⟨g, off + 3, none⟩) hg).trans (hcs 3 (by simp)), (hW.cell (p := ⟨g, off + 4, none⟩) hg).trans (hcs 4 (by simp))⟩); clear hcs; have H := hidp (Mm.M.nil w1); obtain ⟨m0, m1, m2, m3, m4⟩ := HC.out _ H.out.below); (try simp only [Act.put, setIfInBounds_toArray, set_cons_zero, set_cons_succ]); have tk2 := hidp trivial) | (clear tk2; (go_at_call 26; refine (c1.out _).mono ?_; rintro e wq ⟨rfl, hb⟩; clear m0 m1 m2 m3 m4 c1; replace H := hidp (H.out.call hb); clear hb); (try simp only [Act.put, setIfInBounds_toArray, set_cons_zero, set_cons_succ]); have tk3 := hidp trivial))
        try clear tk3
        have H1 := hidp (Sl.join H0.out H.out)
        have cm := hidp (show ∀ W, Cls wq.heap.size wq W → W.cell? ⟨g, off, none⟩ = some (.string a) ∧ W.cell? ⟨g, off + 1, none⟩ = some (.string b) ∧ W.cell? ⟨g, off + 2, none⟩ = some (.string c) ∧ W.cell? ⟨g, off + 3, none⟩ = some (.string d) ∧ W.cell? ⟨g, off + 4, none⟩ = some (.string f) from fun W hW => HC.out W (H.out.below.trans (hW.mono H.out.le)))
        refine wp_region_then (C := Cls wq.heap.size wq) 14 (by kernel_rfl) (by kernel_rfl) (Cls.start _ _) ?_
        simp only [List.take, List.drop]
        repeat (apply q_val
                · rfl
                · intro w hw; obtain ⟨m0, m1, m2, m3, m4⟩ := cm.out w hw; go_simp; first | done | with_reducible rfl | rfl
                simp only [Act.put, setIfInBounds_toArray, set_cons_zero, set_cons_succ])
        refine wpQuiet_nil ?_
        intro w4 hC
        replace H := hidp (H1.out.call hC)
        clear hC cm H1 H0 HC
        have tk0 := hidp trivial
        go_wp2_with (first | (clear tk0; (refine Mm.put0 rtP H rfl (.tmp 2) (.tmp 43) [.int .i64 V1, .string b, .string c, .string d, .string f] rfl rfl rfl rfl (by simp [Value.oneCell']) rfl ?_; intro _ H2 st; clear st H; have H := H2; clear H2); (try simp only [Act.put, setIfInBounds_toArray, set_cons_zero, set_cons_succ]); have tk1 := hidp trivial))
        try clear tk1
        refine bodyPost_ret (Mm.ret_rowv rtP Tryz.results47 _ b2 _ _ rfl rfl H.out.at0 rfl) rfl ⟨_, by rw [HE.out]; first | done | rfl, H.out.below⟩
      · have e9 : (E1 != 0) = true := by simpa using hz
        have HE := hidp (show ppE s = 6 from by rw [hP, if_neg hz])
        clear hP hz
        go_enter Tryz.func47, Tryz.ntmps47
        have tk0 := hidp trivial
        go_wp2_with (first | (clear tk0; (refine Mm.new rtP H (some 2) rfl rfl rfl ?_; clear H; intro b2 _ H nw; have hb := nw.below; clear hb nw); (try simp only [Act.put, setIfInBounds_toArray, set_cons_zero, set_cons_succ]); have tk1 := hidp trivial) | (clear tk1; (go_at_call 20; refine (ca.out _).mono ?_; rintro e w1 ⟨v, rfl, hst, hb⟩; have H0 := hidp (H.out.call hb); obtain ⟨g, off, cv, rfl, hg, hcs⟩ := Sl.strs_pos hst (by simp); clear H hst hb ca; have HC := hidp (show ∀ W, Below w1.heap.size w1 W → W.cell? ⟨g, off, none⟩ = some (.string a) ∧ W.cell? ⟨g, off + 1, none⟩ = some (.string b) ∧ W.cell? ⟨g, off + 2, none⟩ = some (.string c) ∧ W.cell? ⟨g, off + 3, none⟩ = some (.string d) ∧ W.cell? ⟨g, off + 4, none⟩ = some (.string f) from fun W hW => ⟨(hW.cell (p := ⟨g, off, none⟩) hg).trans (hcs 0 (by simp)), (hW.cell (p := ⟨g, off + 1, none⟩) hg).trans (hcs 1 (by simp)), (hW.cell (p := ⟨g, off + 2, none⟩) hg).trans (hcs 2 (by simp)), (hW.cell (p := ⟨g, off + 3, none⟩) hg).trans (hcs 3 (by simp)), (hW.cell (p := ⟨g, off + 4, none⟩) hg).trans (hcs 4 (by simp))⟩); clear hcs; have H := hidp (Mm.M.nil w1); obtain ⟨m0, m1, m2, m3, m4⟩ := HC.out _ H.out.below); (try simp only [Act.put, setIfInBounds_toArray, set_cons_zero, set_cons_succ]); have tk2 := hidp trivial) | (clear tk2; (go_at_call 26; refine (c1.out _).mono ?_; rintro e wq ⟨rfl, hb⟩; clear m0 m1 m2 m3 m4 c1; replace H := hidp (H.out.call hb); clear hb; replace H := hidp (Sl.join H0.out H.out)); (try simp only [Act.put, setIfInBounds_toArray, set_cons_zero, set_cons_succ]); have tk3 := hidp trivial) | (clear tk3; (refine Rt.wpL_build rfl 86 _ rfl zPr (by kernel_rfl) ?_); (try simp only [Act.put, setIfInBounds_toArray, set_cons_zero, set_cons_succ]); have tk4 := hidp trivial) | (clear tk4; (refine Mm.put0 rtP H rfl (.tmp 2) (.tmp 29) zPr rfl rfl rfl rfl (by decide) rfl ?_; intro _ H2 st; clear st H; have H := H2; clear H2); (try simp only [Act.put, setIfInBounds_toArray, set_cons_zero, set_cons_succ]); have tk5 := hidp trivial))
        try clear tk5
        refine bodyPost_ret (Mm.ret_rowv rtP Tryz.results47 _ b2 _ _ rfl rfl H.out.at0 rfl) rfl ⟨_, by rw [HE.out]; first | done | rfl, H.out.below⟩
    · have HE := hidp (show ppE s = 6 from if_neg (fun g => h6 g.2.1))
      rw [h0] at ca
      obtain ⟨ss, hss⟩ : ∃ ss, (al s).1 = ss := ⟨_, rfl⟩
      rw [hss] at ca h6
      obtain ⟨n, hn⟩ : ∃ n, ss.length = n := ⟨_, rfl⟩
      have e1 : ((n : Int) != 5) = true := by simp; omega
      have g1 : ¬ n = 5 := by omega
      have g2 : (n != 5) = true := by simpa using g1
      clear hss h0
      have cb := hidp (fun W => (ca.out W).mono fun e w' ⟨v, h1, h2, h3⟩ => (⟨v, h1, ⟨Sl.strs_form h2, h3⟩⟩ : ∃ v, e = Ending.returned (.tuple #[v, .int .i64 ((0 : Nat) : Int)]) ∧ (∃ a c, v = Value.slice a ss.length c) ∧ Below W.heap.size W w'))
      rw [hn] at cb
      clear ca hn h6
      go_enter Tryz.func47, Tryz.ntmps47
      have tk0 := hidp trivial
      go_wp2_with (first | (clear tk0; (refine Mm.new rtP H (some 2) rfl rfl rfl ?_; clear H; intro b2 _ H nw; have hb := nw.below; clear hb nw); (try simp only [Act.put, setIfInBounds_toArray, set_cons_zero, set_cons_succ]); have tk1 := hidp trivial) | (clear tk1; (go_at_call 20; refine (cb.out _).mono ?_; rintro e _ ⟨v, rfl, ⟨av, cv, rfl⟩, hb⟩; replace H := hidp (H.out.call hb); clear hb cb); (try simp only [Act.put, setIfInBounds_toArray, set_cons_zero, set_cons_succ]); have tk2 := hidp trivial) | (clear tk2; (refine Rt.wpL_build rfl 86 _ rfl zPr (by kernel_rfl) ?_); (try simp only [Act.put, setIfInBounds_toArray, set_cons_zero, set_cons_succ]); have tk3 := hidp trivial) | (clear tk3; (refine Mm.put0 rtP H rfl (.tmp 2) (.tmp 19) zPr rfl rfl rfl rfl (by decide) rfl ?_; intro _ H2 st; clear st H; have H := H2; clear H2); (try simp only [Act.put, setIfInBounds_toArray, set_cons_zero, set_cons_succ]); have tk4 := hidp trivial))
      try clear tk4
      refine bodyPost_ret (Mm.ret_rowv rtP Tryz.results47 _ b2 _ _ rfl rfl H.out.at0 rfl) rfl ⟨_, by rw [HE.out]; first | done | rfl, H.out.below⟩
  · have HE := hidp (show ppE s = 6 from if_neg (fun g => h0 g.1))
    obtain ⟨E, hE⟩ : ∃ E, (al s).2 = E := ⟨_, rfl⟩
    rw [hE] at ca h0
    have e1 : ((E : Int) != 0) = true := by simp; omega
    have g1 : ¬ (E : Int) = 0 := by omega
    have g2 : ¬ E = 0 := h0
    clear hE h0
    go_enter Tryz.func47, Tryz.ntmps47
    have tk0 := hidp trivial
    go_wp2_with (first | (clear tk0; (refine Mm.new rtP H (some 2) rfl rfl rfl ?_; clear H; intro b2 _ H nw; have hb := nw.below; clear hb nw); (try simp only [Act.put, setIfInBounds_toArray, set_cons_zero, set_cons_succ]); have tk1 := hidp trivial) | (clear tk1; (go_at_call 20; refine (ca.out _).mono ?_; rintro e _ ⟨v, rfl, hst, hb⟩; replace H := hidp (H.out.call hb); obtain ⟨av, cv, rfl⟩ := Sl.strs_form hst; clear hst hb ca); (try simp only [Act.put, setIfInBounds_toArray, set_cons_zero, set_cons_succ]); have tk2 := hidp trivial) | (clear tk2; (refine Rt.wpL_build rfl 86 _ rfl zPr (by kernel_rfl) ?_); (try simp only [Act.put, setIfInBounds_toArray, set_cons_zero, set_cons_succ]); have tk3 := hidp trivial) | (clear tk3; (refine Mm.put0 rtP H rfl (.tmp 2) (.tmp 19) zPr rfl rfl rfl rfl (by decide) rfl ?_; intro _ H2 st; clear st H; have H := H2; clear H2); (try simp only [Act.put, setIfInBounds_toArray, set_cons_zero, set_cons_succ]); have tk4 := hidp trivial))
    try clear tk4
    refine bodyPost_ret (Mm.ret_rowv rtP Tryz.results47 _ b2 _ _ rfl rfl H.out.at0 rfl) rfl ⟨_, by rw [HE.out]; first | done | rfl, H.out.below⟩

set_option maxHeartbeats 16000000 in
theorem cbody_any (w : World) (k : Nat) (hk : k < 256) (s : ByteArray) (hs : s.size ≤ 281474976710656) (hI : IT w) (hW : WT w) (hT : Ho.HT w) :
    Calls Tryz.prog 33 #[.int .u8 (k : Int), .string s] w fun e w' => e = .returned (.int .i64 (bE k s)) ∧ Below w.heap.size w w' := by
  have HI := hidp hI; have HW := hidp hW; have HT0 := hidp hT; clear hI hW hT
  by_cases h1 : k = 1
  · have HF : bE k s = evX (evP s) := by unfold bE; rw [if_pos h1]
    have e1 : ((k : Int) == 1) = true := by rw [h1]; rfl
    have cx := hidp (fun W (h1 : IT W) (h2 : WT W) (h3 : Ho.HT W) => (evParse_any W s hs h1 h2).mono fun e w9 ⟨q1, q2⟩ => (⟨_, q1, q2⟩ : ∃ v, e = Ending.returned (.tuple #[v, .int .i64 (evX (evP s))]) ∧ Below W.heap.size W w9))
    rw [HF]
    obtain ⟨X, hX⟩ : ∃ X, evX (evP s) = X := ⟨_, rfl⟩
    rw [hX] at cx ⊢
    clear hX HF hs h1
    go_enter Tryz.func33, Tryz.ntmps33
    go_wp2_with (go_at_call 44; refine (cx.out _ HI.out HW.out HT0.out).mono ?_; rintro e w9 ⟨v, rfl, hb⟩; have HB := hidp hb; clear hb cx)
    go_ret
    exact ⟨rfl, HB.out⟩
  have e1 : ((k : Int) == 1) = false := by rw [beq_eq_false_iff_ne]; omega
  have n1 : ¬ (k : Int) = 1 := by omega
  by_cases h2 : k = 2
  · have HF : bE k s = rjE s := by unfold bE; rw [if_neg h1, if_pos h2]
    have e2 : ((k : Int) == 2) = true := by rw [h2]; rfl
    have cx := hidp (fun W (h1 : IT W) (h2 : WT W) (h3 : Ho.HT W) => (rejected_any W s hs).mono fun e w9 ⟨q1, q2⟩ => (⟨_, _, q1, q2⟩ : ∃ v u, e = Ending.returned (.tuple #[v, u, .int .i64 (rjE s)]) ∧ Below W.heap.size W w9))
    rw [HF]
    obtain ⟨X, hX⟩ : ∃ X, rjE s = X := ⟨_, rfl⟩
    rw [hX] at cx ⊢
    clear hX HF hs h1 h2
    go_enter Tryz.func33, Tryz.ntmps33
    go_wp2_with (go_at_call 16; refine (cx.out _ HI.out HW.out HT0.out).mono ?_; rintro e w9 ⟨v, u, rfl, hb⟩; have HB := hidp hb; clear hb cx)
    go_ret
    exact ⟨rfl, HB.out⟩
  have e2 : ((k : Int) == 2) = false := by rw [beq_eq_false_iff_ne]; omega
  have n2 : ¬ (k : Int) = 2 := by omega
  by_cases h3 : k = 3
  · have HF : bE k s = En.epE s := by unfold bE; rw [if_neg h1, if_neg h2, if_pos h3]
    have e3 : ((k : Int) == 3) = true := by rw [h3]; rfl
    have cx := hidp (fun W (h1 : IT W) (h2 : WT W) (h3 : Ho.HT W) => (En.eparse_any W s hs h1).mono fun e w9 ⟨q1, q2⟩ => (⟨_, q1, q2⟩ : ∃ v, e = Ending.returned (.tuple #[v, .int .i64 (En.epE s)]) ∧ Below W.heap.size W w9))
    rw [HF]
    obtain ⟨X, hX⟩ : ∃ X, En.epE s = X := ⟨_, rfl⟩
    rw [hX] at cx ⊢
    clear hX HF hs h1 h2 h3
    go_enter Tryz.func33, Tryz.ntmps33
    go_wp2_with (go_at_call 45; refine (cx.out _ HI.out HW.out HT0.out).mono ?_; rintro e w9 ⟨v, rfl, hb⟩; have HB := hidp hb; clear hb cx)
    go_ret
    exact ⟨rfl, HB.out⟩
  have e3 : ((k : Int) == 3) = false := by rw [beq_eq_false_iff_ne]; omega
  have n3 : ¬ (k : Int) = 3 := by omega
  by_cases h4 : k = 4
  · have HF : bE k s = Hd.jpE s := by unfold bE; rw [if_neg h1, if_neg h2, if_neg h3, if_pos h4]
    have e4 : ((k : Int) == 4) = true := by rw [h4]; rfl
    have cx := hidp (fun W (h1 : IT W) (h2 : WT W) (h3 : Ho.HT W) => (Hd.jparse_any W s hs h1).mono fun e w9 ⟨q1, q2⟩ => (⟨_, q1, q2⟩ : ∃ v, e = Ending.returned (.tuple #[v, .int .i64 (Hd.jpE s)]) ∧ Below W.heap.size W w9))
    rw [HF]
    obtain ⟨X, hX⟩ : ∃ X, Hd.jpE s = X := ⟨_, rfl⟩
    rw [hX] at cx ⊢
    clear hX HF hs h1 h2 h3 h4
    go_enter Tryz.func33, Tryz.ntmps33
    go_wp2_with (go_at_call 46; refine (cx.out _ HI.out HW.out HT0.out).mono ?_; rintro e w9 ⟨v, rfl, hb⟩; have HB := hidp hb; clear hb cx)
    go_ret
    exact ⟨rfl, HB.out⟩
  have e4 : ((k : Int) == 4) = false := by rw [beq_eq_false_iff_ne]; omega
  have n4 : ¬ (k : Int) = 4 := by omega
  by_cases h5 : k = 5
  · have HF : bE k s = akE s := by unfold bE; rw [if_neg h1, if_neg h2, if_neg h3, if_neg h4, if_pos h5]
    have e5 : ((k : Int) == 5) = true := by rw [h5]; rfl
    have cx := hidp (fun W (h1 : IT W) (h2 : WT W) (h3 : Ho.HT W) => (asked_any W s hs).mono fun e w9 ⟨q1, q2⟩ => (⟨_, q1, q2⟩ : ∃ v, e = Ending.returned (.tuple #[v, .int .i64 (akE s)]) ∧ Below W.heap.size W w9))
    rw [HF]
    obtain ⟨X, hX⟩ : ∃ X, akE s = X := ⟨_, rfl⟩
    rw [hX] at cx ⊢
    clear hX HF hs h1 h2 h3 h4 h5
    go_enter Tryz.func33, Tryz.ntmps33
    go_wp2_with (go_at_call 18; refine (cx.out _ HI.out HW.out HT0.out).mono ?_; rintro e w9 ⟨v, rfl, hb⟩; have HB := hidp hb; clear hb cx)
    go_ret
    exact ⟨rfl, HB.out⟩
  have e5 : ((k : Int) == 5) = false := by rw [beq_eq_false_iff_ne]; omega
  have n5 : ¬ (k : Int) = 5 := by omega
  by_cases h6 : k = 6
  · have HF : bE k s = ppE s := by unfold bE; rw [if_neg h1, if_neg h2, if_neg h3, if_neg h4, if_neg h5, if_pos h6]
    have e6 : ((k : Int) == 6) = true := by rw [h6]; rfl
    have cx := hidp (fun W (h1 : IT W) (h2 : WT W) (h3 : Ho.HT W) => pparse_any W s hs)
    rw [HF]
    obtain ⟨X, hX⟩ : ∃ X, ppE s = X := ⟨_, rfl⟩
    rw [hX] at cx ⊢
    clear hX HF hs h1 h2 h3 h4 h5 h6
    go_enter Tryz.func33, Tryz.ntmps33
    go_wp2_with (go_at_call 47; refine (cx.out _ HI.out HW.out HT0.out).mono ?_; rintro e w9 ⟨v, rfl, hb⟩; have HB := hidp hb; clear hb cx)
    go_ret
    exact ⟨rfl, HB.out⟩
  have e6 : ((k : Int) == 6) = false := by rw [beq_eq_false_iff_ne]; omega
  have n6 : ¬ (k : Int) = 6 := by omega
  by_cases h7 : k = 7
  · have HF : bE k s = Ho.dpE s := by unfold bE; rw [if_neg h1, if_neg h2, if_neg h3, if_neg h4, if_neg h5, if_neg h6, if_pos h7]
    have e7 : ((k : Int) == 7) = true := by rw [h7]; rfl
    have cx := hidp (fun W (h1 : IT W) (h2 : WT W) (h3 : Ho.HT W) => (Ho.parse_any W s hs h1 h3).mono fun e w9 ⟨q1, q2⟩ => (⟨_, q1, q2⟩ : ∃ v, e = Ending.returned (.tuple #[v, .int .i64 (Ho.dpE s)]) ∧ Below W.heap.size W w9))
    rw [HF]
    obtain ⟨X, hX⟩ : ∃ X, Ho.dpE s = X := ⟨_, rfl⟩
    rw [hX] at cx ⊢
    clear hX HF hs h1 h2 h3 h4 h5 h6 h7
    go_enter Tryz.func33, Tryz.ntmps33
    go_wp2_with (go_at_call 48; refine (cx.out _ HI.out HW.out HT0.out).mono ?_; rintro e w9 ⟨v, rfl, hb⟩; have HB := hidp hb; clear hb cx)
    go_ret
    exact ⟨rfl, HB.out⟩
  have e7 : ((k : Int) == 7) = false := by rw [beq_eq_false_iff_ne]; omega
  have n7 : ¬ (k : Int) = 7 := by omega
  have HF : bE k s = 0 := by unfold bE; rw [if_neg h1, if_neg h2, if_neg h3, if_neg h4, if_neg h5, if_neg h6, if_neg h7]
  rw [HF]
  clear HF hs h1 h2 h3 h4 h5 h6 h7
  go_enter Tryz.func33, Tryz.ntmps33
  go_wp2
  go_ret
  exact ⟨rfl, Below.refl _ _⟩

set_option maxHeartbeats 16000000 in
theorem mcheck_any (w : World) (m : Ms) (hm : m.ok) (hI : IT w) (hW : WT w) (hT : Ho.HT w) :
    Calls Tryz.prog 10 #[.agg m.row.toArray] w fun e w' => e = .returned (.int .i64 (mE m)) ∧ Below w.heap.size w w' := by
  obtain ⟨k, f, t, b⟩ := m
  obtain ⟨hk, hb⟩ : k < 256 ∧ b.size ≤ 140737488351232 := hm
  show Calls Tryz.prog 10 #[.agg #[.int .u8 (k : Int), .int .i64 f, .int .i64 t, .string b]] w _
  have HI := hidp hI; have HW := hidp hW; have HT0 := hidp hT; clear hI hW hT
  have c1 := hidp (fun W => isServer_any W f)
  have c2 := hidp (fun W => isServer_any W t)
  have c3 := hidp (fun W => isKind_any W k hk)
  have c5 := hidp (fun W h1 h2 h3 => cbody_any W k hk b (by omega) h1 h2 h3)
  have H := hidp (Mm.M.nil w)
  have hM : mE (⟨k, f, t, b⟩ : Ms) = if (srv f && srv t && mkB k) = true then (if b.size ≤ 8192 then bE k b else 7) else 2 := rfl
  cases h1 : srv f with
  | false =>
    rw [h1] at c1
    have HF := hidp (show mE (⟨k, f, t, b⟩ : Ms) = 2 from by rw [hM, h1]; rfl)
    clear hM h1 hk hb c2 c3 c5
    go_enter Tryz.func10, Tryz.ntmps10
    have tk0 := hidp trivial
    go_wp2_with (first | (clear tk0; (refine Mm.box 24 H rfl (.tmp 0) rfl [.int .u8 (k : Int), .int .i64 f, .int .i64 t, .string b] rfl ?_; clear H; intro b1 _ H nw; have hb := nw.below; clear hb nw); (try simp only [Act.put, setIfInBounds_toArray, set_cons_zero, set_cons_succ]); have tk1 := hidp trivial) | (clear tk1; (refine Mm.ld0 naI H rfl (.tmp 3) 1 _ rfl rfl rfl ?_); (try simp only [Act.put, setIfInBounds_toArray, set_cons_zero, set_cons_succ]); have tk2 := hidp trivial) | (clear tk2; (go_at_call 31; refine (c1.out _).mono ?_; rintro e _ ⟨rfl, rfl⟩; clear c1); (try simp only [Act.put, setIfInBounds_toArray, set_cons_zero, set_cons_succ]); have tk3 := hidp trivial))
    try clear tk3
    go_ret
    exact ⟨by rw [HF.out]; first | done | rfl, H.out.below⟩
  | true =>
    rw [h1] at c1
    cases h2 : srv t with
    | false =>
      rw [h2] at c2
      have HF := hidp (show mE (⟨k, f, t, b⟩ : Ms) = 2 from by rw [hM, h1, h2]; rfl)
      clear hM h1 h2 hk hb c3 c5
      go_enter Tryz.func10, Tryz.ntmps10
      have tk0 := hidp trivial
      go_wp2_with (first | (clear tk0; (refine Mm.box 24 H rfl (.tmp 0) rfl [.int .u8 (k : Int), .int .i64 f, .int .i64 t, .string b] rfl ?_; clear H; intro b1 _ H nw; have hb := nw.below; clear hb nw); (try simp only [Act.put, setIfInBounds_toArray, set_cons_zero, set_cons_succ]); have tk1 := hidp trivial) | (clear tk1; (refine Mm.ld0 naI H rfl (.tmp 3) 1 _ rfl rfl rfl ?_); (try simp only [Act.put, setIfInBounds_toArray, set_cons_zero, set_cons_succ]); have tk2 := hidp trivial) | (clear tk2; (go_at_call 31; refine (c1.out _).mono ?_; rintro e _ ⟨rfl, rfl⟩; clear c1); (try simp only [Act.put, setIfInBounds_toArray, set_cons_zero, set_cons_succ]); have tk3 := hidp trivial) | (clear tk3; (refine Mm.ld0 naI H rfl (.tmp 8) 2 _ rfl rfl rfl ?_); (try simp only [Act.put, setIfInBounds_toArray, set_cons_zero, set_cons_succ]); have tk4 := hidp trivial) | (clear tk4; (go_at_call 31; refine (c2.out _).mono ?_; rintro e _ ⟨rfl, rfl⟩; clear c2); (try simp only [Act.put, setIfInBounds_toArray, set_cons_zero, set_cons_succ]); have tk5 := hidp trivial))
      try clear tk5
      go_ret
      exact ⟨by rw [HF.out]; first | done | rfl, H.out.below⟩
    | true =>
      rw [h2] at c2
      cases h3 : mkB k with
      | false =>
        rw [h3] at c3
        have HF := hidp (show mE (⟨k, f, t, b⟩ : Ms) = 2 from by rw [hM, h1, h2, h3]; rfl)
        clear hM h1 h2 h3 hk hb c5
        go_enter Tryz.func10, Tryz.ntmps10
        have tk0 := hidp trivial
        go_wp2_with (first | (clear tk0; (refine Mm.box 24 H rfl (.tmp 0) rfl [.int .u8 (k : Int), .int .i64 f, .int .i64 t, .string b] rfl ?_; clear H; intro b1 _ H nw; have hb := nw.below; clear hb nw); (try simp only [Act.put, setIfInBounds_toArray, set_cons_zero, set_cons_succ]); have tk1 := hidp trivial) | (clear tk1; (refine Mm.ld0 naI H rfl (.tmp 3) 1 _ rfl rfl rfl ?_); (try simp only [Act.put, setIfInBounds_toArray, set_cons_zero, set_cons_succ]); have tk2 := hidp trivial) | (clear tk2; (go_at_call 31; refine (c1.out _).mono ?_; rintro e _ ⟨rfl, rfl⟩; clear c1); (try simp only [Act.put, setIfInBounds_toArray, set_cons_zero, set_cons_succ]); have tk3 := hidp trivial) | (clear tk3; (refine Mm.ld0 naI H rfl (.tmp 8) 2 _ rfl rfl rfl ?_); (try simp only [Act.put, setIfInBounds_toArray, set_cons_zero, set_cons_succ]); have tk4 := hidp trivial) | (clear tk4; (go_at_call 31; refine (c2.out _).mono ?_; rintro e _ ⟨rfl, rfl⟩; clear c2); (try simp only [Act.put, setIfInBounds_toArray, set_cons_zero, set_cons_succ]); have tk5 := hidp trivial) | (clear tk5; (refine Mm.ld0 naK H rfl (.tmp 14) 0 (.int .u8 (k : Int)) rfl rfl rfl ?_); (try simp only [Act.put, setIfInBounds_toArray, set_cons_zero, set_cons_succ]); have tk6 := hidp trivial) | (clear tk6; (go_at_call 32; refine (c3.out _).mono ?_; rintro e _ ⟨rfl, rfl⟩; clear c3); (try simp only [Act.put, setIfInBounds_toArray, set_cons_zero, set_cons_succ]); have tk7 := hidp trivial))
        try clear tk7
        go_ret
        exact ⟨by rw [HF.out]; first | done | rfl, H.out.below⟩
      | true =>
        rw [h3] at c3
        by_cases h8 : b.size ≤ 8192
        · have e8 : decide ((b.size : Int) > 8192) = false := by simp; omega
          have n8 : ¬ (8192 : Int) < (b.size : Int) := by omega
          have HF := hidp (show mE (⟨k, f, t, b⟩ : Ms) = bE k b from by rw [hM, h1, h2, h3, if_pos (by rfl), if_pos h8])
          obtain ⟨X, hX⟩ : ∃ X, bE k b = X := ⟨_, rfl⟩
          rw [hX] at c5 HF
          clear hM h1 h2 h3 hk hb h8 hX
          go_enter Tryz.func10, Tryz.ntmps10
          have tk0 := hidp trivial
          go_wp2_with (first | (clear tk0; (refine Mm.box 24 H rfl (.tmp 0) rfl [.int .u8 (k : Int), .int .i64 f, .int .i64 t, .string b] rfl ?_; clear H; intro b1 _ H nw; have hb := nw.below; clear hb nw); (try simp only [Act.put, setIfInBounds_toArray, set_cons_zero, set_cons_succ]); have tk1 := hidp trivial) | (clear tk1; (refine Mm.ld0 naI H rfl (.tmp 3) 1 _ rfl rfl rfl ?_); (try simp only [Act.put, setIfInBounds_toArray, set_cons_zero, set_cons_succ]); have tk2 := hidp trivial) | (clear tk2; (go_at_call 31; refine (c1.out _).mono ?_; rintro e _ ⟨rfl, rfl⟩; clear c1); (try simp only [Act.put, setIfInBounds_toArray, set_cons_zero, set_cons_succ]); have tk3 := hidp trivial) | (clear tk3; (refine Mm.ld0 naI H rfl (.tmp 8) 2 _ rfl rfl rfl ?_); (try simp only [Act.put, setIfInBounds_toArray, set_cons_zero, set_cons_succ]); have tk4 := hidp trivial) | (clear tk4; (go_at_call 31; refine (c2.out _).mono ?_; rintro e _ ⟨rfl, rfl⟩; clear c2); (try simp only [Act.put, setIfInBounds_toArray, set_cons_zero, set_cons_succ]); have tk5 := hidp trivial) | (clear tk5; (refine Mm.ld0 naK H rfl (.tmp 14) 0 (.int .u8 (k : Int)) rfl rfl rfl ?_); (try simp only [Act.put, setIfInBounds_toArray, set_cons_zero, set_cons_succ]); have tk6 := hidp trivial) | (clear tk6; (go_at_call 32; refine (c3.out _).mono ?_; rintro e _ ⟨rfl, rfl⟩; clear c3); (try simp only [Act.put, setIfInBounds_toArray, set_cons_zero, set_cons_succ]); have tk7 := hidp trivial) | (clear tk7; (refine Mm.ld0 naS H rfl (.tmp 19) 3 _ rfl rfl rfl ?_); (try simp only [Act.put, setIfInBounds_toArray, set_cons_zero, set_cons_succ]); have tk8 := hidp trivial) | (clear tk8; (refine Mm.ld0 naK H rfl (.tmp 23) 0 (.int .u8 (k : Int)) rfl rfl rfl ?_); (try simp only [Act.put, setIfInBounds_toArray, set_cons_zero, set_cons_succ]); have tk9 := hidp trivial) | (clear tk9; (refine Mm.ld0 naS H rfl (.tmp 25) 3 _ rfl rfl rfl ?_); (try simp only [Act.put, setIfInBounds_toArray, set_cons_zero, set_cons_succ]); have tk10 := hidp trivial) | (clear tk10; (go_at_call 33; refine (c5.out _ (HI.out.below H.out.below (Nat.le_refl _)) (HW.out.below H.out.below (Nat.le_refl _)) (HT0.out.below H.out.below (Nat.le_refl _))).mono ?_; rintro e _ ⟨rfl, hb⟩; replace H := hidp (H.out.call hb); clear c5; clear hb); (try simp only [Act.put, setIfInBounds_toArray, set_cons_zero, set_cons_succ]); have tk11 := hidp trivial))
          try clear tk11
          go_ret
          exact ⟨by rw [HF.out]; first | done | rfl, H.out.below⟩
        · have e8 : decide ((b.size : Int) > 8192) = true := by simp; omega
          have n8 : (8192 : Int) < (b.size : Int) := by omega
          have HF := hidp (show mE (⟨k, f, t, b⟩ : Ms) = 7 from by rw [hM, h1, h2, h3, if_pos (by rfl), if_neg h8])
          clear hM h1 h2 h3 hk hb h8 c5
          go_enter Tryz.func10, Tryz.ntmps10
          have tk0 := hidp trivial
          go_wp2_with (first | (clear tk0; (refine Mm.box 24 H rfl (.tmp 0) rfl [.int .u8 (k : Int), .int .i64 f, .int .i64 t, .string b] rfl ?_; clear H; intro b1 _ H nw; have hb := nw.below; clear hb nw); (try simp only [Act.put, setIfInBounds_toArray, set_cons_zero, set_cons_succ]); have tk1 := hidp trivial) | (clear tk1; (refine Mm.ld0 naI H rfl (.tmp 3) 1 _ rfl rfl rfl ?_); (try simp only [Act.put, setIfInBounds_toArray, set_cons_zero, set_cons_succ]); have tk2 := hidp trivial) | (clear tk2; (go_at_call 31; refine (c1.out _).mono ?_; rintro e _ ⟨rfl, rfl⟩; clear c1); (try simp only [Act.put, setIfInBounds_toArray, set_cons_zero, set_cons_succ]); have tk3 := hidp trivial) | (clear tk3; (refine Mm.ld0 naI H rfl (.tmp 8) 2 _ rfl rfl rfl ?_); (try simp only [Act.put, setIfInBounds_toArray, set_cons_zero, set_cons_succ]); have tk4 := hidp trivial) | (clear tk4; (go_at_call 31; refine (c2.out _).mono ?_; rintro e _ ⟨rfl, rfl⟩; clear c2); (try simp only [Act.put, setIfInBounds_toArray, set_cons_zero, set_cons_succ]); have tk5 := hidp trivial) | (clear tk5; (refine Mm.ld0 naK H rfl (.tmp 14) 0 (.int .u8 (k : Int)) rfl rfl rfl ?_); (try simp only [Act.put, setIfInBounds_toArray, set_cons_zero, set_cons_succ]); have tk6 := hidp trivial) | (clear tk6; (go_at_call 32; refine (c3.out _).mono ?_; rintro e _ ⟨rfl, rfl⟩; clear c3); (try simp only [Act.put, setIfInBounds_toArray, set_cons_zero, set_cons_succ]); have tk7 := hidp trivial) | (clear tk7; (refine Mm.ld0 naS H rfl (.tmp 19) 3 _ rfl rfl rfl ?_); (try simp only [Act.put, setIfInBounds_toArray, set_cons_zero, set_cons_succ]); have tk8 := hidp trivial))
          try clear tk8
          go_ret
          exact ⟨by rw [HF.out]; first | done | rfl, H.out.below⟩

set_option maxHeartbeats 16000000 in
theorem mbytes_any (w : World) (m : Ms) (hm : m.ok) (hI : IT w) (hW : WT w) (hT : Ho.HT w) (hMT : MT w) :
    Calls Tryz.prog 6 #[.agg m.row.toArray] w fun e w' => e = .returned (.tuple #[.string (mB m), .int .i64 (mE m)]) ∧ Below w.heap.size w w' := by
  have cc := hidp (fun W h1 h2 h3 => mcheck_any W m hm h1 h2 h3)
  have HI := hidp hI; have HW := hidp hW; have HT0 := hidp hT; have HM := hidp hMT; clear hI hW hT hMT
  have H := hidp (Mm.M.nil w)
  by_cases h : mE m = 0
  · have hparts := mE_parts h
    have hlok := mL_ok h
    have hB := mB_yes h
    rw [h] at cc ⊢
    rw [hB]
    unfold mL at hlok ⊢
    obtain ⟨k, f, t, b⟩ := m
    simp only at hparts hlok
    obtain ⟨⟨f0, f1⟩, ⟨t0, t1⟩, ⟨k0, k1⟩, -⟩ := hparts
    obtain ⟨f, rfl⟩ := Int.eq_ofNat_of_zero_le f0
    obtain ⟨t, rfl⟩ := Int.eq_ofNat_of_zero_le t0
    simp only [Int.toNat_natCast] at hlok ⊢
    have hk8 : k < 8 := by omega
    have c0 : (0 : Int) ≤ (k : Int) := by omega
    have c8 : (k : Int) < 8 := by omega
    have cf := hidp (fun W => num_any W f (by omega))
    rw [numS_yes (by omega), numE_yes (by omega)] at cf
    have ct := hidp (fun W => num_any W t (by omega))
    rw [numS_yes (by omega), numE_yes (by omega)] at ct
    have w1 : IntKind.u64.wrap (f : Int) = (f : Int) := by unfold IntKind.wrap; simp [IntKind.bits, IntKind.signed]; omega
    have w2 : IntKind.u64.wrap (t : Int) = (t : Int) := by unfold IntKind.wrap; simp [IntKind.bits, IntKind.signed]; omega
    have cl := hidp (fun W v (hat : StrsAt W v [mwd k, mkS (encN f), mkS (encN t), b]) => list_any W v _ hat (by simp) (fun s hs => by have := hlok.2 s hs; omega))
    rw [listS_yes hlok, listE_yes hlok] at cl
    obtain ⟨T, hT⟩ : ∃ T, mkS (encL [mwd k, mkS (encN f), mkS (encN t), b]) = T := ⟨_, rfl⟩
    rw [hT] at cl ⊢
    show Calls Tryz.prog 6 #[.agg #[.int .u8 (k : Int), .int .i64 (f : Int), .int .i64 (t : Int), .string b]] w _
    have HF := hidp (rfl : T = T)
    clear h hlok hB f0 f1 t0 t1 k0 k1 hT hm
    go_enter Tryz.func6, Tryz.ntmps6
    have tk0 := hidp trivial
    go_wp2_with (first | (clear tk0; (refine Mm.box 24 H rfl (.tmp 0) rfl [.int .u8 (k : Int), .int .i64 (f : Int), .int .i64 (t : Int), .string b] rfl ?_; clear H; intro b1 _ H nw; have hb := nw.below; clear hb nw); (try simp only [Act.put, setIfInBounds_toArray, set_cons_zero, set_cons_succ]); have tk1 := hidp trivial) | (clear tk1; (refine Mm.get0 rtM H rfl (.tmp 1) rfl rfl rfl ?_); (try simp only [Act.put, setIfInBounds_toArray, set_cons_zero, set_cons_succ]); have tk2 := hidp trivial) | (clear tk2; (go_at_call 10; refine (cc.out _ (HI.out.below H.out.below (Nat.le_refl _)) (HW.out.below H.out.below (Nat.le_refl _)) (HT0.out.below H.out.below (Nat.le_refl _))).mono ?_; rintro e _ ⟨rfl, hb⟩; replace H := hidp (H.out.call hb); clear cc; clear hb); (try simp only [Act.put, setIfInBounds_toArray, set_cons_zero, set_cons_succ]); have tk3 := hidp trivial) | (clear tk3; (refine Mm.ld0 naI H rfl (.tmp 15) 1 (.int .i64 (f : Int)) rfl rfl rfl ?_); (try simp only [Act.put, setIfInBounds_toArray, set_cons_zero, set_cons_succ]); have tk4 := hidp trivial) | (clear tk4; (go_at_call 21; refine (cf.out _).mono ?_; rintro e _ ⟨rfl, hb⟩; replace H := hidp (H.out.call hb); clear hb); (try simp only [Act.put, setIfInBounds_toArray, set_cons_zero, set_cons_succ]); have tk5 := hidp trivial) | (clear tk5; (refine Mm.ld0 naI H rfl (.tmp 22) 2 (.int .i64 (t : Int)) rfl rfl rfl ?_); (try simp only [Act.put, setIfInBounds_toArray, set_cons_zero, set_cons_succ]); have tk6 := hidp trivial) | (clear tk6; (go_at_call 21; refine (ct.out _).mono ?_; rintro e _ ⟨rfl, hb⟩; replace H := hidp (H.out.call hb); clear hb); (try simp only [Act.put, setIfInBounds_toArray, set_cons_zero, set_cons_succ]); have tk7 := hidp trivial))
    try clear tk7
    refine Mm.region H (.take 0 (.take 1 (.take 2 (.take 3 (.take 4 (.take 5 (.take 6 (.take 7 (.one 8 (.one 9 (.take 10 (.take 11 (.take 12 (.take 13 .done)))))))))))))) (by kernel_rfl) (by kernel_rfl) (by simp [Scr.depth]) (by kernel_rfl) ?_
    clear H
    intro _ H hb
    clear hb
    apply s_val
    case ho | hw => rfl
    case hv => intro w hw; go_simp; first | done | rfl
    simp only [Act.put, getElem_toArray, getElem_cons_zero, getElem_cons_succ, setIfInBounds_toArray, set_cons_zero, set_cons_succ]
    refine Mm.sld0 naK (fun w h => h) rfl rfl (.tmp 28) 0 (.int .u8 (k : Int)) rfl rfl rfl ?_
    simp only [Act.put, getElem_toArray, getElem_cons_zero, getElem_cons_succ, setIfInBounds_toArray, set_cons_zero, set_cons_succ]
    apply s_val
    case ho | hw => rfl
    case hv => intro w hw; go_simp; first | done | rfl
    simp only [Act.put, getElem_toArray, getElem_cons_zero, getElem_cons_succ, setIfInBounds_toArray, set_cons_zero, set_cons_succ]
    apply s_val
    case ho | hw => rfl
    case hv => intro w hw; have m1 := (HM.out.below hw.below (Nat.le_refl _)) k hk8; go_simp; first | done | rfl
    simp only [Act.put, getElem_toArray, getElem_cons_zero, getElem_cons_succ, setIfInBounds_toArray, set_cons_zero, set_cons_succ]
    apply s_val
    case ho | hw => rfl
    case hv => intro w hw; go_simp; first | done | rfl
    simp only [Act.put, getElem_toArray, getElem_cons_zero, getElem_cons_succ, setIfInBounds_toArray, set_cons_zero, set_cons_succ]
    apply s_val
    case ho | hw => rfl
    case hv => intro w hw; go_simp; first | done | rfl
    simp only [Act.put, getElem_toArray, getElem_cons_zero, getElem_cons_succ, setIfInBounds_toArray, set_cons_zero, set_cons_succ]
    apply s_val
    case ho | hw => rfl
    case hv => intro w hw; go_simp; first | done | rfl
    simp only [Act.put, getElem_toArray, getElem_cons_zero, getElem_cons_succ, setIfInBounds_toArray, set_cons_zero, set_cons_succ]
    refine Mm.sld0 naS (fun w h => h) rfl rfl (.tmp 34) 3 _ rfl rfl rfl ?_
    simp only [Act.put, getElem_toArray, getElem_cons_zero, getElem_cons_succ, setIfInBounds_toArray, set_cons_zero, set_cons_succ]
    refine o_bsS4 H (fun W h => h) rfl rfl _ _ _ _ (mwd k) (mkS (encN f)) (mkS (encN t)) b rfl rfl rfl rfl rfl ?_
    clear H
    intro b9 _ H nw
    have hb := nw.below
    clear hb nw
    simp only [Act.put, getElem_toArray, getElem_cons_zero, getElem_cons_succ, setIfInBounds_toArray, set_cons_zero, set_cons_succ]
    have hsl := (Sl.own_arr (B := 0) (row := strV [mwd k, mkS (encN f), mkS (encN t), b]) H.out.at0 (Nat.zero_le _) (by simp [strV])).strs
    refine Mm.o_callH (v := .tuple #[.string T, .int .i64 0]) H (fun W h => h.tail) rfl rfl 22 (#[.slice (some ⟨b9, 0, none⟩) 4 4]) (by go_simp; first | done | rfl) (cl.out _ _ hsl) ?_
    clear H
    intro _ H hb
    clear hsl cl
    clear hb
    simp only [Act.put, getElem_toArray, getElem_cons_zero, getElem_cons_succ, setIfInBounds_toArray, set_cons_zero, set_cons_succ]
    apply s_val
    case ho | hw => rfl
    case hv => intro w hw; go_simp; first | done | rfl
    simp only [Act.put, getElem_toArray, getElem_cons_zero, getElem_cons_succ, setIfInBounds_toArray, set_cons_zero, set_cons_succ]
    apply s_val
    case ho | hw => rfl
    case hv => intro w hw; go_simp; first | done | rfl
    simp only [Act.put, getElem_toArray, getElem_cons_zero, getElem_cons_succ, setIfInBounds_toArray, set_cons_zero, set_cons_succ]
    apply s_val
    case ho | hw => rfl
    case hv => intro w hw; go_simp; first | done | rfl
    simp only [Act.put, getElem_toArray, getElem_cons_zero, getElem_cons_succ, setIfInBounds_toArray, set_cons_zero, set_cons_succ]
    apply s_val
    case ho | hw => rfl
    case hv => intro w hw; go_simp; first | done | rfl
    simp only [Act.put, getElem_toArray, getElem_cons_zero, getElem_cons_succ, setIfInBounds_toArray, set_cons_zero, set_cons_succ]
    refine NoPanic.normal ?_
    go_wp2
    go_ret2
    exact ⟨rfl, H.out.below⟩
  · have HF := hidp (mB_no h)
    obtain ⟨E, hE⟩ : ∃ E, mE m = E := ⟨_, rfl⟩
    rw [hE] at cc h ⊢
    obtain ⟨k, f, t, b⟩ := m
    show Calls Tryz.prog 6 #[.agg #[.int .u8 (k : Int), .int .i64 f, .int .i64 t, .string b]] w _
    have e1 : (E != 0) = true := by simpa using h
    clear h hE hm
    go_enter Tryz.func6, Tryz.ntmps6
    have tk0 := hidp trivial
    go_wp2_with (first | (clear tk0; (refine Mm.box 24 H rfl (.tmp 0) rfl [.int .u8 (k : Int), .int .i64 f, .int .i64 t, .string b] rfl ?_; clear H; intro b1 _ H nw; have hb := nw.below; clear hb nw); (try simp only [Act.put, setIfInBounds_toArray, set_cons_zero, set_cons_succ]); have tk1 := hidp trivial) | (clear tk1; (refine Mm.get0 rtM H rfl (.tmp 1) rfl rfl rfl ?_); (try simp only [Act.put, setIfInBounds_toArray, set_cons_zero, set_cons_succ]); have tk2 := hidp trivial) | (clear tk2; (go_at_call 10; refine (cc.out _ (HI.out.below H.out.below (Nat.le_refl _)) (HW.out.below H.out.below (Nat.le_refl _)) (HT0.out.below H.out.below (Nat.le_refl _))).mono ?_; rintro e _ ⟨rfl, hb⟩; replace H := hidp (H.out.call hb); clear cc; clear hb); (try simp only [Act.put, setIfInBounds_toArray, set_cons_zero, set_cons_succ]); have tk3 := hidp trivial))
    try clear tk3
    go_ret2
    exact ⟨by rw [HF.out]; first | done | rfl, H.out.below⟩

theorem mP_len {s : ByteArray} (h : (al s).1.length ≠ 4) : mP s = none := by
  unfold mP
  split
  · unfold mPL
    split
    · rename_i hl; rw [hl] at h; simp at h
    · rfl
  · rfl
set_option maxHeartbeats 16000000 in
theorem mparse_any (w : World) (s : ByteArray) (hs : s.size ≤ 281474976710656) (hI : IT w) (hW : WT w) (hT : Ho.HT w) (hMT : MT w) :
    Calls Tryz.prog 8 #[.string s] w fun e w' => e = .returned (.tuple #[.agg (mpV s).row.toArray, .int .i64 (mpE s)]) ∧ Below w.heap.size w w' := by
  have ca := hidp (fun W => all_any W s hs)
  have HI := hidp hI; have HW := hidp hW; have HT0 := hidp hT; have HM := hidp hMT; clear hI hW hT hMT
  have H := hidp (Mm.M.nil w)
  by_cases h0 : (al s).2 = 0
  · by_cases h6 : (al s).1.length = 4
    · obtain ⟨a, b, c, d, hL⟩ : ∃ a b c d, (al s).1 = [a, b, c, d] := by
        match hL : (al s).1, h6 with
        | [a, b, c, d], _ => exact ⟨a, b, c, d, rfl⟩
      have hss := al_sz s hs
      rw [hL] at hss
      have hmk := mkOf_le a
      have hP : mP s = if inE b 63 = 0 ∧ inE c 63 = 0 ∧ mE ⟨mkOf a, (inV b 63 : Nat), (inV c 63 : Nat), d⟩ = 0 then some ⟨mkOf a, (inV b 63 : Nat), (inV c 63 : Nat), d⟩ else none := by unfold mP; rw [if_pos h0, hL]; rfl
      have c1 := hidp (show ∀ W, Calls Tryz.prog 26 #[.string b, .int .i64 63] W (fun e w' => e = .returned (.tuple #[.int .i64 (inV b 63 : Nat), .int .i64 (inE b 63)]) ∧ Below W.heap.size W w') from fun W => allInt_any W b 63 (by omega) (by have := hss b (by simp); omega))
      have c2 := hidp (show ∀ W, Calls Tryz.prog 26 #[.string c, .int .i64 63] W (fun e w' => e = .returned (.tuple #[.int .i64 (inV c 63 : Nat), .int .i64 (inE c 63)]) ∧ Below W.heap.size W w') from fun W => allInt_any W c 63 (by omega) (by have := hss c (by simp); omega))
      have ck := hidp (fun W h => mkindOf_any W a h)
      have cc := hidp (show ∀ W, IT W → WT W → Ho.HT W → Calls Tryz.prog 10 #[.agg #[.int .u8 (mkOf a : Nat), .int .i64 (inV b 63 : Nat), .int .i64 (inV c 63 : Nat), .string d]] W (fun e w' => e = .returned (.int .i64 (mE ⟨mkOf a, (inV b 63 : Nat), (inV c 63 : Nat), d⟩)) ∧ Below W.heap.size W w') from fun W h1 h2 h3 => mcheck_any W ⟨mkOf a, (inV b 63 : Nat), (inV c 63 : Nat), d⟩ ⟨by show mkOf a < 256; omega, by have := hss d (by simp); show d.size ≤ _; omega⟩ h1 h2 h3)
      rw [h0, hL] at ca
      obtain ⟨KK, hKK⟩ : ∃ V, mkOf a = V := ⟨_, rfl⟩
      obtain ⟨V1, hV1⟩ : ∃ V : Int, ((inV b 63 : Nat) : Int) = V := ⟨_, rfl⟩
      obtain ⟨V2, hV2⟩ : ∃ V : Int, ((inV c 63 : Nat) : Int) = V := ⟨_, rfl⟩
      obtain ⟨E1, hE1⟩ : ∃ V, inE b 63 = V := ⟨_, rfl⟩
      obtain ⟨E2, hE2⟩ : ∃ V, inE c 63 = V := ⟨_, rfl⟩
      rw [hKK, hV1, hV2, hE1, hE2] at hP
      rw [hKK, hV1, hV2] at cc
      rw [hKK] at ck
      rw [hV1, hE1] at c1
      rw [hV2, hE2] at c2
      obtain ⟨E3, hE3⟩ : ∃ V, mE ⟨KK, V1, V2, d⟩ = V := ⟨_, rfl⟩
      rw [hE3] at cc hP
      have en : (((4 : Nat) : Int) != 4) = false := rfl
      clear hss h0 h6 hL hmk hKK hV1 hV2 hE1 hE2 hE3
      by_cases hz : orL [E1, E2, E3] = 0
      · have e9 : (orL [E1, E2, E3] != 0) = false := by rw [hz]; rfl
        rw [if_pos (orL3.1 hz)] at hP
        have HV := hidp (show mpV s = ⟨KK, V1, V2, d⟩ from by unfold mpV; rw [hP]; rfl)
        have HE := hidp (show mpE s = 0 from by unfold mpE; rw [hP]; rfl)
        clear hP hz
        go_enter Tryz.func8, Tryz.ntmps8
        have tk0 := hidp trivial
        go_wp2_with (first | (clear tk0; (refine Mm.new rtM H (some 2) rfl rfl rfl ?_; clear H; intro b2 _ H nw; have hb := nw.below; clear hb nw); (try simp only [Act.put, setIfInBounds_toArray, set_cons_zero, set_cons_succ]); have tk1 := hidp trivial) | (clear tk1; (go_at_call 20; refine (ca.out _).mono ?_; rintro e w1 ⟨v, rfl, hst, hb⟩; have H0 := hidp (H.out.call hb); obtain ⟨g, off, cv, rfl, hg, hcs⟩ := Sl.strs_pos hst (by simp); have HIB := hidp (HI.out.below H0.out.below (Nat.le_refl _)); have HWB := hidp (HW.out.below H0.out.below (Nat.le_refl _)); have HTB := hidp (HT0.out.below H0.out.below (Nat.le_refl _)); have HMB := hidp (HM.out.below H0.out.below (Nat.le_refl _)); clear H hst hb ca; have HC := hidp (show ∀ W, Below w1.heap.size w1 W → W.cell? ⟨g, off, none⟩ = some (.string a) ∧ W.cell? ⟨g, off + 1, none⟩ = some (.string b) ∧ W.cell? ⟨g, off + 2, none⟩ = some (.string c) ∧ W.cell? ⟨g, off + 3, none⟩ = some (.string d) from fun W hW => ⟨(hW.cell (p := ⟨g, off, none⟩) hg).trans (hcs 0 (by simp)), (hW.cell (p := ⟨g, off + 1, none⟩) hg).trans (hcs 1 (by simp)), (hW.cell (p := ⟨g, off + 2, none⟩) hg).trans (hcs 2 (by simp)), (hW.cell (p := ⟨g, off + 3, none⟩) hg).trans (hcs 3 (by simp))⟩); clear hcs; have H := hidp (Mm.M.nil w1); obtain ⟨m0, m1, m2, m3⟩ := HC.out _ H.out.below); (try simp only [Act.put, setIfInBounds_toArray, set_cons_zero, set_cons_succ]); have tk2 := hidp trivial) | (clear tk2; (go_at_call 26; refine (c1.out _).mono ?_; rintro e _ ⟨rfl, hb⟩; clear m0 m1 m2 m3; replace H := hidp (H.out.call hb); clear hb; obtain ⟨m0, m1, m2, m3⟩ := HC.out _ H.out.below); (try simp only [Act.put, setIfInBounds_toArray, set_cons_zero, set_cons_succ]); have tk3 := hidp trivial) | (clear tk3; (go_at_call 26; refine (c2.out _).mono ?_; rintro e _ ⟨rfl, hb⟩; clear m0 m1 m2 m3; replace H := hidp (H.out.call hb); clear hb); (try simp only [Act.put, setIfInBounds_toArray, set_cons_zero, set_cons_succ]); have tk4 := hidp trivial))
        try clear tk4
        refine Mm.region H (.take 0 (.take 1 (.take 2 (.take 4 (.take 5 (.take 6 (.take 7 (.take 8 (.two 3 (.take 9 (.one 10 (.one 11 .done))) 10 (.one 3 (.take 9 (.one 11 .done)))))))))))) (by kernel_rfl) (by kernel_rfl) (by simp [Scr.depth]) (by kernel_rfl) ?_
        clear H
        intro _ H hb
        clear hb
        apply s_val
        case ho | hw => rfl
        case hv => intro w hw; go_simp; first | done | rfl
        simp only [Act.put, getElem_toArray, getElem_cons_zero, getElem_cons_succ, setIfInBounds_toArray, set_cons_zero, set_cons_succ]
        apply s_val
        case ho | hw => rfl
        case hv => intro w hw; go_simp; first | done | rfl
        simp only [Act.put, getElem_toArray, getElem_cons_zero, getElem_cons_succ, setIfInBounds_toArray, set_cons_zero, set_cons_succ]
        apply s_val
        case ho | hw => rfl
        case hv => intro w hw; obtain ⟨m0, m1, m2, m3⟩ := HC.out w hw.below; clear m1 m2 m3; go_simp; first | done | rfl
        simp only [Act.put, getElem_toArray, getElem_cons_zero, getElem_cons_succ, setIfInBounds_toArray, set_cons_zero, set_cons_succ]
        apply s_val
        case ho | hw => rfl
        case hv => intro w hw; go_simp; first | done | rfl
        simp only [Act.put, getElem_toArray, getElem_cons_zero, getElem_cons_succ, setIfInBounds_toArray, set_cons_zero, set_cons_succ]
        apply s_val
        case ho | hw => rfl
        case hv => intro w hw; go_simp; first | done | rfl
        simp only [Act.put, getElem_toArray, getElem_cons_zero, getElem_cons_succ, setIfInBounds_toArray, set_cons_zero, set_cons_succ]
        apply s_val
        case ho | hw => rfl
        case hv => intro w hw; go_simp; first | done | rfl
        simp only [Act.put, getElem_toArray, getElem_cons_zero, getElem_cons_succ, setIfInBounds_toArray, set_cons_zero, set_cons_succ]
        apply s_val
        case ho | hw => rfl
        case hv => intro w hw; go_simp; first | done | rfl
        simp only [Act.put, getElem_toArray, getElem_cons_zero, getElem_cons_succ, setIfInBounds_toArray, set_cons_zero, set_cons_succ]
        apply s_val
        case ho | hw => rfl
        case hv => intro w hw; obtain ⟨m0, m1, m2, m3⟩ := HC.out w hw.below; clear m0 m1 m2; go_simp; first | done | rfl
        simp only [Act.put, getElem_toArray, getElem_cons_zero, getElem_cons_succ, setIfInBounds_toArray, set_cons_zero, set_cons_succ]
        refine ⟨?_, ?_⟩
        · refine Mm.o_callH (v := .int .u8 (KK : Int)) H (fun W h => h) rfl rfl 27 (#[.string a]) (by go_simp; first | done | rfl) ((ck.out _ (HMB.out.below H.out.below (Nat.le_refl _))).mono fun e w2 h => ⟨h.1, h.2 ▸ Below.refl _ _⟩) ?_
          clear H
          intro _ H hb
          clear hb
          simp only [Act.put, getElem_toArray, getElem_cons_zero, getElem_cons_succ, setIfInBounds_toArray, set_cons_zero, set_cons_succ]
          apply s_val
          case ho | hw => rfl
          case hv => intro w hw; go_simp; first | done | rfl
          simp only [Act.put, getElem_toArray, getElem_cons_zero, getElem_cons_succ, setIfInBounds_toArray, set_cons_zero, set_cons_succ]
          refine Mm.o_newH rtM H (fun W h => h) rfl rfl rfl ?_
          clear H
          intro b10 _ H nw
          have hb := nw.below

          clear hb nw
          simp only [Act.put, getElem_toArray, getElem_cons_zero, getElem_cons_succ, setIfInBounds_toArray, set_cons_zero, set_cons_succ]
          refine Mm.oput0 rtM H [.int .u8 (KK : Int), .int .i64 V1, .int .i64 V2, .string d] (fun W h => h.tail) rfl rfl (.tmp 10) (.tmp 47) rfl rfl rfl rfl (by simp [Value.oneCell']) rfl ?_
          intro _ H2 st
          clear st H
          have H := H2
          clear H2
          simp only [Act.put, getElem_toArray, getElem_cons_zero, getElem_cons_succ, setIfInBounds_toArray, set_cons_zero, set_cons_succ]
          refine NoPanic.normal ?_
          clear ck
          have tk0 := hidp trivial
          go_wp2_with (first | (clear tk0; (refine Mm.get0 rtM H rfl (.tmp 10) rfl rfl rfl ?_); (try simp only [Act.put, setIfInBounds_toArray, set_cons_zero, set_cons_succ]); have tk1 := hidp trivial) | (clear tk1; (go_at_call 10; refine (cc.out _ (HIB.out.below H.out.below (Nat.le_refl _)) (HWB.out.below H.out.below (Nat.le_refl _)) (HTB.out.below H.out.below (Nat.le_refl _))).mono ?_; rintro e _ ⟨rfl, hb⟩; replace H := hidp (H.out.call hb); clear cc; clear hb); (try simp only [Act.put, setIfInBounds_toArray, set_cons_zero, set_cons_succ]); have tk2 := hidp trivial) | (clear tk2; (refine wpL_bsE3 H rfl (.tmp 48) (.tmp 49) (.tmp 51) E1 E2 E3 rfl rfl rfl rfl ?_; clear H; intro b9 _ H nw; clear nw); (try simp only [Act.put, setIfInBounds_toArray, set_cons_zero, set_cons_succ]); have tk3 := hidp trivial) | (clear tk3; (go_at_call 28; refine (orL3_any _ b9 E1 E2 E3 (arr3c H.out.at0)).mono ?_; rintro e _ ⟨rfl, rfl⟩; replace H := hidp (Sl.join H0.out H.out)); (try simp only [Act.put, setIfInBounds_toArray, set_cons_zero, set_cons_succ]); have tk4 := hidp trivial) | (clear tk4; (refine Mm.get1 rtM H rfl (.tmp 10) rfl rfl rfl ?_); (try simp only [Act.put, setIfInBounds_toArray, set_cons_zero, set_cons_succ]); have tk5 := hidp trivial) | (clear tk5; (refine Mm.put2 rtM H rfl (.tmp 2) (.tmp 56) [.int .u8 (KK : Int), .int .i64 V1, .int .i64 V2, .string d] rfl rfl rfl rfl (by simp [Value.oneCell']) rfl ?_; intro _ H2 st; clear st H; have H := H2; clear H2); (try simp only [Act.put, setIfInBounds_toArray, set_cons_zero, set_cons_succ]); have tk6 := hidp trivial))
          try clear tk6
          refine bodyPost_ret (Mm.ret_rowv rtM Tryz.results8 _ b2 _ _ rfl rfl H.out.at2 rfl) rfl ⟨by rw [HV.out, HE.out]; first | done | rfl, H.out.below⟩
        · refine Mm.o_newH rtM H (fun W h => h) rfl rfl rfl ?_
          clear H
          intro b10 _ H nw
          have hb := nw.below

          clear hb nw
          simp only [Act.put, getElem_toArray, getElem_cons_zero, getElem_cons_succ, setIfInBounds_toArray, set_cons_zero, set_cons_succ]
          refine Mm.o_callH (v := .int .u8 (KK : Int)) H (fun W h => h.tail) rfl rfl 27 (#[.string a]) (by go_simp; first | done | rfl) ((ck.out _ (HMB.out.below H.out.below (Nat.le_refl _))).mono fun e w2 h => ⟨h.1, h.2 ▸ Below.refl _ _⟩) ?_
          clear H
          intro _ H hb
          clear hb
          simp only [Act.put, getElem_toArray, getElem_cons_zero, getElem_cons_succ, setIfInBounds_toArray, set_cons_zero, set_cons_succ]
          apply s_val
          case ho | hw => rfl
          case hv => intro w hw; go_simp; first | done | rfl
          simp only [Act.put, getElem_toArray, getElem_cons_zero, getElem_cons_succ, setIfInBounds_toArray, set_cons_zero, set_cons_succ]
          refine Mm.oput0 rtM H [.int .u8 (KK : Int), .int .i64 V1, .int .i64 V2, .string d] (fun W h => h.tail) rfl rfl (.tmp 10) (.tmp 47) rfl rfl rfl rfl (by simp [Value.oneCell']) rfl ?_
          intro _ H2 st
          clear st H
          have H := H2
          clear H2
          simp only [Act.put, getElem_toArray, getElem_cons_zero, getElem_cons_succ, setIfInBounds_toArray, set_cons_zero, set_cons_succ]
          refine NoPanic.normal ?_
          clear ck
          have tk0 := hidp trivial
          go_wp2_with (first | (clear tk0; (refine Mm.get0 rtM H rfl (.tmp 10) rfl rfl rfl ?_); (try simp only [Act.put, setIfInBounds_toArray, set_cons_zero, set_cons_succ]); have tk1 := hidp trivial) | (clear tk1; (go_at_call 10; refine (cc.out _ (HIB.out.below H.out.below (Nat.le_refl _)) (HWB.out.below H.out.below (Nat.le_refl _)) (HTB.out.below H.out.below (Nat.le_refl _))).mono ?_; rintro e _ ⟨rfl, hb⟩; replace H := hidp (H.out.call hb); clear cc; clear hb); (try simp only [Act.put, setIfInBounds_toArray, set_cons_zero, set_cons_succ]); have tk2 := hidp trivial) | (clear tk2; (refine wpL_bsE3 H rfl (.tmp 48) (.tmp 49) (.tmp 51) E1 E2 E3 rfl rfl rfl rfl ?_; clear H; intro b9 _ H nw; clear nw); (try simp only [Act.put, setIfInBounds_toArray, set_cons_zero, set_cons_succ]); have tk3 := hidp trivial) | (clear tk3; (go_at_call 28; refine (orL3_any _ b9 E1 E2 E3 (arr3c H.out.at0)).mono ?_; rintro e _ ⟨rfl, rfl⟩; replace H := hidp (Sl.join H0.out H.out)); (try simp only [Act.put, setIfInBounds_toArray, set_cons_zero, set_cons_succ]); have tk4 := hidp trivial) | (clear tk4; (refine Mm.get1 rtM H rfl (.tmp 10) rfl rfl rfl ?_); (try simp only [Act.put, setIfInBounds_toArray, set_cons_zero, set_cons_succ]); have tk5 := hidp trivial) | (clear tk5; (refine Mm.put2 rtM H rfl (.tmp 2) (.tmp 56) [.int .u8 (KK : Int), .int .i64 V1, .int .i64 V2, .string d] rfl rfl rfl rfl (by simp [Value.oneCell']) rfl ?_; intro _ H2 st; clear st H; have H := H2; clear H2); (try simp only [Act.put, setIfInBounds_toArray, set_cons_zero, set_cons_succ]); have tk6 := hidp trivial))
          try clear tk6
          refine bodyPost_ret (Mm.ret_rowv rtM Tryz.results8 _ b2 _ _ rfl rfl H.out.at2 rfl) rfl ⟨by rw [HV.out, HE.out]; first | done | rfl, H.out.below⟩
      · have e9 : (orL [E1, E2, E3] != 0) = true := by simpa using hz
        have hN : mP s = none := by rw [hP, if_neg (fun g => hz (orL3.2 g))]
        clear hP hz
        have HV := hidp (show mpV s = zMs from by unfold mpV; rw [hN]; rfl)
        have HE := hidp (show mpE s = 6 from by unfold mpE; rw [hN]; rfl)
        clear hN
        go_enter Tryz.func8, Tryz.ntmps8
        have tk0 := hidp trivial
        go_wp2_with (first | (clear tk0; (refine Mm.new rtM H (some 2) rfl rfl rfl ?_; clear H; intro b2 _ H nw; have hb := nw.below; clear hb nw); (try simp only [Act.put, setIfInBounds_toArray, set_cons_zero, set_cons_succ]); have tk1 := hidp trivial) | (clear tk1; (go_at_call 20; refine (ca.out _).mono ?_; rintro e w1 ⟨v, rfl, hst, hb⟩; have H0 := hidp (H.out.call hb); obtain ⟨g, off, cv, rfl, hg, hcs⟩ := Sl.strs_pos hst (by simp); have HIB := hidp (HI.out.below H0.out.below (Nat.le_refl _)); have HWB := hidp (HW.out.below H0.out.below (Nat.le_refl _)); have HTB := hidp (HT0.out.below H0.out.below (Nat.le_refl _)); have HMB := hidp (HM.out.below H0.out.below (Nat.le_refl _)); clear H hst hb ca; have HC := hidp (show ∀ W, Below w1.heap.size w1 W → W.cell? ⟨g, off, none⟩ = some (.string a) ∧ W.cell? ⟨g, off + 1, none⟩ = some (.string b) ∧ W.cell? ⟨g, off + 2, none⟩ = some (.string c) ∧ W.cell? ⟨g, off + 3, none⟩ = some (.string d) from fun W hW => ⟨(hW.cell (p := ⟨g, off, none⟩) hg).trans (hcs 0 (by simp)), (hW.cell (p := ⟨g, off + 1, none⟩) hg).trans (hcs 1 (by simp)), (hW.cell (p := ⟨g, off + 2, none⟩) hg).trans (hcs 2 (by simp)), (hW.cell (p := ⟨g, off + 3, none⟩) hg).trans (hcs 3 (by simp))⟩); clear hcs; have H := hidp (Mm.M.nil w1); obtain ⟨m0, m1, m2, m3⟩ := HC.out _ H.out.below); (try simp only [Act.put, setIfInBounds_toArray, set_cons_zero, set_cons_succ]); have tk2 := hidp trivial) | (clear tk2; (go_at_call 26; refine (c1.out _).mono ?_; rintro e _ ⟨rfl, hb⟩; clear m0 m1 m2 m3; replace H := hidp (H.out.call hb); clear hb; obtain ⟨m0, m1, m2, m3⟩ := HC.out _ H.out.below); (try simp only [Act.put, setIfInBounds_toArray, set_cons_zero, set_cons_succ]); have tk3 := hidp trivial) | (clear tk3; (go_at_call 26; refine (c2.out _).mono ?_; rintro e _ ⟨rfl, hb⟩; clear m0 m1 m2 m3; replace H := hidp (H.out.call hb); clear hb); (try simp only [Act.put, setIfInBounds_toArray, set_cons_zero, set_cons_succ]); have tk4 := hidp trivial))
        try clear tk4
        refine Mm.region H (.take 0 (.take 1 (.take 2 (.take 4 (.take 5 (.take 6 (.take 7 (.take 8 (.two 3 (.take 9 (.one 10 (.one 11 .done))) 10 (.one 3 (.take 9 (.one 11 .done)))))))))))) (by kernel_rfl) (by kernel_rfl) (by simp [Scr.depth]) (by kernel_rfl) ?_
        clear H
        intro _ H hb
        clear hb
        apply s_val
        case ho | hw => rfl
        case hv => intro w hw; go_simp; first | done | rfl
        simp only [Act.put, getElem_toArray, getElem_cons_zero, getElem_cons_succ, setIfInBounds_toArray, set_cons_zero, set_cons_succ]
        apply s_val
        case ho | hw => rfl
        case hv => intro w hw; go_simp; first | done | rfl
        simp only [Act.put, getElem_toArray, getElem_cons_zero, getElem_cons_succ, setIfInBounds_toArray, set_cons_zero, set_cons_succ]
        apply s_val
        case ho | hw => rfl
        case hv => intro w hw; obtain ⟨m0, m1, m2, m3⟩ := HC.out w hw.below; clear m1 m2 m3; go_simp; first | done | rfl
        simp only [Act.put, getElem_toArray, getElem_cons_zero, getElem_cons_succ, setIfInBounds_toArray, set_cons_zero, set_cons_succ]
        apply s_val
        case ho | hw => rfl
        case hv => intro w hw; go_simp; first | done | rfl
        simp only [Act.put, getElem_toArray, getElem_cons_zero, getElem_cons_succ, setIfInBounds_toArray, set_cons_zero, set_cons_succ]
        apply s_val
        case ho | hw => rfl
        case hv => intro w hw; go_simp; first | done | rfl
        simp only [Act.put, getElem_toArray, getElem_cons_zero, getElem_cons_succ, setIfInBounds_toArray, set_cons_zero, set_cons_succ]
        apply s_val
        case ho | hw => rfl
        case hv => intro w hw; go_simp; first | done | rfl
        simp only [Act.put, getElem_toArray, getElem_cons_zero, getElem_cons_succ, setIfInBounds_toArray, set_cons_zero, set_cons_succ]
        apply s_val
        case ho | hw => rfl
        case hv => intro w hw; go_simp; first | done | rfl
        simp only [Act.put, getElem_toArray, getElem_cons_zero, getElem_cons_succ, setIfInBounds_toArray, set_cons_zero, set_cons_succ]
        apply s_val
        case ho | hw => rfl
        case hv => intro w hw; obtain ⟨m0, m1, m2, m3⟩ := HC.out w hw.below; clear m0 m1 m2; go_simp; first | done | rfl
        simp only [Act.put, getElem_toArray, getElem_cons_zero, getElem_cons_succ, setIfInBounds_toArray, set_cons_zero, set_cons_succ]
        refine ⟨?_, ?_⟩
        · refine Mm.o_callH (v := .int .u8 (KK : Int)) H (fun W h => h) rfl rfl 27 (#[.string a]) (by go_simp; first | done | rfl) ((ck.out _ (HMB.out.below H.out.below (Nat.le_refl _))).mono fun e w2 h => ⟨h.1, h.2 ▸ Below.refl _ _⟩) ?_
          clear H
          intro _ H hb
          clear hb
          simp only [Act.put, getElem_toArray, getElem_cons_zero, getElem_cons_succ, setIfInBounds_toArray, set_cons_zero, set_cons_succ]
          apply s_val
          case ho | hw => rfl
          case hv => intro w hw; go_simp; first | done | rfl
          simp only [Act.put, getElem_toArray, getElem_cons_zero, getElem_cons_succ, setIfInBounds_toArray, set_cons_zero, set_cons_succ]
          refine Mm.o_newH rtM H (fun W h => h) rfl rfl rfl ?_
          clear H
          intro b10 _ H nw
          have hb := nw.below

          clear hb nw
          simp only [Act.put, getElem_toArray, getElem_cons_zero, getElem_cons_succ, setIfInBounds_toArray, set_cons_zero, set_cons_succ]
          refine Mm.oput0 rtM H [.int .u8 (KK : Int), .int .i64 V1, .int .i64 V2, .string d] (fun W h => h.tail) rfl rfl (.tmp 10) (.tmp 47) rfl rfl rfl rfl (by simp [Value.oneCell']) rfl ?_
          intro _ H2 st
          clear st H
          have H := H2
          clear H2
          simp only [Act.put, getElem_toArray, getElem_cons_zero, getElem_cons_succ, setIfInBounds_toArray, set_cons_zero, set_cons_succ]
          refine NoPanic.normal ?_
          clear ck
          have tk0 := hidp trivial
          go_wp2_with (first | (clear tk0; (refine Mm.get0 rtM H rfl (.tmp 10) rfl rfl rfl ?_); (try simp only [Act.put, setIfInBounds_toArray, set_cons_zero, set_cons_succ]); have tk1 := hidp trivial) | (clear tk1; (go_at_call 10; refine (cc.out _ (HIB.out.below H.out.below (Nat.le_refl _)) (HWB.out.below H.out.below (Nat.le_refl _)) (HTB.out.below H.out.below (Nat.le_refl _))).mono ?_; rintro e _ ⟨rfl, hb⟩; replace H := hidp (H.out.call hb); clear cc; clear hb); (try simp only [Act.put, setIfInBounds_toArray, set_cons_zero, set_cons_succ]); have tk2 := hidp trivial) | (clear tk2; (refine wpL_bsE3 H rfl (.tmp 48) (.tmp 49) (.tmp 51) E1 E2 E3 rfl rfl rfl rfl ?_; clear H; intro b9 _ H nw; clear nw); (try simp only [Act.put, setIfInBounds_toArray, set_cons_zero, set_cons_succ]); have tk3 := hidp trivial) | (clear tk3; (go_at_call 28; refine (orL3_any _ b9 E1 E2 E3 (arr3c H.out.at0)).mono ?_; rintro e _ ⟨rfl, rfl⟩; replace H := hidp (Sl.join H0.out H.out)); (try simp only [Act.put, setIfInBounds_toArray, set_cons_zero, set_cons_succ]); have tk4 := hidp trivial) | (clear tk4; (refine Rt.wpL_build rfl 24 _ rfl [.int .u8 0, .int .i64 0, .int .i64 0, .string ⟨#[]⟩] (by kernel_rfl) ?_); (try simp only [Act.put, setIfInBounds_toArray, set_cons_zero, set_cons_succ]); have tk5 := hidp trivial) | (clear tk5; (refine Mm.put2 rtM H rfl (.tmp 2) (.tmp 55) [.int .u8 0, .int .i64 0, .int .i64 0, .string ⟨#[]⟩] rfl rfl rfl rfl (by decide) rfl ?_; intro _ H2 st; clear st H; have H := H2; clear H2); (try simp only [Act.put, setIfInBounds_toArray, set_cons_zero, set_cons_succ]); have tk6 := hidp trivial))
          try clear tk6
          refine bodyPost_ret (Mm.ret_rowv rtM Tryz.results8 _ b2 _ _ rfl rfl H.out.at2 rfl) rfl ⟨by rw [HV.out, HE.out]; first | done | rfl, H.out.below⟩
        · refine Mm.o_newH rtM H (fun W h => h) rfl rfl rfl ?_
          clear H
          intro b10 _ H nw
          have hb := nw.below

          clear hb nw
          simp only [Act.put, getElem_toArray, getElem_cons_zero, getElem_cons_succ, setIfInBounds_toArray, set_cons_zero, set_cons_succ]
          refine Mm.o_callH (v := .int .u8 (KK : Int)) H (fun W h => h.tail) rfl rfl 27 (#[.string a]) (by go_simp; first | done | rfl) ((ck.out _ (HMB.out.below H.out.below (Nat.le_refl _))).mono fun e w2 h => ⟨h.1, h.2 ▸ Below.refl _ _⟩) ?_
          clear H
          intro _ H hb
          clear hb
          simp only [Act.put, getElem_toArray, getElem_cons_zero, getElem_cons_succ, setIfInBounds_toArray, set_cons_zero, set_cons_succ]
          apply s_val
          case ho | hw => rfl
          case hv => intro w hw; go_simp; first | done | rfl
          simp only [Act.put, getElem_toArray, getElem_cons_zero, getElem_cons_succ, setIfInBounds_toArray, set_cons_zero, set_cons_succ]
          refine Mm.oput0 rtM H [.int .u8 (KK : Int), .int .i64 V1, .int .i64 V2, .string d] (fun W h => h.tail) rfl rfl (.tmp 10) (.tmp 47) rfl rfl rfl rfl (by simp [Value.oneCell']) rfl ?_
          intro _ H2 st
          clear st H
          have H := H2
          clear H2
          simp only [Act.put, getElem_toArray, getElem_cons_zero, getElem_cons_succ, setIfInBounds_toArray, set_cons_zero, set_cons_succ]
          refine NoPanic.normal ?_
          clear ck
          have tk0 := hidp trivial
          go_wp2_with (first | (clear tk0; (refine Mm.get0 rtM H rfl (.tmp 10) rfl rfl rfl ?_); (try simp only [Act.put, setIfInBounds_toArray, set_cons_zero, set_cons_succ]); have tk1 := hidp trivial) | (clear tk1; (go_at_call 10; refine (cc.out _ (HIB.out.below H.out.below (Nat.le_refl _)) (HWB.out.below H.out.below (Nat.le_refl _)) (HTB.out.below H.out.below (Nat.le_refl _))).mono ?_; rintro e _ ⟨rfl, hb⟩; replace H := hidp (H.out.call hb); clear cc; clear hb); (try simp only [Act.put, setIfInBounds_toArray, set_cons_zero, set_cons_succ]); have tk2 := hidp trivial) | (clear tk2; (refine wpL_bsE3 H rfl (.tmp 48) (.tmp 49) (.tmp 51) E1 E2 E3 rfl rfl rfl rfl ?_; clear H; intro b9 _ H nw; clear nw); (try simp only [Act.put, setIfInBounds_toArray, set_cons_zero, set_cons_succ]); have tk3 := hidp trivial) | (clear tk3; (go_at_call 28; refine (orL3_any _ b9 E1 E2 E3 (arr3c H.out.at0)).mono ?_; rintro e _ ⟨rfl, rfl⟩; replace H := hidp (Sl.join H0.out H.out)); (try simp only [Act.put, setIfInBounds_toArray, set_cons_zero, set_cons_succ]); have tk4 := hidp trivial) | (clear tk4; (refine Rt.wpL_build rfl 24 _ rfl [.int .u8 0, .int .i64 0, .int .i64 0, .string ⟨#[]⟩] (by kernel_rfl) ?_); (try simp only [Act.put, setIfInBounds_toArray, set_cons_zero, set_cons_succ]); have tk5 := hidp trivial) | (clear tk5; (refine Mm.put2 rtM H rfl (.tmp 2) (.tmp 55) [.int .u8 0, .int .i64 0, .int .i64 0, .string ⟨#[]⟩] rfl rfl rfl rfl (by decide) rfl ?_; intro _ H2 st; clear st H; have H := H2; clear H2); (try simp only [Act.put, setIfInBounds_toArray, set_cons_zero, set_cons_succ]); have tk6 := hidp trivial))
          try clear tk6
          refine bodyPost_ret (Mm.ret_rowv rtM Tryz.results8 _ b2 _ _ rfl rfl H.out.at2 rfl) rfl ⟨by rw [HV.out, HE.out]; first | done | rfl, H.out.below⟩
    · have hN := mP_len h6
      have HV := hidp (show mpV s = zMs from by unfold mpV; rw [hN]; rfl)
      have HE := hidp (show mpE s = 6 from by unfold mpE; rw [hN]; rfl)
      clear hN
      rw [h0] at ca
      obtain ⟨ss, hss⟩ : ∃ ss, (al s).1 = ss := ⟨_, rfl⟩
      rw [hss] at ca h6
      obtain ⟨n, hn⟩ : ∃ n, ss.length = n := ⟨_, rfl⟩
      have e1 : ((n : Int) != 4) = true := by simp; omega
      have g1 : ¬ n = 4 := by omega
      have g2 : (n != 4) = true := by simpa using g1
      clear hss h0
      have cb := hidp (fun W => (ca.out W).mono fun e w' ⟨v, h1, h2, h3⟩ => (⟨v, h1, ⟨Sl.strs_form h2, h3⟩⟩ : ∃ v, e = Ending.returned (.tuple #[v, .int .i64 ((0 : Nat) : Int)]) ∧ (∃ a c, v = Value.slice a ss.length c) ∧ Below W.heap.size W w'))
      rw [hn] at cb
      clear ca hn h6
      go_enter Tryz.func8, Tryz.ntmps8
      have tk0 := hidp trivial
      go_wp2_with (first | (clear tk0; (refine Mm.new rtM H (some 2) rfl rfl rfl ?_; clear H; intro b2 _ H nw; have hb := nw.below; clear hb nw); (try simp only [Act.put, setIfInBounds_toArray, set_cons_zero, set_cons_succ]); have tk1 := hidp trivial) | (clear tk1; (go_at_call 20; refine (cb.out _).mono ?_; rintro e _ ⟨v, rfl, ⟨av, cv, rfl⟩, hb⟩; replace H := hidp (H.out.call hb); clear hb cb); (try simp only [Act.put, setIfInBounds_toArray, set_cons_zero, set_cons_succ]); have tk2 := hidp trivial) | (clear tk2; (refine Rt.wpL_build rfl 24 _ rfl [.int .u8 0, .int .i64 0, .int .i64 0, .string ⟨#[]⟩] (by kernel_rfl) ?_); (try simp only [Act.put, setIfInBounds_toArray, set_cons_zero, set_cons_succ]); have tk3 := hidp trivial) | (clear tk3; (refine Mm.put0 rtM H rfl (.tmp 2) (.tmp 23) [.int .u8 0, .int .i64 0, .int .i64 0, .string ⟨#[]⟩] rfl rfl rfl rfl (by decide) rfl ?_; intro _ H2 st; clear st H; have H := H2; clear H2); (try simp only [Act.put, setIfInBounds_toArray, set_cons_zero, set_cons_succ]); have tk4 := hidp trivial))
      try clear tk4
      refine bodyPost_ret (Mm.ret_rowv rtM Tryz.results8 _ b2 _ _ rfl rfl H.out.at0 rfl) rfl ⟨by rw [HV.out, HE.out]; first | done | rfl, H.out.below⟩
  · have hN : mP s = none := if_neg h0
    have HV := hidp (show mpV s = zMs from by unfold mpV; rw [hN]; rfl)
    have HE := hidp (show mpE s = 6 from by unfold mpE; rw [hN]; rfl)
    clear hN
    obtain ⟨E, hE⟩ : ∃ E, (al s).2 = E := ⟨_, rfl⟩
    rw [hE] at ca h0
    have e1 : ((E : Int) != 0) = true := by simp; omega
    have g1 : ¬ (E : Int) = 0 := by omega
    have g2 : ¬ E = 0 := h0
    clear hE h0
    go_enter Tryz.func8, Tryz.ntmps8
    have tk0 := hidp trivial
    go_wp2_with (first | (clear tk0; (refine Mm.new rtM H (some 2) rfl rfl rfl ?_; clear H; intro b2 _ H nw; have hb := nw.below; clear hb nw); (try simp only [Act.put, setIfInBounds_toArray, set_cons_zero, set_cons_succ]); have tk1 := hidp trivial) | (clear tk1; (go_at_call 20; refine (ca.out _).mono ?_; rintro e _ ⟨v, rfl, hst, hb⟩; replace H := hidp (H.out.call hb); obtain ⟨av, cv, rfl⟩ := Sl.strs_form hst; clear hst hb ca); (try simp only [Act.put, setIfInBounds_toArray, set_cons_zero, set_cons_succ]); have tk2 := hidp trivial) | (clear tk2; (refine Rt.wpL_build rfl 24 _ rfl [.int .u8 0, .int .i64 0, .int .i64 0, .string ⟨#[]⟩] (by kernel_rfl) ?_); (try simp only [Act.put, setIfInBounds_toArray, set_cons_zero, set_cons_succ]); have tk3 := hidp trivial) | (clear tk3; (refine Mm.put0 rtM H rfl (.tmp 2) (.tmp 23) [.int .u8 0, .int .i64 0, .int .i64 0, .string ⟨#[]⟩] rfl rfl rfl rfl (by decide) rfl ?_; intro _ H2 st; clear st H; have H := H2; clear H2); (try simp only [Act.put, setIfInBounds_toArray, set_cons_zero, set_cons_succ]); have tk4 := hidp trivial))
    try clear tk4
    refine bodyPost_ret (Mm.ret_rowv rtM Tryz.results8 _ b2 _ _ rfl rfl H.out.at0 rfl) rfl ⟨by rw [HV.out, HE.out]; first | done | rfl, H.out.below⟩
end Go.Proofs.YtfenjincbhkodaaGreatDoor.Wi
