/-
  The document's networks: Drop, Double, New.
-/
import Derived.Test.YtokakgjcegmabaaNtR
namespace Go.Proofs.Ytokakgjcegmabaa.Nt
set_option maxRecDepth 100000
set_option linter.unusedVariables false
set_option linter.unusedSimpArgs false
open Go.RowKit
open List (getElem_toArray getElem_cons_zero getElem_cons_succ setIfInBounds_toArray set_cons_zero set_cons_succ)
open Vs (VsAt)
set_option maxHeartbeats 8000000 in
theorem rdrop_any (w : World) (m n : Int) (v : Value) (L : List ByteArray) (hv : VsAt w v (strV L)) (hL : L.length ≤ 1000000) (hn : 0 ≤ n ∧ n ≤ 1048576) (i : Int) : Calls Try.prog 14 #[.agg #[.int .i64 m, v, .int .i64 n], .int .i64 i] w fun e w' => ∃ v', e = .returned (.tuple #[.agg #[.int .i64 m, v', .int .i64 (drN L i n)], .int .i64 (tkE L i)]) ∧ VsAt w' v' (strV (tkL L i)) ∧ Nr w v v' ∧ Below w.heap.size w w' := by
  have HV := hidp hv
  have hone := VsAt.oneCell hv
  have H := hidp (Mm.M.nil w)
  have ct := hidp (fun W (hv : VsAt W v (strV L)) => rtake_any W m n v L hv hL i)
  obtain ⟨S, hS⟩ : ∃ S, tkS L i = S := ⟨_, rfl⟩
  obtain ⟨L2, hL2⟩ : ∃ x, tkL L i = x := ⟨_, rfl⟩
  rw [hS, hL2] at ct
  rw [hL2]
  have hw2 := show IntKind.i64.wrap (n + 1) = n + 1 from by rw [IntKind.wrap_i64]; omega
  cases hh : hasB L i with
  | false =>
    have HE := hidp (show tkE L i = 3 from if_neg (by rw [hh]; exact Bool.false_ne_true))
    have HM := hidp (show drN L i n = n from if_neg (by rw [hh]; exact Bool.false_ne_true))
    rw [HE.out] at ct
    clear hh hv hS hL2 hL
    go_enter Try.func14, Try.ntmps14
    have tk0 := hidp trivial
    go_wp2_with (first | (clear tk0; (refine Mm.box 30 H rfl (.tmp 0) rfl [.int .i64 m, v, .int .i64 n] rfl ?_; clear H; intro b2 _ H nw; have hb := nw.below; clear hb nw); (try simp only [Act.put, setIfInBounds_toArray, set_cons_zero, set_cons_succ]); have tk1 := hidp trivial) | (clear tk1; (refine Mm.new rtRN H (some 4) rfl rfl rfl ?_; clear H; intro b4 _ H nw; have hb := nw.below; clear hb nw); (try simp only [Act.put, setIfInBounds_toArray, set_cons_zero, set_cons_succ]); have tk2 := hidp trivial) | (clear tk2; (refine Mm.get1 rtRN H rfl (.tmp 2) rfl rfl rfl ?_); (try simp only [Act.put, setIfInBounds_toArray, set_cons_zero, set_cons_succ]); have tk3 := hidp trivial) | (clear tk3; (go_at_call 12; refine (ct.out _ (HV.out.to H.out.below)).mono ?_; rintro e _ ⟨v1, rfl, hv1, hr1, hb⟩; have hone := VsAt.oneCell hv1; have HV1 := hidp hv1; have HR1 := hidp (fun g hg => (hr1 g hg).imp id (fun e => Nat.le_trans H.out.below.size e)); replace H := hidp (H.out.call hb); clear hb hv1 hr1 ct); (try simp only [Act.put, setIfInBounds_toArray, set_cons_zero, set_cons_succ]); have tk4 := hidp trivial) | (clear tk4; (refine Mm.new rtRN H (some 6) rfl rfl rfl ?_; clear H; intro b6 _ H nw; have hb := nw.below; replace HV1 := hidp (VsAt.to HV1.out hb); clear hb nw); (try simp only [Act.put, setIfInBounds_toArray, set_cons_zero, set_cons_succ]); have tk5 := hidp trivial) | (clear tk5; (refine Mm.put0 rtRN H rfl (.tmp 6) (.tmp 13) [.int .i64 m, v1, .int .i64 n] rfl rfl rfl rfl (by intro u hu; simp only [List.mem_cons, List.not_mem_nil, or_false] at hu; rcases hu with rfl | rfl | rfl <;> first | rfl | exact hone) rfl ?_; intro _ H2 st; replace HV1 := hidp (VsAt.stp HV1.out st H.out.at0 (by decide)); clear st H; have H := H2; clear H2); (try simp only [Act.put, setIfInBounds_toArray, set_cons_zero, set_cons_succ]); have tk6 := hidp trivial) | (clear tk6; (refine Mm.get0 rtRN H rfl (.tmp 6) rfl rfl rfl ?_); (try simp only [Act.put, setIfInBounds_toArray, set_cons_zero, set_cons_succ]); have tk7 := hidp trivial) | (clear tk7; (refine Mm.put1 rtRN H rfl (.tmp 4) (.tmp 22) [.int .i64 m, v1, .int .i64 n] rfl rfl rfl rfl (by intro u hu; simp only [List.mem_cons, List.not_mem_nil, or_false] at hu; rcases hu with rfl | rfl | rfl <;> first | rfl | exact hone) rfl ?_; intro _ H2 st; replace HV1 := hidp (VsAt.stp HV1.out st H.out.at1 (by decide)); clear st H; have H := H2; clear H2); (try simp only [Act.put, setIfInBounds_toArray, set_cons_zero, set_cons_succ]); have tk8 := hidp trivial))
    try clear tk8
    refine bodyPost_ret (Mm.ret_rowv rtRN Try.results14 _ b4 _ _ rfl rfl H.out.at1 rfl) rfl ⟨v1, by rw [HE.out, HM.out]; rfl, HV1.out, HR1.out, H.out.below⟩
  | true =>
    have HE := hidp (show tkE L i = 0 from if_pos hh)
    have HM := hidp (show drN L i n = n + 1 from if_pos hh)
    rw [HE.out] at ct
    clear hh hv hS hL2 hL
    go_enter Try.func14, Try.ntmps14
    have tk0 := hidp trivial
    go_wp2_with (first | (clear tk0; (refine Mm.box 30 H rfl (.tmp 0) rfl [.int .i64 m, v, .int .i64 n] rfl ?_; clear H; intro b2 _ H nw; have hb := nw.below; clear hb nw); (try simp only [Act.put, setIfInBounds_toArray, set_cons_zero, set_cons_succ]); have tk1 := hidp trivial) | (clear tk1; (refine Mm.new rtRN H (some 4) rfl rfl rfl ?_; clear H; intro b4 _ H nw; have hb := nw.below; clear hb nw); (try simp only [Act.put, setIfInBounds_toArray, set_cons_zero, set_cons_succ]); have tk2 := hidp trivial) | (clear tk2; (refine Mm.get1 rtRN H rfl (.tmp 2) rfl rfl rfl ?_); (try simp only [Act.put, setIfInBounds_toArray, set_cons_zero, set_cons_succ]); have tk3 := hidp trivial) | (clear tk3; (go_at_call 12; refine (ct.out _ (HV.out.to H.out.below)).mono ?_; rintro e _ ⟨v1, rfl, hv1, hr1, hb⟩; have hone := VsAt.oneCell hv1; have HV1 := hidp hv1; have HR1 := hidp (fun g hg => (hr1 g hg).imp id (fun e => Nat.le_trans H.out.below.size e)); replace H := hidp (H.out.call hb); clear hb hv1 hr1 ct); (try simp only [Act.put, setIfInBounds_toArray, set_cons_zero, set_cons_succ]); have tk4 := hidp trivial) | (clear tk4; (refine Mm.new rtRN H (some 6) rfl rfl rfl ?_; clear H; intro b6 _ H nw; have hb := nw.below; replace HV1 := hidp (VsAt.to HV1.out hb); clear hb nw); (try simp only [Act.put, setIfInBounds_toArray, set_cons_zero, set_cons_succ]); have tk5 := hidp trivial) | (clear tk5; (refine Mm.put0 rtRN H rfl (.tmp 6) (.tmp 13) [.int .i64 m, v1, .int .i64 n] rfl rfl rfl rfl (by intro u hu; simp only [List.mem_cons, List.not_mem_nil, or_false] at hu; rcases hu with rfl | rfl | rfl <;> first | rfl | exact hone) rfl ?_; intro _ H2 st; replace HV1 := hidp (VsAt.stp HV1.out st H.out.at0 (by decide)); clear st H; have H := H2; clear H2); (try simp only [Act.put, setIfInBounds_toArray, set_cons_zero, set_cons_succ]); have tk6 := hidp trivial) | (clear tk6; (refine Mm.ld0 naI H rfl (.tmp 18) 2 _ rfl rfl rfl ?_); (try simp only [Act.put, setIfInBounds_toArray, set_cons_zero, set_cons_succ]); have tk7 := hidp trivial) | (clear tk7; (refine Mm.putF0 H rfl 3 (.tmp 21) (.tmp 20) 2 (.int .i64 (n + 1)) rfl rfl rfl (by kernel_rfl) rfl (of_decide_eq_true rfl) ?_; intro _ H2 st; replace HV1 := hidp (VsAt.stp HV1.out st H.out.at0 (by decide)); clear st H; have H : Hid (Mm.M w.heap.size w _ ([⟨b6, 30, [.int .i64 m, v1, .int .i64 (n + 1)]⟩, ⟨b4, 30, [.int .i64 0, .slice none 0 0, .int .i64 0]⟩, ⟨b2, 30, [.int .i64 m, v, .int .i64 n]⟩])) := H2; clear H2); (try simp only [Act.put, setIfInBounds_toArray, set_cons_zero, set_cons_succ]); have tk8 := hidp trivial) | (clear tk8; (refine Mm.get0 rtRN H rfl (.tmp 6) rfl rfl rfl ?_); (try simp only [Act.put, setIfInBounds_toArray, set_cons_zero, set_cons_succ]); have tk9 := hidp trivial) | (clear tk9; (refine Mm.put1 rtRN H rfl (.tmp 4) (.tmp 22) [.int .i64 m, v1, .int .i64 (n + 1)] rfl rfl rfl rfl (by intro u hu; simp only [List.mem_cons, List.not_mem_nil, or_false] at hu; rcases hu with rfl | rfl | rfl <;> first | rfl | exact hone) rfl ?_; intro _ H2 st; replace HV1 := hidp (VsAt.stp HV1.out st H.out.at1 (by decide)); clear st H; have H := H2; clear H2); (try simp only [Act.put, setIfInBounds_toArray, set_cons_zero, set_cons_succ]); have tk10 := hidp trivial))
    try clear tk10
    refine bodyPost_ret (Mm.ret_rowv rtRN Try.results14 _ b4 _ _ rfl rfl H.out.at1 rfl) rfl ⟨v1, by rw [HE.out, HM.out]; rfl, HV1.out, HR1.out, H.out.below⟩
set_option maxHeartbeats 8000000 in
theorem rdouble_any (w : World) (m n : Int) (v : Value) (L : List ByteArray) (hv : VsAt w v (strV L)) (hm : (L.length : Int) ≤ m) (hL : L.length ≤ 1000000) (hn : 0 ≤ n ∧ n ≤ 1048576) (i : Int) : Calls Try.prog 16 #[.agg #[.int .i64 m, v, .int .i64 n], .int .i64 i] w fun e w' => ∃ v', e = .returned (.tuple #[.agg #[.int .i64 m, v', .int .i64 (dbN L m n i)], .int .i64 (dbE L m i)]) ∧ VsAt w' v' (strV (dbL L m i)) ∧ Nr w v v' ∧ Below w.heap.size w w' := by
  have HV := hidp hv
  have hone := VsAt.oneCell hv
  have H := hidp (Mm.M.nil w)
  have ch := hidp (fun W (hv : VsAt W v (strV L)) => rhas_any W m n v L hv i)
  cases hh : hasB L i with
  | false =>
    rw [hh] at ch
    have HE := hidp (show dbE L m i = 3 from if_neg (by rw [hh]; exact Bool.false_ne_true))
    have HM := hidp (show dbN L m n i = n from if_neg (by rw [hh]; exact Bool.false_ne_true))
    have HL := hidp (show dbL L m i = L from if_neg (by rw [hh]; exact Bool.false_ne_true))
    clear hh hv
    go_enter Try.func16, Try.ntmps16
    have tk0 := hidp trivial
    go_wp2_with (first | (clear tk0; (refine Mm.box 30 H rfl (.tmp 0) rfl [.int .i64 m, v, .int .i64 n] rfl ?_; clear H; intro b2 _ H nw; have hb := nw.below; clear hb nw); (try simp only [Act.put, setIfInBounds_toArray, set_cons_zero, set_cons_succ]); have tk1 := hidp trivial) | (clear tk1; (refine Mm.new rtRN H (some 4) rfl rfl rfl ?_; clear H; intro b4 _ H nw; have hb := nw.below; clear hb nw); (try simp only [Act.put, setIfInBounds_toArray, set_cons_zero, set_cons_succ]); have tk2 := hidp trivial) | (clear tk2; (refine Mm.get1 rtRN H rfl (.tmp 2) rfl rfl rfl ?_); (try simp only [Act.put, setIfInBounds_toArray, set_cons_zero, set_cons_succ]); have tk3 := hidp trivial) | (clear tk3; (go_at_call 40; refine (ch.out _ (HV.out.to H.out.below)).mono ?_; rintro e _ ⟨rfl, hb⟩; replace H := hidp (H.out.call hb); clear ch; clear hb); (try simp only [Act.put, setIfInBounds_toArray, set_cons_zero, set_cons_succ]); have tk4 := hidp trivial) | (clear tk4; (refine Mm.get1 rtRN H rfl (.tmp 2) rfl rfl rfl ?_); (try simp only [Act.put, setIfInBounds_toArray, set_cons_zero, set_cons_succ]); have tk5 := hidp trivial) | (clear tk5; (refine Mm.put0 rtRN H rfl (.tmp 4) (.tmp 10) [.int .i64 m, v, .int .i64 n] rfl rfl rfl rfl (by intro u hu; simp only [List.mem_cons, List.not_mem_nil, or_false] at hu; rcases hu with rfl | rfl | rfl <;> first | rfl | exact hone) rfl ?_; intro _ H2 st; clear st H; have H := H2; clear H2); (try simp only [Act.put, setIfInBounds_toArray, set_cons_zero, set_cons_succ]); have tk6 := hidp trivial))
    try clear tk6
    refine bodyPost_ret (Mm.ret_rowv rtRN Try.results16 _ b4 _ _ rfl rfl H.out.at0 rfl) rfl ⟨_, by rw [HE.out, HM.out]; rfl, by rw [HL.out]; exact (HV.out.to H.out.below), fun g hg => .inl hg, H.out.below⟩
  | true =>
    rw [hh] at ch
    obtain ⟨k, rfl, hk⟩ := hasB_nat hh
    obtain ⟨g, off, c, hvf, hlc, hgl, hcells⟩ := Vs.VsAt.get hv (by rw [strV_length]; omega)
    rw [strV_length] at hvf hlc
    have hcl := hidp (show w.cell? ⟨g, off + k, none⟩ = some (.string (Sl.sAt L k)) from by rw [hcells k (by rw [strV_length]; exact hk), Sl.sAt_get hk]; simp [strV])
    have cp := hidp (show ∀ W, VsAt W v (strV L) → w.heap.size ≤ W.heap.size → Calls Try.prog 10 #[.agg #[.int .i64 m, v, .int .i64 n], .string (Sl.sAt L k)] W (fun e w' => ∃ r, e = .returned r ∧ (∃ v', r = .tuple #[.agg #[.int .i64 m, v', .int .i64 (putN L m n)], .int .i64 (putE L m)] ∧ VsAt w' v' (strV (putL L m (Sl.sAt L k))) ∧ Nr w v v') ∧ Below W.heap.size W w') from fun W hv hle => (rput_any W m n v L hv hm hL hn (Sl.sAt L k)).mono fun e w' ⟨v', h1, h2, h3, h4⟩ => ⟨_, h1, ⟨v', rfl, h2, fun g hg => (h3 g hg).imp id (fun e => Nat.le_trans hle e)⟩, h4⟩)
    subst hvf
    have HE := hidp (show dbE L m (k : Int) = putE L m from if_pos hh)
    have HM := hidp (show dbN L m n (k : Int) = putN L m n from if_pos hh)
    have HL := hidp (show dbL L m (k : Int) = putL L m (Sl.sAt L k) from by unfold dbL; rw [if_pos hh, Int.toNat_natCast])
    obtain ⟨X, hX⟩ : ∃ X, Sl.sAt L k = X := ⟨_, rfl⟩
    obtain ⟨l, hl⟩ : ∃ l, L.length = l := ⟨_, rfl⟩
    rw [hX] at hcl cp HL
    rw [hl] at hk HV ch cp
    rw [hl]
    obtain ⟨N2, hN2⟩ : ∃ x, putN L m n = x := ⟨_, rfl⟩
    rw [hN2] at cp HM
    clear hh hv hcells hX hl hN2 hL hm hone
    go_enter Try.func16, Try.ntmps16
    have tk0 := hidp trivial
    go_upto_region 3 with (first | (clear tk0; (refine Mm.box 30 H rfl (.tmp 0) rfl [.int .i64 m, (.slice (some ⟨g, off, none⟩) l c), .int .i64 n] rfl ?_; clear H; intro b2 _ H nw; have hb := nw.below; clear hb nw); (try simp only [Act.put, setIfInBounds_toArray, set_cons_zero, set_cons_succ]); have tk1 := hidp trivial) | (clear tk1; (refine Mm.new rtRN H (some 4) rfl rfl rfl ?_; clear H; intro b4 _ H nw; have hb := nw.below; clear hb nw); (try simp only [Act.put, setIfInBounds_toArray, set_cons_zero, set_cons_succ]); have tk2 := hidp trivial) | (clear tk2; (refine Mm.get1 rtRN H rfl (.tmp 2) rfl rfl rfl ?_); (try simp only [Act.put, setIfInBounds_toArray, set_cons_zero, set_cons_succ]); have tk3 := hidp trivial) | (clear tk3; (go_at_call 40; refine (ch.out _ (HV.out.to H.out.below)).mono ?_; rintro e _ ⟨rfl, hb⟩; replace H := hidp (H.out.call hb); clear ch; clear hb); (try simp only [Act.put, setIfInBounds_toArray, set_cons_zero, set_cons_succ]); have tk4 := hidp trivial))
    try clear tk4
    refine Sl.regionS [⟨b2, 30, [.int .i64 m, (.slice (some ⟨g, off, none⟩) l c), .int .i64 n]⟩] (fun W h => h.sub (by simp)) H (.take 0 (.take 1 (.take 2 (.take 3 (.take 4 (.take 5 (.one 6 (.take 7 (.take 8 (.one 9 (.take 10 .done))))))))))) (by kernel_rfl) (by kernel_rfl) (by simp [Scr.depth]) (by kernel_rfl) ?_
    clear H
    intro _ H hb
    clear hb
    refine Mm.sget0 rtRN (fun w h => h) rfl rfl (.tmp 2) rfl rfl rfl ?_
    simp only [Act.put, getElem_toArray, getElem_cons_zero, getElem_cons_succ, setIfInBounds_toArray, set_cons_zero, set_cons_succ]
    apply s_val
    case ho | hw => rfl
    case hv => intro w hw; go_simp; first | done | rfl
    simp only [Act.put, getElem_toArray, getElem_cons_zero, getElem_cons_succ, setIfInBounds_toArray, set_cons_zero, set_cons_succ]
    refine Mm.sld0 naSS (fun w h => h) rfl rfl (.tmp 12) 1 (.slice (some ⟨g, off, none⟩) l c) rfl rfl rfl ?_
    simp only [Act.put, getElem_toArray, getElem_cons_zero, getElem_cons_succ, setIfInBounds_toArray, set_cons_zero, set_cons_succ]
    apply s_val
    case ho | hw => rfl
    case hv => intro w hw; go_simp; first | done | rfl
    simp only [Act.put, getElem_toArray, getElem_cons_zero, getElem_cons_succ, setIfInBounds_toArray, set_cons_zero, set_cons_succ]
    refine Sl.s_idx1 Sl.tyS (by kernel_rfl) rfl rfl (.tmp 13) (.tmp 14) rfl g off l c k rfl rfl hk ?_
    simp only [Act.put, getElem_toArray, getElem_cons_zero, getElem_cons_succ, setIfInBounds_toArray, set_cons_zero, set_cons_succ]
    refine Mm.s_ldc naS rfl rfl (.tmp 15) ⟨g, off + k, none⟩ (.string X) rfl rfl (fun W h => (h.below.cell (p := ⟨g, off + k, none⟩) hgl).trans hcl.out) ?_
    simp only [Act.put, getElem_toArray, getElem_cons_zero, getElem_cons_succ, setIfInBounds_toArray, set_cons_zero, set_cons_succ]
    refine Mm.o_callX H (fun W h => h.sub (by simp)) rfl rfl 10 #[.agg #[.int .i64 m, (.slice (some ⟨g, off, none⟩) l c), .int .i64 n], .string X] (by go_simp; first | done | rfl) (cp.out _ (HV.out.to H.out.below) H.out.below.size) ?_
    clear H
    intro r17 _ H hr hb
    obtain ⟨v1, rfl, hv1, hr1⟩ := hr
    have HV1 := hidp hv1
    have HR1 := hidp hr1
    have hone1 := VsAt.oneCell hv1
    clear hb hv1 hr1
    simp only [Act.put, getElem_toArray, getElem_cons_zero, getElem_cons_succ, setIfInBounds_toArray, set_cons_zero, set_cons_succ]
    apply s_val
    case ho | hw => rfl
    case hv => intro w hw; go_simp; first | done | rfl
    simp only [Act.put, getElem_toArray, getElem_cons_zero, getElem_cons_succ, setIfInBounds_toArray, set_cons_zero, set_cons_succ]
    apply s_val
    case ho | hw => rfl
    case hv => intro w hw; go_simp; first | done | rfl
    simp only [Act.put, getElem_toArray, getElem_cons_zero, getElem_cons_succ, setIfInBounds_toArray, set_cons_zero, set_cons_succ]
    refine Mm.oput0 rtRN H [.int .i64 m, v1, .int .i64 N2] (fun W h => h.sub (by simp)) rfl rfl (.tmp 4) (.tmp 18) rfl rfl rfl rfl (by intro u hu; simp only [List.mem_cons, List.not_mem_nil, or_false] at hu; rcases hu with rfl | rfl | rfl <;> first | rfl | exact hone1) rfl ?_
    intro _ H2 st
    have HV2 := hidp (VsAt.stp HV1.out st H.out.at0 (by decide))
    clear st H HV1
    have H := H2
    clear H2
    simp only [Act.put, getElem_toArray, getElem_cons_zero, getElem_cons_succ, setIfInBounds_toArray, set_cons_zero, set_cons_succ]
    apply s_val
    case ho | hw => rfl
    case hv => intro w hw; go_simp; first | done | rfl
    simp only [Act.put, getElem_toArray, getElem_cons_zero, getElem_cons_succ, setIfInBounds_toArray, set_cons_zero, set_cons_succ]
    refine NoPanic.normal ?_
    go_wp2
    refine bodyPost_ret (Mm.ret_rowv rtRN Try.results16 _ b4 _ _ rfl rfl H.out.at0 rfl) rfl ⟨v1, by rw [HE.out, HM.out]; rfl, by rw [HL.out]; exact HV2.out, HR1.out, H.out.below⟩
set_option maxHeartbeats 8000000 in
theorem rnew_any (w : World) (m : Int) : Calls Try.prog 9 #[.int .i64 m] w fun e w' => e = .returned (.tuple #[.agg #[.int .i64 m, .slice none 0 0, .int .i64 0], .bool (decide (1 ≤ m ∧ m ≤ 1024))]) ∧ Below w.heap.size w w' := by
  have H := hidp (Mm.M.nil w)
  by_cases h1 : 1 ≤ m
  · have e1 : decide (m ≥ 1) = true := decide_eq_true h1
    have e1' : decide (1 ≤ m) = true := decide_eq_true h1
    have HF := hidp (show decide (1 ≤ m ∧ m ≤ 1024) = decide (m ≤ 1024) from by simp [h1])
    go_enter Try.func9, Try.ntmps9
    have tk0 := hidp trivial
    go_wp2_with (first | (clear tk0; (refine Mm.new rtRN H (some 2) rfl rfl rfl ?_; clear H; intro b2 _ H nw; have hb := nw.below; clear hb nw); (try simp only [Act.put, setIfInBounds_toArray, set_cons_zero, set_cons_succ]); have tk1 := hidp trivial) | (clear tk1; (refine Rt.wpL_build rfl 30 _ rfl [.int .i64 m, (.slice none 0 0), .int .i64 0] (by kernel_rfl) ?_); (try simp only [Act.put, setIfInBounds_toArray, set_cons_zero, set_cons_succ]); have tk2 := hidp trivial) | (clear tk2; (refine Mm.put0 rtRN H rfl (.tmp 2) (.tmp 5) [.int .i64 m, (.slice none 0 0), .int .i64 0] rfl rfl rfl rfl (by simp [Value.oneCell']) rfl ?_; intro _ H2 st; clear st H; have H := H2; clear H2); (try simp only [Act.put, setIfInBounds_toArray, set_cons_zero, set_cons_succ]); have tk3 := hidp trivial))
    try clear tk3
    refine bodyPost_ret (Mm.ret_rowv rtRN Try.results9 _ b2 _ _ rfl rfl H.out.at0 rfl) rfl ⟨by first | (rw [HF.out]; rfl) | rfl, H.out.below⟩
  · have e1 : decide (m ≥ 1) = false := decide_eq_false h1
    have e1' : decide (1 ≤ m) = false := decide_eq_false h1
    have HF := hidp (show decide (1 ≤ m ∧ m ≤ 1024) = false from by simp [h1])
    go_enter Try.func9, Try.ntmps9
    have tk0 := hidp trivial
    go_wp2_with (first | (clear tk0; (refine Mm.new rtRN H (some 2) rfl rfl rfl ?_; clear H; intro b2 _ H nw; have hb := nw.below; clear hb nw); (try simp only [Act.put, setIfInBounds_toArray, set_cons_zero, set_cons_succ]); have tk1 := hidp trivial) | (clear tk1; (refine Rt.wpL_build rfl 30 _ rfl [.int .i64 m, (.slice none 0 0), .int .i64 0] (by kernel_rfl) ?_); (try simp only [Act.put, setIfInBounds_toArray, set_cons_zero, set_cons_succ]); have tk2 := hidp trivial) | (clear tk2; (refine Mm.put0 rtRN H rfl (.tmp 2) (.tmp 5) [.int .i64 m, (.slice none 0 0), .int .i64 0] rfl rfl rfl rfl (by simp [Value.oneCell']) rfl ?_; intro _ H2 st; clear st H; have H := H2; clear H2); (try simp only [Act.put, setIfInBounds_toArray, set_cons_zero, set_cons_succ]); have tk3 := hidp trivial))
    try clear tk3
    refine bodyPost_ret (Mm.ret_rowv rtRN Try.results9 _ b2 _ _ rfl rfl H.out.at0 rfl) rfl ⟨by first | (rw [HF.out]; rfl) | rfl, H.out.below⟩
end Go.Proofs.Ytokakgjcegmabaa.Nt
