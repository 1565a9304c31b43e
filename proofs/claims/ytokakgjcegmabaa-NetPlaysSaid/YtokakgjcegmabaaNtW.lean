/-
  NetPlays, walked.
-/
import Derived.Test.YtokakgjcegmabaaNtU
namespace Go.Proofs.Ytokakgjcegmabaa.Nt
set_option maxRecDepth 100000
set_option linter.unusedVariables false
set_option linter.unusedSimpArgs false
open Go.RowKit
open List (getElem_toArray getElem_cons_zero getElem_cons_succ setIfInBounds_toArray set_cons_zero set_cons_succ)
open Vs (VsAt)
set_option maxHeartbeats 64000000 in
theorem walk_netPlays (w : World) (m : Int) (wm : (Lit.int .i64 m).wf = true) (va : Value) (acs : List Ac) (ha : AsAt w va acs) : Calls Try.prog 3 #[.int .i64 m, va] w fun e w' => e = .returned (.bool true) ∧ Below w.heap.size w w' := by
  have HAS := hidp ha
  obtain ⟨aa, ca, hva⟩ := AsAt.form ha
  have H := hidp (Mm.M.nil w)
  have crn := hidp (fun W => rnew_any W m)
  obtain ⟨la, hla⟩ : ∃ x, acs.length = x := ⟨_, rfl⟩
  rw [hla] at hva
  have HLA := hidp hla
  subst hva
  clear ha hla wm
  by_cases hm : 1 ≤ m ∧ m ≤ 1024
  · rw [decide_eq_true hm] at crn
    obtain ⟨h1, h2⟩ := hm
    have hm2 := hidp h2
    have cnw := hidp (fun W => new_yes W m h1 h2)
    by_cases hl : la ≤ 100
    · have e0 : decide ((la : Int) > 100) = false := by simp; omega
      have e0' : decide ((100 : Int) < (la : Int)) = false := by simp; omega
      have e0n : decide (100 < la) = false := by simp; omega
      go_enter Try.func3, Try.ntmps3
      have tk0 := hidp trivial
      go_wp2_with (first | (clear tk0; (go_at_call 7; refine (lives29_any _).mono ?_; rintro e _ ⟨rfl, hb⟩; replace H := hidp (H.out.call hb); clear hb); (try simp only [Act.put, setIfInBounds_toArray, set_cons_zero, set_cons_succ]); have tk1 := hidp trivial) | (clear tk1; (go_at_call 8; refine (cnw.out _).mono ?_; rintro e _ ⟨b, rfl, hn1, hbb, hb⟩; have hb0 := hidp (Nat.le_trans H.out.le hbb); have HNT := hidp (NetAt.base hn1 H.out.le); replace H := hidp (H.out.call hb); clear hn1 hbb hb cnw); (try simp only [Act.put, setIfInBounds_toArray, set_cons_zero, set_cons_succ]); have tk2 := hidp trivial) | (clear tk2; (go_at_call 9; refine (crn.out _).mono ?_; rintro e _ ⟨rfl, hb⟩; replace H := hidp (H.out.call hb); clear crn; replace HNT := hidp (NetAt.to HNT.out hb); clear hb); (try simp only [Act.put, setIfInBounds_toArray, set_cons_zero, set_cons_succ]); have tk3 := hidp trivial) | (clear tk3; (refine Mm.new rtRN H (some 7) rfl rfl rfl ?_; clear H; intro b7 _ H nw; have hb := nw.below; replace HNT := hidp (NetAt.to HNT.out hb); clear hb nw); (try simp only [Act.put, setIfInBounds_toArray, set_cons_zero, set_cons_succ]); have tk4 := hidp trivial) | (clear tk4; (refine Mm.put0 rtRN H rfl (.tmp 7) (.tmp 32) [.int .i64 m, (.slice none 0 0), .int .i64 0] rfl rfl rfl rfl (by simp [Value.oneCell']) rfl ?_; intro _ H2 st; replace HNT := hidp (NetAt.stp HNT.out st H.out.at0 (by decide) (by decide)); clear st H; have H := H2; clear H2); (try simp only [Act.put, setIfInBounds_toArray, set_cons_zero, set_cons_succ]); have tk5 := hidp trivial))
      try clear tk5
      have HB0 := H
      have HN0 := HNT
      go_loopw [61] (fun t61 wr => ∃ (i : Nat) (v u : Value) (L : List ByteArray) (n : Int), t61 = .int .i64 (i : Int) ∧ i ≤ la ∧ Hid (NetAt wr b w.heap.size v L m n) ∧ Hid (VsAt wr u (strV L)) ∧ Hid (∀ x, u.ownBlock = some x → v.ownBlock ≠ some x) ∧ Hid (Good L m n i) ∧ Mm.M w.heap.size w wr [⟨b7, 30, [.int .i64 m, u, .int .i64 n]⟩]) (fun t61 _ => la - (intOf t61).toNat)
      case atStart => exact ⟨0, .slice none 0 0, .slice none 0 0, [], 0, rfl, by omega, HN0, hidp (Vs.VsAt.nil _), hidp (fun x h => by cases h), hidp ⟨by simp; omega, by omega, by omega, fun k => by unfold Sl.sAt; simp; decide⟩, HB0.out⟩
      case round =>
        obtain ⟨i, v, u, L, n, rfl, hi, HNT, HV, HAP, HGD, hM⟩ := hrel
        clear HN0 HB0
        have H := hidp hM
        clear hM
        obtain ⟨a0, c0, hu, -⟩ := VsAt.form HV.out
        rw [strV_length] at hu
        subst hu
        by_cases hlt : i < la
        · have e1 : decide ((i : Int) < (la : Int)) = true := by simp; omega
          obtain ⟨g, off, ca', hva, hga, hra⟩ := AsAt.get HAS.out (by rw [HLA.out]; omega)
          rw [HLA.out] at hva
          simp only [Value.slice.injEq] at hva
          obtain ⟨rfl, -, rfl⟩ := hva
          have hra2 := hra i (by rw [HLA.out]; exact hlt)
          have htx0 := HAS.out.2 _ (List.getElem_mem (show i < acs.length from by rw [HLA.out]; exact hlt))
          obtain ⟨⟨kd, ni, tx⟩, hac⟩ : ∃ x, acs[i]'(by rw [HLA.out]; exact hlt) = x := ⟨_, rfl⟩
          rw [hac] at hra2 htx0
          have htx : tx.size ≤ 140737488351232 := htx0
          have HRA := hidp (show w.rangeAt g (off + 3 * i) [.int .i64 kd, .int .i64 ni, .string tx] from hra2)
          clear hra hra2 htx0 hac
          by_cases k0 : kd = 0
          · subst k0
            have hg := HGD.out
            have cr := hidp (fun W (hv : VsAt W (.slice a0 L.length c0) (strV L)) => rput_any W m n (.slice a0 L.length c0) L hv hg.room (by have := hg.room; have := hm2.out; omega) ⟨hg.n0, by have := hg.ni; omega⟩ tx)
            have cn := hidp (fun W (hn : NetAt W b w.heap.size v L m n) (hB : w.heap.size ≤ W.heap.size) => put_any W b _ v L m n hn hB (by have := hg.room; have := hm2.out; omega) ⟨hg.n0, by have := hg.ni; omega⟩ tx htx)
            have HG2 := HGD.out.put htx
            obtain ⟨L2, hL2⟩ : ∃ x, putL L m tx = x := ⟨_, rfl⟩
            rw [hL2] at cr cn HG2
            obtain ⟨E, hE⟩ : ∃ x, putE L m = x := ⟨_, rfl⟩
            rw [hE] at cr cn
            obtain ⟨n2, hn2⟩ : ∃ x, putN L m n = x := ⟨_, rfl⟩
            rw [hn2] at cr cn HG2
            have HGD := hidp HG2
            clear HG2 hL2 hE hg hn2
            have tk0 := hidp trivial
            go_upto_region 34 with (first | (clear tk0; (refine Rw.wpL_idxR tyA rfl (.tmp 59) (.tmp 61) rfl g off la ca i rfl rfl hlt ?_); (try simp only [Act.put, setIfInBounds_toArray, set_cons_zero, set_cons_succ]); have tk1 := hidp trivial) | (clear tk1; (refine Rw.wpL_atR tyA rfl (.tmp 63) rfl g (off + 3 * i) [.int .i64 0, .int .i64 ni, .string tx] rfl rfl (rangeAt_below HRA.out H.out.below hga) ?_); (try simp only [Act.put, setIfInBounds_toArray, set_cons_zero, set_cons_succ]); have tk2 := hidp trivial) | (clear tk2; (refine Mm.new rtA H (some 10) rfl rfl rfl ?_; clear H; intro b10 _ H nw; have hb := nw.below; replace HV := hidp (VsAt.to HV.out hb); replace HNT := hidp (NetAt.to HNT.out hb); clear hb nw); (try simp only [Act.put, setIfInBounds_toArray, set_cons_zero, set_cons_succ]); have tk3 := hidp trivial) | (clear tk3; (refine Mm.put0 rtA H rfl (.tmp 10) (.tmp 64) [.int .i64 0, .int .i64 ni, .string tx] rfl rfl rfl rfl (by simp [Value.oneCell']) rfl ?_; intro _ H2 st; replace HV := hidp (VsAt.stp HV.out st H.out.at0 (by decide)); replace HNT := hidp (NetAt.stp HNT.out st H.out.at0 (by decide) (by decide)); clear st H; have H := H2; clear H2); (try simp only [Act.put, setIfInBounds_toArray, set_cons_zero, set_cons_succ]); have tk4 := hidp trivial) | (clear tk4; (refine Mm.ld0 naI H rfl (.tmp 65) 0 _ rfl rfl rfl ?_); (try simp only [Act.put, setIfInBounds_toArray, set_cons_zero, set_cons_succ]); have tk5 := hidp trivial) | (clear tk5; (refine Mm.get1 rtRN H rfl (.tmp 7) rfl rfl rfl ?_); (try simp only [Act.put, setIfInBounds_toArray, set_cons_zero, set_cons_succ]); have tk6 := hidp trivial) | (clear tk6; (refine Mm.ld0 naS H rfl (.tmp 71) 2 _ rfl rfl rfl ?_); (try simp only [Act.put, setIfInBounds_toArray, set_cons_zero, set_cons_succ]); have tk7 := hidp trivial) | (clear tk7; (go_at_call 10; refine (cr.out _ HV.out).mono ?_; rintro e _ ⟨u1, rfl, hv1, hr1, hb⟩; obtain ⟨a1, k1, hvf, -⟩ := VsAt.form hv1; rw [strV_length] at hvf; subst hvf; have HAP1 := hidp (ap_ref HAP.out hr1 HNT.out); replace HNT := hidp (HNT.out.to hb); have HV1 := hidp hv1; replace H := hidp (H.out.call hb); clear hb hv1 hr1 HAP HV cr); (try simp only [Act.put, setIfInBounds_toArray, set_cons_zero, set_cons_succ]); have tk8 := hidp trivial) | (clear tk8; (refine Mm.new rtRN H (some 11) rfl rfl rfl ?_; clear H; intro b11 _ H nw; have hb := nw.below; replace HNT := hidp (NetAt.to HNT.out hb); replace HV1 := hidp (VsAt.to HV1.out hb); clear hb nw); (try simp only [Act.put, setIfInBounds_toArray, set_cons_zero, set_cons_succ]); have tk9 := hidp trivial) | (clear tk9; (refine Mm.put0 rtRN H rfl (.tmp 11) (.tmp 74) [.int .i64 m, (.slice a1 L2.length k1), .int .i64 n2] rfl rfl rfl rfl (by simp [Value.oneCell']) rfl ?_; intro _ H2 st; replace HNT := hidp (NetAt.stp HNT.out st H.out.at0 (by decide) (by decide)); replace HV1 := hidp (VsAt.stp HV1.out st H.out.at0 (by decide)); clear st H; have H := H2; clear H2); (try simp only [Act.put, setIfInBounds_toArray, set_cons_zero, set_cons_succ]); have tk10 := hidp trivial) | (clear tk10; (refine Mm.ld1 naS H rfl (.tmp 77) 2 _ rfl rfl rfl ?_); (try simp only [Act.put, setIfInBounds_toArray, set_cons_zero, set_cons_succ]); have tk11 := hidp trivial) | (clear tk11; (go_at_call 11; refine (cn.out _ HNT.out H.out.le).mono ?_; rintro e _ ⟨rfl, v1, hn1, hg1, hr1⟩; have HAP2 := hidp (ap_net HAP1.out HV1.out hr1); replace HV1 := hidp (VsAt.g2 HV1.out hg1 HNT.out HAP1.out); replace H := hidp (M_g2 H.out hg1 HNT.out hb0.out (List.forall_mem_cons.2 ⟨⟨(show 30 ≠ 80 from by decide), (show 30 ≠ 9 from by decide)⟩, (List.forall_mem_cons.2 ⟨⟨(show 34 ≠ 80 from by decide), (show 34 ≠ 9 from by decide)⟩, (List.forall_mem_cons.2 ⟨⟨(show 30 ≠ 80 from by decide), (show 30 ≠ 9 from by decide)⟩, (fun x h => by cases h)⟩)⟩)⟩)); replace HNT := hidp hn1; clear hn1 hg1 hr1 HAP1 cn); (try simp only [Act.put, setIfInBounds_toArray, set_cons_zero, set_cons_succ]); have tk12 := hidp trivial) | (clear tk12; (refine Mm.get0 rtRN H rfl (.tmp 11) rfl rfl rfl ?_); (try simp only [Act.put, setIfInBounds_toArray, set_cons_zero, set_cons_succ]); have tk13 := hidp trivial) | (clear tk13; (refine Mm.put2 rtRN H rfl (.tmp 7) (.tmp 82) [.int .i64 m, (.slice a1 L2.length k1), .int .i64 n2] rfl rfl rfl rfl (by simp [Value.oneCell']) rfl ?_; intro _ H2 st; replace HNT := hidp (NetAt.stp HNT.out st H.out.at2 (by decide) (by decide)); replace HV1 := hidp (VsAt.stp HV1.out st H.out.at2 (by decide)); clear st H; have H := H2; clear H2); (try simp only [Act.put, setIfInBounds_toArray, set_cons_zero, set_cons_succ]); have tk14 := hidp trivial))
            try clear tk14
            refine Mm.region H (.take 0 (.take 2 (.take 3 (.take 4 (.one 1 (.take 5 (.take 6 (.take 7 (.take 9 (.take 10 (.one 8 (.take 11 (.take 12 (.take 13 (.take 14 (.take 16 (.take 17 (.one 15 (.one 18 (.take 19 (.take 20 .done))))))))))))))))))))) (by kernel_rfl) (by kernel_rfl) (by simp [Scr.depth]) (by kernel_rfl) ?_
            clear H
            intro _ H hb
            replace HNT := hidp (NetAt.to HNT.out hb); replace HV1 := hidp (VsAt.to HV1.out hb); clear hb
            apply s_val
            case ho | hw => rfl
            case hv => intro w hw; go_simp; first | done | rfl
            simp only [Act.put, getElem_toArray, getElem_cons_zero, getElem_cons_succ, setIfInBounds_toArray, set_cons_zero, set_cons_succ]
            apply s_val
            case ho | hw => rfl
            case hv => intro w hw; go_simp; first | done | rfl
            simp only [Act.put, getElem_toArray, getElem_cons_zero, getElem_cons_succ, setIfInBounds_toArray, set_cons_zero, set_cons_succ]
            refine Mm.sld2 naSS (fun w h => h) rfl rfl (.tmp 143) 1 (.slice a1 L2.length k1) rfl rfl rfl ?_
            simp only [Act.put, getElem_toArray, getElem_cons_zero, getElem_cons_succ, setIfInBounds_toArray, set_cons_zero, set_cons_succ]
            apply s_val
            case ho | hw => rfl
            case hv => intro w hw; go_simp; first | done | rfl
            simp only [Act.put, getElem_toArray, getElem_cons_zero, getElem_cons_succ, setIfInBounds_toArray, set_cons_zero, set_cons_succ]
            refine o_callG rfl rfl 18 #[.pointer (some ⟨b, 0, none⟩)] (by go_simp; first | done | rfl) (len_any _ b _ v1 _ m n2 HNT.out) ?_
            rintro e _ ⟨rfl, rfl⟩
            refine ⟨_, rfl, H.out, ?_⟩
            simp only [Act.put, getElem_toArray, getElem_cons_zero, getElem_cons_succ, setIfInBounds_toArray, set_cons_zero, set_cons_succ]
            apply s_val
            case ho | hw => rfl
            case hv => intro w hw; go_simp; first | done | rfl
            simp only [Act.put, getElem_toArray, getElem_cons_zero, getElem_cons_succ, setIfInBounds_toArray, set_cons_zero, set_cons_succ]
            apply s_val
            case ho | hw => rfl
            case hv => intro w hw; go_simp; first | done | rfl
            simp only [Act.put, getElem_toArray, getElem_cons_zero, getElem_cons_succ, setIfInBounds_toArray, set_cons_zero, set_cons_succ]
            apply s_val
            case ho | hw => rfl
            case hv => intro w hw; go_simp; first | done | rfl
            simp only [Act.put, getElem_toArray, getElem_cons_zero, getElem_cons_succ, setIfInBounds_toArray, set_cons_zero, set_cons_succ]
            apply s_val
            case ho | hw => rfl
            case hv => intro w hw; go_simp; first | done | rfl
            simp only [Act.put, getElem_toArray, getElem_cons_zero, getElem_cons_succ, setIfInBounds_toArray, set_cons_zero, set_cons_succ]
            refine Mm.sld2 naI (fun w h => h) rfl rfl (.tmp 150) 2 (.int .i64 n2) rfl rfl rfl ?_
            simp only [Act.put, getElem_toArray, getElem_cons_zero, getElem_cons_succ, setIfInBounds_toArray, set_cons_zero, set_cons_succ]
            refine o_callG rfl rfl 19 #[.pointer (some ⟨b, 0, none⟩)] (by go_simp; first | done | rfl) (lost_any _ b _ v1 _ m n2 HNT.out) ?_
            rintro e _ ⟨rfl, rfl⟩
            refine ⟨_, rfl, H.out, ?_⟩
            simp only [Act.put, getElem_toArray, getElem_cons_zero, getElem_cons_succ, setIfInBounds_toArray, set_cons_zero, set_cons_succ]
            apply s_val
            case ho | hw => rfl
            case hv => intro w hw; go_simp; first | done | rfl
            simp only [Act.put, getElem_toArray, getElem_cons_zero, getElem_cons_succ, setIfInBounds_toArray, set_cons_zero, set_cons_succ]
            apply s_val
            case ho | hw => rfl
            case hv => intro w hw; go_simp; first | done | rfl
            simp only [Act.put, getElem_toArray, getElem_cons_zero, getElem_cons_succ, setIfInBounds_toArray, set_cons_zero, set_cons_succ]
            apply s_val
            case ho | hw => rfl
            case hv => intro w hw; go_simp; first | done | rfl
            simp only [Act.put, getElem_toArray, getElem_cons_zero, getElem_cons_succ, setIfInBounds_toArray, set_cons_zero, set_cons_succ]
            apply s_val
            case ho | hw => rfl
            case hv => intro w hw; go_simp; first | done | rfl
            simp only [Act.put, getElem_toArray, getElem_cons_zero, getElem_cons_succ, setIfInBounds_toArray, set_cons_zero, set_cons_succ]
            apply s_val
            case ho | hw => rfl
            case hv => intro w hw; go_simp; first | done | rfl
            simp only [Act.put, getElem_toArray, getElem_cons_zero, getElem_cons_succ, setIfInBounds_toArray, set_cons_zero, set_cons_succ]
            refine Mm.sld2 naSS (fun w h => h) rfl rfl (.tmp 157) 1 (.slice a1 L2.length k1) rfl rfl rfl ?_
            simp only [Act.put, getElem_toArray, getElem_cons_zero, getElem_cons_succ, setIfInBounds_toArray, set_cons_zero, set_cons_succ]
            refine o_callG rfl rfl 21 #[.pointer (some ⟨b, 0, none⟩)] (by go_simp; first | done | rfl) (all_any _ b _ v1 _ m n2 HNT.out (by have := HGD.out.room; have := hm2.out; omega) HGD.out.sz) ?_
            rintro e _ ⟨v9, rfl, ho9, hb⟩
            refine ⟨v9, rfl, H.out.call hb, ?_⟩
            have HO9 := hidp ho9
            replace HNT := hidp (HNT.out.to hb)
            replace HV1 := hidp (VsAt.to HV1.out hb)
            replace H := hidp (H.out.call hb)
            clear hb ho9
            simp only [Act.put, getElem_toArray, getElem_cons_zero, getElem_cons_succ, setIfInBounds_toArray, set_cons_zero, set_cons_succ]
            refine o_callG rfl rfl 20 #[v9, (.slice a1 L2.length k1)] (by go_simp; first | done | rfl) (same_any _ v9 (.slice a1 L2.length k1) L2 L2 (OwnV.strs HO9.out) (VsAt.strs HV1.out) (by have := HGD.out.room; have := hm2.out; omega) (by have := HGD.out.room; have := hm2.out; omega)) ?_
            rintro e _ ⟨rfl, hb⟩
            rw [sameB_self]
            refine ⟨.bool true, rfl, H.out.call hb, ?_⟩
            replace HNT := hidp (HNT.out.to hb)
            replace HV1 := hidp (VsAt.to HV1.out hb)
            replace H := hidp (H.out.call hb)
            clear hb HO9
            simp only [Act.put, getElem_toArray, getElem_cons_zero, getElem_cons_succ, setIfInBounds_toArray, set_cons_zero, set_cons_succ]
            apply s_val
            case ho | hw => rfl
            case hv => intro w hw; go_simp; first | done | rfl
            simp only [Act.put, getElem_toArray, getElem_cons_zero, getElem_cons_succ, setIfInBounds_toArray, set_cons_zero, set_cons_succ]
            apply s_val
            case ho | hw => rfl
            case hv => intro w hw; go_simp; first | done | rfl
            simp only [Act.put, getElem_toArray, getElem_cons_zero, getElem_cons_succ, setIfInBounds_toArray, set_cons_zero, set_cons_succ]
            refine NoPanic.normal ?_
            go_wp2
            exact ⟨⟨i + 1, v1, (.slice a1 L2.length k1), L2, n2, by go_num, by omega, HNT, HV1, HAP2, HGD, (H.out.tail.tail).sub (by simp)⟩, by simp [intOf]; omega⟩
          · by_cases k1 : kd = 1
            · subst k1
              have hg := HGD.out
              have cr := hidp (fun W (hv : VsAt W (.slice a0 L.length c0) (strV L)) => rtake_any W m n (.slice a0 L.length c0) L hv (by have := hg.room; have := hm2.out; omega) ni)
              have cn := hidp (fun W (hn : NetAt W b w.heap.size v L m n) (hB : w.heap.size ≤ W.heap.size) => take_any W b _ v L m n hn (by have := hg.room; have := hm2.out; omega) ni)
              have HG2 := HGD.out.take ni
              obtain ⟨L2, hL2⟩ : ∃ x, tkL L ni = x := ⟨_, rfl⟩
              rw [hL2] at cr cn HG2
              obtain ⟨E, hE⟩ : ∃ x, tkE L ni = x := ⟨_, rfl⟩
              rw [hE] at cr cn
              obtain ⟨X, hX⟩ : ∃ x, tkS L ni = x := ⟨_, rfl⟩
              rw [hX] at cr cn
              have HGD := hidp HG2
              clear HG2 hL2 hE hg hX
              have tk0 := hidp trivial
              go_upto_region 34 with (first | (clear tk0; (refine Rw.wpL_idxR tyA rfl (.tmp 59) (.tmp 61) rfl g off la ca i rfl rfl hlt ?_); (try simp only [Act.put, setIfInBounds_toArray, set_cons_zero, set_cons_succ]); have tk1 := hidp trivial) | (clear tk1; (refine Rw.wpL_atR tyA rfl (.tmp 63) rfl g (off + 3 * i) [.int .i64 1, .int .i64 ni, .string tx] rfl rfl (rangeAt_below HRA.out H.out.below hga) ?_); (try simp only [Act.put, setIfInBounds_toArray, set_cons_zero, set_cons_succ]); have tk2 := hidp trivial) | (clear tk2; (refine Mm.new rtA H (some 10) rfl rfl rfl ?_; clear H; intro b10 _ H nw; have hb := nw.below; replace HV := hidp (VsAt.to HV.out hb); replace HNT := hidp (NetAt.to HNT.out hb); clear hb nw); (try simp only [Act.put, setIfInBounds_toArray, set_cons_zero, set_cons_succ]); have tk3 := hidp trivial) | (clear tk3; (refine Mm.put0 rtA H rfl (.tmp 10) (.tmp 64) [.int .i64 1, .int .i64 ni, .string tx] rfl rfl rfl rfl (by simp [Value.oneCell']) rfl ?_; intro _ H2 st; replace HV := hidp (VsAt.stp HV.out st H.out.at0 (by decide)); replace HNT := hidp (NetAt.stp HNT.out st H.out.at0 (by decide) (by decide)); clear st H; have H := H2; clear H2); (try simp only [Act.put, setIfInBounds_toArray, set_cons_zero, set_cons_succ]); have tk4 := hidp trivial) | (clear tk4; (refine Mm.ld0 naI H rfl (.tmp 65) 0 _ rfl rfl rfl ?_); (try simp only [Act.put, setIfInBounds_toArray, set_cons_zero, set_cons_succ]); have tk5 := hidp trivial) | (clear tk5; (refine Mm.get1 rtRN H rfl (.tmp 7) rfl rfl rfl ?_); (try simp only [Act.put, setIfInBounds_toArray, set_cons_zero, set_cons_succ]); have tk6 := hidp trivial) | (clear tk6; (refine Mm.ld0 naI H rfl (.tmp 87) 1 _ rfl rfl rfl ?_); (try simp only [Act.put, setIfInBounds_toArray, set_cons_zero, set_cons_succ]); have tk7 := hidp trivial) | (clear tk7; (go_at_call 12; refine (cr.out _ HV.out).mono ?_; rintro e _ ⟨u1, rfl, hv1, hr1, hb⟩; obtain ⟨a1, k1, hvf, -⟩ := VsAt.form hv1; rw [strV_length] at hvf; subst hvf; have HAP1 := hidp (ap_ref HAP.out hr1 HNT.out); replace HNT := hidp (HNT.out.to hb); have HV1 := hidp hv1; replace H := hidp (H.out.call hb); clear hb hv1 hr1 HAP HV cr); (try simp only [Act.put, setIfInBounds_toArray, set_cons_zero, set_cons_succ]); have tk8 := hidp trivial) | (clear tk8; (refine Mm.new rtRN H (some 13) rfl rfl rfl ?_; clear H; intro b13 _ H nw; have hb := nw.below; replace HNT := hidp (NetAt.to HNT.out hb); replace HV1 := hidp (VsAt.to HV1.out hb); clear hb nw); (try simp only [Act.put, setIfInBounds_toArray, set_cons_zero, set_cons_succ]); have tk9 := hidp trivial) | (clear tk9; (refine Mm.put0 rtRN H rfl (.tmp 13) (.tmp 90) [.int .i64 m, (.slice a1 L2.length k1), .int .i64 n] rfl rfl rfl rfl (by simp [Value.oneCell']) rfl ?_; intro _ H2 st; replace HNT := hidp (NetAt.stp HNT.out st H.out.at0 (by decide) (by decide)); replace HV1 := hidp (VsAt.stp HV1.out st H.out.at0 (by decide)); clear st H; have H := H2; clear H2); (try simp only [Act.put, setIfInBounds_toArray, set_cons_zero, set_cons_succ]); have tk10 := hidp trivial) | (clear tk10; (refine Mm.ld1 naI H rfl (.tmp 95) 1 _ rfl rfl rfl ?_); (try simp only [Act.put, setIfInBounds_toArray, set_cons_zero, set_cons_succ]); have tk11 := hidp trivial) | (clear tk11; (go_at_call 13; refine (cn.out _ HNT.out H.out.le).mono ?_; rintro e _ ⟨rfl, v1, hn1, hg1, hr1⟩; have HAP2 := hidp (ap_net HAP1.out HV1.out hr1); replace HV1 := hidp (VsAt.g2 HV1.out hg1 HNT.out HAP1.out); replace H := hidp (M_g2 H.out hg1 HNT.out hb0.out (List.forall_mem_cons.2 ⟨⟨(show 30 ≠ 80 from by decide), (show 30 ≠ 9 from by decide)⟩, (List.forall_mem_cons.2 ⟨⟨(show 34 ≠ 80 from by decide), (show 34 ≠ 9 from by decide)⟩, (List.forall_mem_cons.2 ⟨⟨(show 30 ≠ 80 from by decide), (show 30 ≠ 9 from by decide)⟩, (fun x h => by cases h)⟩)⟩)⟩)); replace HNT := hidp hn1; clear hn1 hg1 hr1 HAP1 cn); (try simp only [Act.put, setIfInBounds_toArray, set_cons_zero, set_cons_succ]); have tk12 := hidp trivial) | (clear tk12; (refine Mm.get0 rtRN H rfl (.tmp 13) rfl rfl rfl ?_); (try simp only [Act.put, setIfInBounds_toArray, set_cons_zero, set_cons_succ]); have tk13 := hidp trivial) | (clear tk13; (refine Mm.put2 rtRN H rfl (.tmp 7) (.tmp 108) [.int .i64 m, (.slice a1 L2.length k1), .int .i64 n] rfl rfl rfl rfl (by simp [Value.oneCell']) rfl ?_; intro _ H2 st; replace HNT := hidp (NetAt.stp HNT.out st H.out.at2 (by decide) (by decide)); replace HV1 := hidp (VsAt.stp HV1.out st H.out.at2 (by decide)); clear st H; have H := H2; clear H2); (try simp only [Act.put, setIfInBounds_toArray, set_cons_zero, set_cons_succ]); have tk14 := hidp trivial))
              try clear tk14
              refine Mm.region H (.take 0 (.take 2 (.take 3 (.take 4 (.one 1 (.take 5 (.take 6 (.take 7 (.take 9 (.take 10 (.one 8 (.take 11 (.take 12 (.take 13 (.take 14 (.take 16 (.take 17 (.one 15 (.one 18 (.take 19 (.take 20 .done))))))))))))))))))))) (by kernel_rfl) (by kernel_rfl) (by simp [Scr.depth]) (by kernel_rfl) ?_
              clear H
              intro _ H hb
              replace HNT := hidp (NetAt.to HNT.out hb); replace HV1 := hidp (VsAt.to HV1.out hb); clear hb
              apply s_val
              case ho | hw => rfl
              case hv => intro w hw; go_simp; first | done | rfl
              simp only [Act.put, getElem_toArray, getElem_cons_zero, getElem_cons_succ, setIfInBounds_toArray, set_cons_zero, set_cons_succ]
              apply s_val
              case ho | hw => rfl
              case hv => intro w hw; go_simp; first | done | rfl
              simp only [Act.put, getElem_toArray, getElem_cons_zero, getElem_cons_succ, setIfInBounds_toArray, set_cons_zero, set_cons_succ]
              refine Mm.sld2 naSS (fun w h => h) rfl rfl (.tmp 143) 1 (.slice a1 L2.length k1) rfl rfl rfl ?_
              simp only [Act.put, getElem_toArray, getElem_cons_zero, getElem_cons_succ, setIfInBounds_toArray, set_cons_zero, set_cons_succ]
              apply s_val
              case ho | hw => rfl
              case hv => intro w hw; go_simp; first | done | rfl
              simp only [Act.put, getElem_toArray, getElem_cons_zero, getElem_cons_succ, setIfInBounds_toArray, set_cons_zero, set_cons_succ]
              refine o_callG rfl rfl 18 #[.pointer (some ⟨b, 0, none⟩)] (by go_simp; first | done | rfl) (len_any _ b _ v1 _ m n HNT.out) ?_
              rintro e _ ⟨rfl, rfl⟩
              refine ⟨_, rfl, H.out, ?_⟩
              simp only [Act.put, getElem_toArray, getElem_cons_zero, getElem_cons_succ, setIfInBounds_toArray, set_cons_zero, set_cons_succ]
              apply s_val
              case ho | hw => rfl
              case hv => intro w hw; go_simp; first | done | rfl
              simp only [Act.put, getElem_toArray, getElem_cons_zero, getElem_cons_succ, setIfInBounds_toArray, set_cons_zero, set_cons_succ]
              apply s_val
              case ho | hw => rfl
              case hv => intro w hw; go_simp; first | done | rfl
              simp only [Act.put, getElem_toArray, getElem_cons_zero, getElem_cons_succ, setIfInBounds_toArray, set_cons_zero, set_cons_succ]
              apply s_val
              case ho | hw => rfl
              case hv => intro w hw; go_simp; first | done | rfl
              simp only [Act.put, getElem_toArray, getElem_cons_zero, getElem_cons_succ, setIfInBounds_toArray, set_cons_zero, set_cons_succ]
              apply s_val
              case ho | hw => rfl
              case hv => intro w hw; go_simp; first | done | rfl
              simp only [Act.put, getElem_toArray, getElem_cons_zero, getElem_cons_succ, setIfInBounds_toArray, set_cons_zero, set_cons_succ]
              refine Mm.sld2 naI (fun w h => h) rfl rfl (.tmp 150) 2 (.int .i64 n) rfl rfl rfl ?_
              simp only [Act.put, getElem_toArray, getElem_cons_zero, getElem_cons_succ, setIfInBounds_toArray, set_cons_zero, set_cons_succ]
              refine o_callG rfl rfl 19 #[.pointer (some ⟨b, 0, none⟩)] (by go_simp; first | done | rfl) (lost_any _ b _ v1 _ m n HNT.out) ?_
              rintro e _ ⟨rfl, rfl⟩
              refine ⟨_, rfl, H.out, ?_⟩
              simp only [Act.put, getElem_toArray, getElem_cons_zero, getElem_cons_succ, setIfInBounds_toArray, set_cons_zero, set_cons_succ]
              apply s_val
              case ho | hw => rfl
              case hv => intro w hw; go_simp; first | done | rfl
              simp only [Act.put, getElem_toArray, getElem_cons_zero, getElem_cons_succ, setIfInBounds_toArray, set_cons_zero, set_cons_succ]
              apply s_val
              case ho | hw => rfl
              case hv => intro w hw; go_simp; first | done | rfl
              simp only [Act.put, getElem_toArray, getElem_cons_zero, getElem_cons_succ, setIfInBounds_toArray, set_cons_zero, set_cons_succ]
              apply s_val
              case ho | hw => rfl
              case hv => intro w hw; go_simp; first | done | rfl
              simp only [Act.put, getElem_toArray, getElem_cons_zero, getElem_cons_succ, setIfInBounds_toArray, set_cons_zero, set_cons_succ]
              apply s_val
              case ho | hw => rfl
              case hv => intro w hw; go_simp; first | done | rfl
              simp only [Act.put, getElem_toArray, getElem_cons_zero, getElem_cons_succ, setIfInBounds_toArray, set_cons_zero, set_cons_succ]
              apply s_val
              case ho | hw => rfl
              case hv => intro w hw; go_simp; first | done | rfl
              simp only [Act.put, getElem_toArray, getElem_cons_zero, getElem_cons_succ, setIfInBounds_toArray, set_cons_zero, set_cons_succ]
              refine Mm.sld2 naSS (fun w h => h) rfl rfl (.tmp 157) 1 (.slice a1 L2.length k1) rfl rfl rfl ?_
              simp only [Act.put, getElem_toArray, getElem_cons_zero, getElem_cons_succ, setIfInBounds_toArray, set_cons_zero, set_cons_succ]
              refine o_callG rfl rfl 21 #[.pointer (some ⟨b, 0, none⟩)] (by go_simp; first | done | rfl) (all_any _ b _ v1 _ m n HNT.out (by have := HGD.out.room; have := hm2.out; omega) HGD.out.sz) ?_
              rintro e _ ⟨v9, rfl, ho9, hb⟩
              refine ⟨v9, rfl, H.out.call hb, ?_⟩
              have HO9 := hidp ho9
              replace HNT := hidp (HNT.out.to hb)
              replace HV1 := hidp (VsAt.to HV1.out hb)
              replace H := hidp (H.out.call hb)
              clear hb ho9
              simp only [Act.put, getElem_toArray, getElem_cons_zero, getElem_cons_succ, setIfInBounds_toArray, set_cons_zero, set_cons_succ]
              refine o_callG rfl rfl 20 #[v9, (.slice a1 L2.length k1)] (by go_simp; first | done | rfl) (same_any _ v9 (.slice a1 L2.length k1) L2 L2 (OwnV.strs HO9.out) (VsAt.strs HV1.out) (by have := HGD.out.room; have := hm2.out; omega) (by have := HGD.out.room; have := hm2.out; omega)) ?_
              rintro e _ ⟨rfl, hb⟩
              rw [sameB_self]
              refine ⟨.bool true, rfl, H.out.call hb, ?_⟩
              replace HNT := hidp (HNT.out.to hb)
              replace HV1 := hidp (VsAt.to HV1.out hb)
              replace H := hidp (H.out.call hb)
              clear hb HO9
              simp only [Act.put, getElem_toArray, getElem_cons_zero, getElem_cons_succ, setIfInBounds_toArray, set_cons_zero, set_cons_succ]
              apply s_val
              case ho | hw => rfl
              case hv => intro w hw; go_simp; first | done | rfl
              simp only [Act.put, getElem_toArray, getElem_cons_zero, getElem_cons_succ, setIfInBounds_toArray, set_cons_zero, set_cons_succ]
              apply s_val
              case ho | hw => rfl
              case hv => intro w hw; go_simp; first | done | rfl
              simp only [Act.put, getElem_toArray, getElem_cons_zero, getElem_cons_succ, setIfInBounds_toArray, set_cons_zero, set_cons_succ]
              refine NoPanic.normal ?_
              go_wp2
              exact ⟨⟨i + 1, v1, (.slice a1 L2.length k1), L2, n, by go_num, by omega, HNT, HV1, HAP2, HGD, (H.out.tail.tail).sub (by simp)⟩, by simp [intOf]; omega⟩
            · by_cases k2 : kd = 2
              · subst k2
                have hg := HGD.out
                have cr := hidp (fun W (hv : VsAt W (.slice a0 L.length c0) (strV L)) => rdrop_any W m n (.slice a0 L.length c0) L hv (by have := hg.room; have := hm2.out; omega) ⟨hg.n0, by have := hg.ni; omega⟩ ni)
                have cn := hidp (fun W (hn : NetAt W b w.heap.size v L m n) (hB : w.heap.size ≤ W.heap.size) => drop_any W b _ v L m n hn (by have := hg.room; have := hm2.out; omega) ⟨hg.n0, by have := hg.ni; omega⟩ ni)
                have HG2 := HGD.out.drop ni
                obtain ⟨L2, hL2⟩ : ∃ x, tkL L ni = x := ⟨_, rfl⟩
                rw [hL2] at cr cn HG2
                obtain ⟨E, hE⟩ : ∃ x, tkE L ni = x := ⟨_, rfl⟩
                rw [hE] at cr cn
                obtain ⟨n2, hn2⟩ : ∃ x, drN L ni n = x := ⟨_, rfl⟩
                rw [hn2] at cr cn HG2
                have HGD := hidp HG2
                clear HG2 hL2 hE hg hn2
                have tk0 := hidp trivial
                go_upto_region 34 with (first | (clear tk0; (refine Rw.wpL_idxR tyA rfl (.tmp 59) (.tmp 61) rfl g off la ca i rfl rfl hlt ?_); (try simp only [Act.put, setIfInBounds_toArray, set_cons_zero, set_cons_succ]); have tk1 := hidp trivial) | (clear tk1; (refine Rw.wpL_atR tyA rfl (.tmp 63) rfl g (off + 3 * i) [.int .i64 2, .int .i64 ni, .string tx] rfl rfl (rangeAt_below HRA.out H.out.below hga) ?_); (try simp only [Act.put, setIfInBounds_toArray, set_cons_zero, set_cons_succ]); have tk2 := hidp trivial) | (clear tk2; (refine Mm.new rtA H (some 10) rfl rfl rfl ?_; clear H; intro b10 _ H nw; have hb := nw.below; replace HV := hidp (VsAt.to HV.out hb); replace HNT := hidp (NetAt.to HNT.out hb); clear hb nw); (try simp only [Act.put, setIfInBounds_toArray, set_cons_zero, set_cons_succ]); have tk3 := hidp trivial) | (clear tk3; (refine Mm.put0 rtA H rfl (.tmp 10) (.tmp 64) [.int .i64 2, .int .i64 ni, .string tx] rfl rfl rfl rfl (by simp [Value.oneCell']) rfl ?_; intro _ H2 st; replace HV := hidp (VsAt.stp HV.out st H.out.at0 (by decide)); replace HNT := hidp (NetAt.stp HNT.out st H.out.at0 (by decide) (by decide)); clear st H; have H := H2; clear H2); (try simp only [Act.put, setIfInBounds_toArray, set_cons_zero, set_cons_succ]); have tk4 := hidp trivial) | (clear tk4; (refine Mm.ld0 naI H rfl (.tmp 65) 0 _ rfl rfl rfl ?_); (try simp only [Act.put, setIfInBounds_toArray, set_cons_zero, set_cons_succ]); have tk5 := hidp trivial) | (clear tk5; (refine Mm.get1 rtRN H rfl (.tmp 7) rfl rfl rfl ?_); (try simp only [Act.put, setIfInBounds_toArray, set_cons_zero, set_cons_succ]); have tk6 := hidp trivial) | (clear tk6; (refine Mm.ld0 naI H rfl (.tmp 113) 1 _ rfl rfl rfl ?_); (try simp only [Act.put, setIfInBounds_toArray, set_cons_zero, set_cons_succ]); have tk7 := hidp trivial) | (clear tk7; (go_at_call 14; refine (cr.out _ HV.out).mono ?_; rintro e _ ⟨u1, rfl, hv1, hr1, hb⟩; obtain ⟨a1, k1, hvf, -⟩ := VsAt.form hv1; rw [strV_length] at hvf; subst hvf; have HAP1 := hidp (ap_ref HAP.out hr1 HNT.out); replace HNT := hidp (HNT.out.to hb); have HV1 := hidp hv1; replace H := hidp (H.out.call hb); clear hb hv1 hr1 HAP HV cr); (try simp only [Act.put, setIfInBounds_toArray, set_cons_zero, set_cons_succ]); have tk8 := hidp trivial) | (clear tk8; (refine Mm.new rtRN H (some 18) rfl rfl rfl ?_; clear H; intro b18 _ H nw; have hb := nw.below; replace HNT := hidp (NetAt.to HNT.out hb); replace HV1 := hidp (VsAt.to HV1.out hb); clear hb nw); (try simp only [Act.put, setIfInBounds_toArray, set_cons_zero, set_cons_succ]); have tk9 := hidp trivial) | (clear tk9; (refine Mm.put0 rtRN H rfl (.tmp 18) (.tmp 116) [.int .i64 m, (.slice a1 L2.length k1), .int .i64 n2] rfl rfl rfl rfl (by simp [Value.oneCell']) rfl ?_; intro _ H2 st; replace HNT := hidp (NetAt.stp HNT.out st H.out.at0 (by decide) (by decide)); replace HV1 := hidp (VsAt.stp HV1.out st H.out.at0 (by decide)); clear st H; have H := H2; clear H2); (try simp only [Act.put, setIfInBounds_toArray, set_cons_zero, set_cons_succ]); have tk10 := hidp trivial) | (clear tk10; (refine Mm.ld1 naI H rfl (.tmp 119) 1 _ rfl rfl rfl ?_); (try simp only [Act.put, setIfInBounds_toArray, set_cons_zero, set_cons_succ]); have tk11 := hidp trivial) | (clear tk11; (go_at_call 15; refine (cn.out _ HNT.out H.out.le).mono ?_; rintro e _ ⟨rfl, v1, hn1, hg1, hr1⟩; have HAP2 := hidp (ap_net HAP1.out HV1.out hr1); replace HV1 := hidp (VsAt.g2 HV1.out hg1 HNT.out HAP1.out); replace H := hidp (M_g2 H.out hg1 HNT.out hb0.out (List.forall_mem_cons.2 ⟨⟨(show 30 ≠ 80 from by decide), (show 30 ≠ 9 from by decide)⟩, (List.forall_mem_cons.2 ⟨⟨(show 34 ≠ 80 from by decide), (show 34 ≠ 9 from by decide)⟩, (List.forall_mem_cons.2 ⟨⟨(show 30 ≠ 80 from by decide), (show 30 ≠ 9 from by decide)⟩, (fun x h => by cases h)⟩)⟩)⟩)); replace HNT := hidp hn1; clear hn1 hg1 hr1 HAP1 cn); (try simp only [Act.put, setIfInBounds_toArray, set_cons_zero, set_cons_succ]); have tk12 := hidp trivial) | (clear tk12; (refine Mm.get0 rtRN H rfl (.tmp 18) rfl rfl rfl ?_); (try simp only [Act.put, setIfInBounds_toArray, set_cons_zero, set_cons_succ]); have tk13 := hidp trivial) | (clear tk13; (refine Mm.put2 rtRN H rfl (.tmp 7) (.tmp 124) [.int .i64 m, (.slice a1 L2.length k1), .int .i64 n2] rfl rfl rfl rfl (by simp [Value.oneCell']) rfl ?_; intro _ H2 st; replace HNT := hidp (NetAt.stp HNT.out st H.out.at2 (by decide) (by decide)); replace HV1 := hidp (VsAt.stp HV1.out st H.out.at2 (by decide)); clear st H; have H := H2; clear H2); (try simp only [Act.put, setIfInBounds_toArray, set_cons_zero, set_cons_succ]); have tk14 := hidp trivial))
                try clear tk14
                refine Mm.region H (.take 0 (.take 2 (.take 3 (.take 4 (.one 1 (.take 5 (.take 6 (.take 7 (.take 9 (.take 10 (.one 8 (.take 11 (.take 12 (.take 13 (.take 14 (.take 16 (.take 17 (.one 15 (.one 18 (.take 19 (.take 20 .done))))))))))))))))))))) (by kernel_rfl) (by kernel_rfl) (by simp [Scr.depth]) (by kernel_rfl) ?_
                clear H
                intro _ H hb
                replace HNT := hidp (NetAt.to HNT.out hb); replace HV1 := hidp (VsAt.to HV1.out hb); clear hb
                apply s_val
                case ho | hw => rfl
                case hv => intro w hw; go_simp; first | done | rfl
                simp only [Act.put, getElem_toArray, getElem_cons_zero, getElem_cons_succ, setIfInBounds_toArray, set_cons_zero, set_cons_succ]
                apply s_val
                case ho | hw => rfl
                case hv => intro w hw; go_simp; first | done | rfl
                simp only [Act.put, getElem_toArray, getElem_cons_zero, getElem_cons_succ, setIfInBounds_toArray, set_cons_zero, set_cons_succ]
                refine Mm.sld2 naSS (fun w h => h) rfl rfl (.tmp 143) 1 (.slice a1 L2.length k1) rfl rfl rfl ?_
                simp only [Act.put, getElem_toArray, getElem_cons_zero, getElem_cons_succ, setIfInBounds_toArray, set_cons_zero, set_cons_succ]
                apply s_val
                case ho | hw => rfl
                case hv => intro w hw; go_simp; first | done | rfl
                simp only [Act.put, getElem_toArray, getElem_cons_zero, getElem_cons_succ, setIfInBounds_toArray, set_cons_zero, set_cons_succ]
                refine o_callG rfl rfl 18 #[.pointer (some ⟨b, 0, none⟩)] (by go_simp; first | done | rfl) (len_any _ b _ v1 _ m n2 HNT.out) ?_
                rintro e _ ⟨rfl, rfl⟩
                refine ⟨_, rfl, H.out, ?_⟩
                simp only [Act.put, getElem_toArray, getElem_cons_zero, getElem_cons_succ, setIfInBounds_toArray, set_cons_zero, set_cons_succ]
                apply s_val
                case ho | hw => rfl
                case hv => intro w hw; go_simp; first | done | rfl
                simp only [Act.put, getElem_toArray, getElem_cons_zero, getElem_cons_succ, setIfInBounds_toArray, set_cons_zero, set_cons_succ]
                apply s_val
                case ho | hw => rfl
                case hv => intro w hw; go_simp; first | done | rfl
                simp only [Act.put, getElem_toArray, getElem_cons_zero, getElem_cons_succ, setIfInBounds_toArray, set_cons_zero, set_cons_succ]
                apply s_val
                case ho | hw => rfl
                case hv => intro w hw; go_simp; first | done | rfl
                simp only [Act.put, getElem_toArray, getElem_cons_zero, getElem_cons_succ, setIfInBounds_toArray, set_cons_zero, set_cons_succ]
                apply s_val
                case ho | hw => rfl
                case hv => intro w hw; go_simp; first | done | rfl
                simp only [Act.put, getElem_toArray, getElem_cons_zero, getElem_cons_succ, setIfInBounds_toArray, set_cons_zero, set_cons_succ]
                refine Mm.sld2 naI (fun w h => h) rfl rfl (.tmp 150) 2 (.int .i64 n2) rfl rfl rfl ?_
                simp only [Act.put, getElem_toArray, getElem_cons_zero, getElem_cons_succ, setIfInBounds_toArray, set_cons_zero, set_cons_succ]
                refine o_callG rfl rfl 19 #[.pointer (some ⟨b, 0, none⟩)] (by go_simp; first | done | rfl) (lost_any _ b _ v1 _ m n2 HNT.out) ?_
                rintro e _ ⟨rfl, rfl⟩
                refine ⟨_, rfl, H.out, ?_⟩
                simp only [Act.put, getElem_toArray, getElem_cons_zero, getElem_cons_succ, setIfInBounds_toArray, set_cons_zero, set_cons_succ]
                apply s_val
                case ho | hw => rfl
                case hv => intro w hw; go_simp; first | done | rfl
                simp only [Act.put, getElem_toArray, getElem_cons_zero, getElem_cons_succ, setIfInBounds_toArray, set_cons_zero, set_cons_succ]
                apply s_val
                case ho | hw => rfl
                case hv => intro w hw; go_simp; first | done | rfl
                simp only [Act.put, getElem_toArray, getElem_cons_zero, getElem_cons_succ, setIfInBounds_toArray, set_cons_zero, set_cons_succ]
                apply s_val
                case ho | hw => rfl
                case hv => intro w hw; go_simp; first | done | rfl
                simp only [Act.put, getElem_toArray, getElem_cons_zero, getElem_cons_succ, setIfInBounds_toArray, set_cons_zero, set_cons_succ]
                apply s_val
                case ho | hw => rfl
                case hv => intro w hw; go_simp; first | done | rfl
                simp only [Act.put, getElem_toArray, getElem_cons_zero, getElem_cons_succ, setIfInBounds_toArray, set_cons_zero, set_cons_succ]
                apply s_val
                case ho | hw => rfl
                case hv => intro w hw; go_simp; first | done | rfl
                simp only [Act.put, getElem_toArray, getElem_cons_zero, getElem_cons_succ, setIfInBounds_toArray, set_cons_zero, set_cons_succ]
                refine Mm.sld2 naSS (fun w h => h) rfl rfl (.tmp 157) 1 (.slice a1 L2.length k1) rfl rfl rfl ?_
                simp only [Act.put, getElem_toArray, getElem_cons_zero, getElem_cons_succ, setIfInBounds_toArray, set_cons_zero, set_cons_succ]
                refine o_callG rfl rfl 21 #[.pointer (some ⟨b, 0, none⟩)] (by go_simp; first | done | rfl) (all_any _ b _ v1 _ m n2 HNT.out (by have := HGD.out.room; have := hm2.out; omega) HGD.out.sz) ?_
                rintro e _ ⟨v9, rfl, ho9, hb⟩
                refine ⟨v9, rfl, H.out.call hb, ?_⟩
                have HO9 := hidp ho9
                replace HNT := hidp (HNT.out.to hb)
                replace HV1 := hidp (VsAt.to HV1.out hb)
                replace H := hidp (H.out.call hb)
                clear hb ho9
                simp only [Act.put, getElem_toArray, getElem_cons_zero, getElem_cons_succ, setIfInBounds_toArray, set_cons_zero, set_cons_succ]
                refine o_callG rfl rfl 20 #[v9, (.slice a1 L2.length k1)] (by go_simp; first | done | rfl) (same_any _ v9 (.slice a1 L2.length k1) L2 L2 (OwnV.strs HO9.out) (VsAt.strs HV1.out) (by have := HGD.out.room; have := hm2.out; omega) (by have := HGD.out.room; have := hm2.out; omega)) ?_
                rintro e _ ⟨rfl, hb⟩
                rw [sameB_self]
                refine ⟨.bool true, rfl, H.out.call hb, ?_⟩
                replace HNT := hidp (HNT.out.to hb)
                replace HV1 := hidp (VsAt.to HV1.out hb)
                replace H := hidp (H.out.call hb)
                clear hb HO9
                simp only [Act.put, getElem_toArray, getElem_cons_zero, getElem_cons_succ, setIfInBounds_toArray, set_cons_zero, set_cons_succ]
                apply s_val
                case ho | hw => rfl
                case hv => intro w hw; go_simp; first | done | rfl
                simp only [Act.put, getElem_toArray, getElem_cons_zero, getElem_cons_succ, setIfInBounds_toArray, set_cons_zero, set_cons_succ]
                apply s_val
                case ho | hw => rfl
                case hv => intro w hw; go_simp; first | done | rfl
                simp only [Act.put, getElem_toArray, getElem_cons_zero, getElem_cons_succ, setIfInBounds_toArray, set_cons_zero, set_cons_succ]
                refine NoPanic.normal ?_
                go_wp2
                exact ⟨⟨i + 1, v1, (.slice a1 L2.length k1), L2, n2, by go_num, by omega, HNT, HV1, HAP2, HGD, (H.out.tail.tail).sub (by simp)⟩, by simp [intOf]; omega⟩
              · by_cases k3 : kd = 3
                · subst k3
                  have hg := HGD.out
                  have cr := hidp (fun W (hv : VsAt W (.slice a0 L.length c0) (strV L)) => rdouble_any W m n (.slice a0 L.length c0) L hv hg.room (by have := hg.room; have := hm2.out; omega) ⟨hg.n0, by have := hg.ni; omega⟩ ni)
                  have cn := hidp (fun W (hn : NetAt W b w.heap.size v L m n) (hB : w.heap.size ≤ W.heap.size) => double_any W b _ v L m n hn (by have := hg.room; have := hm2.out; omega) hB ⟨hg.n0, by have := hg.ni; omega⟩ hg.sz ni)
                  have HG2 := HGD.out.dbl ni
                  obtain ⟨L2, hL2⟩ : ∃ x, dbL L m ni = x := ⟨_, rfl⟩
                  rw [hL2] at cr cn HG2
                  obtain ⟨E, hE⟩ : ∃ x, dbE L m ni = x := ⟨_, rfl⟩
                  rw [hE] at cr cn
                  obtain ⟨n2, hn2⟩ : ∃ x, dbN L m n ni = x := ⟨_, rfl⟩
                  rw [hn2] at cr cn HG2
                  have HGD := hidp HG2
                  clear HG2 hL2 hE hg hn2
                  have tk0 := hidp trivial
                  go_upto_region 34 with (first | (clear tk0; (refine Rw.wpL_idxR tyA rfl (.tmp 59) (.tmp 61) rfl g off la ca i rfl rfl hlt ?_); (try simp only [Act.put, setIfInBounds_toArray, set_cons_zero, set_cons_succ]); have tk1 := hidp trivial) | (clear tk1; (refine Rw.wpL_atR tyA rfl (.tmp 63) rfl g (off + 3 * i) [.int .i64 3, .int .i64 ni, .string tx] rfl rfl (rangeAt_below HRA.out H.out.below hga) ?_); (try simp only [Act.put, setIfInBounds_toArray, set_cons_zero, set_cons_succ]); have tk2 := hidp trivial) | (clear tk2; (refine Mm.new rtA H (some 10) rfl rfl rfl ?_; clear H; intro b10 _ H nw; have hb := nw.below; replace HV := hidp (VsAt.to HV.out hb); replace HNT := hidp (NetAt.to HNT.out hb); clear hb nw); (try simp only [Act.put, setIfInBounds_toArray, set_cons_zero, set_cons_succ]); have tk3 := hidp trivial) | (clear tk3; (refine Mm.put0 rtA H rfl (.tmp 10) (.tmp 64) [.int .i64 3, .int .i64 ni, .string tx] rfl rfl rfl rfl (by simp [Value.oneCell']) rfl ?_; intro _ H2 st; replace HV := hidp (VsAt.stp HV.out st H.out.at0 (by decide)); replace HNT := hidp (NetAt.stp HNT.out st H.out.at0 (by decide) (by decide)); clear st H; have H := H2; clear H2); (try simp only [Act.put, setIfInBounds_toArray, set_cons_zero, set_cons_succ]); have tk4 := hidp trivial) | (clear tk4; (refine Mm.ld0 naI H rfl (.tmp 65) 0 _ rfl rfl rfl ?_); (try simp only [Act.put, setIfInBounds_toArray, set_cons_zero, set_cons_succ]); have tk5 := hidp trivial) | (clear tk5; (refine Mm.get1 rtRN H rfl (.tmp 7) rfl rfl rfl ?_); (try simp only [Act.put, setIfInBounds_toArray, set_cons_zero, set_cons_succ]); have tk6 := hidp trivial) | (clear tk6; (refine Mm.ld0 naI H rfl (.tmp 129) 1 _ rfl rfl rfl ?_); (try simp only [Act.put, setIfInBounds_toArray, set_cons_zero, set_cons_succ]); have tk7 := hidp trivial) | (clear tk7; (go_at_call 16; refine (cr.out _ HV.out).mono ?_; rintro e _ ⟨u1, rfl, hv1, hr1, hb⟩; obtain ⟨a1, k1, hvf, -⟩ := VsAt.form hv1; rw [strV_length] at hvf; subst hvf; have HAP1 := hidp (ap_ref HAP.out hr1 HNT.out); replace HNT := hidp (HNT.out.to hb); have HV1 := hidp hv1; replace H := hidp (H.out.call hb); clear hb hv1 hr1 HAP HV cr); (try simp only [Act.put, setIfInBounds_toArray, set_cons_zero, set_cons_succ]); have tk8 := hidp trivial) | (clear tk8; (refine Mm.new rtRN H (some 20) rfl rfl rfl ?_; clear H; intro b20 _ H nw; have hb := nw.below; replace HNT := hidp (NetAt.to HNT.out hb); replace HV1 := hidp (VsAt.to HV1.out hb); clear hb nw); (try simp only [Act.put, setIfInBounds_toArray, set_cons_zero, set_cons_succ]); have tk9 := hidp trivial) | (clear tk9; (refine Mm.put0 rtRN H rfl (.tmp 20) (.tmp 132) [.int .i64 m, (.slice a1 L2.length k1), .int .i64 n2] rfl rfl rfl rfl (by simp [Value.oneCell']) rfl ?_; intro _ H2 st; replace HNT := hidp (NetAt.stp HNT.out st H.out.at0 (by decide) (by decide)); replace HV1 := hidp (VsAt.stp HV1.out st H.out.at0 (by decide)); clear st H; have H := H2; clear H2); (try simp only [Act.put, setIfInBounds_toArray, set_cons_zero, set_cons_succ]); have tk10 := hidp trivial) | (clear tk10; (refine Mm.ld1 naI H rfl (.tmp 135) 1 _ rfl rfl rfl ?_); (try simp only [Act.put, setIfInBounds_toArray, set_cons_zero, set_cons_succ]); have tk11 := hidp trivial) | (clear tk11; (go_at_call 17; refine (cn.out _ HNT.out H.out.le).mono ?_; rintro e _ ⟨rfl, v1, hn1, hg1, hr1⟩; have HAP2 := hidp (ap_net HAP1.out HV1.out hr1); replace HV1 := hidp (VsAt.g2 HV1.out hg1 HNT.out HAP1.out); replace H := hidp (M_g2 H.out hg1 HNT.out hb0.out (List.forall_mem_cons.2 ⟨⟨(show 30 ≠ 80 from by decide), (show 30 ≠ 9 from by decide)⟩, (List.forall_mem_cons.2 ⟨⟨(show 34 ≠ 80 from by decide), (show 34 ≠ 9 from by decide)⟩, (List.forall_mem_cons.2 ⟨⟨(show 30 ≠ 80 from by decide), (show 30 ≠ 9 from by decide)⟩, (fun x h => by cases h)⟩)⟩)⟩)); replace HNT := hidp hn1; clear hn1 hg1 hr1 HAP1 cn); (try simp only [Act.put, setIfInBounds_toArray, set_cons_zero, set_cons_succ]); have tk12 := hidp trivial) | (clear tk12; (refine Mm.get0 rtRN H rfl (.tmp 20) rfl rfl rfl ?_); (try simp only [Act.put, setIfInBounds_toArray, set_cons_zero, set_cons_succ]); have tk13 := hidp trivial) | (clear tk13; (refine Mm.put2 rtRN H rfl (.tmp 7) (.tmp 140) [.int .i64 m, (.slice a1 L2.length k1), .int .i64 n2] rfl rfl rfl rfl (by simp [Value.oneCell']) rfl ?_; intro _ H2 st; replace HNT := hidp (NetAt.stp HNT.out st H.out.at2 (by decide) (by decide)); replace HV1 := hidp (VsAt.stp HV1.out st H.out.at2 (by decide)); clear st H; have H := H2; clear H2); (try simp only [Act.put, setIfInBounds_toArray, set_cons_zero, set_cons_succ]); have tk14 := hidp trivial))
                  try clear tk14
                  refine Mm.region H (.take 0 (.take 2 (.take 3 (.take 4 (.one 1 (.take 5 (.take 6 (.take 7 (.take 9 (.take 10 (.one 8 (.take 11 (.take 12 (.take 13 (.take 14 (.take 16 (.take 17 (.one 15 (.one 18 (.take 19 (.take 20 .done))))))))))))))))))))) (by kernel_rfl) (by kernel_rfl) (by simp [Scr.depth]) (by kernel_rfl) ?_
                  clear H
                  intro _ H hb
                  replace HNT := hidp (NetAt.to HNT.out hb); replace HV1 := hidp (VsAt.to HV1.out hb); clear hb
                  apply s_val
                  case ho | hw => rfl
                  case hv => intro w hw; go_simp; first | done | rfl
                  simp only [Act.put, getElem_toArray, getElem_cons_zero, getElem_cons_succ, setIfInBounds_toArray, set_cons_zero, set_cons_succ]
                  apply s_val
                  case ho | hw => rfl
                  case hv => intro w hw; go_simp; first | done | rfl
                  simp only [Act.put, getElem_toArray, getElem_cons_zero, getElem_cons_succ, setIfInBounds_toArray, set_cons_zero, set_cons_succ]
                  refine Mm.sld2 naSS (fun w h => h) rfl rfl (.tmp 143) 1 (.slice a1 L2.length k1) rfl rfl rfl ?_
                  simp only [Act.put, getElem_toArray, getElem_cons_zero, getElem_cons_succ, setIfInBounds_toArray, set_cons_zero, set_cons_succ]
                  apply s_val
                  case ho | hw => rfl
                  case hv => intro w hw; go_simp; first | done | rfl
                  simp only [Act.put, getElem_toArray, getElem_cons_zero, getElem_cons_succ, setIfInBounds_toArray, set_cons_zero, set_cons_succ]
                  refine o_callG rfl rfl 18 #[.pointer (some ⟨b, 0, none⟩)] (by go_simp; first | done | rfl) (len_any _ b _ v1 _ m n2 HNT.out) ?_
                  rintro e _ ⟨rfl, rfl⟩
                  refine ⟨_, rfl, H.out, ?_⟩
                  simp only [Act.put, getElem_toArray, getElem_cons_zero, getElem_cons_succ, setIfInBounds_toArray, set_cons_zero, set_cons_succ]
                  apply s_val
                  case ho | hw => rfl
                  case hv => intro w hw; go_simp; first | done | rfl
                  simp only [Act.put, getElem_toArray, getElem_cons_zero, getElem_cons_succ, setIfInBounds_toArray, set_cons_zero, set_cons_succ]
                  apply s_val
                  case ho | hw => rfl
                  case hv => intro w hw; go_simp; first | done | rfl
                  simp only [Act.put, getElem_toArray, getElem_cons_zero, getElem_cons_succ, setIfInBounds_toArray, set_cons_zero, set_cons_succ]
                  apply s_val
                  case ho | hw => rfl
                  case hv => intro w hw; go_simp; first | done | rfl
                  simp only [Act.put, getElem_toArray, getElem_cons_zero, getElem_cons_succ, setIfInBounds_toArray, set_cons_zero, set_cons_succ]
                  apply s_val
                  case ho | hw => rfl
                  case hv => intro w hw; go_simp; first | done | rfl
                  simp only [Act.put, getElem_toArray, getElem_cons_zero, getElem_cons_succ, setIfInBounds_toArray, set_cons_zero, set_cons_succ]
                  refine Mm.sld2 naI (fun w h => h) rfl rfl (.tmp 150) 2 (.int .i64 n2) rfl rfl rfl ?_
                  simp only [Act.put, getElem_toArray, getElem_cons_zero, getElem_cons_succ, setIfInBounds_toArray, set_cons_zero, set_cons_succ]
                  refine o_callG rfl rfl 19 #[.pointer (some ⟨b, 0, none⟩)] (by go_simp; first | done | rfl) (lost_any _ b _ v1 _ m n2 HNT.out) ?_
                  rintro e _ ⟨rfl, rfl⟩
                  refine ⟨_, rfl, H.out, ?_⟩
                  simp only [Act.put, getElem_toArray, getElem_cons_zero, getElem_cons_succ, setIfInBounds_toArray, set_cons_zero, set_cons_succ]
                  apply s_val
                  case ho | hw => rfl
                  case hv => intro w hw; go_simp; first | done | rfl
                  simp only [Act.put, getElem_toArray, getElem_cons_zero, getElem_cons_succ, setIfInBounds_toArray, set_cons_zero, set_cons_succ]
                  apply s_val
                  case ho | hw => rfl
                  case hv => intro w hw; go_simp; first | done | rfl
                  simp only [Act.put, getElem_toArray, getElem_cons_zero, getElem_cons_succ, setIfInBounds_toArray, set_cons_zero, set_cons_succ]
                  apply s_val
                  case ho | hw => rfl
                  case hv => intro w hw; go_simp; first | done | rfl
                  simp only [Act.put, getElem_toArray, getElem_cons_zero, getElem_cons_succ, setIfInBounds_toArray, set_cons_zero, set_cons_succ]
                  apply s_val
                  case ho | hw => rfl
                  case hv => intro w hw; go_simp; first | done | rfl
                  simp only [Act.put, getElem_toArray, getElem_cons_zero, getElem_cons_succ, setIfInBounds_toArray, set_cons_zero, set_cons_succ]
                  apply s_val
                  case ho | hw => rfl
                  case hv => intro w hw; go_simp; first | done | rfl
                  simp only [Act.put, getElem_toArray, getElem_cons_zero, getElem_cons_succ, setIfInBounds_toArray, set_cons_zero, set_cons_succ]
                  refine Mm.sld2 naSS (fun w h => h) rfl rfl (.tmp 157) 1 (.slice a1 L2.length k1) rfl rfl rfl ?_
                  simp only [Act.put, getElem_toArray, getElem_cons_zero, getElem_cons_succ, setIfInBounds_toArray, set_cons_zero, set_cons_succ]
                  refine o_callG rfl rfl 21 #[.pointer (some ⟨b, 0, none⟩)] (by go_simp; first | done | rfl) (all_any _ b _ v1 _ m n2 HNT.out (by have := HGD.out.room; have := hm2.out; omega) HGD.out.sz) ?_
                  rintro e _ ⟨v9, rfl, ho9, hb⟩
                  refine ⟨v9, rfl, H.out.call hb, ?_⟩
                  have HO9 := hidp ho9
                  replace HNT := hidp (HNT.out.to hb)
                  replace HV1 := hidp (VsAt.to HV1.out hb)
                  replace H := hidp (H.out.call hb)
                  clear hb ho9
                  simp only [Act.put, getElem_toArray, getElem_cons_zero, getElem_cons_succ, setIfInBounds_toArray, set_cons_zero, set_cons_succ]
                  refine o_callG rfl rfl 20 #[v9, (.slice a1 L2.length k1)] (by go_simp; first | done | rfl) (same_any _ v9 (.slice a1 L2.length k1) L2 L2 (OwnV.strs HO9.out) (VsAt.strs HV1.out) (by have := HGD.out.room; have := hm2.out; omega) (by have := HGD.out.room; have := hm2.out; omega)) ?_
                  rintro e _ ⟨rfl, hb⟩
                  rw [sameB_self]
                  refine ⟨.bool true, rfl, H.out.call hb, ?_⟩
                  replace HNT := hidp (HNT.out.to hb)
                  replace HV1 := hidp (VsAt.to HV1.out hb)
                  replace H := hidp (H.out.call hb)
                  clear hb HO9
                  simp only [Act.put, getElem_toArray, getElem_cons_zero, getElem_cons_succ, setIfInBounds_toArray, set_cons_zero, set_cons_succ]
                  apply s_val
                  case ho | hw => rfl
                  case hv => intro w hw; go_simp; first | done | rfl
                  simp only [Act.put, getElem_toArray, getElem_cons_zero, getElem_cons_succ, setIfInBounds_toArray, set_cons_zero, set_cons_succ]
                  apply s_val
                  case ho | hw => rfl
                  case hv => intro w hw; go_simp; first | done | rfl
                  simp only [Act.put, getElem_toArray, getElem_cons_zero, getElem_cons_succ, setIfInBounds_toArray, set_cons_zero, set_cons_succ]
                  refine NoPanic.normal ?_
                  go_wp2
                  exact ⟨⟨i + 1, v1, (.slice a1 L2.length k1), L2, n2, by go_num, by omega, HNT, HV1, HAP2, HGD, (H.out.tail.tail).sub (by simp)⟩, by simp [intOf]; omega⟩
                · have q0 : (kd == 0) = false := by rw [beq_eq_false_iff_ne]; exact k0
                  have q1 : (kd == 1) = false := by rw [beq_eq_false_iff_ne]; exact k1
                  have q2 : (kd == 2) = false := by rw [beq_eq_false_iff_ne]; exact k2
                  have q3 : (kd == 3) = false := by rw [beq_eq_false_iff_ne]; exact k3
                  clear k0 k1 k2 k3
                  have HGD := hidp HGD.out.mono
                  have tk0 := hidp trivial
                  go_upto_region 34 with (first | (clear tk0; (refine Rw.wpL_idxR tyA rfl (.tmp 59) (.tmp 61) rfl g off la ca i rfl rfl hlt ?_); (try simp only [Act.put, setIfInBounds_toArray, set_cons_zero, set_cons_succ]); have tk1 := hidp trivial) | (clear tk1; (refine Rw.wpL_atR tyA rfl (.tmp 63) rfl g (off + 3 * i) [.int .i64 kd, .int .i64 ni, .string tx] rfl rfl (rangeAt_below HRA.out H.out.below hga) ?_); (try simp only [Act.put, setIfInBounds_toArray, set_cons_zero, set_cons_succ]); have tk2 := hidp trivial) | (clear tk2; (refine Mm.new rtA H (some 10) rfl rfl rfl ?_; clear H; intro b10 _ H nw; have hb := nw.below; replace HV := hidp (VsAt.to HV.out hb); replace HNT := hidp (NetAt.to HNT.out hb); clear hb nw); (try simp only [Act.put, setIfInBounds_toArray, set_cons_zero, set_cons_succ]); have tk3 := hidp trivial) | (clear tk3; (refine Mm.put0 rtA H rfl (.tmp 10) (.tmp 64) [.int .i64 kd, .int .i64 ni, .string tx] rfl rfl rfl rfl (by simp [Value.oneCell']) rfl ?_; intro _ H2 st; replace HV := hidp (VsAt.stp HV.out st H.out.at0 (by decide)); replace HNT := hidp (NetAt.stp HNT.out st H.out.at0 (by decide) (by decide)); clear st H; have H := H2; clear H2); (try simp only [Act.put, setIfInBounds_toArray, set_cons_zero, set_cons_succ]); have tk4 := hidp trivial) | (clear tk4; (refine Mm.ld0 naI H rfl (.tmp 65) 0 _ rfl rfl rfl ?_); (try simp only [Act.put, setIfInBounds_toArray, set_cons_zero, set_cons_succ]); have tk5 := hidp trivial))
                  try clear tk5
                  refine Mm.region H (.take 0 (.take 2 (.take 3 (.take 4 (.one 1 (.take 5 (.take 6 (.take 7 (.take 9 (.take 10 (.one 8 (.take 11 (.take 12 (.take 13 (.take 14 (.take 16 (.take 17 (.one 15 (.one 18 (.take 19 (.take 20 .done))))))))))))))))))))) (by kernel_rfl) (by kernel_rfl) (by simp [Scr.depth]) (by kernel_rfl) ?_
                  clear H
                  intro _ H hb
                  replace HV := hidp (VsAt.to HV.out hb); replace HNT := hidp (NetAt.to HNT.out hb); clear hb
                  apply s_val
                  case ho | hw => rfl
                  case hv => intro w hw; go_simp; first | done | rfl
                  simp only [Act.put, getElem_toArray, getElem_cons_zero, getElem_cons_succ, setIfInBounds_toArray, set_cons_zero, set_cons_succ]
                  apply s_val
                  case ho | hw => rfl
                  case hv => intro w hw; go_simp; first | done | rfl
                  simp only [Act.put, getElem_toArray, getElem_cons_zero, getElem_cons_succ, setIfInBounds_toArray, set_cons_zero, set_cons_succ]
                  refine Mm.sld1 naSS (fun w h => h) rfl rfl (.tmp 143) 1 (.slice a0 L.length c0) rfl rfl rfl ?_
                  simp only [Act.put, getElem_toArray, getElem_cons_zero, getElem_cons_succ, setIfInBounds_toArray, set_cons_zero, set_cons_succ]
                  apply s_val
                  case ho | hw => rfl
                  case hv => intro w hw; go_simp; first | done | rfl
                  simp only [Act.put, getElem_toArray, getElem_cons_zero, getElem_cons_succ, setIfInBounds_toArray, set_cons_zero, set_cons_succ]
                  refine o_callG rfl rfl 18 #[.pointer (some ⟨b, 0, none⟩)] (by go_simp; first | done | rfl) (len_any _ b _ v _ m n HNT.out) ?_
                  rintro e _ ⟨rfl, rfl⟩
                  refine ⟨_, rfl, H.out, ?_⟩
                  simp only [Act.put, getElem_toArray, getElem_cons_zero, getElem_cons_succ, setIfInBounds_toArray, set_cons_zero, set_cons_succ]
                  apply s_val
                  case ho | hw => rfl
                  case hv => intro w hw; go_simp; first | done | rfl
                  simp only [Act.put, getElem_toArray, getElem_cons_zero, getElem_cons_succ, setIfInBounds_toArray, set_cons_zero, set_cons_succ]
                  apply s_val
                  case ho | hw => rfl
                  case hv => intro w hw; go_simp; first | done | rfl
                  simp only [Act.put, getElem_toArray, getElem_cons_zero, getElem_cons_succ, setIfInBounds_toArray, set_cons_zero, set_cons_succ]
                  apply s_val
                  case ho | hw => rfl
                  case hv => intro w hw; go_simp; first | done | rfl
                  simp only [Act.put, getElem_toArray, getElem_cons_zero, getElem_cons_succ, setIfInBounds_toArray, set_cons_zero, set_cons_succ]
                  apply s_val
                  case ho | hw => rfl
                  case hv => intro w hw; go_simp; first | done | rfl
                  simp only [Act.put, getElem_toArray, getElem_cons_zero, getElem_cons_succ, setIfInBounds_toArray, set_cons_zero, set_cons_succ]
                  refine Mm.sld1 naI (fun w h => h) rfl rfl (.tmp 150) 2 (.int .i64 n) rfl rfl rfl ?_
                  simp only [Act.put, getElem_toArray, getElem_cons_zero, getElem_cons_succ, setIfInBounds_toArray, set_cons_zero, set_cons_succ]
                  refine o_callG rfl rfl 19 #[.pointer (some ⟨b, 0, none⟩)] (by go_simp; first | done | rfl) (lost_any _ b _ v _ m n HNT.out) ?_
                  rintro e _ ⟨rfl, rfl⟩
                  refine ⟨_, rfl, H.out, ?_⟩
                  simp only [Act.put, getElem_toArray, getElem_cons_zero, getElem_cons_succ, setIfInBounds_toArray, set_cons_zero, set_cons_succ]
                  apply s_val
                  case ho | hw => rfl
                  case hv => intro w hw; go_simp; first | done | rfl
                  simp only [Act.put, getElem_toArray, getElem_cons_zero, getElem_cons_succ, setIfInBounds_toArray, set_cons_zero, set_cons_succ]
                  apply s_val
                  case ho | hw => rfl
                  case hv => intro w hw; go_simp; first | done | rfl
                  simp only [Act.put, getElem_toArray, getElem_cons_zero, getElem_cons_succ, setIfInBounds_toArray, set_cons_zero, set_cons_succ]
                  apply s_val
                  case ho | hw => rfl
                  case hv => intro w hw; go_simp; first | done | rfl
                  simp only [Act.put, getElem_toArray, getElem_cons_zero, getElem_cons_succ, setIfInBounds_toArray, set_cons_zero, set_cons_succ]
                  apply s_val
                  case ho | hw => rfl
                  case hv => intro w hw; go_simp; first | done | rfl
                  simp only [Act.put, getElem_toArray, getElem_cons_zero, getElem_cons_succ, setIfInBounds_toArray, set_cons_zero, set_cons_succ]
                  apply s_val
                  case ho | hw => rfl
                  case hv => intro w hw; go_simp; first | done | rfl
                  simp only [Act.put, getElem_toArray, getElem_cons_zero, getElem_cons_succ, setIfInBounds_toArray, set_cons_zero, set_cons_succ]
                  refine Mm.sld1 naSS (fun w h => h) rfl rfl (.tmp 157) 1 (.slice a0 L.length c0) rfl rfl rfl ?_
                  simp only [Act.put, getElem_toArray, getElem_cons_zero, getElem_cons_succ, setIfInBounds_toArray, set_cons_zero, set_cons_succ]
                  refine o_callG rfl rfl 21 #[.pointer (some ⟨b, 0, none⟩)] (by go_simp; first | done | rfl) (all_any _ b _ v _ m n HNT.out (by have := HGD.out.room; have := hm2.out; omega) HGD.out.sz) ?_
                  rintro e _ ⟨v9, rfl, ho9, hb⟩
                  refine ⟨v9, rfl, H.out.call hb, ?_⟩
                  have HO9 := hidp ho9
                  replace HNT := hidp (HNT.out.to hb)
                  replace HV := hidp (VsAt.to HV.out hb)
                  replace H := hidp (H.out.call hb)
                  clear hb ho9
                  simp only [Act.put, getElem_toArray, getElem_cons_zero, getElem_cons_succ, setIfInBounds_toArray, set_cons_zero, set_cons_succ]
                  refine o_callG rfl rfl 20 #[v9, (.slice a0 L.length c0)] (by go_simp; first | done | rfl) (same_any _ v9 (.slice a0 L.length c0) L L (OwnV.strs HO9.out) (VsAt.strs HV.out) (by have := HGD.out.room; have := hm2.out; omega) (by have := HGD.out.room; have := hm2.out; omega)) ?_
                  rintro e _ ⟨rfl, hb⟩
                  rw [sameB_self]
                  refine ⟨.bool true, rfl, H.out.call hb, ?_⟩
                  replace HNT := hidp (HNT.out.to hb)
                  replace HV := hidp (VsAt.to HV.out hb)
                  replace H := hidp (H.out.call hb)
                  clear hb HO9
                  simp only [Act.put, getElem_toArray, getElem_cons_zero, getElem_cons_succ, setIfInBounds_toArray, set_cons_zero, set_cons_succ]
                  apply s_val
                  case ho | hw => rfl
                  case hv => intro w hw; go_simp; first | done | rfl
                  simp only [Act.put, getElem_toArray, getElem_cons_zero, getElem_cons_succ, setIfInBounds_toArray, set_cons_zero, set_cons_succ]
                  apply s_val
                  case ho | hw => rfl
                  case hv => intro w hw; go_simp; first | done | rfl
                  simp only [Act.put, getElem_toArray, getElem_cons_zero, getElem_cons_succ, setIfInBounds_toArray, set_cons_zero, set_cons_succ]
                  refine NoPanic.normal ?_
                  go_wp2
                  exact ⟨⟨i + 1, v, (.slice a0 L.length c0), L, n, by go_num, by omega, HNT, HV, HAP, HGD, (H.out.tail).sub (by simp)⟩, by simp [intOf]; omega⟩
        · have e1 : decide ((i : Int) < (la : Int)) = false := by simp; omega
          have e1n : decide (i < la) = false := by simp; omega
          go_wp2_with fail
          go_ret
          exact ⟨rfl, H.out.below⟩
    · have e0 : decide ((la : Int) > 100) = true := by simp; omega
      have e0' : decide ((100 : Int) < (la : Int)) = true := by simp; omega
      have e0n : decide (100 < la) = true := by simp; omega
      go_enter Try.func3, Try.ntmps3
      have tk0 := hidp trivial
      go_wp2_with (first | (clear tk0; (go_at_call 7; refine (lives29_any _).mono ?_; rintro e _ ⟨rfl, hb⟩; replace H := hidp (H.out.call hb); clear hb); (try simp only [Act.put, setIfInBounds_toArray, set_cons_zero, set_cons_succ]); have tk1 := hidp trivial) | (clear tk1; (go_at_call 8; refine (cnw.out _).mono ?_; rintro e _ ⟨b, rfl, hn1, hbb, hb⟩; have hb0 := hidp (Nat.le_trans H.out.le hbb); have HNT := hidp (NetAt.base hn1 H.out.le); replace H := hidp (H.out.call hb); clear hn1 hbb hb cnw); (try simp only [Act.put, setIfInBounds_toArray, set_cons_zero, set_cons_succ]); have tk2 := hidp trivial) | (clear tk2; (go_at_call 9; refine (crn.out _).mono ?_; rintro e _ ⟨rfl, hb⟩; replace H := hidp (H.out.call hb); clear crn; replace HNT := hidp (NetAt.to HNT.out hb); clear hb); (try simp only [Act.put, setIfInBounds_toArray, set_cons_zero, set_cons_succ]); have tk3 := hidp trivial) | (clear tk3; (refine Mm.new rtRN H (some 7) rfl rfl rfl ?_; clear H; intro b7 _ H nw; have hb := nw.below; replace HNT := hidp (NetAt.to HNT.out hb); clear hb nw); (try simp only [Act.put, setIfInBounds_toArray, set_cons_zero, set_cons_succ]); have tk4 := hidp trivial) | (clear tk4; (refine Mm.put0 rtRN H rfl (.tmp 7) (.tmp 32) [.int .i64 m, (.slice none 0 0), .int .i64 0] rfl rfl rfl rfl (by simp [Value.oneCell']) rfl ?_; intro _ H2 st; replace HNT := hidp (NetAt.stp HNT.out st H.out.at0 (by decide) (by decide)); clear st H; have H := H2; clear H2); (try simp only [Act.put, setIfInBounds_toArray, set_cons_zero, set_cons_succ]); have tk5 := hidp trivial))
      try clear tk5
      go_ret
      exact ⟨rfl, H.out.below⟩
  · rw [decide_eq_false hm] at crn
    have cnw := hidp (fun W => new_no W m hm)
    go_enter Try.func3, Try.ntmps3
    have tk0 := hidp trivial
    go_wp2_with (first | (clear tk0; (go_at_call 7; refine (lives29_any _).mono ?_; rintro e _ ⟨rfl, hb⟩; replace H := hidp (H.out.call hb); clear hb); (try simp only [Act.put, setIfInBounds_toArray, set_cons_zero, set_cons_succ]); have tk1 := hidp trivial) | (clear tk1; (go_at_call 8; refine (cnw.out _).mono ?_; rintro e _ ⟨rfl, rfl⟩; clear cnw); (try simp only [Act.put, setIfInBounds_toArray, set_cons_zero, set_cons_succ]); have tk2 := hidp trivial) | (clear tk2; (go_at_call 9; refine (crn.out _).mono ?_; rintro e _ ⟨rfl, hb⟩; replace H := hidp (H.out.call hb); clear crn; clear hb); (try simp only [Act.put, setIfInBounds_toArray, set_cons_zero, set_cons_succ]); have tk3 := hidp trivial) | (clear tk3; (refine Mm.new rtRN H (some 7) rfl rfl rfl ?_; clear H; intro b7 _ H nw; have hb := nw.below; clear hb nw); (try simp only [Act.put, setIfInBounds_toArray, set_cons_zero, set_cons_succ]); have tk4 := hidp trivial) | (clear tk4; (refine Mm.put0 rtRN H rfl (.tmp 7) (.tmp 32) [.int .i64 m, (.slice none 0 0), .int .i64 0] rfl rfl rfl rfl (by simp [Value.oneCell']) rfl ?_; intro _ H2 st; clear st H; have H := H2; clear H2); (try simp only [Act.put, setIfInBounds_toArray, set_cons_zero, set_cons_succ]); have tk5 := hidp trivial))
    try clear tk5
    go_ret
    exact ⟨rfl, H.out.below⟩
end Go.Proofs.Ytokakgjcegmabaa.Nt
