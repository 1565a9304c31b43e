/-
  NetSomewhere, walked.
-/
import Derived.Test.YtokakgjcegmabaaNtU
namespace Go.Proofs.Ytokakgjcegmabaa.Nt
set_option maxRecDepth 100000
set_option linter.unusedVariables false
set_option linter.unusedSimpArgs false
open Go.RowKit
open List (getElem_toArray getElem_cons_zero getElem_cons_succ setIfInBounds_toArray set_cons_zero set_cons_succ)
open Vs (VsAt)
theorem ap_new {w W : World} {b B N : Nat} {u v : Value} {l : List Value} {L : List ByteArray} {m n : Int} (ho : OwnV W B 9 u l) (h : NetAt w b N v L m n) (hB : w.heap.size ≤ B) : ∀ x, u.ownBlock = some x → v.ownBlock ≠ some x := fun x hx hv => by have := NetAt.lt h hv; have := Vs.own_blk ho hx; omega
theorem vs_cell {w : World} {g o n c : Nat} {L : List ByteArray} (h : VsAt w (.slice (some ⟨g, o, none⟩) n c) (strV L)) (k : Nat) (hk : k < L.length) : w.cell? ⟨g, o + k, none⟩ = some (.string (Sl.sAt L k)) := by
  obtain ⟨g', o', c', e, -, -, hc⟩ := Vs.VsAt.get h (by rw [strV_length]; omega)
  simp only [Value.slice.injEq, Option.some.injEq, Addr.mk.injEq, and_true] at e
  obtain ⟨⟨rfl, rfl⟩, -, rfl⟩ := e
  rw [hc k (by rw [strV_length]; exact hk), Sl.sAt_get hk]; simp [strV]
theorem cnt_put (L : List ByteArray) (m n : Int) (t : ByteArray) : ((putL L m t).length : Int) + putN L m n = (L.length : Int) + n + 1 := by
  unfold putL putN; split
  · omega
  · rw [List.length_append, List.length_singleton]; omega
theorem cnt_tk {L : List ByteArray} {i : Int} (h : hasB L i = true) : ((tkL L i).length : Int) + 1 = L.length := by
  obtain ⟨k, rfl, hk⟩ := hasB_nat h
  unfold tkL; rw [if_pos h, Int.toNat_natCast, List.length_eraseIdx, if_pos hk]; omega
theorem cnt_dr (L : List ByteArray) (i n : Int) : ((tkL L i).length : Int) + drN L i n = (L.length : Int) + n := by
  cases h : hasB L i with
  | true => have := cnt_tk h; unfold drN; rw [if_pos h]; omega
  | false => unfold drN tkL; rw [if_neg (by rw [h]; exact Bool.false_ne_true), if_neg (by rw [h]; exact Bool.false_ne_true)]
set_option maxHeartbeats 64000000 in
theorem walk_netSomewhere (w : World) (m : Int) (wm : (Lit.int .i64 m).wf = true) (va : Value) (acs : List Ac) (ha : AsAt w va acs) : Calls Try.prog 4 #[.int .i64 m, va] w fun e w' => e = .returned (.bool true) ∧ Below w.heap.size w w' := by
  have HAS := hidp ha
  obtain ⟨aa, ca, hva⟩ := AsAt.form ha
  have H := hidp (Mm.M.nil w)
  obtain ⟨la, hla⟩ : ∃ x, acs.length = x := ⟨_, rfl⟩
  rw [hla] at hva
  have HLA := hidp hla
  subst hva
  clear ha hla wm
  by_cases hm : 1 ≤ m ∧ m ≤ 1024
  · obtain ⟨h1, h2⟩ := hm
    have hm2 := hidp h2
    have cnw := hidp (fun W => new_yes W m h1 h2)
    by_cases hl : la ≤ 100
    · have e0 : decide ((la : Int) > 100) = false := by simp; omega
      have e0' : decide ((100 : Int) < (la : Int)) = false := by simp; omega
      have e0n : decide (100 < la) = false := by simp; omega
      go_enter Try.func4, Try.ntmps4
      have tk0 := hidp trivial
      go_wp2_with (first | (clear tk0; (go_at_call 7; refine (lives29_any _).mono ?_; rintro e _ ⟨rfl, hb⟩; replace H := hidp (H.out.call hb); clear hb); (try simp only [Act.put, setIfInBounds_toArray, set_cons_zero, set_cons_succ]); have tk1 := hidp trivial) | (clear tk1; (go_at_call 8; refine (cnw.out _).mono ?_; rintro e _ ⟨b, rfl, hn1, hbb, hb⟩; have hb0 := hidp (Nat.le_trans H.out.le hbb); have HNT := hidp (NetAt.base hn1 H.out.le); replace H := hidp (H.out.call hb); clear hn1 hbb hb cnw); (try simp only [Act.put, setIfInBounds_toArray, set_cons_zero, set_cons_succ]); have tk2 := hidp trivial))
      try clear tk2
      have HB0 := H
      have HN0 := HNT
      go_loopw [7, 8, 40] (fun t7 t8 t40 wr => ∃ (i al tk : Nat) (v : Value) (L : List ByteArray) (n : Int), t40 = .int .i64 (i : Int) ∧ t7 = .int .i64 (al : Int) ∧ t8 = .int .i64 (tk : Int) ∧ i ≤ la ∧ (L.length : Int) + ((tk : Nat) : Int) + n = ((al : Nat) : Int) ∧ al ≤ i ∧ tk ≤ i ∧ Hid (NetAt wr b w.heap.size v L m n) ∧ Hid (Good L m n i) ∧ Mm.M w.heap.size w wr []) (fun _ _ t40 _ => la - (intOf t40).toNat)
      case atStart => exact ⟨0, 0, 0, .slice none 0 0, [], 0, rfl, rfl, rfl, by omega, by simp, by omega, by omega, HN0, hidp ⟨by simp; omega, by omega, by omega, fun k => by unfold Sl.sAt; simp; decide⟩, HB0.out⟩
      case round =>
        obtain ⟨i, al, tk, v, L, n, rfl, rfl, rfl, hi, HEQ, hal, htk, HNT, HGD, hM⟩ := hrel
        clear HN0 HB0
        have H := hidp hM
        clear hM
        by_cases hlt : i < la
        · have e1 : decide ((i : Int) < (la : Int)) = true := by simp; omega
          have cal := hidp (fun W (hn : NetAt W b w.heap.size v L m n) => all_any W b _ v L m n hn (by have := HGD.out.room; have := hm2.out; omega) HGD.out.sz)
          obtain ⟨g, off, ca', hva, hga, hra⟩ := AsAt.get HAS.out (by rw [HLA.out]; omega)
          rw [HLA.out] at hva
          simp only [Value.slice.injEq] at hva
          obtain ⟨rfl, -, rfl⟩ := hva
          have hra2 := hra i (by rw [HLA.out]; exact hlt)
          have htx0 := HAS.out.2 _ (List.getElem_mem (show i < acs.length from by rw [HLA.out]; exact hlt))
          obtain ⟨⟨kd, ni, tx⟩, hac⟩ : ∃ x, acs[i]'(by rw [HLA.out]; exact hlt) = x := ⟨_, rfl⟩
          rw [hac] at hra2 htx0
          have htx : tx.size ≤ 140737488351232 := htx0
          have HRA := hidp (show w.rangeAt g (off + 3 * i) [.int .i64 kd, .int .i64 ni, .string tx] from hra2)
          clear hra hra2 htx0 hac
          by_cases k0 : kd = 0
          · subst k0
            have hg := HGD.out
            have cn := hidp (fun W (hn : NetAt W b w.heap.size v L m n) (hB : w.heap.size ≤ W.heap.size) => put_any W b _ v L m n hn hB (by have := hg.room; have := hm2.out; omega) ⟨hg.n0, by have := hg.ni; omega⟩ tx htx)
            have HG2 := HGD.out.put htx
            have hcnt := cnt_put L m n tx
            obtain ⟨L2, hL2⟩ : ∃ x, putL L m tx = x := ⟨_, rfl⟩
            rw [hL2] at cn HG2 hcnt
            obtain ⟨E, hE⟩ : ∃ x, putE L m = x := ⟨_, rfl⟩
            rw [hE] at cn
            clear hE
            obtain ⟨n2, hn2⟩ : ∃ x, putN L m n = x := ⟨_, rfl⟩
            rw [hn2] at cn HG2 hcnt
            clear hn2
            have HEQ := show (L2.length : Int) + ((tk : Nat) : Int) + n2 = ((al + 1 : Nat) : Int) from by omega
            have HGD := hidp HG2
            clear HG2 hL2 hg hcnt
            have hq1 := HGD.out.room
            have hq2 := HGD.out.n0
            have hq3 := HGD.out.ni
            have hw1 := show IntKind.i64.wrap ((L2.length : Int) + (tk : Int)) = (L2.length : Int) + (tk : Int) from by rw [IntKind.wrap_i64]; omega
            have hw2 := show IntKind.i64.wrap ((L2.length : Int) + (tk : Int) + n2) = ((al : Int) + 1) from by rw [IntKind.wrap_i64]; omega
            have hw3 := show IntKind.i64.wrap ((al : Int) + 1) = (al : Int) + 1 from by rw [IntKind.wrap_i64]; omega
            have hw4 := show IntKind.i64.wrap ((tk : Int) + 1) = (tk : Int) + 1 from by rw [IntKind.wrap_i64]; omega
            have hd1 : decide ((L2.length : Int) > m) = false := by simp; omega
            have hd2 : decide (m < (L2.length : Int)) = false := by simp; omega
            clear hq1 hq2 hq3
            have tk0 := hidp trivial
            go_wp2_with (first | (clear tk0; (refine Rw.wpL_idxR tyA rfl (.tmp 38) (.tmp 40) rfl g off la ca i rfl rfl hlt ?_); (try simp only [Act.put, setIfInBounds_toArray, set_cons_zero, set_cons_succ]); have tk1 := hidp trivial) | (clear tk1; (refine Rw.wpL_atR tyA rfl (.tmp 42) rfl g (off + 3 * i) [.int .i64 0, .int .i64 ni, .string tx] rfl rfl (rangeAt_below HRA.out H.out.below hga) ?_); (try simp only [Act.put, setIfInBounds_toArray, set_cons_zero, set_cons_succ]); have tk2 := hidp trivial) | (clear tk2; (refine Mm.new rtA H (some 10) rfl rfl rfl ?_; clear H; intro b10 _ H nw; have hb := nw.below; replace HNT := hidp (NetAt.to HNT.out hb); clear hb nw); (try simp only [Act.put, setIfInBounds_toArray, set_cons_zero, set_cons_succ]); have tk3 := hidp trivial) | (clear tk3; (refine Mm.put0 rtA H rfl (.tmp 10) (.tmp 43) [.int .i64 0, .int .i64 ni, .string tx] rfl rfl rfl rfl (by simp [Value.oneCell']) rfl ?_; intro _ H2 st; replace HNT := hidp (NetAt.stp HNT.out st H.out.at0 (by decide) (by decide)); clear st H; have H := H2; clear H2); (try simp only [Act.put, setIfInBounds_toArray, set_cons_zero, set_cons_succ]); have tk4 := hidp trivial) | (clear tk4; (go_at_call 21; refine (cal.out _ HNT.out).mono ?_; rintro e _ ⟨v9, rfl, ho9, hb⟩; have HAP1 := hidp (ap_new ho9 HNT.out (Nat.le_refl _)); obtain ⟨a9, k9, hvf⟩ := Sl.own_form ho9; rw [strV_length] at hvf; subst hvf; have HV1 := hidp (Vs.VsAt.own ho9); replace HNT := hidp (HNT.out.to hb); replace H := hidp (H.out.call hb); clear hb ho9 cal); (try simp only [Act.put, setIfInBounds_toArray, set_cons_zero, set_cons_succ]); have tk5 := hidp trivial) | (clear tk5; (refine Mm.ld0 naI H rfl (.tmp 46) 0 _ rfl rfl rfl ?_); (try simp only [Act.put, setIfInBounds_toArray, set_cons_zero, set_cons_succ]); have tk6 := hidp trivial) | (clear tk6; (refine Mm.ld0 naS H rfl (.tmp 51) 2 _ rfl rfl rfl ?_); (try simp only [Act.put, setIfInBounds_toArray, set_cons_zero, set_cons_succ]); have tk7 := hidp trivial) | (clear tk7; (go_at_call 11; refine (cn.out _ HNT.out H.out.le).mono ?_; rintro e _ ⟨rfl, v1, hn1, hg1, hr1⟩; replace HV1 := hidp (VsAt.g2 HV1.out hg1 HNT.out HAP1.out); replace H := hidp (M_g2 H.out hg1 HNT.out hb0.out (List.forall_mem_cons.2 ⟨⟨(show 34 ≠ 80 from by decide), (show 34 ≠ 9 from by decide)⟩, (fun x h => by cases h)⟩)); replace HNT := hidp hn1; clear hn1 hg1 hr1 HAP1 cn); (try simp only [Act.put, setIfInBounds_toArray, set_cons_zero, set_cons_succ]); have tk8 := hidp trivial) | (clear tk8; (go_at_call 18; refine (len_any _ b _ _ _ m _ HNT.out).mono ?_; rintro e _ ⟨rfl, rfl⟩); (try simp only [Act.put, setIfInBounds_toArray, set_cons_zero, set_cons_succ]); have tk9 := hidp trivial) | (clear tk9; (go_at_call 19; refine (lost_any _ b _ _ _ m _ HNT.out).mono ?_; rintro e _ ⟨rfl, rfl⟩); (try simp only [Act.put, setIfInBounds_toArray, set_cons_zero, set_cons_succ]); have tk10 := hidp trivial) | (clear tk10; (go_at_call 18; refine (len_any _ b _ _ _ m _ HNT.out).mono ?_; rintro e _ ⟨rfl, rfl⟩); (try simp only [Act.put, setIfInBounds_toArray, set_cons_zero, set_cons_succ]); have tk11 := hidp trivial))
            try clear tk11
            exact ⟨⟨i + 1, (al + 1), tk, v1, L2, n2, by go_num, by go_num, by go_num, by omega, HEQ, by omega, by omega, HNT, HGD, H.out.tail⟩, by simp [intOf]; omega⟩
          · by_cases k1 : kd = 1
            · subst k1
              cases hh : hasB L ni with
              | true =>
                have hg := HGD.out
                have cn := hidp (fun W (hn : NetAt W b w.heap.size v L m n) (hB : w.heap.size ≤ W.heap.size) => take_any W b _ v L m n hn (by have := hg.room; have := hm2.out; omega) ni)
                have HG2 := HGD.out.take ni
                have hcnt := cnt_tk hh
                have hEE := show tkE L ni = 0 from if_pos hh
                obtain ⟨k, rfl, hk⟩ := hasB_nat hh
                have hLp : 0 < L.length := by omega
                obtain ⟨X, hX⟩ : ∃ x, Sl.sAt L k = x := ⟨_, rfl⟩
                have hSS := show tkS L (k : Int) = X from by unfold tkS; rw [if_pos hh, Int.toNat_natCast, hX]
                rw [hSS] at cn
                have HX := hidp hX
                have hk1 : decide ((k : Int) < 0) = false := by simp
                have hk2 : decide ((k : Int) ≥ (L.length : Int)) = false := by simp; omega
                have hk3 : decide ((L.length : Int) ≤ (k : Int)) = false := by simp; omega
                have hk4 : decide (L.length ≤ k) = false := by simp; omega
                clear hSS hX
                obtain ⟨L2, hL2⟩ : ∃ x, tkL L (k : Int) = x := ⟨_, rfl⟩
                rw [hL2] at cn HG2 hcnt
                rw [hEE] at cn
                have HEQ := show (L2.length : Int) + ((tk + 1 : Nat) : Int) + n = ((al : Nat) : Int) from by omega
                have HGD := hidp HG2
                clear HG2 hL2 hg hcnt
                clear hh
                have hq1 := HGD.out.room
                have hq2 := HGD.out.n0
                have hq3 := HGD.out.ni
                have hw1 := show IntKind.i64.wrap ((L2.length : Int) + ((tk : Int) + 1)) = (L2.length : Int) + ((tk : Int) + 1) from by rw [IntKind.wrap_i64]; omega
                have hw2 := show IntKind.i64.wrap ((L2.length : Int) + ((tk : Int) + 1) + n) = (al : Int) from by rw [IntKind.wrap_i64]; omega
                have hw3 := show IntKind.i64.wrap ((al : Int) + 1) = (al : Int) + 1 from by rw [IntKind.wrap_i64]; omega
                have hw4 := show IntKind.i64.wrap ((tk : Int) + 1) = (tk : Int) + 1 from by rw [IntKind.wrap_i64]; omega
                have hd1 : decide ((L2.length : Int) > m) = false := by simp; omega
                have hd2 : decide (m < (L2.length : Int)) = false := by simp; omega
                clear hq1 hq2 hq3
                have tk0 := hidp trivial
                go_wp2_with (first | (clear tk0; (refine Rw.wpL_idxR tyA rfl (.tmp 38) (.tmp 40) rfl g off la ca i rfl rfl hlt ?_); (try simp only [Act.put, setIfInBounds_toArray, set_cons_zero, set_cons_succ]); have tk1 := hidp trivial) | (clear tk1; (refine Rw.wpL_atR tyA rfl (.tmp 42) rfl g (off + 3 * i) [.int .i64 1, .int .i64 (k : Int), .string tx] rfl rfl (rangeAt_below HRA.out H.out.below hga) ?_); (try simp only [Act.put, setIfInBounds_toArray, set_cons_zero, set_cons_succ]); have tk2 := hidp trivial) | (clear tk2; (refine Mm.new rtA H (some 10) rfl rfl rfl ?_; clear H; intro b10 _ H nw; have hb := nw.below; replace HNT := hidp (NetAt.to HNT.out hb); clear hb nw); (try simp only [Act.put, setIfInBounds_toArray, set_cons_zero, set_cons_succ]); have tk3 := hidp trivial) | (clear tk3; (refine Mm.put0 rtA H rfl (.tmp 10) (.tmp 43) [.int .i64 1, .int .i64 (k : Int), .string tx] rfl rfl rfl rfl (by simp [Value.oneCell']) rfl ?_; intro _ H2 st; replace HNT := hidp (NetAt.stp HNT.out st H.out.at0 (by decide) (by decide)); clear st H; have H := H2; clear H2); (try simp only [Act.put, setIfInBounds_toArray, set_cons_zero, set_cons_succ]); have tk4 := hidp trivial) | (clear tk4; (go_at_call 21; refine (cal.out _ HNT.out).mono ?_; rintro e _ ⟨v9, rfl, ho9, hb⟩; have HAP1 := hidp (ap_new ho9 HNT.out (Nat.le_refl _)); obtain ⟨g9, o9, k9, hvf, -, -, -⟩ := Vs.VsAt.get (Vs.VsAt.own ho9) (by rw [strV_length]; omega); rw [strV_length] at hvf; subst hvf; have HV1 := hidp (Vs.VsAt.own ho9); replace HNT := hidp (HNT.out.to hb); replace H := hidp (H.out.call hb); clear hb ho9 cal); (try simp only [Act.put, setIfInBounds_toArray, set_cons_zero, set_cons_succ]); have tk5 := hidp trivial) | (clear tk5; (refine Mm.ld0 naI H rfl (.tmp 46) 0 _ rfl rfl rfl ?_); (try simp only [Act.put, setIfInBounds_toArray, set_cons_zero, set_cons_succ]); have tk6 := hidp trivial) | (clear tk6; (refine Mm.ld0 naI H rfl (.tmp 60) 1 _ rfl rfl rfl ?_); (try simp only [Act.put, setIfInBounds_toArray, set_cons_zero, set_cons_succ]); have tk7 := hidp trivial) | (clear tk7; (go_at_call 13; refine (cn.out _ HNT.out H.out.le).mono ?_; rintro e _ ⟨rfl, v1, hn1, hg1, hr1⟩; replace HV1 := hidp (VsAt.g2 HV1.out hg1 HNT.out HAP1.out); replace H := hidp (M_g2 H.out hg1 HNT.out hb0.out (List.forall_mem_cons.2 ⟨⟨(show 34 ≠ 80 from by decide), (show 34 ≠ 9 from by decide)⟩, (fun x h => by cases h)⟩)); replace HNT := hidp hn1; clear hn1 hg1 hr1 HAP1 cn); (try simp only [Act.put, setIfInBounds_toArray, set_cons_zero, set_cons_succ]); have tk8 := hidp trivial) | (clear tk8; (refine Mm.ld0 naI H rfl (.tmp 69) 1 _ rfl rfl rfl ?_); (try simp only [Act.put, setIfInBounds_toArray, set_cons_zero, set_cons_succ]); have tk9 := hidp trivial) | (clear tk9; (refine Mm.ld0 naI H rfl (.tmp 73) 1 _ rfl rfl rfl ?_); (try simp only [Act.put, setIfInBounds_toArray, set_cons_zero, set_cons_succ]); have tk10 := hidp trivial) | (clear tk10; (refine Mm.ld0 naI H rfl (.tmp 81) 1 _ rfl rfl rfl ?_); (try simp only [Act.put, setIfInBounds_toArray, set_cons_zero, set_cons_succ]); have tk11 := hidp trivial) | (clear tk11; (refine Sl.wpL_idx1 Sl.tyS (by kernel_rfl) rfl (.tmp 80) (.tmp 82) rfl g9 o9 L.length k9 k rfl rfl hk ?_); (try simp only [Act.put, setIfInBounds_toArray, set_cons_zero, set_cons_succ]); have tk12 := hidp trivial) | (clear tk12; (refine Mm.ldc naS rfl (.tmp 83) ⟨g9, o9 + k, none⟩ (.string X) rfl rfl (by rw [← HX.out]; exact vs_cell HV1.out k hk) ?_); (try simp only [Act.put, setIfInBounds_toArray, set_cons_zero, set_cons_succ]); have tk13 := hidp trivial) | (clear tk13; (go_at_call 18; refine (len_any _ b _ _ _ m _ HNT.out).mono ?_; rintro e _ ⟨rfl, rfl⟩); (try simp only [Act.put, setIfInBounds_toArray, set_cons_zero, set_cons_succ]); have tk14 := hidp trivial) | (clear tk14; (go_at_call 19; refine (lost_any _ b _ _ _ m _ HNT.out).mono ?_; rintro e _ ⟨rfl, rfl⟩); (try simp only [Act.put, setIfInBounds_toArray, set_cons_zero, set_cons_succ]); have tk15 := hidp trivial) | (clear tk15; (go_at_call 18; refine (len_any _ b _ _ _ m _ HNT.out).mono ?_; rintro e _ ⟨rfl, rfl⟩); (try simp only [Act.put, setIfInBounds_toArray, set_cons_zero, set_cons_succ]); have tk16 := hidp trivial))
                try clear tk16
                exact ⟨⟨i + 1, al, (tk + 1), v1, L2, n, by go_num, by go_num, by go_num, by omega, HEQ, by omega, by omega, HNT, HGD, H.out.tail⟩, by simp [intOf]; omega⟩
              | false =>
                have hg := HGD.out
                have cn := hidp (fun W (hn : NetAt W b w.heap.size v L m n) (hB : w.heap.size ≤ W.heap.size) => take_any W b _ v L m n hn (by have := hg.room; have := hm2.out; omega) ni)
                have HG2 := HGD.out.take ni
                have hcnt := show (tkL L ni).length = L.length from by unfold tkL; rw [if_neg (by rw [hh]; exact Bool.false_ne_true)]
                have hEE := show tkE L ni = 3 from if_neg (by rw [hh]; exact Bool.false_ne_true)
                have hSS := show tkS L ni = ⟨#[]⟩ from by unfold tkS; rw [if_neg (by rw [hh]; exact Bool.false_ne_true)]
                rw [hSS] at cn
                clear hSS
                obtain ⟨L2, hL2⟩ : ∃ x, tkL L ni = x := ⟨_, rfl⟩
                rw [hL2] at cn HG2 hcnt
                rw [hEE] at cn
                have HEQ := show (L2.length : Int) + ((tk : Nat) : Int) + n = ((al : Nat) : Int) from by omega
                have HGD := hidp HG2
                clear HG2 hL2 hg hcnt
                clear hh
                have hq1 := HGD.out.room
                have hq2 := HGD.out.n0
                have hq3 := HGD.out.ni
                have hw1 := show IntKind.i64.wrap ((L2.length : Int) + (tk : Int)) = (L2.length : Int) + (tk : Int) from by rw [IntKind.wrap_i64]; omega
                have hw2 := show IntKind.i64.wrap ((L2.length : Int) + (tk : Int) + n) = (al : Int) from by rw [IntKind.wrap_i64]; omega
                have hw3 := show IntKind.i64.wrap ((al : Int) + 1) = (al : Int) + 1 from by rw [IntKind.wrap_i64]; omega
                have hw4 := show IntKind.i64.wrap ((tk : Int) + 1) = (tk : Int) + 1 from by rw [IntKind.wrap_i64]; omega
                have hd1 : decide ((L2.length : Int) > m) = false := by simp; omega
                have hd2 : decide (m < (L2.length : Int)) = false := by simp; omega
                clear hq1 hq2 hq3
                have tk0 := hidp trivial
                go_wp2_with (first | (clear tk0; (refine Rw.wpL_idxR tyA rfl (.tmp 38) (.tmp 40) rfl g off la ca i rfl rfl hlt ?_); (try simp only [Act.put, setIfInBounds_toArray, set_cons_zero, set_cons_succ]); have tk1 := hidp trivial) | (clear tk1; (refine Rw.wpL_atR tyA rfl (.tmp 42) rfl g (off + 3 * i) [.int .i64 1, .int .i64 ni, .string tx] rfl rfl (rangeAt_below HRA.out H.out.below hga) ?_); (try simp only [Act.put, setIfInBounds_toArray, set_cons_zero, set_cons_succ]); have tk2 := hidp trivial) | (clear tk2; (refine Mm.new rtA H (some 10) rfl rfl rfl ?_; clear H; intro b10 _ H nw; have hb := nw.below; replace HNT := hidp (NetAt.to HNT.out hb); clear hb nw); (try simp only [Act.put, setIfInBounds_toArray, set_cons_zero, set_cons_succ]); have tk3 := hidp trivial) | (clear tk3; (refine Mm.put0 rtA H rfl (.tmp 10) (.tmp 43) [.int .i64 1, .int .i64 ni, .string tx] rfl rfl rfl rfl (by simp [Value.oneCell']) rfl ?_; intro _ H2 st; replace HNT := hidp (NetAt.stp HNT.out st H.out.at0 (by decide) (by decide)); clear st H; have H := H2; clear H2); (try simp only [Act.put, setIfInBounds_toArray, set_cons_zero, set_cons_succ]); have tk4 := hidp trivial) | (clear tk4; (go_at_call 21; refine (cal.out _ HNT.out).mono ?_; rintro e _ ⟨v9, rfl, ho9, hb⟩; have HAP1 := hidp (ap_new ho9 HNT.out (Nat.le_refl _)); obtain ⟨a9, k9, hvf⟩ := Sl.own_form ho9; rw [strV_length] at hvf; subst hvf; have HV1 := hidp (Vs.VsAt.own ho9); replace HNT := hidp (HNT.out.to hb); replace H := hidp (H.out.call hb); clear hb ho9 cal); (try simp only [Act.put, setIfInBounds_toArray, set_cons_zero, set_cons_succ]); have tk5 := hidp trivial) | (clear tk5; (refine Mm.ld0 naI H rfl (.tmp 46) 0 _ rfl rfl rfl ?_); (try simp only [Act.put, setIfInBounds_toArray, set_cons_zero, set_cons_succ]); have tk6 := hidp trivial) | (clear tk6; (refine Mm.ld0 naI H rfl (.tmp 60) 1 _ rfl rfl rfl ?_); (try simp only [Act.put, setIfInBounds_toArray, set_cons_zero, set_cons_succ]); have tk7 := hidp trivial) | (clear tk7; (go_at_call 13; refine (cn.out _ HNT.out H.out.le).mono ?_; rintro e _ ⟨rfl, v1, hn1, hg1, hr1⟩; replace HV1 := hidp (VsAt.g2 HV1.out hg1 HNT.out HAP1.out); replace H := hidp (M_g2 H.out hg1 HNT.out hb0.out (List.forall_mem_cons.2 ⟨⟨(show 34 ≠ 80 from by decide), (show 34 ≠ 9 from by decide)⟩, (fun x h => by cases h)⟩)); replace HNT := hidp hn1; clear hn1 hg1 hr1 HAP1 cn); (try simp only [Act.put, setIfInBounds_toArray, set_cons_zero, set_cons_succ]); have tk8 := hidp trivial) | (clear tk8; (go_at_call 18; refine (len_any _ b _ _ _ m _ HNT.out).mono ?_; rintro e _ ⟨rfl, rfl⟩); (try simp only [Act.put, setIfInBounds_toArray, set_cons_zero, set_cons_succ]); have tk9 := hidp trivial) | (clear tk9; (go_at_call 19; refine (lost_any _ b _ _ _ m _ HNT.out).mono ?_; rintro e _ ⟨rfl, rfl⟩); (try simp only [Act.put, setIfInBounds_toArray, set_cons_zero, set_cons_succ]); have tk10 := hidp trivial) | (clear tk10; (go_at_call 18; refine (len_any _ b _ _ _ m _ HNT.out).mono ?_; rintro e _ ⟨rfl, rfl⟩); (try simp only [Act.put, setIfInBounds_toArray, set_cons_zero, set_cons_succ]); have tk11 := hidp trivial))
                try clear tk11
                exact ⟨⟨i + 1, al, tk, v1, L2, n, by go_num, by go_num, by go_num, by omega, HEQ, by omega, by omega, HNT, HGD, H.out.tail⟩, by simp [intOf]; omega⟩
            · by_cases k2 : kd = 2
              · subst k2
                have hg := HGD.out
                have cn := hidp (fun W (hn : NetAt W b w.heap.size v L m n) (hB : w.heap.size ≤ W.heap.size) => drop_any W b _ v L m n hn (by have := hg.room; have := hm2.out; omega) ⟨hg.n0, by have := hg.ni; omega⟩ ni)
                have HG2 := HGD.out.drop ni
                have hcnt := cnt_dr L ni n
                obtain ⟨L2, hL2⟩ : ∃ x, tkL L ni = x := ⟨_, rfl⟩
                rw [hL2] at cn HG2 hcnt
                obtain ⟨E, hE⟩ : ∃ x, tkE L ni = x := ⟨_, rfl⟩
                rw [hE] at cn
                clear hE
                obtain ⟨n2, hn2⟩ : ∃ x, drN L ni n = x := ⟨_, rfl⟩
                rw [hn2] at cn HG2 hcnt
                clear hn2
                have HEQ := show (L2.length : Int) + ((tk : Nat) : Int) + n2 = ((al : Nat) : Int) from by omega
                have HGD := hidp HG2
                clear HG2 hL2 hg hcnt
                have hq1 := HGD.out.room
                have hq2 := HGD.out.n0
                have hq3 := HGD.out.ni
                have hw1 := show IntKind.i64.wrap ((L2.length : Int) + (tk : Int)) = (L2.length : Int) + (tk : Int) from by rw [IntKind.wrap_i64]; omega
                have hw2 := show IntKind.i64.wrap ((L2.length : Int) + (tk : Int) + n2) = (al : Int) from by rw [IntKind.wrap_i64]; omega
                have hw3 := show IntKind.i64.wrap ((al : Int) + 1) = (al : Int) + 1 from by rw [IntKind.wrap_i64]; omega
                have hw4 := show IntKind.i64.wrap ((tk : Int) + 1) = (tk : Int) + 1 from by rw [IntKind.wrap_i64]; omega
                have hd1 : decide ((L2.length : Int) > m) = false := by simp; omega
                have hd2 : decide (m < (L2.length : Int)) = false := by simp; omega
                clear hq1 hq2 hq3
                have tk0 := hidp trivial
                go_wp2_with (first | (clear tk0; (refine Rw.wpL_idxR tyA rfl (.tmp 38) (.tmp 40) rfl g off la ca i rfl rfl hlt ?_); (try simp only [Act.put, setIfInBounds_toArray, set_cons_zero, set_cons_succ]); have tk1 := hidp trivial) | (clear tk1; (refine Rw.wpL_atR tyA rfl (.tmp 42) rfl g (off + 3 * i) [.int .i64 2, .int .i64 ni, .string tx] rfl rfl (rangeAt_below HRA.out H.out.below hga) ?_); (try simp only [Act.put, setIfInBounds_toArray, set_cons_zero, set_cons_succ]); have tk2 := hidp trivial) | (clear tk2; (refine Mm.new rtA H (some 10) rfl rfl rfl ?_; clear H; intro b10 _ H nw; have hb := nw.below; replace HNT := hidp (NetAt.to HNT.out hb); clear hb nw); (try simp only [Act.put, setIfInBounds_toArray, set_cons_zero, set_cons_succ]); have tk3 := hidp trivial) | (clear tk3; (refine Mm.put0 rtA H rfl (.tmp 10) (.tmp 43) [.int .i64 2, .int .i64 ni, .string tx] rfl rfl rfl rfl (by simp [Value.oneCell']) rfl ?_; intro _ H2 st; replace HNT := hidp (NetAt.stp HNT.out st H.out.at0 (by decide) (by decide)); clear st H; have H := H2; clear H2); (try simp only [Act.put, setIfInBounds_toArray, set_cons_zero, set_cons_succ]); have tk4 := hidp trivial) | (clear tk4; (go_at_call 21; refine (cal.out _ HNT.out).mono ?_; rintro e _ ⟨v9, rfl, ho9, hb⟩; have HAP1 := hidp (ap_new ho9 HNT.out (Nat.le_refl _)); obtain ⟨a9, k9, hvf⟩ := Sl.own_form ho9; rw [strV_length] at hvf; subst hvf; have HV1 := hidp (Vs.VsAt.own ho9); replace HNT := hidp (HNT.out.to hb); replace H := hidp (H.out.call hb); clear hb ho9 cal); (try simp only [Act.put, setIfInBounds_toArray, set_cons_zero, set_cons_succ]); have tk5 := hidp trivial) | (clear tk5; (refine Mm.ld0 naI H rfl (.tmp 46) 0 _ rfl rfl rfl ?_); (try simp only [Act.put, setIfInBounds_toArray, set_cons_zero, set_cons_succ]); have tk6 := hidp trivial) | (clear tk6; (refine Mm.ld0 naI H rfl (.tmp 91) 1 _ rfl rfl rfl ?_); (try simp only [Act.put, setIfInBounds_toArray, set_cons_zero, set_cons_succ]); have tk7 := hidp trivial) | (clear tk7; (go_at_call 15; refine (cn.out _ HNT.out H.out.le).mono ?_; rintro e _ ⟨rfl, v1, hn1, hg1, hr1⟩; replace HV1 := hidp (VsAt.g2 HV1.out hg1 HNT.out HAP1.out); replace H := hidp (M_g2 H.out hg1 HNT.out hb0.out (List.forall_mem_cons.2 ⟨⟨(show 34 ≠ 80 from by decide), (show 34 ≠ 9 from by decide)⟩, (fun x h => by cases h)⟩)); replace HNT := hidp hn1; clear hn1 hg1 hr1 HAP1 cn); (try simp only [Act.put, setIfInBounds_toArray, set_cons_zero, set_cons_succ]); have tk8 := hidp trivial) | (clear tk8; (go_at_call 18; refine (len_any _ b _ _ _ m _ HNT.out).mono ?_; rintro e _ ⟨rfl, rfl⟩); (try simp only [Act.put, setIfInBounds_toArray, set_cons_zero, set_cons_succ]); have tk9 := hidp trivial) | (clear tk9; (go_at_call 19; refine (lost_any _ b _ _ _ m _ HNT.out).mono ?_; rintro e _ ⟨rfl, rfl⟩); (try simp only [Act.put, setIfInBounds_toArray, set_cons_zero, set_cons_succ]); have tk10 := hidp trivial) | (clear tk10; (go_at_call 18; refine (len_any _ b _ _ _ m _ HNT.out).mono ?_; rintro e _ ⟨rfl, rfl⟩); (try simp only [Act.put, setIfInBounds_toArray, set_cons_zero, set_cons_succ]); have tk11 := hidp trivial))
                try clear tk11
                exact ⟨⟨i + 1, al, tk, v1, L2, n2, by go_num, by go_num, by go_num, by omega, HEQ, by omega, by omega, HNT, HGD, H.out.tail⟩, by simp [intOf]; omega⟩
              · by_cases k3 : kd = 3
                · subst k3
                  cases hh : hasB L ni with
                  | true =>
                    have hg := HGD.out
                    have cn := hidp (fun W (hn : NetAt W b w.heap.size v L m n) (hB : w.heap.size ≤ W.heap.size) => double_any W b _ v L m n hn (by have := hg.room; have := hm2.out; omega) hB ⟨hg.n0, by have := hg.ni; omega⟩ hg.sz ni)
                    have HG2 := HGD.out.dbl ni
                    have hcnt := show ((dbL L m ni).length : Int) + dbN L m n ni = (L.length : Int) + n + 1 from by unfold dbL dbN; rw [if_pos hh, if_pos hh]; exact cnt_put L m n _
                    have hEE := show (dbE L m ni != 3) = true from by unfold dbE; rw [if_pos hh]; unfold putE; split <;> rfl
                    obtain ⟨L2, hL2⟩ : ∃ x, dbL L m ni = x := ⟨_, rfl⟩
                    rw [hL2] at cn HG2 hcnt
                    obtain ⟨E, hE⟩ : ∃ x, dbE L m ni = x := ⟨_, rfl⟩
                    rw [hE] at cn
                    rw [hE] at hEE
                    clear hE
                    obtain ⟨n2, hn2⟩ : ∃ x, dbN L m n ni = x := ⟨_, rfl⟩
                    rw [hn2] at cn HG2 hcnt
                    clear hn2
                    have HEQ := show (L2.length : Int) + ((tk : Nat) : Int) + n2 = ((al + 1 : Nat) : Int) from by omega
                    have HGD := hidp HG2
                    clear HG2 hL2 hg hcnt
                    clear hh
                    have hq1 := HGD.out.room
                    have hq2 := HGD.out.n0
                    have hq3 := HGD.out.ni
                    have hw1 := show IntKind.i64.wrap ((L2.length : Int) + (tk : Int)) = (L2.length : Int) + (tk : Int) from by rw [IntKind.wrap_i64]; omega
                    have hw2 := show IntKind.i64.wrap ((L2.length : Int) + (tk : Int) + n2) = ((al : Int) + 1) from by rw [IntKind.wrap_i64]; omega
                    have hw3 := show IntKind.i64.wrap ((al : Int) + 1) = (al : Int) + 1 from by rw [IntKind.wrap_i64]; omega
                    have hw4 := show IntKind.i64.wrap ((tk : Int) + 1) = (tk : Int) + 1 from by rw [IntKind.wrap_i64]; omega
                    have hd1 : decide ((L2.length : Int) > m) = false := by simp; omega
                    have hd2 : decide (m < (L2.length : Int)) = false := by simp; omega
                    clear hq1 hq2 hq3
                    have tk0 := hidp trivial
                    go_wp2_with (first | (clear tk0; (refine Rw.wpL_idxR tyA rfl (.tmp 38) (.tmp 40) rfl g off la ca i rfl rfl hlt ?_); (try simp only [Act.put, setIfInBounds_toArray, set_cons_zero, set_cons_succ]); have tk1 := hidp trivial) | (clear tk1; (refine Rw.wpL_atR tyA rfl (.tmp 42) rfl g (off + 3 * i) [.int .i64 3, .int .i64 ni, .string tx] rfl rfl (rangeAt_below HRA.out H.out.below hga) ?_); (try simp only [Act.put, setIfInBounds_toArray, set_cons_zero, set_cons_succ]); have tk2 := hidp trivial) | (clear tk2; (refine Mm.new rtA H (some 10) rfl rfl rfl ?_; clear H; intro b10 _ H nw; have hb := nw.below; replace HNT := hidp (NetAt.to HNT.out hb); clear hb nw); (try simp only [Act.put, setIfInBounds_toArray, set_cons_zero, set_cons_succ]); have tk3 := hidp trivial) | (clear tk3; (refine Mm.put0 rtA H rfl (.tmp 10) (.tmp 43) [.int .i64 3, .int .i64 ni, .string tx] rfl rfl rfl rfl (by simp [Value.oneCell']) rfl ?_; intro _ H2 st; replace HNT := hidp (NetAt.stp HNT.out st H.out.at0 (by decide) (by decide)); clear st H; have H := H2; clear H2); (try simp only [Act.put, setIfInBounds_toArray, set_cons_zero, set_cons_succ]); have tk4 := hidp trivial) | (clear tk4; (go_at_call 21; refine (cal.out _ HNT.out).mono ?_; rintro e _ ⟨v9, rfl, ho9, hb⟩; have HAP1 := hidp (ap_new ho9 HNT.out (Nat.le_refl _)); obtain ⟨a9, k9, hvf⟩ := Sl.own_form ho9; rw [strV_length] at hvf; subst hvf; have HV1 := hidp (Vs.VsAt.own ho9); replace HNT := hidp (HNT.out.to hb); replace H := hidp (H.out.call hb); clear hb ho9 cal); (try simp only [Act.put, setIfInBounds_toArray, set_cons_zero, set_cons_succ]); have tk5 := hidp trivial) | (clear tk5; (refine Mm.ld0 naI H rfl (.tmp 46) 0 _ rfl rfl rfl ?_); (try simp only [Act.put, setIfInBounds_toArray, set_cons_zero, set_cons_succ]); have tk6 := hidp trivial) | (clear tk6; (refine Mm.ld0 naI H rfl (.tmp 97) 1 _ rfl rfl rfl ?_); (try simp only [Act.put, setIfInBounds_toArray, set_cons_zero, set_cons_succ]); have tk7 := hidp trivial) | (clear tk7; (go_at_call 17; refine (cn.out _ HNT.out H.out.le).mono ?_; rintro e _ ⟨rfl, v1, hn1, hg1, hr1⟩; replace HV1 := hidp (VsAt.g2 HV1.out hg1 HNT.out HAP1.out); replace H := hidp (M_g2 H.out hg1 HNT.out hb0.out (List.forall_mem_cons.2 ⟨⟨(show 34 ≠ 80 from by decide), (show 34 ≠ 9 from by decide)⟩, (fun x h => by cases h)⟩)); replace HNT := hidp hn1; clear hn1 hg1 hr1 HAP1 cn); (try simp only [Act.put, setIfInBounds_toArray, set_cons_zero, set_cons_succ]); have tk8 := hidp trivial) | (clear tk8; (go_at_call 18; refine (len_any _ b _ _ _ m _ HNT.out).mono ?_; rintro e _ ⟨rfl, rfl⟩); (try simp only [Act.put, setIfInBounds_toArray, set_cons_zero, set_cons_succ]); have tk9 := hidp trivial) | (clear tk9; (go_at_call 19; refine (lost_any _ b _ _ _ m _ HNT.out).mono ?_; rintro e _ ⟨rfl, rfl⟩); (try simp only [Act.put, setIfInBounds_toArray, set_cons_zero, set_cons_succ]); have tk10 := hidp trivial) | (clear tk10; (go_at_call 18; refine (len_any _ b _ _ _ m _ HNT.out).mono ?_; rintro e _ ⟨rfl, rfl⟩); (try simp only [Act.put, setIfInBounds_toArray, set_cons_zero, set_cons_succ]); have tk11 := hidp trivial))
                    try clear tk11
                    exact ⟨⟨i + 1, (al + 1), tk, v1, L2, n2, by go_num, by go_num, by go_num, by omega, HEQ, by omega, by omega, HNT, HGD, H.out.tail⟩, by simp [intOf]; omega⟩
                  | false =>
                    have hg := HGD.out
                    have cn := hidp (fun W (hn : NetAt W b w.heap.size v L m n) (hB : w.heap.size ≤ W.heap.size) => double_any W b _ v L m n hn (by have := hg.room; have := hm2.out; omega) hB ⟨hg.n0, by have := hg.ni; omega⟩ hg.sz ni)
                    have HG2 := HGD.out.dbl ni
                    have hcnt := show ((dbL L m ni).length : Int) + dbN L m n ni = (L.length : Int) + n from by unfold dbL dbN; rw [if_neg (by rw [hh]; exact Bool.false_ne_true), if_neg (by rw [hh]; exact Bool.false_ne_true)]
                    have hEE := show dbE L m ni = 3 from if_neg (by rw [hh]; exact Bool.false_ne_true)
                    obtain ⟨L2, hL2⟩ : ∃ x, dbL L m ni = x := ⟨_, rfl⟩
                    rw [hL2] at cn HG2 hcnt
                    rw [hEE] at cn
                    obtain ⟨n2, hn2⟩ : ∃ x, dbN L m n ni = x := ⟨_, rfl⟩
                    rw [hn2] at cn HG2 hcnt
                    clear hn2
                    have HEQ := show (L2.length : Int) + ((tk : Nat) : Int) + n2 = ((al : Nat) : Int) from by omega
                    have HGD := hidp HG2
                    clear HG2 hL2 hg hcnt
                    clear hh
                    have hq1 := HGD.out.room
                    have hq2 := HGD.out.n0
                    have hq3 := HGD.out.ni
                    have hw1 := show IntKind.i64.wrap ((L2.length : Int) + (tk : Int)) = (L2.length : Int) + (tk : Int) from by rw [IntKind.wrap_i64]; omega
                    have hw2 := show IntKind.i64.wrap ((L2.length : Int) + (tk : Int) + n2) = (al : Int) from by rw [IntKind.wrap_i64]; omega
                    have hw3 := show IntKind.i64.wrap ((al : Int) + 1) = (al : Int) + 1 from by rw [IntKind.wrap_i64]; omega
                    have hw4 := show IntKind.i64.wrap ((tk : Int) + 1) = (tk : Int) + 1 from by rw [IntKind.wrap_i64]; omega
                    have hd1 : decide ((L2.length : Int) > m) = false := by simp; omega
                    have hd2 : decide (m < (L2.length : Int)) = false := by simp; omega
                    clear hq1 hq2 hq3
                    have tk0 := hidp trivial
                    go_wp2_with (first | (clear tk0; (refine Rw.wpL_idxR tyA rfl (.tmp 38) (.tmp 40) rfl g off la ca i rfl rfl hlt ?_); (try simp only [Act.put, setIfInBounds_toArray, set_cons_zero, set_cons_succ]); have tk1 := hidp trivial) | (clear tk1; (refine Rw.wpL_atR tyA rfl (.tmp 42) rfl g (off + 3 * i) [.int .i64 3, .int .i64 ni, .string tx] rfl rfl (rangeAt_below HRA.out H.out.below hga) ?_); (try simp only [Act.put, setIfInBounds_toArray, set_cons_zero, set_cons_succ]); have tk2 := hidp trivial) | (clear tk2; (refine Mm.new rtA H (some 10) rfl rfl rfl ?_; clear H; intro b10 _ H nw; have hb := nw.below; replace HNT := hidp (NetAt.to HNT.out hb); clear hb nw); (try simp only [Act.put, setIfInBounds_toArray, set_cons_zero, set_cons_succ]); have tk3 := hidp trivial) | (clear tk3; (refine Mm.put0 rtA H rfl (.tmp 10) (.tmp 43) [.int .i64 3, .int .i64 ni, .string tx] rfl rfl rfl rfl (by simp [Value.oneCell']) rfl ?_; intro _ H2 st; replace HNT := hidp (NetAt.stp HNT.out st H.out.at0 (by decide) (by decide)); clear st H; have H := H2; clear H2); (try simp only [Act.put, setIfInBounds_toArray, set_cons_zero, set_cons_succ]); have tk4 := hidp trivial) | (clear tk4; (go_at_call 21; refine (cal.out _ HNT.out).mono ?_; rintro e _ ⟨v9, rfl, ho9, hb⟩; have HAP1 := hidp (ap_new ho9 HNT.out (Nat.le_refl _)); obtain ⟨a9, k9, hvf⟩ := Sl.own_form ho9; rw [strV_length] at hvf; subst hvf; have HV1 := hidp (Vs.VsAt.own ho9); replace HNT := hidp (HNT.out.to hb); replace H := hidp (H.out.call hb); clear hb ho9 cal); (try simp only [Act.put, setIfInBounds_toArray, set_cons_zero, set_cons_succ]); have tk5 := hidp trivial) | (clear tk5; (refine Mm.ld0 naI H rfl (.tmp 46) 0 _ rfl rfl rfl ?_); (try simp only [Act.put, setIfInBounds_toArray, set_cons_zero, set_cons_succ]); have tk6 := hidp trivial) | (clear tk6; (refine Mm.ld0 naI H rfl (.tmp 97) 1 _ rfl rfl rfl ?_); (try simp only [Act.put, setIfInBounds_toArray, set_cons_zero, set_cons_succ]); have tk7 := hidp trivial) | (clear tk7; (go_at_call 17; refine (cn.out _ HNT.out H.out.le).mono ?_; rintro e _ ⟨rfl, v1, hn1, hg1, hr1⟩; replace HV1 := hidp (VsAt.g2 HV1.out hg1 HNT.out HAP1.out); replace H := hidp (M_g2 H.out hg1 HNT.out hb0.out (List.forall_mem_cons.2 ⟨⟨(show 34 ≠ 80 from by decide), (show 34 ≠ 9 from by decide)⟩, (fun x h => by cases h)⟩)); replace HNT := hidp hn1; clear hn1 hg1 hr1 HAP1 cn); (try simp only [Act.put, setIfInBounds_toArray, set_cons_zero, set_cons_succ]); have tk8 := hidp trivial) | (clear tk8; (go_at_call 18; refine (len_any _ b _ _ _ m _ HNT.out).mono ?_; rintro e _ ⟨rfl, rfl⟩); (try simp only [Act.put, setIfInBounds_toArray, set_cons_zero, set_cons_succ]); have tk9 := hidp trivial) | (clear tk9; (go_at_call 19; refine (lost_any _ b _ _ _ m _ HNT.out).mono ?_; rintro e _ ⟨rfl, rfl⟩); (try simp only [Act.put, setIfInBounds_toArray, set_cons_zero, set_cons_succ]); have tk10 := hidp trivial) | (clear tk10; (go_at_call 18; refine (len_any _ b _ _ _ m _ HNT.out).mono ?_; rintro e _ ⟨rfl, rfl⟩); (try simp only [Act.put, setIfInBounds_toArray, set_cons_zero, set_cons_succ]); have tk11 := hidp trivial))
                    try clear tk11
                    exact ⟨⟨i + 1, al, tk, v1, L2, n2, by go_num, by go_num, by go_num, by omega, HEQ, by omega, by omega, HNT, HGD, H.out.tail⟩, by simp [intOf]; omega⟩
                · have q0 : (kd == 0) = false := by rw [beq_eq_false_iff_ne]; exact k0
                  have q1 : (kd == 1) = false := by rw [beq_eq_false_iff_ne]; exact k1
                  have q2 : (kd == 2) = false := by rw [beq_eq_false_iff_ne]; exact k2
                  have q3 : (kd == 3) = false := by rw [beq_eq_false_iff_ne]; exact k3
                  clear k0 k1 k2 k3
                  have HGD := hidp HGD.out.mono
                  have hq1 := HGD.out.room
                  have hq2 := HGD.out.n0
                  have hq3 := HGD.out.ni
                  have hw1 := show IntKind.i64.wrap ((L.length : Int) + (tk : Int)) = (L.length : Int) + (tk : Int) from by rw [IntKind.wrap_i64]; omega
                  have hw2 := show IntKind.i64.wrap ((L.length : Int) + (tk : Int) + n) = (al : Int) from by rw [IntKind.wrap_i64]; omega
                  have hw3 := show IntKind.i64.wrap ((al : Int) + 1) = (al : Int) + 1 from by rw [IntKind.wrap_i64]; omega
                  have hw4 := show IntKind.i64.wrap ((tk : Int) + 1) = (tk : Int) + 1 from by rw [IntKind.wrap_i64]; omega
                  have hd1 : decide ((L.length : Int) > m) = false := by simp; omega
                  have hd2 : decide (m < (L.length : Int)) = false := by simp; omega
                  clear hq1 hq2 hq3
                  have tk0 := hidp trivial
                  go_wp2_with (first | (clear tk0; (refine Rw.wpL_idxR tyA rfl (.tmp 38) (.tmp 40) rfl g off la ca i rfl rfl hlt ?_); (try simp only [Act.put, setIfInBounds_toArray, set_cons_zero, set_cons_succ]); have tk1 := hidp trivial) | (clear tk1; (refine Rw.wpL_atR tyA rfl (.tmp 42) rfl g (off + 3 * i) [.int .i64 kd, .int .i64 ni, .string tx] rfl rfl (rangeAt_below HRA.out H.out.below hga) ?_); (try simp only [Act.put, setIfInBounds_toArray, set_cons_zero, set_cons_succ]); have tk2 := hidp trivial) | (clear tk2; (refine Mm.new rtA H (some 10) rfl rfl rfl ?_; clear H; intro b10 _ H nw; have hb := nw.below; replace HNT := hidp (NetAt.to HNT.out hb); clear hb nw); (try simp only [Act.put, setIfInBounds_toArray, set_cons_zero, set_cons_succ]); have tk3 := hidp trivial) | (clear tk3; (refine Mm.put0 rtA H rfl (.tmp 10) (.tmp 43) [.int .i64 kd, .int .i64 ni, .string tx] rfl rfl rfl rfl (by simp [Value.oneCell']) rfl ?_; intro _ H2 st; replace HNT := hidp (NetAt.stp HNT.out st H.out.at0 (by decide) (by decide)); clear st H; have H := H2; clear H2); (try simp only [Act.put, setIfInBounds_toArray, set_cons_zero, set_cons_succ]); have tk4 := hidp trivial) | (clear tk4; (go_at_call 21; refine (cal.out _ HNT.out).mono ?_; rintro e _ ⟨v9, rfl, ho9, hb⟩; have HAP1 := hidp (ap_new ho9 HNT.out (Nat.le_refl _)); obtain ⟨a9, k9, hvf⟩ := Sl.own_form ho9; rw [strV_length] at hvf; subst hvf; have HV1 := hidp (Vs.VsAt.own ho9); replace HNT := hidp (HNT.out.to hb); replace H := hidp (H.out.call hb); clear hb ho9 cal); (try simp only [Act.put, setIfInBounds_toArray, set_cons_zero, set_cons_succ]); have tk5 := hidp trivial) | (clear tk5; (refine Mm.ld0 naI H rfl (.tmp 46) 0 _ rfl rfl rfl ?_); (try simp only [Act.put, setIfInBounds_toArray, set_cons_zero, set_cons_succ]); have tk6 := hidp trivial) | (clear tk6; (go_at_call 18; refine (len_any _ b _ _ _ m _ HNT.out).mono ?_; rintro e _ ⟨rfl, rfl⟩); (try simp only [Act.put, setIfInBounds_toArray, set_cons_zero, set_cons_succ]); have tk7 := hidp trivial) | (clear tk7; (go_at_call 19; refine (lost_any _ b _ _ _ m _ HNT.out).mono ?_; rintro e _ ⟨rfl, rfl⟩); (try simp only [Act.put, setIfInBounds_toArray, set_cons_zero, set_cons_succ]); have tk8 := hidp trivial) | (clear tk8; (go_at_call 18; refine (len_any _ b _ _ _ m _ HNT.out).mono ?_; rintro e _ ⟨rfl, rfl⟩); (try simp only [Act.put, setIfInBounds_toArray, set_cons_zero, set_cons_succ]); have tk9 := hidp trivial))
                  try clear tk9
                  exact ⟨⟨i + 1, al, tk, v, L, n, by go_num, by go_num, by go_num, by omega, HEQ, by omega, by omega, HNT, HGD, H.out.tail⟩, by simp [intOf]; omega⟩
        · have e1 : decide ((i : Int) < (la : Int)) = false := by simp; omega
          have e1n : decide (i < la) = false := by simp; omega
          go_wp2_with fail
          go_ret
          exact ⟨rfl, H.out.below⟩
    · have e0 : decide ((la : Int) > 100) = true := by simp; omega
      have e0' : decide ((100 : Int) < (la : Int)) = true := by simp; omega
      have e0n : decide (100 < la) = true := by simp; omega
      go_enter Try.func4, Try.ntmps4
      have tk0 := hidp trivial
      go_wp2_with (first | (clear tk0; (go_at_call 7; refine (lives29_any _).mono ?_; rintro e _ ⟨rfl, hb⟩; replace H := hidp (H.out.call hb); clear hb); (try simp only [Act.put, setIfInBounds_toArray, set_cons_zero, set_cons_succ]); have tk1 := hidp trivial) | (clear tk1; (go_at_call 8; refine (cnw.out _).mono ?_; rintro e _ ⟨b, rfl, hn1, hbb, hb⟩; have hb0 := hidp (Nat.le_trans H.out.le hbb); have HNT := hidp (NetAt.base hn1 H.out.le); replace H := hidp (H.out.call hb); clear hn1 hbb hb cnw); (try simp only [Act.put, setIfInBounds_toArray, set_cons_zero, set_cons_succ]); have tk2 := hidp trivial))
      try clear tk2
      go_ret
      exact ⟨rfl, H.out.below⟩
  · have cnw := hidp (fun W => new_no W m hm)
    go_enter Try.func4, Try.ntmps4
    have tk0 := hidp trivial
    go_wp2_with (first | (clear tk0; (go_at_call 7; refine (lives29_any _).mono ?_; rintro e _ ⟨rfl, hb⟩; replace H := hidp (H.out.call hb); clear hb); (try simp only [Act.put, setIfInBounds_toArray, set_cons_zero, set_cons_succ]); have tk1 := hidp trivial) | (clear tk1; (go_at_call 8; refine (cnw.out _).mono ?_; rintro e _ ⟨rfl, rfl⟩; clear cnw); (try simp only [Act.put, setIfInBounds_toArray, set_cons_zero, set_cons_succ]); have tk2 := hidp trivial))
    try clear tk2
    go_ret
    exact ⟨rfl, H.out.below⟩
end Go.Proofs.Ytokakgjcegmabaa.Nt
