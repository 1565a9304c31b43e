/-
  Joined: WiC.
-/
import Derived.Test.YtfenjincbhkodaaGreatDoorVL
import Derived.Deep.Cut
namespace Go.Proofs.YtfenjincbhkodaaGreatDoor.Wi
set_option maxRecDepth 100000
set_option linter.unusedVariables false
set_option linter.unusedSimpArgs false
open Go.RowKit
open List (getElem_toArray getElem_cons_zero getElem_cons_succ setIfInBounds_toArray set_cons_zero set_cons_succ)
open En (naS naI rtH u8_one hsV hsE hsV_len ohash_any s_bld wpL_slc num4_in)
open Ho (inE inV in_zero in_not al_sz allInt_any)

def A3 : ByteArray := ⟨#[172, 2]⟩
def m5 : Ms := ⟨5, 1, 2, A3⟩
def m1' : Ms := ⟨1, 1, 2, A3⟩
def h7 : List UInt8 := 7 :: List.replicate 31 0
theorem a3_eq : akB 300 = A3 ∧ akBE 300 = 0 ∧ akE A3 = 0 ∧ (akV A3 : Int) = 300 := by decide +kernel
theorem m5_ok : mE m5 = 0 := by decide +kernel
theorem m1_no : mE m1' = 6 := by decide +kernel
theorem z_no : mE zMs = 2 := by decide +kernel
theorem al_more {ss : List ByteArray} (h : okL ss) (c : UInt8) : al (mkS (encL ss) ++ ⟨#[c]⟩) = ([], 6) := by
  have hg : gl (mkS (encL ss) ++ ⟨#[c]⟩) = (ss, (mkS (encL ss)).size, 0) := by
    rw [show mkS (encL ss) ++ ⟨#[c]⟩ = mkS (encL ss ++ [c]) from by rw [← mkS_append]; rfl, gl_back _ h, mkS_size]
  unfold al
  simp only [hg]
  rw [if_neg (by simp), if_pos (by rw [ByteArray.size_append]; show _ < _ + 1; omega)]
theorem m5_more : mP (mB m5 ++ ⟨#[33]⟩) = none := by
  unfold mP; rw [mB_yes m5_ok, al_more (mL_ok m5_ok)]; rfl
theorem m5_al : al (mB m5) = ([⟨#[97, 115, 107]⟩, mkS (encN 1), mkS (encN 2), A3], 0) := by
  rw [mB_yes m5_ok, al_back _ (mL_ok m5_ok)]; rfl
theorem mB_size {m : Ms} : (mB m).size ≤ 65536 := by
  by_cases h : mE m = 0
  · have h0 := mL_ok h
    rw [mB_yes h, mkS_size]; unfold encL
    have e3 : ∀ s ∈ mL m, (encT s).length ≤ 8202 := by
      intro s hs
      have := h0.2 s hs
      unfold encT
      rw [List.length_append, size_toList]
      have := encN_len64 s.size (by omega); omega
    unfold encTs
    simp only [mL, List.flatMap_cons, List.flatMap_nil, List.length_append, List.length_nil]
    have q0 := e3 (mwd m.k) (by simp [mL]); have q1 := e3 (mkS (encN m.f.toNat)) (by simp [mL]); have q2 := e3 (mkS (encN m.t.toNat)) (by simp [mL]); have q3 := e3 m.b (by simp [mL])
    have e2 := encN_len64 ([mwd m.k, mkS (encN m.f.toNat), mkS (encN m.t.toNat), m.b].length) (by simp)
    omega
  · rw [mB_no h]; exact Nat.zero_le _
theorem rjB_size {h : List UInt8} (hh : h.length = 32) (c : Int) : (rjB h c).size ≤ 65536 := by
  by_cases hc : 1 ≤ c ∧ c ≤ 15
  · have h0 := rjL_ok hh (c := c.toNat) (by omega)
    rw [show rjB h c = mkS (encL [mkS h, mkS (encN c.toNat)]) from if_pos hc, mkS_size]; unfold encL
    have e3 : ∀ s ∈ [mkS h, mkS (encN c.toNat)], (encT s).length ≤ 8202 := by
      intro s hs
      have := h0.2 s hs
      unfold encT
      rw [List.length_append, size_toList]
      have := encN_len64 s.size (by omega); omega
    unfold encTs
    simp only [List.flatMap_cons, List.flatMap_nil, List.length_append, List.length_nil]
    have q0 := e3 (mkS h) (by simp); have q1 := e3 (mkS (encN c.toNat)) (by simp)
    have e2 := encN_len64 ([mkS h, mkS (encN c.toNat)].length) (by simp)
    omega
  · rw [show rjB h c = ByteArray.empty from if_neg hc]; exact Nat.zero_le _

set_option maxHeartbeats 16000000 in
theorem lives25_any (w : World) (hI : IT w) (hW : WT w) (hT : Ho.HT w) (hMT : MT w) : Calls Tryz.prog 5 #[] w fun e w' => e = .returned (.bool true) ∧ Below w.heap.size w w' := by
  have ca := hidp (fun W => ask_any W 300)
  rw [a3_eq.1, a3_eq.2.1] at ca
  have hm5 : m5.ok := ⟨by decide, by decide⟩
  have cb := hidp (show ∀ W, IT W → WT W → Ho.HT W → MT W → Calls Tryz.prog 6 #[.agg #[.int .u8 5, .int .i64 1, .int .i64 2, .string A3]] W (fun e w' => e = .returned (.tuple #[.string (mB m5), .int .i64 (mE m5)]) ∧ Below W.heap.size W w') from fun W h1 h2 h3 h4 => mbytes_any W m5 hm5 h1 h2 h3 h4)
  have hbs := @mB_size m5
  have cl := hidp (fun W => all_any W (mB m5) (by omega))
  have cp := hidp (fun W h1 h2 h3 h4 => mparse_any W (mB m5) (by omega) h1 h2 h3 h4)
  have cq := hidp (fun W h1 h2 h3 h4 => mparse_any W (mB m5 ++ ⟨#[33]⟩) (by rw [ByteArray.size_append]; show _ + 1 ≤ _; omega) h1 h2 h3 h4)
  have hh : h7.length = 32 := rfl
  have cr := hidp (fun W => reject_any W h7 hh 12)
  obtain ⟨j1, j2, j3⟩ := rj_back hh (c := 12) (by omega)
  have hrs := rjB_size hh 12
  have cd := hidp (fun W => rejected_any W (rjB h7 12) (by omega))
  rw [j1, j2, j3] at cd
  have ck := hidp (fun W => asked_any W A3 (by decide))
  rw [a3_eq.2.2.1, a3_eq.2.2.2] at ck
  have cr2 := hidp (fun W => reject_any W z32 rfl 0)
  have cc := hidp (show ∀ W, IT W → WT W → Ho.HT W → Calls Tryz.prog 10 #[.agg #[.int .u8 1, .int .i64 1, .int .i64 2, .string A3]] W (fun e w' => e = .returned (.int .i64 (mE m1')) ∧ Below W.heap.size W w') from fun W h1 h2 h3 => mcheck_any W m1' ⟨by decide, by decide⟩ h1 h2 h3)
  have cz := hidp (show ∀ W, IT W → WT W → Ho.HT W → Calls Tryz.prog 10 #[.agg #[.int .u8 0, .int .i64 0, .int .i64 0, .string ⟨#[]⟩]] W (fun e w' => e = .returned (.int .i64 (mE zMs)) ∧ Below W.heap.size W w') from fun W h1 h2 h3 => mcheck_any W zMs ⟨by decide, by decide⟩ h1 h2 h3)
  rw [m5_ok] at cb
  rw [m1_no] at cc
  rw [z_no] at cz
  rw [show mpV (mB m5) = m5 from by unfold mpV; rw [mP_back m5_ok]; rfl, show mpE (mB m5) = 0 from by unfold mpE; rw [mP_back m5_ok]; rfl] at cp
  rw [show mpV (mB m5 ++ ⟨#[33]⟩) = zMs from by unfold mpV; rw [m5_more]; rfl, show mpE (mB m5 ++ ⟨#[33]⟩) = 6 from by unfold mpE; rw [m5_more]; rfl] at cq
  rw [m5_al] at cl
  rw [show rjBE 12 = 0 from rfl] at cr
  rw [show rjBE 0 = 1 from rfl] at cr2
  obtain ⟨T, hT9⟩ : ∃ T, mB m5 = T := ⟨_, rfl⟩
  obtain ⟨J, hJ⟩ : ∃ J, rjB h7 12 = J := ⟨_, rfl⟩
  obtain ⟨J0, hJ0⟩ : ∃ J, rjB z32 0 = J := ⟨_, rfl⟩
  rw [hT9] at cb cl cp cq hbs
  rw [hJ] at cr cd
  rw [hJ0] at cr2
  have qh := fun W => eql_hash W h7 h7 rfl rfl
  simp only [decide_true] at qh
  have hcat : ¬ 9223372036854775807 < T.size + 1 := by omega
  have HI := hidp hI; have HW := hidp hW; have HT0 := hidp hT; have HM := hidp hMT; clear hI hW hT hMT
  have H := hidp (Mm.M.nil w)
  clear hm5 hh j1 j2 j3 hrs hT9 hJ hJ0
  go_enter Tryz.func5, Tryz.ntmps5
  have tk0 := hidp trivial
  go_upto_region 12 with (first | (clear tk0; (go_at_call 14; refine (ca.out _).mono ?_; rintro e _ ⟨rfl, hb⟩; replace H := hidp (H.out.call hb); clear ca; clear hb); (try simp only [Act.put, setIfInBounds_toArray, set_cons_zero, set_cons_succ]); have tk1 := hidp trivial) | (clear tk1; (refine Rt.wpL_build rfl 24 _ rfl [.int .u8 5, .int .i64 1, .int .i64 2, .string A3] (by kernel_rfl) ?_); (try simp only [Act.put, setIfInBounds_toArray, set_cons_zero, set_cons_succ]); have tk2 := hidp trivial) | (clear tk2; (refine Mm.new rtM H (some 3) rfl rfl rfl ?_; clear H; intro b3 _ H nw; have hb := nw.below; clear hb nw); (try simp only [Act.put, setIfInBounds_toArray, set_cons_zero, set_cons_succ]); have tk3 := hidp trivial) | (clear tk3; (refine Mm.put0 rtM H rfl (.tmp 3) (.tmp 26) [.int .u8 5, .int .i64 1, .int .i64 2, .string A3] rfl rfl rfl rfl (by simp [Value.oneCell']) rfl ?_; intro _ H2 st; clear st H; have H := H2; clear H2); (try simp only [Act.put, setIfInBounds_toArray, set_cons_zero, set_cons_succ]); have tk4 := hidp trivial) | (clear tk4; (refine Mm.get0 rtM H rfl (.tmp 3) rfl rfl rfl ?_); (try simp only [Act.put, setIfInBounds_toArray, set_cons_zero, set_cons_succ]); have tk5 := hidp trivial) | (clear tk5; (go_at_call 6; refine (cb.out _ (HI.out.below H.out.below (Nat.le_refl _)) (HW.out.below H.out.below (Nat.le_refl _)) (HT0.out.below H.out.below (Nat.le_refl _)) (HM.out.below H.out.below (Nat.le_refl _))).mono ?_; rintro e _ ⟨rfl, hb⟩; replace H := hidp (H.out.call hb); clear cb; clear hb); (try simp only [Act.put, setIfInBounds_toArray, set_cons_zero, set_cons_succ]); have tk6 := hidp trivial) | (clear tk6; (go_at_call 20; refine (cl.out _).mono ?_; rintro e _ ⟨v, rfl, hst, hb⟩; replace H := hidp (H.out.call hb); obtain ⟨g, off, cv, rfl, hg, hcs⟩ := Sl.strs_pos hst (by simp); have HG := hidp (show Two _ g off ⟨#[97, 115, 107]⟩ (mkS (encN 1)) from Two.mk (hcs 0 (by simp)) (hcs 1 (by simp))); clear hst hb cl hcs hg); (try simp only [Act.put, setIfInBounds_toArray, set_cons_zero, set_cons_succ]); have tk7 := hidp trivial) | (clear tk7; (go_at_call 8; refine (cp.out _ (HI.out.below H.out.below (Nat.le_refl _)) (HW.out.below H.out.below (Nat.le_refl _)) (HT0.out.below H.out.below (Nat.le_refl _)) (HM.out.below H.out.below (Nat.le_refl _))).mono ?_; rintro e _ ⟨rfl, hb⟩; replace H := hidp (H.out.call hb); clear cp; replace HG := hidp (Two.to HG.out hb); clear hb); (try simp only [Act.put, setIfInBounds_toArray, set_cons_zero, set_cons_succ]); have tk8 := hidp trivial) | (clear tk8; (refine Mm.new rtM H (some 8) rfl rfl rfl ?_; clear H; intro b8 _ H nw; have hb := nw.below; replace HG := hidp (Two.to HG.out hb); clear hb nw); (try simp only [Act.put, setIfInBounds_toArray, set_cons_zero, set_cons_succ]); have tk9 := hidp trivial) | (clear tk9; (refine Mm.put0 rtM H rfl (.tmp 8) (.tmp 40) [.int .u8 5, .int .i64 1, .int .i64 2, .string A3] rfl rfl rfl rfl (by simp [Value.oneCell']) rfl ?_; intro _ H2 st; replace HG := hidp (Two.stp HG.out st H.out.at0 (by kernel_rfl)); clear st H; have H := H2; clear H2); (try simp only [Act.put, setIfInBounds_toArray, set_cons_zero, set_cons_succ]); have tk10 := hidp trivial) | (clear tk10; (refine Rt.wpL_build rfl 34 _ rfl (u8s h7) (by kernel_rfl) ?_); (try simp only [Act.put, setIfInBounds_toArray, set_cons_zero, set_cons_succ]); have tk11 := hidp trivial) | (clear tk11; (go_at_call 12; refine (cr.out _).mono ?_; rintro e _ ⟨rfl, hb⟩; replace H := hidp (H.out.call hb); clear cr; replace HG := hidp (Two.to HG.out hb); clear hb); (try simp only [Act.put, setIfInBounds_toArray, set_cons_zero, set_cons_succ]); have tk12 := hidp trivial) | (clear tk12; (go_at_call 16; refine (cd.out _).mono ?_; rintro e _ ⟨rfl, hb⟩; replace H := hidp (H.out.call hb); clear cd; replace HG := hidp (Two.to HG.out hb); clear hb); (try simp only [Act.put, setIfInBounds_toArray, set_cons_zero, set_cons_succ]); have tk13 := hidp trivial) | (clear tk13; (refine Mm.new rtH H (some 12) rfl rfl rfl ?_; clear H; intro b12 _ H nw; have hb := nw.below; replace HG := hidp (Two.to HG.out hb); clear hb nw); (try simp only [Act.put, setIfInBounds_toArray, set_cons_zero, set_cons_succ]); have tk14 := hidp trivial) | (clear tk14; (refine Mm.put0 rtH H rfl (.tmp 12) (.tmp 50) (u8s h7) rfl rfl rfl rfl (u8_one h7) rfl ?_; intro _ H2 st; replace HG := hidp (Two.stp HG.out st H.out.at0 (by kernel_rfl)); clear st H; have H := H2; clear H2); (try simp only [Act.put, setIfInBounds_toArray, set_cons_zero, set_cons_succ]); have tk15 := hidp trivial) | (clear tk15; (go_at_call 18; refine (ck.out _).mono ?_; rintro e _ ⟨rfl, hb⟩; replace H := hidp (H.out.call hb); clear ck; replace HG := hidp (Two.to HG.out hb); clear hb); (try simp only [Act.put, setIfInBounds_toArray, set_cons_zero, set_cons_succ]); have tk16 := hidp trivial) | (clear tk16; (go_at_call 8; refine (cq.out _ (HI.out.below H.out.below (Nat.le_refl _)) (HW.out.below H.out.below (Nat.le_refl _)) (HT0.out.below H.out.below (Nat.le_refl _)) (HM.out.below H.out.below (Nat.le_refl _))).mono ?_; rintro e _ ⟨rfl, hb⟩; replace H := hidp (H.out.call hb); clear cq; replace HG := hidp (Two.to HG.out hb); clear hb); (try simp only [Act.put, setIfInBounds_toArray, set_cons_zero, set_cons_succ]); have tk17 := hidp trivial) | (clear tk17; (refine Mm.new rtM H (some 17) rfl rfl rfl ?_; clear H; intro b17 _ H nw; have hb := nw.below; replace HG := hidp (Two.to HG.out hb); clear hb nw); (try simp only [Act.put, setIfInBounds_toArray, set_cons_zero, set_cons_succ]); have tk18 := hidp trivial) | (clear tk18; (refine Mm.put0 rtM H rfl (.tmp 17) (.tmp 62) [.int .u8 0, .int .i64 0, .int .i64 0, .string ⟨#[]⟩] rfl rfl rfl rfl (by decide) rfl ?_; intro _ H2 st; replace HG := hidp (Two.stp HG.out st H.out.at0 (by kernel_rfl)); clear st H; have H := H2; clear H2); (try simp only [Act.put, setIfInBounds_toArray, set_cons_zero, set_cons_succ]); have tk19 := hidp trivial) | (clear tk19; (refine Rt.wpL_build rfl 34 _ rfl (u8s z32) (by kernel_rfl) ?_); (try simp only [Act.put, setIfInBounds_toArray, set_cons_zero, set_cons_succ]); have tk20 := hidp trivial) | (clear tk20; (go_at_call 12; refine (cr2.out _).mono ?_; rintro e _ ⟨rfl, hb⟩; replace H := hidp (H.out.call hb); clear cr2; replace HG := hidp (Two.to HG.out hb); clear hb); (try simp only [Act.put, setIfInBounds_toArray, set_cons_zero, set_cons_succ]); have tk21 := hidp trivial) | (clear tk21; (refine Mm.putF3 H rfl 22 (.tmp 69) (.const (.int .u8 1)) 0 (.int .u8 1) rfl rfl rfl (by kernel_rfl) rfl (of_decide_eq_true rfl) ?_; intro _ H2 st; replace HG := hidp (Two.stp HG.out st H.out.at3 (by kernel_rfl)); clear st H; have H : Hid (Mm.M w.heap.size w _ ([⟨b17, 24, [.int .u8 0, .int .i64 0, .int .i64 0, .string ⟨#[]⟩]⟩, ⟨b12, 34, (u8s h7)⟩, ⟨b8, 24, [.int .u8 5, .int .i64 1, .int .i64 2, .string A3]⟩, ⟨b3, 24, [.int .u8 1, .int .i64 1, .int .i64 2, .string A3]⟩])) := H2; clear H2; have m0 := HG.out.c0); (try simp only [Act.put, setIfInBounds_toArray, set_cons_zero, set_cons_succ]); have tk22 := hidp trivial))
  try clear tk22
  refine wp_region_list ?_
  simp only [List.append_eq, List.cons_append, List.nil_append]
  have tk0 := hidp trivial
  go_wp2_with (first | (clear tk0; (refine Mm.ld2 naK H rfl (.tmp 92) 0 (.int .u8 5) rfl rfl rfl ?_); (try simp only [Act.put, setIfInBounds_toArray, set_cons_zero, set_cons_succ]); have tk1 := hidp trivial) | (clear tk1; (refine Mm.ld2 naI H rfl (.tmp 97) 2 (.int .i64 2) rfl rfl rfl ?_); (try simp only [Act.put, setIfInBounds_toArray, set_cons_zero, set_cons_succ]); have tk2 := hidp trivial) | (clear tk2; (refine Mm.get1 rtH H rfl (.tmp 12) rfl rfl rfl ?_); (try simp only [Act.put, setIfInBounds_toArray, set_cons_zero, set_cons_succ]); have tk3 := hidp trivial) | (clear tk3; (refine Rt.wpL_build rfl 34 _ rfl (u8s h7) (by kernel_rfl) ?_); (try simp only [Act.put, setIfInBounds_toArray, set_cons_zero, set_cons_succ]); have tk4 := hidp trivial) | (clear tk4; (refine Mm.get3 rtM H rfl (.tmp 3) rfl rfl rfl ?_); (try simp only [Act.put, setIfInBounds_toArray, set_cons_zero, set_cons_succ]); have tk5 := hidp trivial) | (clear tk5; (go_at_call 10; refine (cc.out _ (HI.out.below H.out.below (Nat.le_refl _)) (HW.out.below H.out.below (Nat.le_refl _)) (HT0.out.below H.out.below (Nat.le_refl _))).mono ?_; rintro e _ ⟨rfl, hb⟩; replace H := hidp (H.out.call hb); clear cc; replace HG := hidp (Two.to HG.out hb); clear hb); (try simp only [Act.put, setIfInBounds_toArray, set_cons_zero, set_cons_succ]); have tk6 := hidp trivial) | (clear tk6; (refine Rt.wpL_build rfl 24 _ rfl [.int .u8 0, .int .i64 0, .int .i64 0, .string ⟨#[]⟩] (by kernel_rfl) ?_); (try simp only [Act.put, setIfInBounds_toArray, set_cons_zero, set_cons_succ]); have tk7 := hidp trivial) | (clear tk7; (go_at_call 10; refine (cz.out _ (HI.out.below H.out.below (Nat.le_refl _)) (HW.out.below H.out.below (Nat.le_refl _)) (HT0.out.below H.out.below (Nat.le_refl _))).mono ?_; rintro e _ ⟨rfl, hb⟩; replace H := hidp (H.out.call hb); clear cz; replace HG := hidp (Two.to HG.out hb); clear hb); (try simp only [Act.put, setIfInBounds_toArray, set_cons_zero, set_cons_succ]); have tk8 := hidp trivial))
  try clear tk8
  go_ret
  exact ⟨rfl, H.out.below⟩
end Go.Proofs.YtfenjincbhkodaaGreatDoor.Wi
