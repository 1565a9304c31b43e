/-
  Joined: WiC WiE.
-/
import Derived.Test.YtfenjincbhkodaaDoorWL
import Derived.Deep.Cut
namespace Go.Proofs.YtfenjincbhkodaaDoor.Wi
set_option maxRecDepth 100000
set_option linter.unusedVariables false
set_option linter.unusedSimpArgs false
open Go.RowKit
open List (getElem_toArray getElem_cons_zero getElem_cons_succ setIfInBounds_toArray set_cons_zero set_cons_succ)
open En (naS naI rtH u8_one hsV hsE hsV_len ohash_any s_bld wpL_slc num4_in)
open Ho (inE inV in_zero in_not al_sz allInt_any)

def A3 : ByteArray := ⟨#[172, 2]⟩
def m5 : Ms := ⟨5, 1, 2, A3⟩
def m1' : Ms := ⟨1, 1, 2, A3⟩
def h7 : List UInt8 := 7 :: List.replicate 31 0
theorem a3_eq : akB 300 = A3 ∧ akBE 300 = 0 ∧ akE A3 = 0 ∧ (akV A3 : Int) = 300 := by decide +kernel
theorem m5_ok : mE m5 = 0 := by decide +kernel
theorem m1_no : mE m1' = 6 := by decide +kernel
theorem z_no : mE zMs = 2 := by decide +kernel
theorem al_more {ss : List ByteArray} (h : okL ss) (c : UInt8) : al (mkS (encL ss) ++ ⟨#[c]⟩) = ([], 6) := by
  have hg : gl (mkS (encL ss) ++ ⟨#[c]⟩) = (ss, (mkS (encL ss)).size, 0) := by
    rw [show mkS (encL ss) ++ ⟨#[c]⟩ = mkS (encL ss ++ [c]) from by rw [← mkS_append]; rfl, gl_back _ h, mkS_size]
  unfold al
  simp only [hg]
  rw [if_neg (by simp), if_pos (by rw [ByteArray.size_append]; show _ < _ + 1; omega)]
theorem m5_more : mP (mB m5 ++ ⟨#[33]⟩) = none := by
  unfold mP; rw [mB_yes m5_ok, al_more (mL_ok m5_ok)]; rfl
theorem m5_al : al (mB m5) = ([⟨#[97, 115, 107]⟩, mkS (encN 1), mkS (encN 2), A3], 0) := by
  rw [mB_yes m5_ok, al_back _ (mL_ok m5_ok)]; rfl
theorem mB_size {m : Ms} : (mB m).size ≤ 65536 := by
  by_cases h : mE m = 0
  · have h0 := mL_ok h
    rw [mB_yes h, mkS_size]; unfold encL
    have e3 : ∀ s ∈ mL m, (encT s).length ≤ 8202 := by
      intro s hs
      have := h0.2 s hs
      unfold encT
      rw [List.length_append, size_toList]
      have := encN_len64 s.size (by omega); omega
    unfold encTs
    simp only [mL, List.flatMap_cons, List.flatMap_nil, List.length_append, List.length_nil]
    have q0 := e3 (mwd m.k) (by simp [mL]); have q1 := e3 (mkS (encN m.f.toNat)) (by simp [mL]); have q2 := e3 (mkS (encN m.t.toNat)) (by simp [mL]); have q3 := e3 m.b (by simp [mL])
    have e2 := encN_len64 ([mwd m.k, mkS (encN m.f.toNat), mkS (encN m.t.toNat), m.b].length) (by simp)
    omega
  · rw [mB_no h]; exact Nat.zero_le _
theorem rjB_size {h : List UInt8} (hh : h.length = 32) (c : Int) : (rjB h c).size ≤ 65536 := by
  by_cases hc : 1 ≤ c ∧ c ≤ 15
  · have h0 := rjL_ok hh (c := c.toNat) (by omega)
    rw [show rjB h c = mkS (encL [mkS h, mkS (encN c.toNat)]) from if_pos hc, mkS_size]; unfold encL
    have e3 : ∀ s ∈ [mkS h, mkS (encN c.toNat)], (encT s).length ≤ 8202 := by
      intro s hs
      have := h0.2 s hs
      unfold encT
      rw [List.length_append, size_toList]
      have := encN_len64 s.size (by omega); omega
    unfold encTs
    simp only [List.flatMap_cons, List.flatMap_nil, List.length_append, List.length_nil]
    have q0 := e3 (mkS h) (by simp); have q1 := e3 (mkS (encN c.toNat)) (by simp)
    have e2 := encN_len64 ([mkS h, mkS (encN c.toNat)].length) (by simp)
    omega
  · rw [show rjB h c = ByteArray.empty from if_neg hc]; exact Nat.zero_le _

set_option maxHeartbeats 16000000 in
theorem lives25_any (w : World) (hI : IT w) (hW : WT w) (hT : Ho.HT w) (hMT : MT w) : Calls Tryd.prog 17 #[] w fun e w' => e = .returned (.bool true) ∧ Below w.heap.size w w' := by
  have ca := hidp (fun W => ask_any W 300)
  rw [a3_eq.1, a3_eq.2.1] at ca
  have hm5 : m5.ok := ⟨by decide, by decide⟩
  have cb := hidp (show ∀ W, IT W → WT W → Ho.HT W → MT W → Calls Tryd.prog 18 #[.agg #[.int .u8 5, .int .i64 1, .int .i64 2, .string A3]] W (fun e w' => e = .returned (.tuple #[.string (mB m5), .int .i64 (mE m5)]) ∧ Below W.heap.size W w') from fun W h1 h2 h3 h4 => mbytes_any W m5 hm5 h1 h2 h3 h4)
  have hbs := @mB_size m5
  have cl := hidp (fun W => all_any W (mB m5) (by omega))
  have cp := hidp (fun W h1 h2 h3 h4 => mparse_any W (mB m5) (by omega) h1 h2 h3 h4)
  have cq := hidp (fun W h1 h2 h3 h4 => mparse_any W (mB m5 ++ ⟨#[33]⟩) (by rw [ByteArray.size_append]; show _ + 1 ≤ _; omega) h1 h2 h3 h4)
  have hh : h7.length = 32 := rfl
  have cr := hidp (fun W => reject_any W h7 hh 12)
  obtain ⟨j1, j2, j3⟩ := rj_back hh (c := 12) (by omega)
  have hrs := rjB_size hh 12
  have cd := hidp (fun W => rejected_any W (rjB h7 12) (by omega))
  rw [j1, j2, j3] at cd
  have ck := hidp (fun W => asked_any W A3 (by decide))
  rw [a3_eq.2.2.1, a3_eq.2.2.2] at ck
  have cr2 := hidp (fun W => reject_any W z32 rfl 0)
  have cc := hidp (show ∀ W, IT W → WT W → Ho.HT W → Calls Tryd.prog 20 #[.agg #[.int .u8 1, .int .i64 1, .int .i64 2, .string A3]] W (fun e w' => e = .returned (.int .i64 (mE m1')) ∧ Below W.heap.size W w') from fun W h1 h2 h3 => mcheck_any W m1' ⟨by decide, by decide⟩ h1 h2 h3)
  have cz := hidp (show ∀ W, IT W → WT W → Ho.HT W → Calls Tryd.prog 20 #[.agg #[.int .u8 0, .int .i64 0, .int .i64 0, .string ⟨#[]⟩]] W (fun e w' => e = .returned (.int .i64 (mE zMs)) ∧ Below W.heap.size W w') from fun W h1 h2 h3 => mcheck_any W zMs ⟨by decide, by decide⟩ h1 h2 h3)
  rw [m5_ok] at cb
  rw [m1_no] at cc
  rw [z_no] at cz
  rw [show mpV (mB m5) = m5 from by unfold mpV; rw [mP_back m5_ok]; rfl, show mpE (mB m5) = 0 from by unfold mpE; rw [mP_back m5_ok]; rfl] at cp
  rw [show mpV (mB m5 ++ ⟨#[33]⟩) = zMs from by unfold mpV; rw [m5_more]; rfl, show mpE (mB m5 ++ ⟨#[33]⟩) = 6 from by unfold mpE; rw [m5_more]; rfl] at cq
  rw [m5_al] at cl
  rw [show rjBE 12 = 0 from rfl] at cr
  rw [show rjBE 0 = 1 from rfl] at cr2
  obtain ⟨T, hT9⟩ : ∃ T, mB m5 = T := ⟨_, rfl⟩
  obtain ⟨J, hJ⟩ : ∃ J, rjB h7 12 = J := ⟨_, rfl⟩
  obtain ⟨J0, hJ0⟩ : ∃ J, rjB z32 0 = J := ⟨_, rfl⟩
  rw [hT9] at cb cl cp cq hbs
  rw [hJ] at cr cd
  rw [hJ0] at cr2
  have qh := fun W => eql_hash W h7 h7 rfl rfl
  simp only [decide_true] at qh
  have hcat : ¬ 9223372036854775807 < T.size + 1 := by omega
  have HI := hidp hI; have HW := hidp hW; have HT0 := hidp hT; have HM := hidp hMT; clear hI hW hT hMT
  have H := hidp (Mm.M.nil w)
  clear hm5 hh j1 j2 j3 hrs hT9 hJ hJ0
  go_enter Tryd.func17, Tryd.ntmps17
  have tk0 := hidp trivial
  go_upto_region 12 with (first | (clear tk0; (go_at_call 23; refine (ca.out _).mono ?_; rintro e _ ⟨rfl, hb⟩; replace H := hidp (H.out.call hb); clear ca; clear hb); (try simp only [Act.put, setIfInBounds_toArray, set_cons_zero, set_cons_succ]); have tk1 := hidp trivial) | (clear tk1; (refine Rt.wpL_build rfl 42 _ rfl [.int .u8 5, .int .i64 1, .int .i64 2, .string A3] (by kernel_rfl) ?_); (try simp only [Act.put, setIfInBounds_toArray, set_cons_zero, set_cons_succ]); have tk2 := hidp trivial) | (clear tk2; (refine Mm.new rtM H (some 3) rfl rfl rfl ?_; clear H; intro b3 _ H nw; have hb := nw.below; clear hb nw); (try simp only [Act.put, setIfInBounds_toArray, set_cons_zero, set_cons_succ]); have tk3 := hidp trivial) | (clear tk3; (refine Mm.put0 rtM H rfl (.tmp 3) (.tmp 26) [.int .u8 5, .int .i64 1, .int .i64 2, .string A3] rfl rfl rfl rfl (by simp [Value.oneCell']) rfl ?_; intro _ H2 st; clear st H; have H := H2; clear H2); (try simp only [Act.put, setIfInBounds_toArray, set_cons_zero, set_cons_succ]); have tk4 := hidp trivial) | (clear tk4; (refine Mm.get0 rtM H rfl (.tmp 3) rfl rfl rfl ?_); (try simp only [Act.put, setIfInBounds_toArray, set_cons_zero, set_cons_succ]); have tk5 := hidp trivial) | (clear tk5; (go_at_call 18; refine (cb.out _ (HI.out.below H.out.below (Nat.le_refl _)) (HW.out.below H.out.below (Nat.le_refl _)) (HT0.out.below H.out.below (Nat.le_refl _)) (HM.out.below H.out.below (Nat.le_refl _))).mono ?_; rintro e _ ⟨rfl, hb⟩; replace H := hidp (H.out.call hb); clear cb; clear hb); (try simp only [Act.put, setIfInBounds_toArray, set_cons_zero, set_cons_succ]); have tk6 := hidp trivial) | (clear tk6; (go_at_call 44; refine (cl.out _).mono ?_; rintro e _ ⟨v, rfl, hst, hb⟩; replace H := hidp (H.out.call hb); obtain ⟨g, off, cv, rfl, hg, hcs⟩ := Sl.strs_pos hst (by simp); have HG := hidp (show Two _ g off ⟨#[97, 115, 107]⟩ (mkS (encN 1)) from Two.mk (hcs 0 (by simp)) (hcs 1 (by simp))); clear hst hb cl hcs hg); (try simp only [Act.put, setIfInBounds_toArray, set_cons_zero, set_cons_succ]); have tk7 := hidp trivial) | (clear tk7; (go_at_call 19; refine (cp.out _ (HI.out.below H.out.below (Nat.le_refl _)) (HW.out.below H.out.below (Nat.le_refl _)) (HT0.out.below H.out.below (Nat.le_refl _)) (HM.out.below H.out.below (Nat.le_refl _))).mono ?_; rintro e _ ⟨rfl, hb⟩; replace H := hidp (H.out.call hb); clear cp; replace HG := hidp (Two.to HG.out hb); clear hb); (try simp only [Act.put, setIfInBounds_toArray, set_cons_zero, set_cons_succ]); have tk8 := hidp trivial) | (clear tk8; (refine Mm.new rtM H (some 8) rfl rfl rfl ?_; clear H; intro b8 _ H nw; have hb := nw.below; replace HG := hidp (Two.to HG.out hb); clear hb nw); (try simp only [Act.put, setIfInBounds_toArray, set_cons_zero, set_cons_succ]); have tk9 := hidp trivial) | (clear tk9; (refine Mm.put0 rtM H rfl (.tmp 8) (.tmp 40) [.int .u8 5, .int .i64 1, .int .i64 2, .string A3] rfl rfl rfl rfl (by simp [Value.oneCell']) rfl ?_; intro _ H2 st; replace HG := hidp (Two.stp HG.out st H.out.at0 (by kernel_rfl)); clear st H; have H := H2; clear H2); (try simp only [Act.put, setIfInBounds_toArray, set_cons_zero, set_cons_succ]); have tk10 := hidp trivial) | (clear tk10; (refine Rt.wpL_build rfl 24 _ rfl (u8s h7) (by kernel_rfl) ?_); (try simp only [Act.put, setIfInBounds_toArray, set_cons_zero, set_cons_succ]); have tk11 := hidp trivial) | (clear tk11; (go_at_call 21; refine (cr.out _).mono ?_; rintro e _ ⟨rfl, hb⟩; replace H := hidp (H.out.call hb); clear cr; replace HG := hidp (Two.to HG.out hb); clear hb); (try simp only [Act.put, setIfInBounds_toArray, set_cons_zero, set_cons_succ]); have tk12 := hidp trivial) | (clear tk12; (go_at_call 22; refine (cd.out _).mono ?_; rintro e _ ⟨rfl, hb⟩; replace H := hidp (H.out.call hb); clear cd; replace HG := hidp (Two.to HG.out hb); clear hb); (try simp only [Act.put, setIfInBounds_toArray, set_cons_zero, set_cons_succ]); have tk13 := hidp trivial) | (clear tk13; (refine Mm.new rtH H (some 12) rfl rfl rfl ?_; clear H; intro b12 _ H nw; have hb := nw.below; replace HG := hidp (Two.to HG.out hb); clear hb nw); (try simp only [Act.put, setIfInBounds_toArray, set_cons_zero, set_cons_succ]); have tk14 := hidp trivial) | (clear tk14; (refine Mm.put0 rtH H rfl (.tmp 12) (.tmp 50) (u8s h7) rfl rfl rfl rfl (u8_one h7) rfl ?_; intro _ H2 st; replace HG := hidp (Two.stp HG.out st H.out.at0 (by kernel_rfl)); clear st H; have H := H2; clear H2); (try simp only [Act.put, setIfInBounds_toArray, set_cons_zero, set_cons_succ]); have tk15 := hidp trivial) | (clear tk15; (go_at_call 24; refine (ck.out _).mono ?_; rintro e _ ⟨rfl, hb⟩; replace H := hidp (H.out.call hb); clear ck; replace HG := hidp (Two.to HG.out hb); clear hb); (try simp only [Act.put, setIfInBounds_toArray, set_cons_zero, set_cons_succ]); have tk16 := hidp trivial) | (clear tk16; (go_at_call 19; refine (cq.out _ (HI.out.below H.out.below (Nat.le_refl _)) (HW.out.below H.out.below (Nat.le_refl _)) (HT0.out.below H.out.below (Nat.le_refl _)) (HM.out.below H.out.below (Nat.le_refl _))).mono ?_; rintro e _ ⟨rfl, hb⟩; replace H := hidp (H.out.call hb); clear cq; replace HG := hidp (Two.to HG.out hb); clear hb); (try simp only [Act.put, setIfInBounds_toArray, set_cons_zero, set_cons_succ]); have tk17 := hidp trivial) | (clear tk17; (refine Mm.new rtM H (some 17) rfl rfl rfl ?_; clear H; intro b17 _ H nw; have hb := nw.below; replace HG := hidp (Two.to HG.out hb); clear hb nw); (try simp only [Act.put, setIfInBounds_toArray, set_cons_zero, set_cons_succ]); have tk18 := hidp trivial) | (clear tk18; (refine Mm.put0 rtM H rfl (.tmp 17) (.tmp 62) [.int .u8 0, .int .i64 0, .int .i64 0, .string ⟨#[]⟩] rfl rfl rfl rfl (by decide) rfl ?_; intro _ H2 st; replace HG := hidp (Two.stp HG.out st H.out.at0 (by kernel_rfl)); clear st H; have H := H2; clear H2); (try simp only [Act.put, setIfInBounds_toArray, set_cons_zero, set_cons_succ]); have tk19 := hidp trivial) | (clear tk19; (refine Rt.wpL_build rfl 24 _ rfl (u8s z32) (by kernel_rfl) ?_); (try simp only [Act.put, setIfInBounds_toArray, set_cons_zero, set_cons_succ]); have tk20 := hidp trivial) | (clear tk20; (go_at_call 21; refine (cr2.out _).mono ?_; rintro e _ ⟨rfl, hb⟩; replace H := hidp (H.out.call hb); clear cr2; replace HG := hidp (Two.to HG.out hb); clear hb); (try simp only [Act.put, setIfInBounds_toArray, set_cons_zero, set_cons_succ]); have tk21 := hidp trivial) | (clear tk21; (refine Mm.putF3 H rfl 40 (.tmp 69) (.const (.int .u8 1)) 0 (.int .u8 1) rfl rfl rfl (by kernel_rfl) rfl (of_decide_eq_true rfl) ?_; intro _ H2 st; replace HG := hidp (Two.stp HG.out st H.out.at3 (by kernel_rfl)); clear st H; have H : Hid (Mm.M w.heap.size w _ ([⟨b17, 42, [.int .u8 0, .int .i64 0, .int .i64 0, .string ⟨#[]⟩]⟩, ⟨b12, 24, (u8s h7)⟩, ⟨b8, 42, [.int .u8 5, .int .i64 1, .int .i64 2, .string A3]⟩, ⟨b3, 42, [.int .u8 1, .int .i64 1, .int .i64 2, .string A3]⟩])) := H2; clear H2; have m0 := HG.out.c0); (try simp only [Act.put, setIfInBounds_toArray, set_cons_zero, set_cons_succ]); have tk22 := hidp trivial))
  try clear tk22
  refine wp_region_list ?_
  simp only [List.append_eq, List.cons_append, List.nil_append]
  have tk0 := hidp trivial
  go_wp2_with (first | (clear tk0; (refine Mm.ld2 naK H rfl (.tmp 92) 0 (.int .u8 5) rfl rfl rfl ?_); (try simp only [Act.put, setIfInBounds_toArray, set_cons_zero, set_cons_succ]); have tk1 := hidp trivial) | (clear tk1; (refine Mm.ld2 naI H rfl (.tmp 97) 2 (.int .i64 2) rfl rfl rfl ?_); (try simp only [Act.put, setIfInBounds_toArray, set_cons_zero, set_cons_succ]); have tk2 := hidp trivial) | (clear tk2; (refine Mm.get1 rtH H rfl (.tmp 12) rfl rfl rfl ?_); (try simp only [Act.put, setIfInBounds_toArray, set_cons_zero, set_cons_succ]); have tk3 := hidp trivial) | (clear tk3; (refine Rt.wpL_build rfl 24 _ rfl (u8s h7) (by kernel_rfl) ?_); (try simp only [Act.put, setIfInBounds_toArray, set_cons_zero, set_cons_succ]); have tk4 := hidp trivial) | (clear tk4; (refine Mm.get3 rtM H rfl (.tmp 3) rfl rfl rfl ?_); (try simp only [Act.put, setIfInBounds_toArray, set_cons_zero, set_cons_succ]); have tk5 := hidp trivial) | (clear tk5; (go_at_call 20; refine (cc.out _ (HI.out.below H.out.below (Nat.le_refl _)) (HW.out.below H.out.below (Nat.le_refl _)) (HT0.out.below H.out.below (Nat.le_refl _))).mono ?_; rintro e _ ⟨rfl, hb⟩; replace H := hidp (H.out.call hb); clear cc; replace HG := hidp (Two.to HG.out hb); clear hb); (try simp only [Act.put, setIfInBounds_toArray, set_cons_zero, set_cons_succ]); have tk6 := hidp trivial) | (clear tk6; (refine Rt.wpL_build rfl 42 _ rfl [.int .u8 0, .int .i64 0, .int .i64 0, .string ⟨#[]⟩] (by kernel_rfl) ?_); (try simp only [Act.put, setIfInBounds_toArray, set_cons_zero, set_cons_succ]); have tk7 := hidp trivial) | (clear tk7; (go_at_call 20; refine (cz.out _ (HI.out.below H.out.below (Nat.le_refl _)) (HW.out.below H.out.below (Nat.le_refl _)) (HT0.out.below H.out.below (Nat.le_refl _))).mono ?_; rintro e _ ⟨rfl, hb⟩; replace H := hidp (H.out.call hb); clear cz; replace HG := hidp (Two.to HG.out hb); clear hb); (try simp only [Act.put, setIfInBounds_toArray, set_cons_zero, set_cons_succ]); have tk8 := hidp trivial))
  try clear tk8
  go_ret
  exact ⟨rfl, H.out.below⟩
end Go.Proofs.YtfenjincbhkodaaDoor.Wi

namespace Go.Proofs.YtfenjincbhkodaaDoor.Wi
set_option maxRecDepth 100000
set_option linter.unusedVariables false
set_option linter.unusedSimpArgs false
open Go.RowKit
open List (getElem_toArray getElem_cons_zero getElem_cons_succ setIfInBounds_toArray set_cons_zero set_cons_succ)
open En (naS naI rtH u8_one hsV hsE hsV_len ohash_any s_bld wpL_slc num4_in)
open Ho (inE inV in_zero in_not al_sz allInt_any)

theorem rjH_len (s : ByteArray) : (rjH s).length = 32 := by
  unfold rjH
  split
  · rename_i g
    unfold rjE at g
    split at g
    · rename_i h
      have h2 := h.2.2.1
      unfold hsE at h2
      split at h2
      · rw [size_toList]; assumption
      · cases h2
    · cases g
  · rfl
theorem atS {P : Program} {ops : Array Oper} {Q : Exit → Act → World → Prop} {rest : List Oper} {o : Oper} {a : Act} {w : World} (d : Nat) (hd : o.dst = some d) (h : wpList P ops Q (o :: rest) a w) : wpList P ops Q (o :: rest) a w := h
theorem eqin_msg (W : World) (k : Nat) (f t : Int) (b : ByteArray) :
    (Op.equalIn 10000 42 (.agg #[.int .u8 (k : Int), .int .i64 f, .int .i64 t, .string b]) (.agg #[.int .u8 (k : Int), .int .i64 f, .int .i64 t, .string b])).run Tryd.prog W = .ok true W := by
  have ht : Tryd.prog.underlying 42 = some (.struct (Tryd.prog.fieldsOf 42)) := by kernel_rfl
  have hp : Tryd.prog.stoodInHeld 42 = false := by kernel_rfl
  have hu := Tryd.underlying42
  have hus := Tryd.underlying9
  have hui := Tryd.underlying3
  have huk := Tryd.underlying40
  rw [run_equalIn_agg W 9999 _ _ _ ht hp]
  unfold Program.fieldsOf
  rw [hu]
  go_simp
theorem neq_msg (W : World) (k : Nat) (f t : Int) (b : ByteArray) :
    (binOp .neq 42 (.agg #[.int .u8 (k : Int), .int .i64 f, .int .i64 t, .string b]) (.agg #[.int .u8 (k : Int), .int .i64 f, .int .i64 t, .string b])).run Tryd.prog W = .ok (.bool false) W := by
  rw [run_neq_struct, eqin_msg]; rfl

set_option maxHeartbeats 32000000 in
theorem walk_wireBack (w : World) (m : Ms) (hm : m.ok) (s : ByteArray) (hs : s.size ≤ 140737488351232) (sum : List UInt8) (hsum : sum.length = 32) (cd : Int) (hcw : (Lit.int .i64 cd).wf = true) (ix : Int) (hiw : (Lit.int .i64 ix).wf = true) (hAll : IT w ∧ WT w ∧ Ho.HT w ∧ MT w) :
    Calls Tryd.prog 5 #[.agg m.row.toArray, .string s, .agg (u8s sum).toArray, .int .i64 cd, .int .i64 ix] w fun e w' => e = .returned (.bool true) ∧ Below w.heap.size w w' := by
  obtain ⟨hI, hW, hT, hMT⟩ := hAll
  have cv := hidp (fun W h1 h2 h3 h4 => lives25_any W h1 h2 h3 h4)
  have HI := hidp hI; have HW := hidp hW; have HT0 := hidp hT; have HM := hidp hMT; clear hI hW hT hMT
  have H := hidp (Mm.M.nil w)
  have HS := hidp (show (u8s sum).length = 32 from by rw [u8s_length]; exact hsum)
  -- the rejection
  have c6 := hidp (fun W => reject_any W sum hsum cd)
  have hcs := rjB_size hsum cd
  have c7 := hidp (fun W => rejected_any W (rjB sum cd) (by omega))
  have HQ := hidp (show (u8s (rjH (rjB sum cd))).length = 32 from by rw [u8s_length]; exact rjH_len _)
  have hC1 : (1 ≤ cd ∧ cd ≤ 15) → rjBE cd = 0 ∧ rjH (rjB sum cd) = sum ∧ ((rjC (rjB sum cd) : Nat) : Int) = cd ∧ rjE (rjB sum cd) = 0 := fun h => by
    obtain ⟨j1, j2, j3⟩ := rj_back hsum h
    exact ⟨if_pos h, j2, j3, j1⟩
  have hC2 : ¬ (1 ≤ cd ∧ cd ≤ 15) → (rjBE cd != 0) = true := fun h => by rw [show rjBE cd = 1 from if_neg h]; rfl
  have c8 := hidp (fun W => ask_any W ix)
  have has : (akB ix).size ≤ 16 := by
    by_cases h : 0 ≤ ix ∧ ix ≤ 4096
    · rw [show akB ix = mkS (encN ix.toNat) from if_pos h, mkS_size]; have := encN_len64 ix.toNat (by omega); omega
    · rw [show akB ix = ByteArray.empty from if_neg h]; exact Nat.zero_le _
  have c9 := hidp (fun W => asked_any W (akB ix) (by omega))
  have hD1 : (0 ≤ ix ∧ ix ≤ 4096) → akBE ix = 0 ∧ ((akV (akB ix) : Nat) : Int) = ix ∧ akE (akB ix) = 0 := fun h => ⟨if_pos h, (ak_back h).2, (ak_back h).1⟩
  have hD2 : ¬ (0 ≤ ix ∧ ix ≤ 4096) → (akBE ix != 0) = true := fun h => by rw [show akBE ix = 1 from if_neg h]; rfl
  have qh := fun W => eql_hash W sum sum hsum hsum
  simp only [decide_true] at qh
  obtain ⟨Q, hQ⟩ : ∃ x, rjH (rjB sum cd) = x := ⟨_, rfl⟩
  obtain ⟨E, hE⟩ : ∃ x : Int, ((rjC (rjB sum cd) : Nat) : Int) = x := ⟨_, rfl⟩
  obtain ⟨E6, hE6⟩ : ∃ x, rjE (rjB sum cd) = x := ⟨_, rfl⟩
  obtain ⟨E5, hE5⟩ : ∃ x, rjBE cd = x := ⟨_, rfl⟩
  obtain ⟨C, hCC⟩ : ∃ x, rjB sum cd = x := ⟨_, rfl⟩
  obtain ⟨NN, hNN⟩ : ∃ x : Int, ((akV (akB ix) : Nat) : Int) = x := ⟨_, rfl⟩
  obtain ⟨E8, hE8⟩ : ∃ x, akE (akB ix) = x := ⟨_, rfl⟩
  obtain ⟨E7, hE7⟩ : ∃ x, akBE ix = x := ⟨_, rfl⟩
  obtain ⟨D, hDD⟩ : ∃ x, akB ix = x := ⟨_, rfl⟩
  rw [hQ, hE, hE6] at c7
  rw [hQ] at HQ
  rw [hQ, hE, hE6, hE5] at hC1
  rw [hE5] at hC2
  rw [hCC] at c7
  rw [hCC, hE5] at c6
  rw [hNN, hE8] at c9
  rw [hNN, hE8, hE7] at hD1
  rw [hE7] at hD2
  rw [hDD] at c9
  rw [hDD, hE7] at c8
  have HC1 := hidp hC1; have HC2 := hidp hC2; have HD1 := hidp hD1; have HD2 := hidp hD2
  clear hC1 hC2 hD1 hD2 hQ hE hE6 hE5 hCC hNN hE8 hE7 hDD hcs has hsum hcw hiw
  -- the message
  have c1 := hidp (fun W h1 h2 h3 h4 => mbytes_any W m hm h1 h2 h3 h4)
  have hbs := @mB_size m
  have c2 := hidp (fun W h1 h2 h3 h4 => mparse_any W (mB m) (by omega) h1 h2 h3 h4)
  have c3 := hidp (fun W h1 h2 h3 h4 => mparse_any W s (by omega) h1 h2 h3 h4)
  have hback := mP_back (m := m)
  have hpv : mpV (mB m) = (mP (mB m)).getD zMs := rfl
  have hpe : mpE (mB m) = if (mP (mB m)).isSome = true then 0 else 6 := rfl
  obtain ⟨A, hA⟩ : ∃ A, mB m = A := ⟨_, rfl⟩
  rw [hA] at c1 c2 hback hpv hpe
  clear hbs
  have H4 : ∃ ky fy ty byy, mpV s = ⟨ky, fy, ty, byy⟩ ∧ (⟨ky, fy, ty, byy⟩ : Ms).ok ∧ (mpE s = 0 → mE ⟨ky, fy, ty, byy⟩ = 0 ∧ mB ⟨ky, fy, ty, byy⟩ = s) := by
    obtain ⟨⟨ky, fy, ty, byy⟩, hy⟩ : ∃ y, mpV s = y := ⟨_, rfl⟩
    refine ⟨ky, fy, ty, byy, hy, ?_, ?_⟩
    · cases hp : mP s with
      | none =>
        rw [show mpV s = zMs from by unfold mpV; rw [hp]; rfl] at hy
        rw [← hy]; exact ⟨by decide, by decide⟩
      | some y =>
        rw [show mpV s = y from by unfold mpV; rw [hp]; rfl] at hy
        obtain ⟨h1, -⟩ := mP_some hp
        obtain ⟨-, -, h3, h4⟩ := mE_parts h1
        rw [← hy]
        exact ⟨by omega, by omega⟩
    · intro h
      cases hp : mP s with
      | none => unfold mpE at h; rw [hp] at h; cases h
      | some y =>
        rw [show mpV s = y from by unfold mpV; rw [hp]; rfl] at hy
        rw [← hy]; exact mP_some hp
  obtain ⟨ky, fy, ty, byy, hyv, hyok, hyb⟩ := H4
  have c4 := hidp (fun W h1 h2 h3 h4 => mbytes_any W ⟨ky, fy, ty, byy⟩ hyok h1 h2 h3 h4)
  have c5 := hidp (fun W h1 h2 h3 => mcheck_any W ⟨ky, fy, ty, byy⟩ hyok h1 h2 h3)
  rw [hyv] at c3
  obtain ⟨E3, hE3⟩ : ∃ x, mpE s = x := ⟨_, rfl⟩
  rw [hE3] at c3 hyb
  obtain ⟨B, hB⟩ : ∃ x, mB ⟨ky, fy, ty, byy⟩ = x := ⟨_, rfl⟩
  obtain ⟨E4, hE4⟩ : ∃ x, mE ⟨ky, fy, ty, byy⟩ = x := ⟨_, rfl⟩
  rw [hB, hE4] at c4 hyb
  rw [hE4] at c5
  clear hB hE4 hyok hyv hE3 hs
  obtain ⟨k, f, t, b⟩ := m
  have qm := fun W => neq_msg W k f t b
  change Hid (∀ W, _ → _ → _ → _ → Calls Tryd.prog 18 #[.agg #[.int .u8 (k : Int), .int .i64 f, .int .i64 t, .string b]] W _) at c1
  change Hid (∀ W, _ → _ → _ → _ → Calls Tryd.prog 18 #[.agg #[.int .u8 (ky : Int), .int .i64 fy, .int .i64 ty, .string byy]] W _) at c4
  change Hid (∀ W, _ → _ → _ → Calls Tryd.prog 20 #[.agg #[.int .u8 (ky : Int), .int .i64 fy, .int .i64 ty, .string byy]] W _) at c5
  show Calls Tryd.prog 5 #[.agg #[.int .u8 (k : Int), .int .i64 f, .int .i64 t, .string b], _, _, _, _] w _
  by_cases ha : mE ⟨k, f, t, b⟩ = 0
  · rw [ha] at c1
    rw [hpv, hback ha, hpe, hback ha] at c2
    change Hid (∀ W, _ → _ → _ → _ → Calls Tryd.prog 19 #[.string A] W (fun e w' => e = .returned (.tuple #[.agg #[.int .u8 (k : Int), .int .i64 f, .int .i64 t, .string b], .int .i64 0]) ∧ Below W.heap.size W w')) at c2
    clear hpv hpe hback ha hA hm
    by_cases hb : E3 = 0
    · obtain ⟨rfl, rfl⟩ := hyb hb
      subst hb
      go_enter Tryd.func5, Tryd.ntmps5
      have tk0 := hidp trivial
      go_upto_region 7 with (first | (clear tk0; (refine Mm.box 42 H rfl (.tmp 0) rfl [.int .u8 (k : Int), .int .i64 f, .int .i64 t, .string b] rfl ?_; clear H; intro b5 _ H nw; have hb := nw.below; clear hb nw); (try simp only [Act.put, setIfInBounds_toArray, set_cons_zero, set_cons_succ]); have tk1 := hidp trivial) | (clear tk1; (refine Mm.box 24 H rfl (.tmp 2) rfl (u8s sum) rfl ?_; clear H; intro b7 _ H nw; have hb := nw.below; clear hb nw); (try simp only [Act.put, setIfInBounds_toArray, set_cons_zero, set_cons_succ]); have tk2 := hidp trivial) | (clear tk2; (go_at_call 17; refine (cv.out _ (HI.out.below H.out.below (Nat.le_refl _)) (HW.out.below H.out.below (Nat.le_refl _)) (HT0.out.below H.out.below (Nat.le_refl _)) (HM.out.below H.out.below (Nat.le_refl _))).mono ?_; rintro e _ ⟨rfl, hb⟩; replace H := hidp (H.out.call hb); clear cv; clear hb); (try simp only [Act.put, setIfInBounds_toArray, set_cons_zero, set_cons_succ]); have tk3 := hidp trivial) | (clear tk3; (refine Mm.get1 rtM H rfl (.tmp 5) rfl rfl rfl ?_); (try simp only [Act.put, setIfInBounds_toArray, set_cons_zero, set_cons_succ]); have tk4 := hidp trivial) | (clear tk4; (go_at_call 18; refine (c1.out _ (HI.out.below H.out.below (Nat.le_refl _)) (HW.out.below H.out.below (Nat.le_refl _)) (HT0.out.below H.out.below (Nat.le_refl _)) (HM.out.below H.out.below (Nat.le_refl _))).mono ?_; rintro e _ ⟨rfl, hb⟩; replace H := hidp (H.out.call hb); clear c1; clear hb); (try simp only [Act.put, setIfInBounds_toArray, set_cons_zero, set_cons_succ]); have tk5 := hidp trivial) | (clear tk5; (go_at_call 19; refine (c2.out _ (HI.out.below H.out.below (Nat.le_refl _)) (HW.out.below H.out.below (Nat.le_refl _)) (HT0.out.below H.out.below (Nat.le_refl _)) (HM.out.below H.out.below (Nat.le_refl _))).mono ?_; rintro e _ ⟨rfl, hb⟩; replace H := hidp (H.out.call hb); clear c2; clear hb); (try simp only [Act.put, setIfInBounds_toArray, set_cons_zero, set_cons_succ]); have tk6 := hidp trivial) | (clear tk6; (refine Mm.new rtM H (some 13) rfl rfl rfl ?_; clear H; intro b13 _ H nw; have hb := nw.below; clear hb nw); (try simp only [Act.put, setIfInBounds_toArray, set_cons_zero, set_cons_succ]); have tk7 := hidp trivial) | (clear tk7; (refine Mm.put0 rtM H rfl (.tmp 13) (.tmp 38) [.int .u8 (k : Int), .int .i64 f, .int .i64 t, .string b] rfl rfl rfl rfl (by simp [Value.oneCell']) rfl ?_; intro _ H2 st; clear st H; have H := H2; clear H2); (try simp only [Act.put, setIfInBounds_toArray, set_cons_zero, set_cons_succ]); have tk8 := hidp trivial) | (clear tk8; (go_at_call 19; refine (c3.out _ (HI.out.below H.out.below (Nat.le_refl _)) (HW.out.below H.out.below (Nat.le_refl _)) (HT0.out.below H.out.below (Nat.le_refl _)) (HM.out.below H.out.below (Nat.le_refl _))).mono ?_; rintro e _ ⟨rfl, hb⟩; replace H := hidp (H.out.call hb); clear c3; clear hb); (try simp only [Act.put, setIfInBounds_toArray, set_cons_zero, set_cons_succ]); have tk9 := hidp trivial) | (clear tk9; (refine Mm.new rtM H (some 15) rfl rfl rfl ?_; clear H; intro b15 _ H nw; have hb := nw.below; clear hb nw); (try simp only [Act.put, setIfInBounds_toArray, set_cons_zero, set_cons_succ]); have tk10 := hidp trivial) | (clear tk10; (refine Mm.put0 rtM H rfl (.tmp 15) (.tmp 43) [.int .u8 (ky : Int), .int .i64 fy, .int .i64 ty, .string byy] rfl rfl rfl rfl (by simp [Value.oneCell']) rfl ?_; intro _ H2 st; clear st H; have H := H2; clear H2); (try simp only [Act.put, setIfInBounds_toArray, set_cons_zero, set_cons_succ]); have tk11 := hidp trivial) | (clear tk11; (refine Mm.get0 rtM H rfl (.tmp 15) rfl rfl rfl ?_); (try simp only [Act.put, setIfInBounds_toArray, set_cons_zero, set_cons_succ]); have tk12 := hidp trivial) | (clear tk12; (go_at_call 18; refine (c4.out _ (HI.out.below H.out.below (Nat.le_refl _)) (HW.out.below H.out.below (Nat.le_refl _)) (HT0.out.below H.out.below (Nat.le_refl _)) (HM.out.below H.out.below (Nat.le_refl _))).mono ?_; rintro e _ ⟨rfl, hb⟩; replace H := hidp (H.out.call hb); clear c4; clear hb); (try simp only [Act.put, setIfInBounds_toArray, set_cons_zero, set_cons_succ]); have tk13 := hidp trivial))
      try clear tk13
      have tk0 := hidp trivial
      go_upto_region 9 with (first | (clear tk0; (refine Mm.get1 rtM H rfl (.tmp 13) rfl rfl rfl ?_); (try simp only [Act.put, setIfInBounds_toArray, set_cons_zero, set_cons_succ]); have tk1 := hidp trivial) | (clear tk1; (refine Mm.get3 rtM H rfl (.tmp 5) rfl rfl rfl ?_); (try simp only [Act.put, setIfInBounds_toArray, set_cons_zero, set_cons_succ]); have tk2 := hidp trivial) | (clear tk2; (refine atS 73 rfl ?_; refine Mm.get0 rtM H rfl (.tmp 15) rfl rfl rfl ?_); (try simp only [Act.put, setIfInBounds_toArray, set_cons_zero, set_cons_succ]); have tk3 := hidp trivial) | (clear tk3; (go_at_call 20; refine (c5.out _ (HI.out.below H.out.below (Nat.le_refl _)) (HW.out.below H.out.below (Nat.le_refl _)) (HT0.out.below H.out.below (Nat.le_refl _))).mono ?_; rintro e _ ⟨rfl, hb⟩; replace H := hidp (H.out.call hb); clear c5; clear hb); (try simp only [Act.put, setIfInBounds_toArray, set_cons_zero, set_cons_succ]); have tk4 := hidp trivial))
      try clear tk4
      have tk0 := hidp trivial
      go_upto_region 13 with (first | (clear tk0; (refine Mm.get2 rtH H rfl (.tmp 7) rfl rfl HS.out ?_); (try simp only [Act.put, setIfInBounds_toArray, set_cons_zero, set_cons_succ]); have tk1 := hidp trivial) | (clear tk1; (go_at_call 21; refine (c6.out _).mono ?_; rintro e _ ⟨rfl, hb⟩; replace H := hidp (H.out.call hb); clear c6; clear hb); (try simp only [Act.put, setIfInBounds_toArray, set_cons_zero, set_cons_succ]); have tk2 := hidp trivial) | (clear tk2; (go_at_call 22; refine (c7.out _).mono ?_; rintro e _ ⟨rfl, hb⟩; replace H := hidp (H.out.call hb); clear c7; clear hb); (try simp only [Act.put, setIfInBounds_toArray, set_cons_zero, set_cons_succ]); have tk3 := hidp trivial) | (clear tk3; (refine Mm.new rtH H (some 21) rfl rfl rfl ?_; clear H; intro b21 _ H nw; have hb := nw.below; clear hb nw); (try simp only [Act.put, setIfInBounds_toArray, set_cons_zero, set_cons_succ]); have tk4 := hidp trivial) | (clear tk4; (refine Mm.put0 rtH H rfl (.tmp 21) (.tmp 88) (u8s Q) rfl rfl rfl HQ.out (u8_one _) rfl ?_; intro _ H2 st; clear st H; have H := H2; clear H2); (try simp only [Act.put, setIfInBounds_toArray, set_cons_zero, set_cons_succ]); have tk5 := hidp trivial) | (clear tk5; (go_at_call 23; refine (c8.out _).mono ?_; rintro e _ ⟨rfl, hb⟩; replace H := hidp (H.out.call hb); clear c8; clear hb); (try simp only [Act.put, setIfInBounds_toArray, set_cons_zero, set_cons_succ]); have tk6 := hidp trivial) | (clear tk6; (go_at_call 24; refine (c9.out _).mono ?_; rintro e _ ⟨rfl, hb⟩; replace H := hidp (H.out.call hb); clear c9; clear hb); (try simp only [Act.put, setIfInBounds_toArray, set_cons_zero, set_cons_succ]); have tk7 := hidp trivial))
      try clear tk7
      by_cases hc : 1 ≤ cd ∧ cd ≤ 15
      · obtain ⟨rfl, rfl, rfl, rfl⟩ := HC1.out hc
        clear HC2
        by_cases hd : 0 ≤ ix ∧ ix ≤ 4096
        · obtain ⟨rfl, rfl, rfl⟩ := HD1.out hd
          clear hc hd HC1 HD1 HD2
          have tk0 := hidp trivial
          go_wp2_with (first | (clear tk0; (refine Mm.get0 rtH H rfl (.tmp 21) rfl rfl HS.out ?_); (try simp only [Act.put, setIfInBounds_toArray, set_cons_zero, set_cons_succ]); have tk1 := hidp trivial) | (clear tk1; (refine Mm.get3 rtH H rfl (.tmp 7) rfl rfl HS.out ?_); (try simp only [Act.put, setIfInBounds_toArray, set_cons_zero, set_cons_succ]); have tk2 := hidp trivial))
          try clear tk2
          go_ret
          exact ⟨rfl, H.out.below⟩
        · have e7 := HD2.out hd
          clear hc hd HC1 HD1 HD2
          have tk0 := hidp trivial
          go_wp2_with (first | (clear tk0; (refine Mm.get0 rtH H rfl (.tmp 21) rfl rfl HS.out ?_); (try simp only [Act.put, setIfInBounds_toArray, set_cons_zero, set_cons_succ]); have tk1 := hidp trivial) | (clear tk1; (refine Mm.get3 rtH H rfl (.tmp 7) rfl rfl HS.out ?_); (try simp only [Act.put, setIfInBounds_toArray, set_cons_zero, set_cons_succ]); have tk2 := hidp trivial))
          try clear tk2
          go_ret
          exact ⟨rfl, H.out.below⟩
      · have e5 := HC2.out hc
        clear HC1
        by_cases hd : 0 ≤ ix ∧ ix ≤ 4096
        · obtain ⟨rfl, rfl, rfl⟩ := HD1.out hd
          clear hc hd HC2 HD1 HD2
          go_wp2
          go_ret
          exact ⟨rfl, H.out.below⟩
        · have e7 := HD2.out hd
          clear hc hd HC2 HD1 HD2
          go_wp2
          go_ret
          exact ⟨rfl, H.out.below⟩
    · have e3 : (E3 == 0) = false := by simpa using hb
      have n3 : ¬ E3 = 0 := hb
      clear hyb hb
      go_enter Tryd.func5, Tryd.ntmps5
      have tk0 := hidp trivial
      go_upto_region 7 with (first | (clear tk0; (refine Mm.box 42 H rfl (.tmp 0) rfl [.int .u8 (k : Int), .int .i64 f, .int .i64 t, .string b] rfl ?_; clear H; intro b5 _ H nw; have hb := nw.below; clear hb nw); (try simp only [Act.put, setIfInBounds_toArray, set_cons_zero, set_cons_succ]); have tk1 := hidp trivial) | (clear tk1; (refine Mm.box 24 H rfl (.tmp 2) rfl (u8s sum) rfl ?_; clear H; intro b7 _ H nw; have hb := nw.below; clear hb nw); (try simp only [Act.put, setIfInBounds_toArray, set_cons_zero, set_cons_succ]); have tk2 := hidp trivial) | (clear tk2; (go_at_call 17; refine (cv.out _ (HI.out.below H.out.below (Nat.le_refl _)) (HW.out.below H.out.below (Nat.le_refl _)) (HT0.out.below H.out.below (Nat.le_refl _)) (HM.out.below H.out.below (Nat.le_refl _))).mono ?_; rintro e _ ⟨rfl, hb⟩; replace H := hidp (H.out.call hb); clear cv; clear hb); (try simp only [Act.put, setIfInBounds_toArray, set_cons_zero, set_cons_succ]); have tk3 := hidp trivial) | (clear tk3; (refine Mm.get1 rtM H rfl (.tmp 5) rfl rfl rfl ?_); (try simp only [Act.put, setIfInBounds_toArray, set_cons_zero, set_cons_succ]); have tk4 := hidp trivial) | (clear tk4; (go_at_call 18; refine (c1.out _ (HI.out.below H.out.below (Nat.le_refl _)) (HW.out.below H.out.below (Nat.le_refl _)) (HT0.out.below H.out.below (Nat.le_refl _)) (HM.out.below H.out.below (Nat.le_refl _))).mono ?_; rintro e _ ⟨rfl, hb⟩; replace H := hidp (H.out.call hb); clear c1; clear hb); (try simp only [Act.put, setIfInBounds_toArray, set_cons_zero, set_cons_succ]); have tk5 := hidp trivial) | (clear tk5; (go_at_call 19; refine (c2.out _ (HI.out.below H.out.below (Nat.le_refl _)) (HW.out.below H.out.below (Nat.le_refl _)) (HT0.out.below H.out.below (Nat.le_refl _)) (HM.out.below H.out.below (Nat.le_refl _))).mono ?_; rintro e _ ⟨rfl, hb⟩; replace H := hidp (H.out.call hb); clear c2; clear hb); (try simp only [Act.put, setIfInBounds_toArray, set_cons_zero, set_cons_succ]); have tk6 := hidp trivial) | (clear tk6; (refine Mm.new rtM H (some 13) rfl rfl rfl ?_; clear H; intro b13 _ H nw; have hb := nw.below; clear hb nw); (try simp only [Act.put, setIfInBounds_toArray, set_cons_zero, set_cons_succ]); have tk7 := hidp trivial) | (clear tk7; (refine Mm.put0 rtM H rfl (.tmp 13) (.tmp 38) [.int .u8 (k : Int), .int .i64 f, .int .i64 t, .string b] rfl rfl rfl rfl (by simp [Value.oneCell']) rfl ?_; intro _ H2 st; clear st H; have H := H2; clear H2); (try simp only [Act.put, setIfInBounds_toArray, set_cons_zero, set_cons_succ]); have tk8 := hidp trivial) | (clear tk8; (go_at_call 19; refine (c3.out _ (HI.out.below H.out.below (Nat.le_refl _)) (HW.out.below H.out.below (Nat.le_refl _)) (HT0.out.below H.out.below (Nat.le_refl _)) (HM.out.below H.out.below (Nat.le_refl _))).mono ?_; rintro e _ ⟨rfl, hb⟩; replace H := hidp (H.out.call hb); clear c3; clear hb); (try simp only [Act.put, setIfInBounds_toArray, set_cons_zero, set_cons_succ]); have tk9 := hidp trivial) | (clear tk9; (refine Mm.new rtM H (some 15) rfl rfl rfl ?_; clear H; intro b15 _ H nw; have hb := nw.below; clear hb nw); (try simp only [Act.put, setIfInBounds_toArray, set_cons_zero, set_cons_succ]); have tk10 := hidp trivial) | (clear tk10; (refine Mm.put0 rtM H rfl (.tmp 15) (.tmp 43) [.int .u8 (ky : Int), .int .i64 fy, .int .i64 ty, .string byy] rfl rfl rfl rfl (by simp [Value.oneCell']) rfl ?_; intro _ H2 st; clear st H; have H := H2; clear H2); (try simp only [Act.put, setIfInBounds_toArray, set_cons_zero, set_cons_succ]); have tk11 := hidp trivial) | (clear tk11; (refine Mm.get0 rtM H rfl (.tmp 15) rfl rfl rfl ?_); (try simp only [Act.put, setIfInBounds_toArray, set_cons_zero, set_cons_succ]); have tk12 := hidp trivial) | (clear tk12; (go_at_call 18; refine (c4.out _ (HI.out.below H.out.below (Nat.le_refl _)) (HW.out.below H.out.below (Nat.le_refl _)) (HT0.out.below H.out.below (Nat.le_refl _)) (HM.out.below H.out.below (Nat.le_refl _))).mono ?_; rintro e _ ⟨rfl, hb⟩; replace H := hidp (H.out.call hb); clear c4; clear hb); (try simp only [Act.put, setIfInBounds_toArray, set_cons_zero, set_cons_succ]); have tk13 := hidp trivial))
      try clear tk13
      have tk0 := hidp trivial
      go_upto_region 9 with (first | (clear tk0; (refine Mm.get1 rtM H rfl (.tmp 13) rfl rfl rfl ?_); (try simp only [Act.put, setIfInBounds_toArray, set_cons_zero, set_cons_succ]); have tk1 := hidp trivial) | (clear tk1; (refine Mm.get3 rtM H rfl (.tmp 5) rfl rfl rfl ?_); (try simp only [Act.put, setIfInBounds_toArray, set_cons_zero, set_cons_succ]); have tk2 := hidp trivial))
      try clear tk2
      have tk0 := hidp trivial
      go_upto_region 13 with (first | (clear tk0; (refine Mm.get2 rtH H rfl (.tmp 7) rfl rfl HS.out ?_); (try simp only [Act.put, setIfInBounds_toArray, set_cons_zero, set_cons_succ]); have tk1 := hidp trivial) | (clear tk1; (go_at_call 21; refine (c6.out _).mono ?_; rintro e _ ⟨rfl, hb⟩; replace H := hidp (H.out.call hb); clear c6; clear hb); (try simp only [Act.put, setIfInBounds_toArray, set_cons_zero, set_cons_succ]); have tk2 := hidp trivial) | (clear tk2; (go_at_call 22; refine (c7.out _).mono ?_; rintro e _ ⟨rfl, hb⟩; replace H := hidp (H.out.call hb); clear c7; clear hb); (try simp only [Act.put, setIfInBounds_toArray, set_cons_zero, set_cons_succ]); have tk3 := hidp trivial) | (clear tk3; (refine Mm.new rtH H (some 21) rfl rfl rfl ?_; clear H; intro b21 _ H nw; have hb := nw.below; clear hb nw); (try simp only [Act.put, setIfInBounds_toArray, set_cons_zero, set_cons_succ]); have tk4 := hidp trivial) | (clear tk4; (refine Mm.put0 rtH H rfl (.tmp 21) (.tmp 88) (u8s Q) rfl rfl rfl HQ.out (u8_one _) rfl ?_; intro _ H2 st; clear st H; have H := H2; clear H2); (try simp only [Act.put, setIfInBounds_toArray, set_cons_zero, set_cons_succ]); have tk5 := hidp trivial) | (clear tk5; (go_at_call 23; refine (c8.out _).mono ?_; rintro e _ ⟨rfl, hb⟩; replace H := hidp (H.out.call hb); clear c8; clear hb); (try simp only [Act.put, setIfInBounds_toArray, set_cons_zero, set_cons_succ]); have tk6 := hidp trivial) | (clear tk6; (go_at_call 24; refine (c9.out _).mono ?_; rintro e _ ⟨rfl, hb⟩; replace H := hidp (H.out.call hb); clear c9; clear hb); (try simp only [Act.put, setIfInBounds_toArray, set_cons_zero, set_cons_succ]); have tk7 := hidp trivial))
      try clear tk7
      by_cases hc : 1 ≤ cd ∧ cd ≤ 15
      · obtain ⟨rfl, rfl, rfl, rfl⟩ := HC1.out hc
        clear HC2
        by_cases hd : 0 ≤ ix ∧ ix ≤ 4096
        · obtain ⟨rfl, rfl, rfl⟩ := HD1.out hd
          clear hc hd HC1 HD1 HD2
          have tk0 := hidp trivial
          go_wp2_with (first | (clear tk0; (refine Mm.get0 rtH H rfl (.tmp 21) rfl rfl HS.out ?_); (try simp only [Act.put, setIfInBounds_toArray, set_cons_zero, set_cons_succ]); have tk1 := hidp trivial) | (clear tk1; (refine Mm.get3 rtH H rfl (.tmp 7) rfl rfl HS.out ?_); (try simp only [Act.put, setIfInBounds_toArray, set_cons_zero, set_cons_succ]); have tk2 := hidp trivial))
          try clear tk2
          go_ret
          exact ⟨rfl, H.out.below⟩
        · have e7 := HD2.out hd
          clear hc hd HC1 HD1 HD2
          have tk0 := hidp trivial
          go_wp2_with (first | (clear tk0; (refine Mm.get0 rtH H rfl (.tmp 21) rfl rfl HS.out ?_); (try simp only [Act.put, setIfInBounds_toArray, set_cons_zero, set_cons_succ]); have tk1 := hidp trivial) | (clear tk1; (refine Mm.get3 rtH H rfl (.tmp 7) rfl rfl HS.out ?_); (try simp only [Act.put, setIfInBounds_toArray, set_cons_zero, set_cons_succ]); have tk2 := hidp trivial))
          try clear tk2
          go_ret
          exact ⟨rfl, H.out.below⟩
      · have e5 := HC2.out hc
        clear HC1
        by_cases hd : 0 ≤ ix ∧ ix ≤ 4096
        · obtain ⟨rfl, rfl, rfl⟩ := HD1.out hd
          clear hc hd HC2 HD1 HD2
          go_wp2
          go_ret
          exact ⟨rfl, H.out.below⟩
        · have e7 := HD2.out hd
          clear hc hd HC2 HD1 HD2
          go_wp2
          go_ret
          exact ⟨rfl, H.out.below⟩
  · obtain ⟨⟨kx, fx, tx, bx⟩, hx⟩ : ∃ x, mpV A = x := ⟨_, rfl⟩
    obtain ⟨E2, hE2⟩ : ∃ x, mpE A = x := ⟨_, rfl⟩
    obtain ⟨E1, hE1⟩ : ∃ x, mE ⟨k, f, t, b⟩ = x := ⟨_, rfl⟩
    rw [hx, hE2] at c2
    rw [hE1] at c1 ha
    change Hid (∀ W, _ → _ → _ → _ → Calls Tryd.prog 19 #[.string A] W (fun e w' => e = .returned (.tuple #[.agg #[.int .u8 (kx : Int), .int .i64 fx, .int .i64 tx, .string bx], .int .i64 E2]) ∧ Below W.heap.size W w')) at c2
    have e1 : (E1 == 0) = false := by simpa using ha
    have n1 : ¬ E1 = 0 := ha
    clear hpv hpe hback ha hA hm hx hE2 hE1
    by_cases hb : E3 = 0
    · obtain ⟨rfl, rfl⟩ := hyb hb
      subst hb
      go_enter Tryd.func5, Tryd.ntmps5
      have tk0 := hidp trivial
      go_upto_region 7 with (first | (clear tk0; (refine Mm.box 42 H rfl (.tmp 0) rfl [.int .u8 (k : Int), .int .i64 f, .int .i64 t, .string b] rfl ?_; clear H; intro b5 _ H nw; have hb := nw.below; clear hb nw); (try simp only [Act.put, setIfInBounds_toArray, set_cons_zero, set_cons_succ]); have tk1 := hidp trivial) | (clear tk1; (refine Mm.box 24 H rfl (.tmp 2) rfl (u8s sum) rfl ?_; clear H; intro b7 _ H nw; have hb := nw.below; clear hb nw); (try simp only [Act.put, setIfInBounds_toArray, set_cons_zero, set_cons_succ]); have tk2 := hidp trivial) | (clear tk2; (go_at_call 17; refine (cv.out _ (HI.out.below H.out.below (Nat.le_refl _)) (HW.out.below H.out.below (Nat.le_refl _)) (HT0.out.below H.out.below (Nat.le_refl _)) (HM.out.below H.out.below (Nat.le_refl _))).mono ?_; rintro e _ ⟨rfl, hb⟩; replace H := hidp (H.out.call hb); clear cv; clear hb); (try simp only [Act.put, setIfInBounds_toArray, set_cons_zero, set_cons_succ]); have tk3 := hidp trivial) | (clear tk3; (refine Mm.get1 rtM H rfl (.tmp 5) rfl rfl rfl ?_); (try simp only [Act.put, setIfInBounds_toArray, set_cons_zero, set_cons_succ]); have tk4 := hidp trivial) | (clear tk4; (go_at_call 18; refine (c1.out _ (HI.out.below H.out.below (Nat.le_refl _)) (HW.out.below H.out.below (Nat.le_refl _)) (HT0.out.below H.out.below (Nat.le_refl _)) (HM.out.below H.out.below (Nat.le_refl _))).mono ?_; rintro e _ ⟨rfl, hb⟩; replace H := hidp (H.out.call hb); clear c1; clear hb); (try simp only [Act.put, setIfInBounds_toArray, set_cons_zero, set_cons_succ]); have tk5 := hidp trivial) | (clear tk5; (go_at_call 19; refine (c2.out _ (HI.out.below H.out.below (Nat.le_refl _)) (HW.out.below H.out.below (Nat.le_refl _)) (HT0.out.below H.out.below (Nat.le_refl _)) (HM.out.below H.out.below (Nat.le_refl _))).mono ?_; rintro e _ ⟨rfl, hb⟩; replace H := hidp (H.out.call hb); clear c2; clear hb); (try simp only [Act.put, setIfInBounds_toArray, set_cons_zero, set_cons_succ]); have tk6 := hidp trivial) | (clear tk6; (refine Mm.new rtM H (some 13) rfl rfl rfl ?_; clear H; intro b13 _ H nw; have hb := nw.below; clear hb nw); (try simp only [Act.put, setIfInBounds_toArray, set_cons_zero, set_cons_succ]); have tk7 := hidp trivial) | (clear tk7; (refine Mm.put0 rtM H rfl (.tmp 13) (.tmp 38) [.int .u8 (kx : Int), .int .i64 fx, .int .i64 tx, .string bx] rfl rfl rfl rfl (by simp [Value.oneCell']) rfl ?_; intro _ H2 st; clear st H; have H := H2; clear H2); (try simp only [Act.put, setIfInBounds_toArray, set_cons_zero, set_cons_succ]); have tk8 := hidp trivial) | (clear tk8; (go_at_call 19; refine (c3.out _ (HI.out.below H.out.below (Nat.le_refl _)) (HW.out.below H.out.below (Nat.le_refl _)) (HT0.out.below H.out.below (Nat.le_refl _)) (HM.out.below H.out.below (Nat.le_refl _))).mono ?_; rintro e _ ⟨rfl, hb⟩; replace H := hidp (H.out.call hb); clear c3; clear hb); (try simp only [Act.put, setIfInBounds_toArray, set_cons_zero, set_cons_succ]); have tk9 := hidp trivial) | (clear tk9; (refine Mm.new rtM H (some 15) rfl rfl rfl ?_; clear H; intro b15 _ H nw; have hb := nw.below; clear hb nw); (try simp only [Act.put, setIfInBounds_toArray, set_cons_zero, set_cons_succ]); have tk10 := hidp trivial) | (clear tk10; (refine Mm.put0 rtM H rfl (.tmp 15) (.tmp 43) [.int .u8 (ky : Int), .int .i64 fy, .int .i64 ty, .string byy] rfl rfl rfl rfl (by simp [Value.oneCell']) rfl ?_; intro _ H2 st; clear st H; have H := H2; clear H2); (try simp only [Act.put, setIfInBounds_toArray, set_cons_zero, set_cons_succ]); have tk11 := hidp trivial) | (clear tk11; (refine Mm.get0 rtM H rfl (.tmp 15) rfl rfl rfl ?_); (try simp only [Act.put, setIfInBounds_toArray, set_cons_zero, set_cons_succ]); have tk12 := hidp trivial) | (clear tk12; (go_at_call 18; refine (c4.out _ (HI.out.below H.out.below (Nat.le_refl _)) (HW.out.below H.out.below (Nat.le_refl _)) (HT0.out.below H.out.below (Nat.le_refl _)) (HM.out.below H.out.below (Nat.le_refl _))).mono ?_; rintro e _ ⟨rfl, hb⟩; replace H := hidp (H.out.call hb); clear c4; clear hb); (try simp only [Act.put, setIfInBounds_toArray, set_cons_zero, set_cons_succ]); have tk13 := hidp trivial))
      try clear tk13
      have tk0 := hidp trivial
      go_upto_region 9 with (first | (clear tk0; (refine atS 73 rfl ?_; refine Mm.get0 rtM H rfl (.tmp 15) rfl rfl rfl ?_); (try simp only [Act.put, setIfInBounds_toArray, set_cons_zero, set_cons_succ]); have tk1 := hidp trivial) | (clear tk1; (go_at_call 20; refine (c5.out _ (HI.out.below H.out.below (Nat.le_refl _)) (HW.out.below H.out.below (Nat.le_refl _)) (HT0.out.below H.out.below (Nat.le_refl _))).mono ?_; rintro e _ ⟨rfl, hb⟩; replace H := hidp (H.out.call hb); clear c5; clear hb); (try simp only [Act.put, setIfInBounds_toArray, set_cons_zero, set_cons_succ]); have tk2 := hidp trivial))
      try clear tk2
      have tk0 := hidp trivial
      go_upto_region 13 with (first | (clear tk0; (refine Mm.get2 rtH H rfl (.tmp 7) rfl rfl HS.out ?_); (try simp only [Act.put, setIfInBounds_toArray, set_cons_zero, set_cons_succ]); have tk1 := hidp trivial) | (clear tk1; (go_at_call 21; refine (c6.out _).mono ?_; rintro e _ ⟨rfl, hb⟩; replace H := hidp (H.out.call hb); clear c6; clear hb); (try simp only [Act.put, setIfInBounds_toArray, set_cons_zero, set_cons_succ]); have tk2 := hidp trivial) | (clear tk2; (go_at_call 22; refine (c7.out _).mono ?_; rintro e _ ⟨rfl, hb⟩; replace H := hidp (H.out.call hb); clear c7; clear hb); (try simp only [Act.put, setIfInBounds_toArray, set_cons_zero, set_cons_succ]); have tk3 := hidp trivial) | (clear tk3; (refine Mm.new rtH H (some 21) rfl rfl rfl ?_; clear H; intro b21 _ H nw; have hb := nw.below; clear hb nw); (try simp only [Act.put, setIfInBounds_toArray, set_cons_zero, set_cons_succ]); have tk4 := hidp trivial) | (clear tk4; (refine Mm.put0 rtH H rfl (.tmp 21) (.tmp 88) (u8s Q) rfl rfl rfl HQ.out (u8_one _) rfl ?_; intro _ H2 st; clear st H; have H := H2; clear H2); (try simp only [Act.put, setIfInBounds_toArray, set_cons_zero, set_cons_succ]); have tk5 := hidp trivial) | (clear tk5; (go_at_call 23; refine (c8.out _).mono ?_; rintro e _ ⟨rfl, hb⟩; replace H := hidp (H.out.call hb); clear c8; clear hb); (try simp only [Act.put, setIfInBounds_toArray, set_cons_zero, set_cons_succ]); have tk6 := hidp trivial) | (clear tk6; (go_at_call 24; refine (c9.out _).mono ?_; rintro e _ ⟨rfl, hb⟩; replace H := hidp (H.out.call hb); clear c9; clear hb); (try simp only [Act.put, setIfInBounds_toArray, set_cons_zero, set_cons_succ]); have tk7 := hidp trivial))
      try clear tk7
      by_cases hc : 1 ≤ cd ∧ cd ≤ 15
      · obtain ⟨rfl, rfl, rfl, rfl⟩ := HC1.out hc
        clear HC2
        by_cases hd : 0 ≤ ix ∧ ix ≤ 4096
        · obtain ⟨rfl, rfl, rfl⟩ := HD1.out hd
          clear hc hd HC1 HD1 HD2
          have tk0 := hidp trivial
          go_wp2_with (first | (clear tk0; (refine Mm.get0 rtH H rfl (.tmp 21) rfl rfl HS.out ?_); (try simp only [Act.put, setIfInBounds_toArray, set_cons_zero, set_cons_succ]); have tk1 := hidp trivial) | (clear tk1; (refine Mm.get3 rtH H rfl (.tmp 7) rfl rfl HS.out ?_); (try simp only [Act.put, setIfInBounds_toArray, set_cons_zero, set_cons_succ]); have tk2 := hidp trivial))
          try clear tk2
          go_ret
          exact ⟨rfl, H.out.below⟩
        · have e7 := HD2.out hd
          clear hc hd HC1 HD1 HD2
          have tk0 := hidp trivial
          go_wp2_with (first | (clear tk0; (refine Mm.get0 rtH H rfl (.tmp 21) rfl rfl HS.out ?_); (try simp only [Act.put, setIfInBounds_toArray, set_cons_zero, set_cons_succ]); have tk1 := hidp trivial) | (clear tk1; (refine Mm.get3 rtH H rfl (.tmp 7) rfl rfl HS.out ?_); (try simp only [Act.put, setIfInBounds_toArray, set_cons_zero, set_cons_succ]); have tk2 := hidp trivial))
          try clear tk2
          go_ret
          exact ⟨rfl, H.out.below⟩
      · have e5 := HC2.out hc
        clear HC1
        by_cases hd : 0 ≤ ix ∧ ix ≤ 4096
        · obtain ⟨rfl, rfl, rfl⟩ := HD1.out hd
          clear hc hd HC2 HD1 HD2
          go_wp2
          go_ret
          exact ⟨rfl, H.out.below⟩
        · have e7 := HD2.out hd
          clear hc hd HC2 HD1 HD2
          go_wp2
          go_ret
          exact ⟨rfl, H.out.below⟩
    · have e3 : (E3 == 0) = false := by simpa using hb
      have n3 : ¬ E3 = 0 := hb
      clear hyb hb
      go_enter Tryd.func5, Tryd.ntmps5
      have tk0 := hidp trivial
      go_upto_region 7 with (first | (clear tk0; (refine Mm.box 42 H rfl (.tmp 0) rfl [.int .u8 (k : Int), .int .i64 f, .int .i64 t, .string b] rfl ?_; clear H; intro b5 _ H nw; have hb := nw.below; clear hb nw); (try simp only [Act.put, setIfInBounds_toArray, set_cons_zero, set_cons_succ]); have tk1 := hidp trivial) | (clear tk1; (refine Mm.box 24 H rfl (.tmp 2) rfl (u8s sum) rfl ?_; clear H; intro b7 _ H nw; have hb := nw.below; clear hb nw); (try simp only [Act.put, setIfInBounds_toArray, set_cons_zero, set_cons_succ]); have tk2 := hidp trivial) | (clear tk2; (go_at_call 17; refine (cv.out _ (HI.out.below H.out.below (Nat.le_refl _)) (HW.out.below H.out.below (Nat.le_refl _)) (HT0.out.below H.out.below (Nat.le_refl _)) (HM.out.below H.out.below (Nat.le_refl _))).mono ?_; rintro e _ ⟨rfl, hb⟩; replace H := hidp (H.out.call hb); clear cv; clear hb); (try simp only [Act.put, setIfInBounds_toArray, set_cons_zero, set_cons_succ]); have tk3 := hidp trivial) | (clear tk3; (refine Mm.get1 rtM H rfl (.tmp 5) rfl rfl rfl ?_); (try simp only [Act.put, setIfInBounds_toArray, set_cons_zero, set_cons_succ]); have tk4 := hidp trivial) | (clear tk4; (go_at_call 18; refine (c1.out _ (HI.out.below H.out.below (Nat.le_refl _)) (HW.out.below H.out.below (Nat.le_refl _)) (HT0.out.below H.out.below (Nat.le_refl _)) (HM.out.below H.out.below (Nat.le_refl _))).mono ?_; rintro e _ ⟨rfl, hb⟩; replace H := hidp (H.out.call hb); clear c1; clear hb); (try simp only [Act.put, setIfInBounds_toArray, set_cons_zero, set_cons_succ]); have tk5 := hidp trivial) | (clear tk5; (go_at_call 19; refine (c2.out _ (HI.out.below H.out.below (Nat.le_refl _)) (HW.out.below H.out.below (Nat.le_refl _)) (HT0.out.below H.out.below (Nat.le_refl _)) (HM.out.below H.out.below (Nat.le_refl _))).mono ?_; rintro e _ ⟨rfl, hb⟩; replace H := hidp (H.out.call hb); clear c2; clear hb); (try simp only [Act.put, setIfInBounds_toArray, set_cons_zero, set_cons_succ]); have tk6 := hidp trivial) | (clear tk6; (refine Mm.new rtM H (some 13) rfl rfl rfl ?_; clear H; intro b13 _ H nw; have hb := nw.below; clear hb nw); (try simp only [Act.put, setIfInBounds_toArray, set_cons_zero, set_cons_succ]); have tk7 := hidp trivial) | (clear tk7; (refine Mm.put0 rtM H rfl (.tmp 13) (.tmp 38) [.int .u8 (kx : Int), .int .i64 fx, .int .i64 tx, .string bx] rfl rfl rfl rfl (by simp [Value.oneCell']) rfl ?_; intro _ H2 st; clear st H; have H := H2; clear H2); (try simp only [Act.put, setIfInBounds_toArray, set_cons_zero, set_cons_succ]); have tk8 := hidp trivial) | (clear tk8; (go_at_call 19; refine (c3.out _ (HI.out.below H.out.below (Nat.le_refl _)) (HW.out.below H.out.below (Nat.le_refl _)) (HT0.out.below H.out.below (Nat.le_refl _)) (HM.out.below H.out.below (Nat.le_refl _))).mono ?_; rintro e _ ⟨rfl, hb⟩; replace H := hidp (H.out.call hb); clear c3; clear hb); (try simp only [Act.put, setIfInBounds_toArray, set_cons_zero, set_cons_succ]); have tk9 := hidp trivial) | (clear tk9; (refine Mm.new rtM H (some 15) rfl rfl rfl ?_; clear H; intro b15 _ H nw; have hb := nw.below; clear hb nw); (try simp only [Act.put, setIfInBounds_toArray, set_cons_zero, set_cons_succ]); have tk10 := hidp trivial) | (clear tk10; (refine Mm.put0 rtM H rfl (.tmp 15) (.tmp 43) [.int .u8 (ky : Int), .int .i64 fy, .int .i64 ty, .string byy] rfl rfl rfl rfl (by simp [Value.oneCell']) rfl ?_; intro _ H2 st; clear st H; have H := H2; clear H2); (try simp only [Act.put, setIfInBounds_toArray, set_cons_zero, set_cons_succ]); have tk11 := hidp trivial) | (clear tk11; (refine Mm.get0 rtM H rfl (.tmp 15) rfl rfl rfl ?_); (try simp only [Act.put, setIfInBounds_toArray, set_cons_zero, set_cons_succ]); have tk12 := hidp trivial) | (clear tk12; (go_at_call 18; refine (c4.out _ (HI.out.below H.out.below (Nat.le_refl _)) (HW.out.below H.out.below (Nat.le_refl _)) (HT0.out.below H.out.below (Nat.le_refl _)) (HM.out.below H.out.below (Nat.le_refl _))).mono ?_; rintro e _ ⟨rfl, hb⟩; replace H := hidp (H.out.call hb); clear c4; clear hb); (try simp only [Act.put, setIfInBounds_toArray, set_cons_zero, set_cons_succ]); have tk13 := hidp trivial))
      try clear tk13
      go_upto_region 9 with fail
      have tk0 := hidp trivial
      go_upto_region 13 with (first | (clear tk0; (refine Mm.get2 rtH H rfl (.tmp 7) rfl rfl HS.out ?_); (try simp only [Act.put, setIfInBounds_toArray, set_cons_zero, set_cons_succ]); have tk1 := hidp trivial) | (clear tk1; (go_at_call 21; refine (c6.out _).mono ?_; rintro e _ ⟨rfl, hb⟩; replace H := hidp (H.out.call hb); clear c6; clear hb); (try simp only [Act.put, setIfInBounds_toArray, set_cons_zero, set_cons_succ]); have tk2 := hidp trivial) | (clear tk2; (go_at_call 22; refine (c7.out _).mono ?_; rintro e _ ⟨rfl, hb⟩; replace H := hidp (H.out.call hb); clear c7; clear hb); (try simp only [Act.put, setIfInBounds_toArray, set_cons_zero, set_cons_succ]); have tk3 := hidp trivial) | (clear tk3; (refine Mm.new rtH H (some 21) rfl rfl rfl ?_; clear H; intro b21 _ H nw; have hb := nw.below; clear hb nw); (try simp only [Act.put, setIfInBounds_toArray, set_cons_zero, set_cons_succ]); have tk4 := hidp trivial) | (clear tk4; (refine Mm.put0 rtH H rfl (.tmp 21) (.tmp 88) (u8s Q) rfl rfl rfl HQ.out (u8_one _) rfl ?_; intro _ H2 st; clear st H; have H := H2; clear H2); (try simp only [Act.put, setIfInBounds_toArray, set_cons_zero, set_cons_succ]); have tk5 := hidp trivial) | (clear tk5; (go_at_call 23; refine (c8.out _).mono ?_; rintro e _ ⟨rfl, hb⟩; replace H := hidp (H.out.call hb); clear c8; clear hb); (try simp only [Act.put, setIfInBounds_toArray, set_cons_zero, set_cons_succ]); have tk6 := hidp trivial) | (clear tk6; (go_at_call 24; refine (c9.out _).mono ?_; rintro e _ ⟨rfl, hb⟩; replace H := hidp (H.out.call hb); clear c9; clear hb); (try simp only [Act.put, setIfInBounds_toArray, set_cons_zero, set_cons_succ]); have tk7 := hidp trivial))
      try clear tk7
      by_cases hc : 1 ≤ cd ∧ cd ≤ 15
      · obtain ⟨rfl, rfl, rfl, rfl⟩ := HC1.out hc
        clear HC2
        by_cases hd : 0 ≤ ix ∧ ix ≤ 4096
        · obtain ⟨rfl, rfl, rfl⟩ := HD1.out hd
          clear hc hd HC1 HD1 HD2
          have tk0 := hidp trivial
          go_wp2_with (first | (clear tk0; (refine Mm.get0 rtH H rfl (.tmp 21) rfl rfl HS.out ?_); (try simp only [Act.put, setIfInBounds_toArray, set_cons_zero, set_cons_succ]); have tk1 := hidp trivial) | (clear tk1; (refine Mm.get3 rtH H rfl (.tmp 7) rfl rfl HS.out ?_); (try simp only [Act.put, setIfInBounds_toArray, set_cons_zero, set_cons_succ]); have tk2 := hidp trivial))
          try clear tk2
          go_ret
          exact ⟨rfl, H.out.below⟩
        · have e7 := HD2.out hd
          clear hc hd HC1 HD1 HD2
          have tk0 := hidp trivial
          go_wp2_with (first | (clear tk0; (refine Mm.get0 rtH H rfl (.tmp 21) rfl rfl HS.out ?_); (try simp only [Act.put, setIfInBounds_toArray, set_cons_zero, set_cons_succ]); have tk1 := hidp trivial) | (clear tk1; (refine Mm.get3 rtH H rfl (.tmp 7) rfl rfl HS.out ?_); (try simp only [Act.put, setIfInBounds_toArray, set_cons_zero, set_cons_succ]); have tk2 := hidp trivial))
          try clear tk2
          go_ret
          exact ⟨rfl, H.out.below⟩
      · have e5 := HC2.out hc
        clear HC1
        by_cases hd : 0 ≤ ix ∧ ix ≤ 4096
        · obtain ⟨rfl, rfl, rfl⟩ := HD1.out hd
          clear hc hd HC2 HD1 HD2
          go_wp2
          go_ret
          exact ⟨rfl, H.out.below⟩
        · have e7 := HD2.out hd
          clear hc hd HC2 HD1 HD2
          go_wp2
          go_ret
          exact ⟨rfl, H.out.below⟩
end Go.Proofs.YtfenjincbhkodaaDoor.Wi
