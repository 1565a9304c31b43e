/-
  Joined: PfB.
-/
import Derived.Test.YtokakgjcegmabaaGreatDoorUPL
namespace Go.Proofs.YtokakgjcegmabaaGreatDoor.Pf
set_option maxRecDepth 100000
set_option linter.unusedVariables false
set_option linter.unusedSimpArgs false
open Go.RowKit
open List (getElem_toArray getElem_cons_zero getElem_cons_succ setIfInBounds_toArray set_cons_zero set_cons_succ)
open Hd
open Ho (inE inV in_zero in_not al_sz allInt_any)
open En (eOk eE eT eE_yes eE_no esmV er er_some erV erE eread_any En naI naS)
section
variable {ops : Array Oper} {rest : List Oper} {o : Oper} {a : Act} {w : World} {Q : Exit → Act → World → Prop} {S : World → Prop} {k : Nat} {s : Scr}
theorem wpL_nePr (hw : Region.wanted o (yielded ops a.tmps) = true) (x y : Operand) (u : TypeId) (hop : o.op = .binOp .neq 65 x y u)
    (s : Int) (a0 sa b sb : ByteArray) (hx : a.eval x = .agg #[.int .i64 s, .string a0, .string sa, .string b, .string sb]) (hy : a.eval y = .agg #[.int .i64 s, .string a0, .string sa, .string b, .string sb]) (h : wpList Tryz.prog ops Q rest (a.put o.dst (.bool false)) w) : wpList Tryz.prog ops Q (o :: rest) a w := by
  refine wpList_step fun K hK => ?_
  rw [if_pos hw]
  have := hK _ _ h
  have hq := eqin_pr w s a0 sa b sb
  unfold Oper.wp execOp
  simp only [hop, hx, hy, Sem.run_bind, run_eqGuard_agg (P := Tryz.prog) _ _ _ _ _ _ _ guard_pr, run_neq_struct, hq, Result.andThen_ok, Sem.run_pure, Bool.not_true]
  exact this
end
theorem pP_some {t : ByteArray} {x : Pr} (h : pP t = some x) : pOk x = true ∧ mkS (encL (pL x)) = t := by
  unfold pP at h
  split at h
  · rename_i h0
    obtain ⟨g3, g4, g5⟩ := al_again h0
    unfold pPL at h
    split at h
    · rename_i n a b c d hL
      split at h
      · rename_i hz
        obtain ⟨h1, h2⟩ := in_zero hz
        simp only [Option.some.injEq] at h
        subst h
        have e1 := (numOf_some h1).1
        rw [hL] at g3 g5
        refine ⟨pOk_iff.2 ⟨⟨by simp only; omega, by simp only; omega⟩, g5 a (by simp), g5 b (by simp), g5 c (by simp), g5 d (by simp)⟩, ?_⟩
        unfold pL
        simp only [Int.toNat_natCast]
        rw [e1]
        first | exact g3 | (rw [g3]; exact mkS_of _) | (rw [g3])
      · cases h
    · cases h
  · cases h
def swp (x : Pr) : Pr := ⟨x.s, x.b, x.sb, x.a, x.sa⟩
theorem plc_comm (p q : Hd) : plc p q = plc q p := by
  unfold plc
  rw [Bool.eq_iff_iff]
  simp only [Bool.and_eq_true, beq_iff_eq, decide_eq_true_eq]
  constructor <;> rintro ⟨⟨h1, h2⟩, h3⟩ <;> exact ⟨⟨h1.symm, h2.symm⟩, h3.symm⟩
theorem ck_zero {gs : List Gr} {x : Pr} : ckE gs x = 0 ↔ pOk x = true ∧ (syE x.a = 0 ∧ syE x.b = 0) ∧ plc (syV x.a) (syV x.b) = true ∧ (syV x.a).p ≠ (syV x.b).p ∧ bvE gs x.s (syV x.a).i x.a x.sa = 0 ∧ bvE gs x.s (syV x.a).i x.b x.sb = 0 := by
  unfold ckE vfy
  by_cases h1 : pOk x = true
  · rw [if_pos h1]
    by_cases h2 : syE x.a = 0 ∧ syE x.b = 0
    · rw [if_pos h2]
      by_cases h3 : plc (syV x.a) (syV x.b) = true
      · rw [if_pos h3]
        by_cases h4 : (syV x.a).p = (syV x.b).p
        · rw [if_pos h4]
          exact ⟨fun g => (by cases g), fun g => absurd h4 g.2.2.2.1⟩
        · rw [if_neg h4]
          by_cases h5 : bvE gs x.s (syV x.a).i x.a x.sa = 0
          · rw [if_pos h5]
            exact ⟨fun g => ⟨h1, h2, h3, h4, h5, g⟩, fun g => g.2.2.2.2.2⟩
          · rw [if_neg h5]
            exact ⟨fun g => absurd g h5, fun g => absurd g.2.2.2.2.1 h5⟩
      · rw [if_neg h3]
        exact ⟨fun g => (by cases g), fun g => absurd g.2.2.1 h3⟩
    · rw [if_neg h2]
      exact ⟨fun g => (by cases g), fun g => absurd g.2.1 h2⟩
  · rw [if_neg h1]
    exact ⟨fun g => (by cases g), fun g => absurd g.1 h1⟩
theorem ck_swp {gs : List Gr} {x : Pr} (h : ckE gs x = 0) : ckE gs (swp x) = 0 := by
  obtain ⟨h1, ⟨h2, h2'⟩, h3, h4, h5, h6⟩ := ck_zero.1 h
  have hi : (syV x.a).i = (syV x.b).i := by
    unfold plc at h3
    simp only [Bool.and_eq_true, decide_eq_true_eq] at h3
    exact h3.2
  obtain ⟨g0, g1, g2, g3, g4⟩ := pOk_iff.1 h1
  exact ck_zero.2 ⟨pOk_iff.2 ⟨g0, g3, g4, g1, g2⟩, ⟨h2', h2⟩, by rw [plc_comm]; exact h3, fun g => h4 g.symm, by show bvE gs x.s (syV x.b).i x.b x.sb = 0; rw [← hi]; exact h6, by show bvE gs x.s (syV x.b).i x.a x.sa = 0; rw [← hi]; exact h5⟩
theorem ck_both (gs : List Gr) (x : Pr) : (ckE gs (swp x) == 0) = (ckE gs x == 0) := by
  rw [Bool.eq_iff_iff, beq_iff_eq, beq_iff_eq]
  exact ⟨fun h => ck_swp (x := swp x) h, ck_swp⟩
set_option maxHeartbeats 64000000 in
theorem walk_proofBack (w : World) (v : Value) (gs : List Gr) (hg : GsAt w v gs) (hn : gs.length ≤ 4611686018427387904) (x : Pr) (hx : x.ok) (s : ByteArray) (hs : s.size ≤ 140737488351232) (hL : IT w ∧ KT w) :
    Calls Tryz.prog 6 #[v, .agg x.row.toArray, .string s] w fun e w' => e = .returned (.bool true) ∧ Below w.heap.size w w' := by
  obtain ⟨hI, hK⟩ := hL
  have hkp := hK.pos
  have HI := hidp hI; have HK := hidp hK; have HG := hidp hg; clear hI hK hg hn
  have H := hidp (Mm.M.nil w)
  have cl := hidp (fun W h k => lives22_any W h k)
  have c3 := hidp (fun W => parse_any W s (by omega))
  have hxs : (swp x).ok := ⟨hx.2.2.1, hx.2.2.2, hx.1, hx.2.1⟩
  have c5 := hidp (fun W (hg : GsAt W v gs) h k => check_any W v gs hg x hx h k)
  have c6 := hidp (fun W (hg : GsAt W v gs) h k => check_any W v gs hg (swp x) hxs h k)
  have hkk := ck_both gs x
  obtain ⟨K1, hK1⟩ : ∃ Y, ckE gs x = Y := ⟨_, rfl⟩
  obtain ⟨K2, hK2⟩ : ∃ Y, ckE gs (swp x) = Y := ⟨_, rfl⟩
  rw [hK1] at c5 hkk; rw [hK2] at c6 hkk
  have HKK := hidp hkk
  clear hkk hK1 hK2 hxs
  have c1 := hidp (fun W => bytes_any W x)
  have hpq : (∃ q E X, ppV s = q ∧ ppE s = 0 ∧ pB q = s ∧ pE q = 0 ∧ E = (0 : Int) ∧ X = s) ∨ (ppE s = 6) := by
    unfold ppE ppV
    cases h : pP s with
    | none => right; rfl
    | some q =>
      obtain ⟨g1, g2⟩ := pP_some h
      left; exact ⟨q, 0, s, rfl, rfl, by rw [pB_yes g1]; exact g2, pE_yes g1, rfl, rfl⟩
  obtain ⟨q, hq⟩ : ∃ Y, ppV s = Y := ⟨_, rfl⟩
  have c4 := hidp (fun W => bytes_any W q)
  rw [hq] at c3
  obtain ⟨X, hX⟩ : ∃ Y, pB q = Y := ⟨_, rfl⟩
  obtain ⟨EX, hEX⟩ : ∃ Y, pE q = Y := ⟨_, rfl⟩
  rw [hX, hEX] at c4
  cases hok : pOk x with
  | true =>
    have hXP := pP_back hok
    rw [pB_yes hok, pE_yes hok] at c1
    obtain ⟨T, hT⟩ : ∃ T, mkS (encL (pL x)) = T := ⟨_, rfl⟩
    have hTs : T.size ≤ 65536 := by
      rw [← hT, mkS_size]; unfold encL
      have e1 := Ho.encTs_len (pL x) 8192 (by omega) (pL_ok hok).2
      have e2 := encN_len64 (pL x).length (by simp [pL])
      simp only [pL, List.length_append, List.length_cons, List.length_nil] at e1 e2 ⊢; omega
    rw [hT] at c1 hXP
    have c2 := hidp (fun W => parse_any W T (by omega))
    rw [show ppV T = x from by unfold ppV; rw [hXP]; rfl, show ppE T = 0 from by unfold ppE; rw [hXP]; rfl] at c2
    clear hT hTs hXP hok hx
    obtain ⟨s0, a, sa, b, sb⟩ := x
    show Calls Tryz.prog 6 #[v, .agg #[.int .i64 s0, .string a, .string sa, .string b, .string sb], .string s] w _
    have c1 := hidp (show ∀ W, Calls Tryz.prog 33 #[.agg #[.int .i64 s0, .string a, .string sa, .string b, .string sb]] W _ from c1.out)
    have c5 := hidp (show ∀ W, GsAt W v gs → IT W → KT W → Calls Tryz.prog 37 #[v, .agg #[.int .i64 s0, .string a, .string sa, .string b, .string sb]] W _ from c5.out)
    have c6 := hidp (show ∀ W, GsAt W v gs → IT W → KT W → Calls Tryz.prog 37 #[v, .agg #[.int .i64 s0, .string b, .string sb, .string a, .string sa]] W _ from c6.out)
    have c2 := hidp (show ∀ W, Calls Tryz.prog 35 #[.string T] W (fun e w' => e = .returned (.tuple #[.agg #[.int .i64 s0, .string a, .string sa, .string b, .string sb], .int .i64 0]) ∧ Below W.heap.size W w') from c2.out)
    rcases hpq with ⟨q', E', X', h1, h2, h3, h4, -, -⟩ | h6
    · rw [hq] at h1; subst h1
      rw [hX] at h3; rw [hEX] at h4; subst h3 h4
      rw [h2] at c3
      clear h2 hq hX hEX hs
      go_enter Tryz.func6, Tryz.ntmps6
      have tk0 := hidp trivial
      go_wp2_with (first | (refine Rt.wpL_skip _ _ rfl rfl ?_) | (refine Rt.wpL_skipN _ _ rfl rfl ?_) | (clear tk0; (refine Mm.box 65 H rfl (.tmp 1) rfl [.int .i64 s0, .string a, .string sa, .string b, .string sb] rfl ?_; clear H; intro b4 _ H nw; have hb := nw.below; clear hb nw); (try simp only [Act.put, setIfInBounds_toArray, set_cons_zero, set_cons_succ]); have tk1 := hidp trivial) | (clear tk1; (go_at_call 30; refine (cl.out _ (HI.out.below H.out.below (Nat.le_refl _)) (HK.out.below H.out.below hkp)).mono ?_; rintro e _ ⟨rfl, hb⟩; replace H := hidp (H.out.call hb); clear cl; clear hb); (try simp only [Act.put, setIfInBounds_toArray, set_cons_zero, set_cons_succ]); have tk2 := hidp trivial) | (clear tk2; (refine Mm.get0 rtP H rfl (.tmp 4) rfl rfl rfl ?_); (try simp only [Act.put, setIfInBounds_toArray, set_cons_zero, set_cons_succ]); have tk3 := hidp trivial) | (clear tk3; (go_at_call 33; refine (c1.out _).mono ?_; rintro e _ ⟨rfl, hb⟩; replace H := hidp (H.out.call hb); clear c1; clear hb); (try simp only [Act.put, setIfInBounds_toArray, set_cons_zero, set_cons_succ]); have tk4 := hidp trivial) | (clear tk4; (go_at_call 35; refine (c2.out _).mono ?_; rintro e _ ⟨rfl, hb⟩; replace H := hidp (H.out.call hb); clear c2; clear hb); (try simp only [Act.put, setIfInBounds_toArray, set_cons_zero, set_cons_succ]); have tk5 := hidp trivial) | (clear tk5; (refine Mm.new rtP H (some 9) rfl rfl rfl ?_; clear H; intro b9 _ H nw; have hb := nw.below; clear hb nw); (try simp only [Act.put, setIfInBounds_toArray, set_cons_zero, set_cons_succ]); have tk6 := hidp trivial) | (clear tk6; (refine Mm.put0 rtP H rfl (.tmp 9) (.tmp 26) [.int .i64 s0, .string a, .string sa, .string b, .string sb] rfl rfl rfl rfl (by simp [Value.oneCell']) rfl ?_; intro _ H2 st; clear st H; have H := H2; clear H2); (try simp only [Act.put, setIfInBounds_toArray, set_cons_zero, set_cons_succ]); have tk7 := hidp trivial) | (clear tk7; (go_at_call 35; refine (c3.out _).mono ?_; rintro e _ ⟨rfl, hb⟩; replace H := hidp (H.out.call hb); clear c3; clear hb); (try simp only [Act.put, setIfInBounds_toArray, set_cons_zero, set_cons_succ]); have tk8 := hidp trivial) | (clear tk8; (refine Mm.new rtP H (some 11) rfl rfl rfl ?_; clear H; intro b11 _ H nw; have hb := nw.below; clear hb nw); (try simp only [Act.put, setIfInBounds_toArray, set_cons_zero, set_cons_succ]); have tk9 := hidp trivial) | (clear tk9; (refine Mm.put0 rtP H rfl (.tmp 11) (.tmp 31) q.row rfl rfl rfl rfl (Pr.one q) rfl ?_; intro _ H2 st; clear st H; have H := H2; clear H2); (try simp only [Act.put, setIfInBounds_toArray, set_cons_zero, set_cons_succ]); have tk10 := hidp trivial) | (clear tk10; (refine Mm.get0 rtP H rfl (.tmp 11) rfl rfl rfl ?_); (try simp only [Act.put, setIfInBounds_toArray, set_cons_zero, set_cons_succ]); have tk11 := hidp trivial) | (clear tk11; (go_at_call 33; refine (c4.out _).mono ?_; rintro e _ ⟨rfl, hb⟩; replace H := hidp (H.out.call hb); clear c4; clear hb); (try simp only [Act.put, setIfInBounds_toArray, set_cons_zero, set_cons_succ]); have tk12 := hidp trivial) | (clear tk12; (refine Mm.get1 rtP H rfl (.tmp 9) rfl rfl rfl ?_); (try simp only [Act.put, setIfInBounds_toArray, set_cons_zero, set_cons_succ]); have tk13 := hidp trivial) | (clear tk13; (refine Mm.get2 rtP H rfl (.tmp 4) rfl rfl rfl ?_); (try simp only [Act.put, setIfInBounds_toArray, set_cons_zero, set_cons_succ]); have tk14 := hidp trivial) | (clear tk14; (refine wpL_nePr rfl _ _ _ rfl s0 a sa b sb rfl rfl ?_); (try simp only [Act.put, setIfInBounds_toArray, set_cons_zero, set_cons_succ]); have tk15 := hidp trivial) | (clear tk15; (refine Mm.ld2 En.naI H rfl (.tmp 62) 0 (.int .i64 s0) rfl rfl rfl ?_); (try simp only [Act.put, setIfInBounds_toArray, set_cons_zero, set_cons_succ]); have tk16 := hidp trivial) | (clear tk16; (refine Mm.ld2 En.naS H rfl (.tmp 64) 3 (.string b) rfl rfl rfl ?_); (try simp only [Act.put, setIfInBounds_toArray, set_cons_zero, set_cons_succ]); have tk17 := hidp trivial) | (clear tk17; (refine Mm.ld2 En.naS H rfl (.tmp 66) 4 (.string sb) rfl rfl rfl ?_); (try simp only [Act.put, setIfInBounds_toArray, set_cons_zero, set_cons_succ]); have tk18 := hidp trivial) | (clear tk18; (refine Mm.ld2 En.naS H rfl (.tmp 68) 1 (.string a) rfl rfl rfl ?_); (try simp only [Act.put, setIfInBounds_toArray, set_cons_zero, set_cons_succ]); have tk19 := hidp trivial) | (clear tk19; (refine Mm.ld2 En.naS H rfl (.tmp 70) 2 (.string sa) rfl rfl rfl ?_); (try simp only [Act.put, setIfInBounds_toArray, set_cons_zero, set_cons_succ]); have tk20 := hidp trivial) | (clear tk20; (refine Rt.wpL_build rfl 65 _ rfl [.int .i64 s0, .string b, .string sb, .string a, .string sa] (by kernel_rfl) ?_); (try simp only [Act.put, setIfInBounds_toArray, set_cons_zero, set_cons_succ]); have tk21 := hidp trivial) | (clear tk21; (refine Mm.new rtP H (some 15) rfl rfl rfl ?_; clear H; intro b15 _ H nw; have hb := nw.below; clear hb nw); (try simp only [Act.put, setIfInBounds_toArray, set_cons_zero, set_cons_succ]); have tk22 := hidp trivial) | (clear tk22; (refine Mm.put0 rtP H rfl (.tmp 15) (.tmp 72) [.int .i64 s0, .string b, .string sb, .string a, .string sa] rfl rfl rfl rfl (by simp [Value.oneCell']) rfl ?_; intro _ H2 st; clear st H; have H := H2; clear H2); (try simp only [Act.put, setIfInBounds_toArray, set_cons_zero, set_cons_succ]); have tk23 := hidp trivial))
      try clear tk23
      refine Mm.region H (.take 0 (.take 1 (.take 4 (.take 5 (.one 2 (.take 3 (.one 6 (.take 7 (.take 8 (.take 9 .done)))))))))) (by kernel_rfl) (by kernel_rfl) (by simp [Scr.depth]) (by kernel_rfl) ?_
      clear H
      intro _ H hb
      clear hb
      apply s_val
      case ho | hw => rfl
      case hv => intro w hw; go_simp; first | done | rfl
      simp only [Act.put, getElem_toArray, getElem_cons_zero, getElem_cons_succ, setIfInBounds_toArray, set_cons_zero, set_cons_succ]
      refine Mm.sget3 rtP (fun w h => h) rfl rfl (.tmp 4) rfl rfl rfl ?_
      simp only [Act.put, getElem_toArray, getElem_cons_zero, getElem_cons_succ, setIfInBounds_toArray, set_cons_zero, set_cons_succ]
      apply s_val
      case ho | hw => rfl
      case hv => intro w hw; go_simp; first | done | rfl
      simp only [Act.put, getElem_toArray, getElem_cons_zero, getElem_cons_succ, setIfInBounds_toArray, set_cons_zero, set_cons_succ]
      refine Mm.sget0 rtP (fun w h => h) rfl rfl (.tmp 15) rfl rfl rfl ?_
      simp only [Act.put, getElem_toArray, getElem_cons_zero, getElem_cons_succ, setIfInBounds_toArray, set_cons_zero, set_cons_succ]
      refine Mm.o_callH (v := .int .i64 K1) H (fun W h => h) rfl rfl 37 (#[v, .agg #[.int .i64 s0, .string a, .string sa, .string b, .string sb]]) (by go_simp; first | done | rfl) (c5.out _ (HG.out.to H.out.below) (HI.out.below H.out.below (Nat.le_refl _)) (HK.out.below H.out.below hkp)) ?_
      clear H
      intro _ H hb
      clear hb
      simp only [Act.put, getElem_toArray, getElem_cons_zero, getElem_cons_succ, setIfInBounds_toArray, set_cons_zero, set_cons_succ]
      apply s_val
      case ho | hw => rfl
      case hv => intro w hw; go_simp; first | done | rfl
      simp only [Act.put, getElem_toArray, getElem_cons_zero, getElem_cons_succ, setIfInBounds_toArray, set_cons_zero, set_cons_succ]
      refine Mm.o_callH (v := .int .i64 K2) H (fun W h => h) rfl rfl 37 (#[v, .agg #[.int .i64 s0, .string b, .string sb, .string a, .string sa]]) (by go_simp; first | done | rfl) (c6.out _ (HG.out.to H.out.below) (HI.out.below H.out.below (Nat.le_refl _)) (HK.out.below H.out.below hkp)) ?_
      clear H
      intro _ H hb
      clear hb
      simp only [Act.put, getElem_toArray, getElem_cons_zero, getElem_cons_succ, setIfInBounds_toArray, set_cons_zero, set_cons_succ]
      apply s_val
      case ho | hw => rfl
      case hv => intro w hw; have e0 := HKK.out; go_simp; first | done | rfl
      iterate 2
       simp only [Act.put, getElem_toArray, getElem_cons_zero, getElem_cons_succ, setIfInBounds_toArray, set_cons_zero, set_cons_succ]
       apply s_val
       case ho | hw => rfl
       case hv => intro w hw; go_simp; first | done | rfl
      simp only [Act.put, getElem_toArray, getElem_cons_zero, getElem_cons_succ, setIfInBounds_toArray, set_cons_zero, set_cons_succ]
      refine NoPanic.normal ?_
      go_wp2
      go_ret
      exact ⟨by first | rfl | simp, H.out.below⟩
    · rw [h6] at c3
      clear h6 hq hX hEX hs
      go_enter Tryz.func6, Tryz.ntmps6
      have tk0 := hidp trivial
      go_wp2_with (first | (refine Rt.wpL_skip _ _ rfl rfl ?_) | (refine Rt.wpL_skipN _ _ rfl rfl ?_) | (clear tk0; (refine Mm.box 65 H rfl (.tmp 1) rfl [.int .i64 s0, .string a, .string sa, .string b, .string sb] rfl ?_; clear H; intro b4 _ H nw; have hb := nw.below; clear hb nw); (try simp only [Act.put, setIfInBounds_toArray, set_cons_zero, set_cons_succ]); have tk1 := hidp trivial) | (clear tk1; (go_at_call 30; refine (cl.out _ (HI.out.below H.out.below (Nat.le_refl _)) (HK.out.below H.out.below hkp)).mono ?_; rintro e _ ⟨rfl, hb⟩; replace H := hidp (H.out.call hb); clear cl; clear hb); (try simp only [Act.put, setIfInBounds_toArray, set_cons_zero, set_cons_succ]); have tk2 := hidp trivial) | (clear tk2; (refine Mm.get0 rtP H rfl (.tmp 4) rfl rfl rfl ?_); (try simp only [Act.put, setIfInBounds_toArray, set_cons_zero, set_cons_succ]); have tk3 := hidp trivial) | (clear tk3; (go_at_call 33; refine (c1.out _).mono ?_; rintro e _ ⟨rfl, hb⟩; replace H := hidp (H.out.call hb); clear c1; clear hb); (try simp only [Act.put, setIfInBounds_toArray, set_cons_zero, set_cons_succ]); have tk4 := hidp trivial) | (clear tk4; (go_at_call 35; refine (c2.out _).mono ?_; rintro e _ ⟨rfl, hb⟩; replace H := hidp (H.out.call hb); clear c2; clear hb); (try simp only [Act.put, setIfInBounds_toArray, set_cons_zero, set_cons_succ]); have tk5 := hidp trivial) | (clear tk5; (refine Mm.new rtP H (some 9) rfl rfl rfl ?_; clear H; intro b9 _ H nw; have hb := nw.below; clear hb nw); (try simp only [Act.put, setIfInBounds_toArray, set_cons_zero, set_cons_succ]); have tk6 := hidp trivial) | (clear tk6; (refine Mm.put0 rtP H rfl (.tmp 9) (.tmp 26) [.int .i64 s0, .string a, .string sa, .string b, .string sb] rfl rfl rfl rfl (by simp [Value.oneCell']) rfl ?_; intro _ H2 st; clear st H; have H := H2; clear H2); (try simp only [Act.put, setIfInBounds_toArray, set_cons_zero, set_cons_succ]); have tk7 := hidp trivial) | (clear tk7; (go_at_call 35; refine (c3.out _).mono ?_; rintro e _ ⟨rfl, hb⟩; replace H := hidp (H.out.call hb); clear c3; clear hb); (try simp only [Act.put, setIfInBounds_toArray, set_cons_zero, set_cons_succ]); have tk8 := hidp trivial) | (clear tk8; (refine Mm.new rtP H (some 11) rfl rfl rfl ?_; clear H; intro b11 _ H nw; have hb := nw.below; clear hb nw); (try simp only [Act.put, setIfInBounds_toArray, set_cons_zero, set_cons_succ]); have tk9 := hidp trivial) | (clear tk9; (refine Mm.put0 rtP H rfl (.tmp 11) (.tmp 31) q.row rfl rfl rfl rfl (Pr.one q) rfl ?_; intro _ H2 st; clear st H; have H := H2; clear H2); (try simp only [Act.put, setIfInBounds_toArray, set_cons_zero, set_cons_succ]); have tk10 := hidp trivial) | (clear tk10; (refine Mm.get0 rtP H rfl (.tmp 11) rfl rfl rfl ?_); (try simp only [Act.put, setIfInBounds_toArray, set_cons_zero, set_cons_succ]); have tk11 := hidp trivial) | (clear tk11; (go_at_call 33; refine (c4.out _).mono ?_; rintro e _ ⟨rfl, hb⟩; replace H := hidp (H.out.call hb); clear c4; clear hb); (try simp only [Act.put, setIfInBounds_toArray, set_cons_zero, set_cons_succ]); have tk12 := hidp trivial) | (clear tk12; (refine Mm.get1 rtP H rfl (.tmp 9) rfl rfl rfl ?_); (try simp only [Act.put, setIfInBounds_toArray, set_cons_zero, set_cons_succ]); have tk13 := hidp trivial) | (clear tk13; (refine Mm.get2 rtP H rfl (.tmp 4) rfl rfl rfl ?_); (try simp only [Act.put, setIfInBounds_toArray, set_cons_zero, set_cons_succ]); have tk14 := hidp trivial) | (clear tk14; (refine wpL_nePr rfl _ _ _ rfl s0 a sa b sb rfl rfl ?_); (try simp only [Act.put, setIfInBounds_toArray, set_cons_zero, set_cons_succ]); have tk15 := hidp trivial) | (clear tk15; (refine Mm.ld2 En.naI H rfl (.tmp 62) 0 (.int .i64 s0) rfl rfl rfl ?_); (try simp only [Act.put, setIfInBounds_toArray, set_cons_zero, set_cons_succ]); have tk16 := hidp trivial) | (clear tk16; (refine Mm.ld2 En.naS H rfl (.tmp 64) 3 (.string b) rfl rfl rfl ?_); (try simp only [Act.put, setIfInBounds_toArray, set_cons_zero, set_cons_succ]); have tk17 := hidp trivial) | (clear tk17; (refine Mm.ld2 En.naS H rfl (.tmp 66) 4 (.string sb) rfl rfl rfl ?_); (try simp only [Act.put, setIfInBounds_toArray, set_cons_zero, set_cons_succ]); have tk18 := hidp trivial) | (clear tk18; (refine Mm.ld2 En.naS H rfl (.tmp 68) 1 (.string a) rfl rfl rfl ?_); (try simp only [Act.put, setIfInBounds_toArray, set_cons_zero, set_cons_succ]); have tk19 := hidp trivial) | (clear tk19; (refine Mm.ld2 En.naS H rfl (.tmp 70) 2 (.string sa) rfl rfl rfl ?_); (try simp only [Act.put, setIfInBounds_toArray, set_cons_zero, set_cons_succ]); have tk20 := hidp trivial) | (clear tk20; (refine Rt.wpL_build rfl 65 _ rfl [.int .i64 s0, .string b, .string sb, .string a, .string sa] (by kernel_rfl) ?_); (try simp only [Act.put, setIfInBounds_toArray, set_cons_zero, set_cons_succ]); have tk21 := hidp trivial) | (clear tk21; (refine Mm.new rtP H (some 15) rfl rfl rfl ?_; clear H; intro b15 _ H nw; have hb := nw.below; clear hb nw); (try simp only [Act.put, setIfInBounds_toArray, set_cons_zero, set_cons_succ]); have tk22 := hidp trivial) | (clear tk22; (refine Mm.put0 rtP H rfl (.tmp 15) (.tmp 72) [.int .i64 s0, .string b, .string sb, .string a, .string sa] rfl rfl rfl rfl (by simp [Value.oneCell']) rfl ?_; intro _ H2 st; clear st H; have H := H2; clear H2); (try simp only [Act.put, setIfInBounds_toArray, set_cons_zero, set_cons_succ]); have tk23 := hidp trivial))
      try clear tk23
      refine Mm.region H (.take 0 (.take 1 (.take 4 (.take 5 (.one 2 (.take 3 (.one 6 (.take 7 (.take 8 (.take 9 .done)))))))))) (by kernel_rfl) (by kernel_rfl) (by simp [Scr.depth]) (by kernel_rfl) ?_
      clear H
      intro _ H hb
      clear hb
      apply s_val
      case ho | hw => rfl
      case hv => intro w hw; go_simp; first | done | rfl
      simp only [Act.put, getElem_toArray, getElem_cons_zero, getElem_cons_succ, setIfInBounds_toArray, set_cons_zero, set_cons_succ]
      refine Mm.sget3 rtP (fun w h => h) rfl rfl (.tmp 4) rfl rfl rfl ?_
      simp only [Act.put, getElem_toArray, getElem_cons_zero, getElem_cons_succ, setIfInBounds_toArray, set_cons_zero, set_cons_succ]
      apply s_val
      case ho | hw => rfl
      case hv => intro w hw; go_simp; first | done | rfl
      simp only [Act.put, getElem_toArray, getElem_cons_zero, getElem_cons_succ, setIfInBounds_toArray, set_cons_zero, set_cons_succ]
      refine Mm.sget0 rtP (fun w h => h) rfl rfl (.tmp 15) rfl rfl rfl ?_
      simp only [Act.put, getElem_toArray, getElem_cons_zero, getElem_cons_succ, setIfInBounds_toArray, set_cons_zero, set_cons_succ]
      refine Mm.o_callH (v := .int .i64 K1) H (fun W h => h) rfl rfl 37 (#[v, .agg #[.int .i64 s0, .string a, .string sa, .string b, .string sb]]) (by go_simp; first | done | rfl) (c5.out _ (HG.out.to H.out.below) (HI.out.below H.out.below (Nat.le_refl _)) (HK.out.below H.out.below hkp)) ?_
      clear H
      intro _ H hb
      clear hb
      simp only [Act.put, getElem_toArray, getElem_cons_zero, getElem_cons_succ, setIfInBounds_toArray, set_cons_zero, set_cons_succ]
      apply s_val
      case ho | hw => rfl
      case hv => intro w hw; go_simp; first | done | rfl
      simp only [Act.put, getElem_toArray, getElem_cons_zero, getElem_cons_succ, setIfInBounds_toArray, set_cons_zero, set_cons_succ]
      refine Mm.o_callH (v := .int .i64 K2) H (fun W h => h) rfl rfl 37 (#[v, .agg #[.int .i64 s0, .string b, .string sb, .string a, .string sa]]) (by go_simp; first | done | rfl) (c6.out _ (HG.out.to H.out.below) (HI.out.below H.out.below (Nat.le_refl _)) (HK.out.below H.out.below hkp)) ?_
      clear H
      intro _ H hb
      clear hb
      simp only [Act.put, getElem_toArray, getElem_cons_zero, getElem_cons_succ, setIfInBounds_toArray, set_cons_zero, set_cons_succ]
      apply s_val
      case ho | hw => rfl
      case hv => intro w hw; have e0 := HKK.out; go_simp; first | done | rfl
      iterate 2
       simp only [Act.put, getElem_toArray, getElem_cons_zero, getElem_cons_succ, setIfInBounds_toArray, set_cons_zero, set_cons_succ]
       apply s_val
       case ho | hw => rfl
       case hv => intro w hw; go_simp; first | done | rfl
      simp only [Act.put, getElem_toArray, getElem_cons_zero, getElem_cons_succ, setIfInBounds_toArray, set_cons_zero, set_cons_succ]
      refine NoPanic.normal ?_
      go_wp2
      go_ret
      exact ⟨by first | rfl | simp, H.out.below⟩
  | false =>
    rw [pB_no hok, pE_no hok] at c1
    have c2 := hidp (fun W => parse_any W ByteArray.empty (by decide))
    have hpe : pP ByteArray.empty = none := pP_bad (by decide +kernel)
    rw [show ppV ByteArray.empty = zP from by unfold ppV; rw [hpe]; rfl, show ppE ByteArray.empty = 6 from by unfold ppE; rw [hpe]; rfl] at c2
    clear hpe
    clear hok hx
    obtain ⟨s0, a, sa, b, sb⟩ := x
    show Calls Tryz.prog 6 #[v, .agg #[.int .i64 s0, .string a, .string sa, .string b, .string sb], .string s] w _
    have c1 := hidp (show ∀ W, Calls Tryz.prog 33 #[.agg #[.int .i64 s0, .string a, .string sa, .string b, .string sb]] W _ from c1.out)
    have c5 := hidp (show ∀ W, GsAt W v gs → IT W → KT W → Calls Tryz.prog 37 #[v, .agg #[.int .i64 s0, .string a, .string sa, .string b, .string sb]] W _ from c5.out)
    have c6 := hidp (show ∀ W, GsAt W v gs → IT W → KT W → Calls Tryz.prog 37 #[v, .agg #[.int .i64 s0, .string b, .string sb, .string a, .string sa]] W _ from c6.out)
    have c2 := hidp (show ∀ W, Calls Tryz.prog 35 #[.string ByteArray.empty] W (fun e w' => e = .returned (.tuple #[.agg #[.int .i64 0, .string ⟨#[]⟩, .string ⟨#[]⟩, .string ⟨#[]⟩, .string ⟨#[]⟩], .int .i64 6]) ∧ Below W.heap.size W w') from c2.out)
    rcases hpq with ⟨q', E', X', h1, h2, h3, h4, -, -⟩ | h6
    · rw [hq] at h1; subst h1
      rw [hX] at h3; rw [hEX] at h4; subst h3 h4
      rw [h2] at c3
      clear h2 hq hX hEX hs
      go_enter Tryz.func6, Tryz.ntmps6
      have tk0 := hidp trivial
      go_wp2_with (first | (refine Rt.wpL_skip _ _ rfl rfl ?_) | (refine Rt.wpL_skipN _ _ rfl rfl ?_) | (clear tk0; (refine Mm.box 65 H rfl (.tmp 1) rfl [.int .i64 s0, .string a, .string sa, .string b, .string sb] rfl ?_; clear H; intro b4 _ H nw; have hb := nw.below; clear hb nw); (try simp only [Act.put, setIfInBounds_toArray, set_cons_zero, set_cons_succ]); have tk1 := hidp trivial) | (clear tk1; (go_at_call 30; refine (cl.out _ (HI.out.below H.out.below (Nat.le_refl _)) (HK.out.below H.out.below hkp)).mono ?_; rintro e _ ⟨rfl, hb⟩; replace H := hidp (H.out.call hb); clear cl; clear hb); (try simp only [Act.put, setIfInBounds_toArray, set_cons_zero, set_cons_succ]); have tk2 := hidp trivial) | (clear tk2; (refine Mm.get0 rtP H rfl (.tmp 4) rfl rfl rfl ?_); (try simp only [Act.put, setIfInBounds_toArray, set_cons_zero, set_cons_succ]); have tk3 := hidp trivial) | (clear tk3; (go_at_call 33; refine (c1.out _).mono ?_; rintro e _ ⟨rfl, hb⟩; replace H := hidp (H.out.call hb); clear c1; clear hb); (try simp only [Act.put, setIfInBounds_toArray, set_cons_zero, set_cons_succ]); have tk4 := hidp trivial) | (clear tk4; (go_at_call 35; refine (c2.out _).mono ?_; rintro e _ ⟨rfl, hb⟩; replace H := hidp (H.out.call hb); clear c2; clear hb); (try simp only [Act.put, setIfInBounds_toArray, set_cons_zero, set_cons_succ]); have tk5 := hidp trivial) | (clear tk5; (refine Mm.new rtP H (some 9) rfl rfl rfl ?_; clear H; intro b9 _ H nw; have hb := nw.below; clear hb nw); (try simp only [Act.put, setIfInBounds_toArray, set_cons_zero, set_cons_succ]); have tk6 := hidp trivial) | (clear tk6; (refine Mm.put0 rtP H rfl (.tmp 9) (.tmp 26) [.int .i64 0, .string ⟨#[]⟩, .string ⟨#[]⟩, .string ⟨#[]⟩, .string ⟨#[]⟩] rfl rfl rfl rfl (by simp [Value.oneCell']) rfl ?_; intro _ H2 st; clear st H; have H := H2; clear H2); (try simp only [Act.put, setIfInBounds_toArray, set_cons_zero, set_cons_succ]); have tk7 := hidp trivial) | (clear tk7; (go_at_call 35; refine (c3.out _).mono ?_; rintro e _ ⟨rfl, hb⟩; replace H := hidp (H.out.call hb); clear c3; clear hb); (try simp only [Act.put, setIfInBounds_toArray, set_cons_zero, set_cons_succ]); have tk8 := hidp trivial) | (clear tk8; (refine Mm.new rtP H (some 11) rfl rfl rfl ?_; clear H; intro b11 _ H nw; have hb := nw.below; clear hb nw); (try simp only [Act.put, setIfInBounds_toArray, set_cons_zero, set_cons_succ]); have tk9 := hidp trivial) | (clear tk9; (refine Mm.put0 rtP H rfl (.tmp 11) (.tmp 31) q.row rfl rfl rfl rfl (Pr.one q) rfl ?_; intro _ H2 st; clear st H; have H := H2; clear H2); (try simp only [Act.put, setIfInBounds_toArray, set_cons_zero, set_cons_succ]); have tk10 := hidp trivial) | (clear tk10; (refine Mm.get0 rtP H rfl (.tmp 11) rfl rfl rfl ?_); (try simp only [Act.put, setIfInBounds_toArray, set_cons_zero, set_cons_succ]); have tk11 := hidp trivial) | (clear tk11; (go_at_call 33; refine (c4.out _).mono ?_; rintro e _ ⟨rfl, hb⟩; replace H := hidp (H.out.call hb); clear c4; clear hb); (try simp only [Act.put, setIfInBounds_toArray, set_cons_zero, set_cons_succ]); have tk12 := hidp trivial) | (clear tk12; (refine Mm.ld2 En.naI H rfl (.tmp 62) 0 (.int .i64 s0) rfl rfl rfl ?_); (try simp only [Act.put, setIfInBounds_toArray, set_cons_zero, set_cons_succ]); have tk13 := hidp trivial) | (clear tk13; (refine Mm.ld2 En.naS H rfl (.tmp 64) 3 (.string b) rfl rfl rfl ?_); (try simp only [Act.put, setIfInBounds_toArray, set_cons_zero, set_cons_succ]); have tk14 := hidp trivial) | (clear tk14; (refine Mm.ld2 En.naS H rfl (.tmp 66) 4 (.string sb) rfl rfl rfl ?_); (try simp only [Act.put, setIfInBounds_toArray, set_cons_zero, set_cons_succ]); have tk15 := hidp trivial) | (clear tk15; (refine Mm.ld2 En.naS H rfl (.tmp 68) 1 (.string a) rfl rfl rfl ?_); (try simp only [Act.put, setIfInBounds_toArray, set_cons_zero, set_cons_succ]); have tk16 := hidp trivial) | (clear tk16; (refine Mm.ld2 En.naS H rfl (.tmp 70) 2 (.string sa) rfl rfl rfl ?_); (try simp only [Act.put, setIfInBounds_toArray, set_cons_zero, set_cons_succ]); have tk17 := hidp trivial) | (clear tk17; (refine Rt.wpL_build rfl 65 _ rfl [.int .i64 s0, .string b, .string sb, .string a, .string sa] (by kernel_rfl) ?_); (try simp only [Act.put, setIfInBounds_toArray, set_cons_zero, set_cons_succ]); have tk18 := hidp trivial) | (clear tk18; (refine Mm.new rtP H (some 15) rfl rfl rfl ?_; clear H; intro b15 _ H nw; have hb := nw.below; clear hb nw); (try simp only [Act.put, setIfInBounds_toArray, set_cons_zero, set_cons_succ]); have tk19 := hidp trivial) | (clear tk19; (refine Mm.put0 rtP H rfl (.tmp 15) (.tmp 72) [.int .i64 s0, .string b, .string sb, .string a, .string sa] rfl rfl rfl rfl (by simp [Value.oneCell']) rfl ?_; intro _ H2 st; clear st H; have H := H2; clear H2); (try simp only [Act.put, setIfInBounds_toArray, set_cons_zero, set_cons_succ]); have tk20 := hidp trivial))
      try clear tk20
      refine Mm.region H (.take 0 (.take 1 (.take 4 (.take 5 (.one 2 (.take 3 (.one 6 (.take 7 (.take 8 (.take 9 .done)))))))))) (by kernel_rfl) (by kernel_rfl) (by simp [Scr.depth]) (by kernel_rfl) ?_
      clear H
      intro _ H hb
      clear hb
      apply s_val
      case ho | hw => rfl
      case hv => intro w hw; go_simp; first | done | rfl
      simp only [Act.put, getElem_toArray, getElem_cons_zero, getElem_cons_succ, setIfInBounds_toArray, set_cons_zero, set_cons_succ]
      refine Mm.sget3 rtP (fun w h => h) rfl rfl (.tmp 4) rfl rfl rfl ?_
      simp only [Act.put, getElem_toArray, getElem_cons_zero, getElem_cons_succ, setIfInBounds_toArray, set_cons_zero, set_cons_succ]
      apply s_val
      case ho | hw => rfl
      case hv => intro w hw; go_simp; first | done | rfl
      simp only [Act.put, getElem_toArray, getElem_cons_zero, getElem_cons_succ, setIfInBounds_toArray, set_cons_zero, set_cons_succ]
      refine Mm.sget0 rtP (fun w h => h) rfl rfl (.tmp 15) rfl rfl rfl ?_
      simp only [Act.put, getElem_toArray, getElem_cons_zero, getElem_cons_succ, setIfInBounds_toArray, set_cons_zero, set_cons_succ]
      refine Mm.o_callH (v := .int .i64 K1) H (fun W h => h) rfl rfl 37 (#[v, .agg #[.int .i64 s0, .string a, .string sa, .string b, .string sb]]) (by go_simp; first | done | rfl) (c5.out _ (HG.out.to H.out.below) (HI.out.below H.out.below (Nat.le_refl _)) (HK.out.below H.out.below hkp)) ?_
      clear H
      intro _ H hb
      clear hb
      simp only [Act.put, getElem_toArray, getElem_cons_zero, getElem_cons_succ, setIfInBounds_toArray, set_cons_zero, set_cons_succ]
      apply s_val
      case ho | hw => rfl
      case hv => intro w hw; go_simp; first | done | rfl
      simp only [Act.put, getElem_toArray, getElem_cons_zero, getElem_cons_succ, setIfInBounds_toArray, set_cons_zero, set_cons_succ]
      refine Mm.o_callH (v := .int .i64 K2) H (fun W h => h) rfl rfl 37 (#[v, .agg #[.int .i64 s0, .string b, .string sb, .string a, .string sa]]) (by go_simp; first | done | rfl) (c6.out _ (HG.out.to H.out.below) (HI.out.below H.out.below (Nat.le_refl _)) (HK.out.below H.out.below hkp)) ?_
      clear H
      intro _ H hb
      clear hb
      simp only [Act.put, getElem_toArray, getElem_cons_zero, getElem_cons_succ, setIfInBounds_toArray, set_cons_zero, set_cons_succ]
      apply s_val
      case ho | hw => rfl
      case hv => intro w hw; have e0 := HKK.out; go_simp; first | done | rfl
      iterate 2
       simp only [Act.put, getElem_toArray, getElem_cons_zero, getElem_cons_succ, setIfInBounds_toArray, set_cons_zero, set_cons_succ]
       apply s_val
       case ho | hw => rfl
       case hv => intro w hw; go_simp; first | done | rfl
      simp only [Act.put, getElem_toArray, getElem_cons_zero, getElem_cons_succ, setIfInBounds_toArray, set_cons_zero, set_cons_succ]
      refine NoPanic.normal ?_
      go_wp2
      go_ret
      exact ⟨by first | rfl | simp, H.out.below⟩
    · rw [h6] at c3
      clear h6 hq hX hEX hs
      go_enter Tryz.func6, Tryz.ntmps6
      have tk0 := hidp trivial
      go_wp2_with (first | (refine Rt.wpL_skip _ _ rfl rfl ?_) | (refine Rt.wpL_skipN _ _ rfl rfl ?_) | (clear tk0; (refine Mm.box 65 H rfl (.tmp 1) rfl [.int .i64 s0, .string a, .string sa, .string b, .string sb] rfl ?_; clear H; intro b4 _ H nw; have hb := nw.below; clear hb nw); (try simp only [Act.put, setIfInBounds_toArray, set_cons_zero, set_cons_succ]); have tk1 := hidp trivial) | (clear tk1; (go_at_call 30; refine (cl.out _ (HI.out.below H.out.below (Nat.le_refl _)) (HK.out.below H.out.below hkp)).mono ?_; rintro e _ ⟨rfl, hb⟩; replace H := hidp (H.out.call hb); clear cl; clear hb); (try simp only [Act.put, setIfInBounds_toArray, set_cons_zero, set_cons_succ]); have tk2 := hidp trivial) | (clear tk2; (refine Mm.get0 rtP H rfl (.tmp 4) rfl rfl rfl ?_); (try simp only [Act.put, setIfInBounds_toArray, set_cons_zero, set_cons_succ]); have tk3 := hidp trivial) | (clear tk3; (go_at_call 33; refine (c1.out _).mono ?_; rintro e _ ⟨rfl, hb⟩; replace H := hidp (H.out.call hb); clear c1; clear hb); (try simp only [Act.put, setIfInBounds_toArray, set_cons_zero, set_cons_succ]); have tk4 := hidp trivial) | (clear tk4; (go_at_call 35; refine (c2.out _).mono ?_; rintro e _ ⟨rfl, hb⟩; replace H := hidp (H.out.call hb); clear c2; clear hb); (try simp only [Act.put, setIfInBounds_toArray, set_cons_zero, set_cons_succ]); have tk5 := hidp trivial) | (clear tk5; (refine Mm.new rtP H (some 9) rfl rfl rfl ?_; clear H; intro b9 _ H nw; have hb := nw.below; clear hb nw); (try simp only [Act.put, setIfInBounds_toArray, set_cons_zero, set_cons_succ]); have tk6 := hidp trivial) | (clear tk6; (refine Mm.put0 rtP H rfl (.tmp 9) (.tmp 26) [.int .i64 0, .string ⟨#[]⟩, .string ⟨#[]⟩, .string ⟨#[]⟩, .string ⟨#[]⟩] rfl rfl rfl rfl (by simp [Value.oneCell']) rfl ?_; intro _ H2 st; clear st H; have H := H2; clear H2); (try simp only [Act.put, setIfInBounds_toArray, set_cons_zero, set_cons_succ]); have tk7 := hidp trivial) | (clear tk7; (go_at_call 35; refine (c3.out _).mono ?_; rintro e _ ⟨rfl, hb⟩; replace H := hidp (H.out.call hb); clear c3; clear hb); (try simp only [Act.put, setIfInBounds_toArray, set_cons_zero, set_cons_succ]); have tk8 := hidp trivial) | (clear tk8; (refine Mm.new rtP H (some 11) rfl rfl rfl ?_; clear H; intro b11 _ H nw; have hb := nw.below; clear hb nw); (try simp only [Act.put, setIfInBounds_toArray, set_cons_zero, set_cons_succ]); have tk9 := hidp trivial) | (clear tk9; (refine Mm.put0 rtP H rfl (.tmp 11) (.tmp 31) q.row rfl rfl rfl rfl (Pr.one q) rfl ?_; intro _ H2 st; clear st H; have H := H2; clear H2); (try simp only [Act.put, setIfInBounds_toArray, set_cons_zero, set_cons_succ]); have tk10 := hidp trivial) | (clear tk10; (refine Mm.get0 rtP H rfl (.tmp 11) rfl rfl rfl ?_); (try simp only [Act.put, setIfInBounds_toArray, set_cons_zero, set_cons_succ]); have tk11 := hidp trivial) | (clear tk11; (go_at_call 33; refine (c4.out _).mono ?_; rintro e _ ⟨rfl, hb⟩; replace H := hidp (H.out.call hb); clear c4; clear hb); (try simp only [Act.put, setIfInBounds_toArray, set_cons_zero, set_cons_succ]); have tk12 := hidp trivial) | (clear tk12; (refine Mm.ld2 En.naI H rfl (.tmp 62) 0 (.int .i64 s0) rfl rfl rfl ?_); (try simp only [Act.put, setIfInBounds_toArray, set_cons_zero, set_cons_succ]); have tk13 := hidp trivial) | (clear tk13; (refine Mm.ld2 En.naS H rfl (.tmp 64) 3 (.string b) rfl rfl rfl ?_); (try simp only [Act.put, setIfInBounds_toArray, set_cons_zero, set_cons_succ]); have tk14 := hidp trivial) | (clear tk14; (refine Mm.ld2 En.naS H rfl (.tmp 66) 4 (.string sb) rfl rfl rfl ?_); (try simp only [Act.put, setIfInBounds_toArray, set_cons_zero, set_cons_succ]); have tk15 := hidp trivial) | (clear tk15; (refine Mm.ld2 En.naS H rfl (.tmp 68) 1 (.string a) rfl rfl rfl ?_); (try simp only [Act.put, setIfInBounds_toArray, set_cons_zero, set_cons_succ]); have tk16 := hidp trivial) | (clear tk16; (refine Mm.ld2 En.naS H rfl (.tmp 70) 2 (.string sa) rfl rfl rfl ?_); (try simp only [Act.put, setIfInBounds_toArray, set_cons_zero, set_cons_succ]); have tk17 := hidp trivial) | (clear tk17; (refine Rt.wpL_build rfl 65 _ rfl [.int .i64 s0, .string b, .string sb, .string a, .string sa] (by kernel_rfl) ?_); (try simp only [Act.put, setIfInBounds_toArray, set_cons_zero, set_cons_succ]); have tk18 := hidp trivial) | (clear tk18; (refine Mm.new rtP H (some 15) rfl rfl rfl ?_; clear H; intro b15 _ H nw; have hb := nw.below; clear hb nw); (try simp only [Act.put, setIfInBounds_toArray, set_cons_zero, set_cons_succ]); have tk19 := hidp trivial) | (clear tk19; (refine Mm.put0 rtP H rfl (.tmp 15) (.tmp 72) [.int .i64 s0, .string b, .string sb, .string a, .string sa] rfl rfl rfl rfl (by simp [Value.oneCell']) rfl ?_; intro _ H2 st; clear st H; have H := H2; clear H2); (try simp only [Act.put, setIfInBounds_toArray, set_cons_zero, set_cons_succ]); have tk20 := hidp trivial))
      try clear tk20
      refine Mm.region H (.take 0 (.take 1 (.take 4 (.take 5 (.one 2 (.take 3 (.one 6 (.take 7 (.take 8 (.take 9 .done)))))))))) (by kernel_rfl) (by kernel_rfl) (by simp [Scr.depth]) (by kernel_rfl) ?_
      clear H
      intro _ H hb
      clear hb
      apply s_val
      case ho | hw => rfl
      case hv => intro w hw; go_simp; first | done | rfl
      simp only [Act.put, getElem_toArray, getElem_cons_zero, getElem_cons_succ, setIfInBounds_toArray, set_cons_zero, set_cons_succ]
      refine Mm.sget3 rtP (fun w h => h) rfl rfl (.tmp 4) rfl rfl rfl ?_
      simp only [Act.put, getElem_toArray, getElem_cons_zero, getElem_cons_succ, setIfInBounds_toArray, set_cons_zero, set_cons_succ]
      apply s_val
      case ho | hw => rfl
      case hv => intro w hw; go_simp; first | done | rfl
      simp only [Act.put, getElem_toArray, getElem_cons_zero, getElem_cons_succ, setIfInBounds_toArray, set_cons_zero, set_cons_succ]
      refine Mm.sget0 rtP (fun w h => h) rfl rfl (.tmp 15) rfl rfl rfl ?_
      simp only [Act.put, getElem_toArray, getElem_cons_zero, getElem_cons_succ, setIfInBounds_toArray, set_cons_zero, set_cons_succ]
      refine Mm.o_callH (v := .int .i64 K1) H (fun W h => h) rfl rfl 37 (#[v, .agg #[.int .i64 s0, .string a, .string sa, .string b, .string sb]]) (by go_simp; first | done | rfl) (c5.out _ (HG.out.to H.out.below) (HI.out.below H.out.below (Nat.le_refl _)) (HK.out.below H.out.below hkp)) ?_
      clear H
      intro _ H hb
      clear hb
      simp only [Act.put, getElem_toArray, getElem_cons_zero, getElem_cons_succ, setIfInBounds_toArray, set_cons_zero, set_cons_succ]
      apply s_val
      case ho | hw => rfl
      case hv => intro w hw; go_simp; first | done | rfl
      simp only [Act.put, getElem_toArray, getElem_cons_zero, getElem_cons_succ, setIfInBounds_toArray, set_cons_zero, set_cons_succ]
      refine Mm.o_callH (v := .int .i64 K2) H (fun W h => h) rfl rfl 37 (#[v, .agg #[.int .i64 s0, .string b, .string sb, .string a, .string sa]]) (by go_simp; first | done | rfl) (c6.out _ (HG.out.to H.out.below) (HI.out.below H.out.below (Nat.le_refl _)) (HK.out.below H.out.below hkp)) ?_
      clear H
      intro _ H hb
      clear hb
      simp only [Act.put, getElem_toArray, getElem_cons_zero, getElem_cons_succ, setIfInBounds_toArray, set_cons_zero, set_cons_succ]
      apply s_val
      case ho | hw => rfl
      case hv => intro w hw; have e0 := HKK.out; go_simp; first | done | rfl
      iterate 2
       simp only [Act.put, getElem_toArray, getElem_cons_zero, getElem_cons_succ, setIfInBounds_toArray, set_cons_zero, set_cons_succ]
       apply s_val
       case ho | hw => rfl
       case hv => intro w hw; go_simp; first | done | rfl
      simp only [Act.put, getElem_toArray, getElem_cons_zero, getElem_cons_succ, setIfInBounds_toArray, set_cons_zero, set_cons_succ]
      refine NoPanic.normal ?_
      go_wp2
      go_ret
      exact ⟨by first | rfl | simp, H.out.below⟩
end Go.Proofs.YtokakgjcegmabaaGreatDoor.Pf
