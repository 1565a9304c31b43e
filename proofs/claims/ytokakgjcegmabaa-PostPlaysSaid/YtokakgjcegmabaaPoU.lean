/-
  The document's boxes: Done.
-/
import Derived.Test.YtokakgjcegmabaaPoT
namespace Go.Proofs.Ytokakgjcegmabaa.Po
set_option maxRecDepth 100000
set_option linter.unusedVariables false
set_option linter.unusedSimpArgs false
open Go.RowKit
open List (getElem_toArray getElem_cons_zero getElem_cons_succ setIfInBounds_toArray set_cons_zero set_cons_succ)

open Go.Conc Go.Shelf Rw
theorem dn_len (L : List Lt) (i : Int) : (dnL L i).length + (L.filter fun x => x.id == i).length = L.length := by
  induction L with
  | nil => rfl
  | cons x l ih =>
    unfold dnL at ih ⊢
    cases h : (x.id == i) <;> simp [h] <;> omega
theorem dn_all {L : List Lt} {i : Int} (h : (dnL L i).length = L.length) : dnE L i = 3 ∧ dnL L i = L := by
  have := dn_len L i
  refine ⟨if_pos (by omega), ?_⟩
  unfold dnL at h ⊢
  exact (List.filter_sublist (l := L)).eq_of_length h
theorem dn_some {L : List Lt} {i : Int} (h : ¬ (dnL L i).length = L.length) : dnE L i = 0 := by
  have := dn_len L i
  exact if_neg (by omega)
/-- Rows of a type, anywhere in memory. -/
def Ts (T k : Nat) (w : World) (v : Value) (es : List (List Value)) : Prop := AllK k es ∧ ((v = .slice none 0 0 ∧ es = []) ∨ ∃ B o c cur fz, v = .slice (some ⟨B, o, none⟩) es.length c ∧ es.length ≤ c ∧ w.heap[B]? = some (.cells cur T fz) ∧ w.rangeAt B o es.flatten)
theorem Ts.rs {T k : Nat} {w : World} {v : Value} {es : List (List Value)} (h : Ts T k w v es) : RsAt k w v es := by
  rcases h.2 with ⟨e, h0⟩ | ⟨B, o, c, cur, fz, e, hc, hB, hr⟩
  · exact ⟨h.1, .inl ⟨e, h0⟩⟩
  · exact ⟨h.1, .inr ⟨B, o, c, e, hc, (Array.getElem?_eq_some_iff.1 hB).1, hr⟩⟩
theorem Ts.own {T k : Nat} {w : World} {B : Nat} {v : Value} {es : List (List Value)} (h : OwnR T k w B v es) : Ts T k w v es := by
  have hr := h.rs
  rcases h.2.2 with ⟨e, h0⟩ | ⟨g, cap, cur, e, hB, hg, h1, h2, h3, h4⟩
  · exact ⟨h.1, .inl ⟨e, List.eq_nil_of_length_eq_zero h0⟩⟩
  · refine ⟨h.1, .inr ⟨g, 0, cap, cur, _, e, h1, hg, ?_⟩⟩
    rcases hr.2 with ⟨e2, _⟩ | ⟨B2, o2, c2, e2, _, _, hr2⟩
    · rw [e] at e2; cases e2
    · rw [e] at e2
      injection e2 with e3 _ _
      injection e3 with e3
      injection e3 with e4 e5 _
      rw [e4, e5]; exact hr2
theorem Ts.same {T k : Nat} {w W : World} {v : Value} {es : List (List Value)} (h : Ts T k w v es) (hs : ∀ (g : Nat) (cur : Array Value) (fz : Nat × Nat), w.heap[g]? = some (.cells cur T fz) → W.heap[g]? = w.heap[g]?) : Ts T k W v es := by
  rcases h.2 with h0 | ⟨B, o, c, cur, fz, e, hc, hB, hr⟩
  · exact ⟨h.1, .inl h0⟩
  · refine ⟨h.1, .inr ⟨B, o, c, cur, fz, e, hc, (hs _ _ _ hB).trans hB, fun j u hj => ?_⟩⟩
    rw [World.cell?_of_block (a := ⟨B, o + j, none⟩) (hs _ _ _ hB)]
    exact hr j u hj
theorem Ts.to {T k : Nat} {w W : World} {v : Value} {es : List (List Value)} (h : Ts T k w v es) (hb : Below w.heap.size w W) : Ts T k W v es := h.same fun g _ _ hg => hb.block g (Array.getElem?_eq_some_iff.1 hg).1
theorem Ts.stp {T k b t : Nat} {w W : World} {v : Value} {es : List (List Value)} {xs : List Value} (h : Ts T k w v es) (st : Rt.Stp b w W) (ha : Arr w b t xs) (hne : t ≠ T) : Ts T k W v es := h.same fun g _ _ hg => st.other g (fun e => by subst e; rw [show w.heap[g]? = _ from ha] at hg; cases hg; exact hne rfl)
theorem Ts.pk {T k b c cap : Nat} {w W : World} {v : Value} {es : List (List Value)} {L : List Lt} {gap last lost : Int} (h : Ts T k w v es) (hp : PostAt w b c cap L gap last lost) (hk : Pk b c w W) (hT : T ≠ 90 := by decide) : Ts T k W v es := h.same fun g _ _ hg => hk.same g (Array.getElem?_eq_some_iff.1 hg).1 (fun e => by subst e; rw [show w.heap[g]? = _ from hp.arr] at hg; cases hg; exact hT rfl) (fun e => by subst e; obtain ⟨s, r, h1⟩ := hp.ch; rw [hg] at h1; cases h1)
set_option maxHeartbeats 16000000 in
theorem rdone_any (w : World) (room gap : Int) (v : Value) (L : List Lt) (hvt : Ts 92 4 w v (ones L)) (hL : L.length ≤ 1048575) (last lost : Int) (j : Int) : Calls Try.prog 30 #[.agg (dR room gap v last lost).toArray, .int .i64 j] w fun e w' => ∃ v', e = .returned (.tuple #[.agg (dR room gap v' last lost).toArray, .int .i64 (dnE L j)]) ∧ Ts 92 4 w' v' (ones (dnL L j)) ∧ Below w.heap.size w w' := by
  have hv := hvt.rs
  have HV := hidp hv; have HT := hidp hvt
  have H := hidp (Mm.M.nil w)
  obtain ⟨a, cv, hva⟩ := hv.form
  rw [ones_len] at hva
  obtain ⟨n, hn⟩ : ∃ n, L.length = n := ⟨_, rfl⟩
  have HN := hidp hn
  rw [hn] at hva hL
  subst hva
  clear hv hn hvt
  go_enter Try.func30, Try.ntmps30
  have tk0 := hidp trivial
  go_wp2_with (first | (clear tk0; (refine Mm.box 54 H rfl (.tmp 0) rfl (dR room gap (.slice a n cv) last lost) rfl ?_; clear H; intro b2 _ H nw; have hb := nw.below; clear hb nw); (try simp only [Act.put, setIfInBounds_toArray, set_cons_zero, set_cons_succ]); have tk1 := hidp trivial) | (clear tk1; (refine Mm.new rtD H (some 4) rfl rfl rfl ?_; clear H; intro b4 _ H nw; have hb := nw.below; clear hb nw); (try simp only [Act.put, setIfInBounds_toArray, set_cons_zero, set_cons_succ]); have tk2 := hidp trivial) | (clear tk2; (refine Mm.ld1 na1S H rfl (.tmp 9) 2 _ rfl rfl rfl ?_); (try simp only [Act.put, setIfInBounds_toArray, set_cons_zero, set_cons_succ]); have tk3 := hidp trivial))
  try clear tk3
  have HM0 := hidp H.out
  go_loopw [6, 12] (fun t6 t12 wr => ∃ (i : Nat) (v6 : Value), t12 = .int .i64 (i : Int) ∧ v6 = t6 ∧ i ≤ n ∧ OwnR 92 4 wr w.heap.size v6 (ones (dnL (L.take i) j)) ∧ Mm.M w.heap.size w wr [⟨b4, 54, zD⟩, ⟨b2, 54, dR room gap (.slice a n cv) last lost⟩]) (fun _ t12 _ => n - (intOf t12).toNat)
  case atStart => exact ⟨0, _, rfl, rfl, by omega, by rw [List.take_zero]; exact OwnR.nil _ _, HM0.out⟩
  case round =>
    obtain ⟨i, v6, rfl, rfl, hi, ho, hm⟩ := hrel
    have HO := hidp ho; have HM := hidp hm; have HB := hidp hm.below
    clear ho hm H HM0
    by_cases hlt : i < n
    · -- a round
      have e1 : decide ((i : Int) < (n : Int)) = true := by simp; omega
      have hgl : i < L.length := by rw [HN.out]; exact hlt
      obtain ⟨BK, off, c, e2, hc, hBK, hR0⟩ := HV.out.get (by rw [ones_len, HN.out]; omega)
      rw [ones_len, HN.out] at e2
      simp only [Value.slice.injEq] at e2
      obtain ⟨rfl, -, rfl⟩ := e2
      obtain ⟨x, hge⟩ : ∃ x, L[i] = x := ⟨_, rfl⟩
      have HRI := hidp (show wr.rangeAt BK (off + 4 * i) x.one4 from by
        have := rAt_nth hR0 (ones_all L) i (by rw [ones_len]; exact hgl)
        rw [show (ones L)[i]'(by rw [ones_len]; exact hgl) = x.one4 from by simp [ones, hge]] at this
        exact rangeAt_below this HB.out hBK)
      have hml := hidp (show (ones (dnL (L.take i) j)).length + 1 ≤ 1048576 from by rw [ones_len]; have h1 : (dnL (L.take i) j).length ≤ (L.take i).length := List.length_filter_le _ _; rw [List.length_take] at h1; have := HN.out; omega)
      have htk : L.take (i + 1) = L.take i ++ [x] := by rw [List.take_add_one, List.getElem?_eq_getElem hgl, hge]; rfl
      have H := hidp (Mm.M.nil wr)
      clear hR0 hc
      cases he : (x.id == j) with
      | true =>
        have HS := hidp (show dnL (L.take (i + 1)) j = dnL (L.take i) j from by rw [htk]; unfold dnL; rw [List.filter_append]; simp [he])
        have en : (x.id != j) = false := by simp [bne, he]
        clear hge hgl htk he
        have tk0 := hidp trivial
        go_wp2_with (first | (clear tk0; (refine wpL_idxR ty1 rfl (.tmp 10) (.tmp 12) rfl BK off n _ i rfl rfl hlt ?_); (try simp only [Act.put, setIfInBounds_toArray, set_cons_zero, set_cons_succ]); have tk1 := hidp trivial) | (clear tk1; (refine wpL_atR ty1 rfl (.tmp 14) rfl BK (off + 4 * i) x.one4 rfl rfl HRI.out ?_); (try simp only [Act.put, setIfInBounds_toArray, set_cons_zero, set_cons_succ]); have tk2 := hidp trivial) | (clear tk2; (refine Mm.new rt1 H (some 8) rfl rfl rfl ?_; clear H; intro b8 _ H nw; clear nw); (try simp only [Act.put, setIfInBounds_toArray, set_cons_zero, set_cons_succ]); have tk3 := hidp trivial) | (clear tk3; (refine Mm.put0 rt1 H rfl (.tmp 8) (.tmp 15) x.one4 rfl rfl rfl rfl (Lt.one41 x) rfl ?_; intro _ H2 st; clear st H; have H := H2; clear H2); (try simp only [Act.put, setIfInBounds_toArray, set_cons_zero, set_cons_succ]); have tk4 := hidp trivial) | (clear tk4; (refine Mm.ld0 naI H rfl (.tmp 17) 0 (.int .i64 x.id) rfl rfl rfl ?_); (try simp only [Act.put, setIfInBounds_toArray, set_cons_zero, set_cons_succ]); have tk5 := hidp trivial))
        try clear tk5
        exact ⟨⟨i + 1, _, by go_num, rfl, by omega, by rw [HS.out]; exact HO.out.to H.out.below (Nat.le_refl _), HM.out.call H.out.below⟩, by simp [intOf]; omega⟩
      | false =>
        have HS := hidp (show ones (dnL (L.take (i + 1)) j) = ones (dnL (L.take i) j) ++ [x.one4] from by rw [htk]; unfold dnL; rw [List.filter_append]; simp [he, ones])
        have en : (x.id != j) = true := by simp [bne, he]
        clear hge hgl htk he
        have tk0 := hidp trivial
        go_wp2_with (first | (clear tk0; (refine wpL_idxR ty1 rfl (.tmp 10) (.tmp 12) rfl BK off n _ i rfl rfl hlt ?_); (try simp only [Act.put, setIfInBounds_toArray, set_cons_zero, set_cons_succ]); have tk1 := hidp trivial) | (clear tk1; (refine wpL_atR ty1 rfl (.tmp 14) rfl BK (off + 4 * i) x.one4 rfl rfl HRI.out ?_); (try simp only [Act.put, setIfInBounds_toArray, set_cons_zero, set_cons_succ]); have tk2 := hidp trivial) | (clear tk2; (refine Mm.new rt1 H (some 8) rfl rfl rfl ?_; clear H; intro b8 _ H nw; clear nw); (try simp only [Act.put, setIfInBounds_toArray, set_cons_zero, set_cons_succ]); have tk3 := hidp trivial) | (clear tk3; (refine Mm.put0 rt1 H rfl (.tmp 8) (.tmp 15) x.one4 rfl rfl rfl rfl (Lt.one41 x) rfl ?_; intro _ H2 st; clear st H; have H := H2; clear H2); (try simp only [Act.put, setIfInBounds_toArray, set_cons_zero, set_cons_succ]); have tk4 := hidp trivial) | (clear tk4; (refine Mm.ld0 naI H rfl (.tmp 17) 0 (.int .i64 x.id) rfl rfl rfl ?_); (try simp only [Act.put, setIfInBounds_toArray, set_cons_zero, set_cons_succ]); have tk5 := hidp trivial) | (clear tk5; (refine Mm.get0 rt1 H rfl (.tmp 8) rfl rfl rfl ?_); (try simp only [Act.put, setIfInBounds_toArray, set_cons_zero, set_cons_succ]); have tk6 := hidp trivial) | (clear tk6; (refine wpL_bs1R ty1 rfl _ rfl x.one4 rfl rfl ?_; intro g1 _ nw; have HG := hidp nw.arr; replace H := hidp (H.out.call nw.below); clear nw); (try simp only [Act.put, setIfInBounds_toArray, set_cons_zero, set_cons_succ]); have tk7 := hidp trivial) | (clear tk7; (refine wpL_app1R ty1 rfl (.tmp 21) (.tmp 23) rfl w.heap.size g1 v6 (ones (dnL (L.take i) j)) x.one4 rfl rfl (HO.out.to H.out.below (Nat.le_refl _)) HG.out (Lt.one41 x) rfl (Nat.le_trans HB.out.size H.out.below.size) hml.out ?_; intro v2 W2 ho2 hg2; have HG2 := hidp hg2; have HO2 := hidp ho2; have HOX := hidp (HO.out.to H.out.below (Nat.le_refl _)); clear ho2 hg2); (try simp only [Act.put, setIfInBounds_toArray, set_cons_zero, set_cons_succ]); have tk8 := hidp trivial))
        try clear tk8
        have HM2 := hidp (grownM (HM.out.call H.out.below) HOX.out HG2.out (Nat.le_refl _) (by intro x hx; simp at hx; rcases hx with rfl | rfl <;> exact (show 54 ≠ 92 from by decide)))
        exact ⟨⟨i + 1, _, by go_num, rfl, by omega, by rw [HS.out]; exact HO2.out, HM2.out⟩, by simp [intOf]; omega⟩
    · have e1 : decide ((i : Int) < (n : Int)) = false := by simp; omega
      have HX := hidp (show L.take i = L from by rw [List.take_of_length_le]; have := HN.out; omega)
      rw [HX.out] at HO
      obtain ⟨a6, c6, hv6⟩ := OwnR.rs HO.out |>.form
      rw [ones_len] at hv6
      obtain ⟨m, hm⟩ : ∃ m, (dnL L j).length = m := ⟨_, rfl⟩
      have HMM := hidp hm
      rw [hm] at hv6
      have H := HM
      clear HM hm
      subst hv6
      by_cases hmn : m = n
      · have hq := hidp (dn_all (L := L) (i := j) (by rw [HMM.out, HN.out]; exact hmn))
        have e5 : ((m : Int) == (n : Int)) = true := by rw [hmn]; simp
        have hone := RsAt.oneC HV.out
        clear hmn
        have tk0 := hidp trivial
        go_wp2_with (first | (clear tk0; (refine Mm.ld1 na1S H rfl (.tmp 28) 2 _ rfl rfl rfl ?_); (try simp only [Act.put, setIfInBounds_toArray, set_cons_zero, set_cons_succ]); have tk1 := hidp trivial) | (clear tk1; (refine Mm.get1 rtD H rfl (.tmp 2) rfl rfl rfl ?_); (try simp only [Act.put, setIfInBounds_toArray, set_cons_zero, set_cons_succ]); have tk2 := hidp trivial) | (clear tk2; (refine Mm.put0 rtD H rfl (.tmp 4) (.tmp 32) (dR room gap (.slice a n cv) last lost) rfl rfl rfl rfl (dR_one hone) rfl ?_; intro _ H2 st; clear st H; have H := H2; clear H2); (try simp only [Act.put, setIfInBounds_toArray, set_cons_zero, set_cons_succ]); have tk3 := hidp trivial))
        try clear tk3
        refine bodyPost_ret (Mm.ret_rowv rtD Try.results30 _ b4 _ _ rfl rfl H.out.at0 rfl) rfl ⟨_, by rw [hq.out.1]; rfl, by rw [hq.out.2]; exact HT.out.to H.out.below, H.out.below⟩
      · have hq := hidp (dn_some (L := L) (i := j) (by rw [HMM.out, HN.out]; exact hmn))
        have e5 : ((m : Int) == (n : Int)) = false := by rw [beq_eq_false_iff_ne]; omega
        clear hmn
        have tk0 := hidp trivial
        go_wp2_with (first | (clear tk0; (refine Mm.ld1 na1S H rfl (.tmp 28) 2 _ rfl rfl rfl ?_); (try simp only [Act.put, setIfInBounds_toArray, set_cons_zero, set_cons_succ]); have tk1 := hidp trivial) | (clear tk1; (refine Mm.putF1 H rfl 52 (.tmp 34) (.tmp 33) 2 (.slice a6 m c6) rfl rfl rfl (by kernel_rfl) rfl (of_decide_eq_true rfl) ?_; intro _ H2 st; replace HO := hidp (OwnR.stpR HO.out st H.out.at1 (by decide)); clear st H; have H : Hid (Mm.M w.heap.size w _ ([⟨b4, 54, zD⟩, ⟨b2, 54, (dR room gap (.slice a6 m c6) last lost)⟩])) := H2; clear H2); (try simp only [Act.put, setIfInBounds_toArray, set_cons_zero, set_cons_succ]); have tk2 := hidp trivial) | (clear tk2; (refine Mm.get1 rtD H rfl (.tmp 2) rfl rfl rfl ?_); (try simp only [Act.put, setIfInBounds_toArray, set_cons_zero, set_cons_succ]); have tk3 := hidp trivial) | (clear tk3; (refine Mm.put0 rtD H rfl (.tmp 4) (.tmp 35) (dR room gap (.slice a6 m c6) last lost) rfl rfl rfl rfl (dR_one rfl) rfl ?_; intro _ H2 st; replace HO := hidp (OwnR.stpR HO.out st H.out.at0 (by decide)); clear st H; have H := H2; clear H2); (try simp only [Act.put, setIfInBounds_toArray, set_cons_zero, set_cons_succ]); have tk4 := hidp trivial))
        try clear tk4
        refine bodyPost_ret (Mm.ret_rowv rtD Try.results30 _ b4 _ _ rfl rfl H.out.at0 rfl) rfl ⟨_, by rw [hq.out]; rfl, Ts.own HO.out, H.out.below⟩

end Go.Proofs.Ytokakgjcegmabaa.Po
