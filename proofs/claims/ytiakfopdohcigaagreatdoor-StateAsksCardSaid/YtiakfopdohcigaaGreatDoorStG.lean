
/-
  state: Set.
-/
import Derived.Test.YtiakfopdohcigaaGreatDoorStF
namespace Go.Proofs.YtiakfopdohcigaaGreatDoor
set_option maxRecDepth 100000
set_option linter.unusedVariables false
set_option linter.unusedSimpArgs false
open Go.RowKit Rw

theorem rowsC_set (cs : List Ce) (i : Nat) (c : Ce) (hi : i < cs.length) : (rowsC (cs.set i c)).flatten = ((rowsC cs).flatten.take (8 * i)) ++ c.row ++ ((rowsC cs).flatten.drop (8 * i + 8)) := by
  have hl : ((rowsC cs).take i).flatten.length = 8 * i := by rw [Rw.flat_len ((rowsC_all cs).take i), List.length_take, rowsC_len, Nat.min_eq_left (by omega)]
  have hl2 : ((rowsC cs).take (i + 1)).flatten.length = 8 * i + 8 := by rw [Rw.flat_len ((rowsC_all cs).take (i + 1)), List.length_take, rowsC_len, Nat.min_eq_left (by omega)]; omega
  have e1 : (rowsC cs).flatten.take (8 * i) = ((rowsC cs).take i).flatten := by
    conv => lhs; rw [← List.take_append_drop i (rowsC cs), List.flatten_append]
    exact List.take_left' hl
  have e2 : (rowsC cs).flatten.drop (8 * i + 8) = ((rowsC cs).drop (i + 1)).flatten := by
    conv => lhs; rw [← List.take_append_drop (i + 1) (rowsC cs), List.flatten_append]
    exact List.drop_left' hl2
  rw [e1, e2]
  have : rowsC (cs.set i c) = (rowsC cs).take i ++ c.row :: (rowsC cs).drop (i + 1) := by
    unfold rowsC
    rw [List.map_set, List.set_eq_take_append_cons_drop, if_pos (by simpa using hi)]
  rw [this]; simp
theorem rowsC_ins (cs : List Ce) (i : Nat) (c : Ce) : (rowsC cs).take i ++ [c.row] ++ (rowsC cs).drop i = rowsC (cs.take i ++ [c] ++ cs.drop i) := by
  unfold rowsC; simp [List.map_take, List.map_drop]
theorem setV_bad {cs : List Ce} {e : Ev} (h : okS cs = false) : setV cs e = [] ∧ setE cs e = 2 := by unfold setV setE; simp [h]
theorem setV_not {cs : List Ce} {e : Ev} (h : okS cs = true) (g : lasB e = false) : setV cs e = cs ∧ setE cs e = 2 := by unfold setV setE; simp [h, g]
theorem setV_full {cs : List Ce} {e : Ev} (h : okS cs = true) (g : lasB e = true) (f : fndS cs (newC e) = false) (n : cs.length = 256) : setV cs e = cs ∧ setE cs e = 8 := by unfold setV setE; simp [h, g, f, n]
theorem setV_fnd {cs : List Ce} {e : Ev} (h : okS cs = true) (g : lasB e = true) (f : fndS cs (newC e) = true) : setV cs e = cs.set (posS cs (newC e)) (newC e) ∧ setE cs e = 0 := by unfold setV setE setL; simp [h, g, f]
theorem setV_ins {cs : List Ce} {e : Ev} (h : okS cs = true) (g : lasB e = true) (f : fndS cs (newC e) = false) (n : cs.length ≠ 256) : setV cs e = cs.take (posS cs (newC e)) ++ [newC e] ++ cs.drop (posS cs (newC e)) ∧ setE cs e = 0 := by unfold setV setE setL; simp [h, g, f, n]
theorem cs_own {w : World} {B : Nat} {v : Value} {cs : List Ce} (h : OwnR 75 8 w B v (rowsC cs)) (ok : ∀ c ∈ cs, c.ok) (hl : cs.length ≤ 140737488351232) : CsAt w v cs := ⟨h.rs, ok, hl⟩

theorem own_stpB {T k : Nat} {w W : World} {B b : Nat} {v : Value} {es : List (List Value)} (h : OwnR T k w B v es) (st : Rt.Stp b w W) (hne : v.ownBlock ≠ some b) : OwnR T k W B v es := by
  refine ⟨h.1, h.2.1, ?_⟩
  rcases h.2.2 with h0 | ⟨g, cap, cur, e, hB, hg, r⟩
  · exact .inl h0
  · refine .inr ⟨g, cap, cur, e, hB, (st.other g ?_).trans hg, r⟩
    rintro rfl
    exact hne (by rw [e]; rfl)
theorem own_lt {T k : Nat} {w : World} {B : Nat} {v : Value} {es : List (List Value)} (h : OwnR T k w B v es) : ∀ g, v.ownBlock = some g → g < w.heap.size := by
  intro g hg
  rcases h.2.2 with ⟨rfl, _⟩ | ⟨g', cap, cur, rfl, hB, hh, r⟩
  · cases hg
  · have : g' = g := by simpa [Value.ownBlock] using hg
    subst this
    exact (Array.getElem?_eq_some_iff.1 hh).1
set_option maxHeartbeats 16000000 in
theorem set_any (w : World) (v : Value) (cs : List Ce) (hv : CsAt w v cs) (e : Ev) (he : e.ok) (hI : IT w) :
    Calls Tryz.prog 57 #[v, .agg e.row.toArray] w fun x w' => ∃ v', x = .returned (.tuple #[v', .int .i64 (setE cs e)]) ∧ CsAt w' v' (setV cs e) ∧ Below w.heap.size w w' := by
  have HI := hidp hI; have HV := hidp hv; have HOK := hidp hv.ok
  have h47 := hv.len
  clear hI hv
  have ck := hidp (fun W h h' => stCheck_any W v cs h h')
  have H := hidp (Mm.M.nil w)
  cases hok : okS cs with
  | false =>
    rw [show ckS cs = 2 from if_neg (by rw [hok]; exact Bool.false_ne_true)] at ck
    have HSV := hidp (setV_bad (e := e) hok).1; have HSE := hidp (setV_bad (e := e) hok).2
    clear hok
    go_enter Tryz.func57, Tryz.ntmps57
    go_wp2_with (first | (refine Mm.box 25 H rfl (.tmp 1) rfl e.row rfl ?_; clear H; intro b3 _ H nw; have hb := nw.below; clear hb nw) | (go_at_call 53; refine (ck.out _ (HV.out.to H.out.below) (HI.out.below H.out.below (Nat.le_refl _))).mono ?_; rintro e _ ⟨rfl, hb⟩; replace H := hidp (H.out.call hb); clear hb))
    go_ret2
    exact ⟨_, by rw [HSE.out]; rfl, by rw [HSV.out]; exact CsAt.nil _, H.out.below⟩
  | true =>
    rw [show ckS cs = 0 from if_pos hok] at ck
    obtain ⟨hn256, hva, hp⟩ := (okS_iff cs).1 hok
    have co := hidp (fun W h => owned_any W v cs h (by omega) hva)
    have cl := hidp (fun W h => lasting_any W e he h)
    cases hla : lasB e with
    | false =>
      rw [hla] at cl
      have HSV := hidp (setV_not hok hla).1; have HSE := hidp (setV_not hok hla).2
      clear hok hla hva hp
      go_enter Tryz.func57, Tryz.ntmps57
      go_wp2_with (first | (refine Mm.box 25 H rfl (.tmp 1) rfl e.row rfl ?_; clear H; intro b3 _ H nw; have hb := nw.below; clear hb nw) | (go_at_call 53; refine (ck.out _ (HV.out.to H.out.below) (HI.out.below H.out.below (Nat.le_refl _))).mono ?_; rintro e _ ⟨rfl, hb⟩; replace H := hidp (H.out.call hb); clear hb) | (go_at_call 104; refine (co.out _ (HV.out.to H.out.below)).mono ?_; rintro x w2 ⟨v1, rfl, ho, hb⟩; have HO := hidp (ho.base H.out.le); replace H := hidp (H.out.call hb); clear ho hb) | (refine Mm.get0 rtE H rfl (.tmp 3) rfl rfl rfl ?_) | (go_at_call 105; refine (cl.out _ (HI.out.below H.out.below (Nat.le_refl _))).mono ?_; rintro e _ ⟨rfl, hb⟩; replace H := hidp (H.out.call hb); replace HO := hidp (HO.out.to hb (Nat.le_refl _)); clear hb))
      go_ret2
      exact ⟨_, by rw [HSE.out]; rfl, by rw [HSV.out]; exact cs_own HO.out HOK.out h47, H.out.below⟩
    | true =>
      rw [hla] at cl
      have cc := hidp (fun W => cellOf_any W e he)
      have cb := hidp (fun W v h => search_any W v cs h (newC e) hp hn256)
      obtain ⟨n, hnn⟩ : ∃ n, cs.length = n := ⟨_, rfl⟩
      have HN := hidp hnn
      have hple := posS_le cs (newC e)
      have HFN := hidp (fun h : fndS cs (newC e) = true => fnd_parts h)
      obtain ⟨ps, hps0⟩ : ∃ p, posS cs (newC e) = p := ⟨_, rfl⟩
      have hall : (fndS cs (newC e) = true → setV cs e = cs.set ps (newC e) ∧ setE cs e = 0) ∧ (fndS cs (newC e) = false → n = 256 → setV cs e = cs ∧ setE cs e = 8) ∧ (fndS cs (newC e) = false → n ≠ 256 → setV cs e = cs.take ps ++ [newC e] ++ cs.drop ps ∧ setE cs e = 0) :=
        ⟨fun h => hps0 ▸ setV_fnd hok hla h, fun h h2 => setV_full hok hla h (hnn.trans h2), fun h h2 => hps0 ▸ setV_ins hok hla h (by rw [hnn]; exact h2)⟩
      rw [hps0] at cb hple
      rw [hnn] at hple hn256
      have HALL := hidp hall
      have hfl : fndS cs (newC e) = true → ps < n := fun h => by obtain ⟨h1, _⟩ := HFN.out h; rw [hps0, hnn] at h1; exact h1
      clear hok hla hva hp hall hps0 hnn HFN
      cases hf : fndS cs (newC e) with
      | true =>
        rw [hf] at cb
        have HSV := hidp (HALL.out.1 hf).1; have HSE := hidp (HALL.out.1 hf).2
        have hps := hfl hf
        clear hf HALL hfl
        go_enter Tryz.func57, Tryz.ntmps57
        go_wp2_with (first | (refine Mm.box 25 H rfl (.tmp 1) rfl e.row rfl ?_; clear H; intro b3 _ H nw; have hb := nw.below; clear hb nw) | (go_at_call 53; refine (ck.out _ (HV.out.to H.out.below) (HI.out.below H.out.below (Nat.le_refl _))).mono ?_; rintro e _ ⟨rfl, hb⟩; replace H := hidp (H.out.call hb); clear hb) | (go_at_call 104; refine (co.out _ (HV.out.to H.out.below)).mono ?_; rintro x w2 ⟨v1, rfl, ho, hb⟩; have hbl := own_lt ho; obtain ⟨a1, c1, rfl⟩ := ho.rs.form; rw [rowsC_len, HN.out] at ho hbl ⊢; have HO := hidp (ho.base H.out.le); have HG := hidp hbl; replace H := hidp (H.out.call hb); clear ho hb hbl) | (refine Mm.get0 rtE H rfl (.tmp 3) rfl rfl rfl ?_) | (go_at_call 105; refine (cl.out _ (HI.out.below H.out.below (Nat.le_refl _))).mono ?_; rintro e _ ⟨rfl, hb⟩; replace H := hidp (H.out.call hb); clear cl; replace HO := hidp (HO.out.to hb (Nat.le_refl _)); replace HG := hidp (own_lt HO.out); clear hb) | (refine Mm.get0 rtE H rfl (.tmp 3) rfl rfl rfl ?_) | (go_at_call 106; refine (cc.out _).mono ?_; rintro e _ ⟨rfl, hb⟩; replace H := hidp (H.out.call hb); clear cc; replace HO := hidp (HO.out.to hb (Nat.le_refl _)); replace HG := hidp (own_lt HO.out); clear hb) | (refine Mm.new rtC H (some 8) rfl rfl rfl ?_; clear H; intro b8 _ H nw; have hb := nw.below; have hgb := hidp (show (Value.slice a1 n c1).ownBlock ≠ some b8 from fun h => Nat.lt_irrefl _ (Nat.lt_of_lt_of_le (HG.out _ h) nw.le)); replace HO := hidp (HO.out.to hb (Nat.le_refl _)); replace HG := hidp (own_lt HO.out); clear hb nw) | (refine Mm.put0 rtC H rfl (.tmp 8) (.tmp 23) (newC e).row rfl rfl rfl rfl (Ce.one _) rfl ?_; intro _ H2 st; replace HO := hidp (own_stpB HO.out st hgb.out); replace HG := hidp (own_lt HO.out); clear st H; have H := H2; clear H2) | (refine Mm.get0 rtC H rfl (.tmp 8) rfl rfl rfl ?_) | (go_at_call 107; refine (cb.out _ _ (cs_own HO.out HOK.out h47)).mono ?_; rintro e _ ⟨rfl, hb⟩; replace H := hidp (H.out.call hb); clear cb; replace HO := hidp (HO.out.to hb (Nat.le_refl _)); replace HG := hidp (own_lt HO.out); clear hb; obtain ⟨g, cap, cur, hv1, hBg, ha, h1, h2, h3, h4⟩ := HO.out.blk (by rw [rowsC_len, HN.out]; omega); simp only [Value.slice.injEq] at hv1; obtain ⟨rfl, -, rfl⟩ := hv1; have HCM := hidp h2; have HBG := hidp hBg; have HA := hidp ha; have HCT := hidp h4; rw [rowsC_len, HN.out] at h1; clear h2 h4 ha hBg HO HG) | (refine Mm.get0 rtC H rfl (.tmp 8) rfl rfl rfl ?_) | (refine wpL_idxR tyC rfl (.tmp 31) (.tmp 32) rfl g 0 n c1 ps rfl rfl hps ?_) | (refine wpL_putAt rtC rfl (.tmp 34) (.tmp 33) g (0 + 8 * ps) 75 (newC e).row cur rfl rfl rfl rfl (Ce.one _) HA.out (by omega) ?_; intro W9 ha st; rw [Nat.zero_add] at ha; have HNW := hidp ha; have HBW := hidp (st.below' H.out.below HBG.out); clear ha st))
        go_ret2
        refine ⟨_, by rw [HSE.out]; rfl, ?_, HBW.out⟩
        rw [HSV.out]
        have hl2 : (cs.set ps (newC e)).length = n := by rw [List.length_set]; exact HN.out
        have := OwnR.of_arr (k := 8) (T := 75) (B := w.heap.size) (cap := c1) (es := rowsC (cs.set ps (newC e))) (rowsC_all _) HNW.out HBG.out (by rw [rowsC_len, hl2]; exact h1) HCM.out (by simp [newC, Ce.row]; omega) (by
          have hct : cur.take (8 * n) = (rowsC cs).flatten := by have := HCT.out; rw [rowsC_len, HN.out] at this; exact this
          rw [rowsC_len, hl2, rowsC_set cs ps _ (by rw [HN.out]; exact hps), ← hct]
          have h1 : 8 * ps + 8 ≤ 8 * n := by omega
          have h2 : 8 * n ≤ cur.length := by omega
          rw [List.take_take, Nat.min_eq_left (by omega)]
          rw [List.append_assoc, List.take_append, List.take_of_length_le (by simp; omega)]
          rw [List.append_assoc]
          congr 1
          rw [List.take_append, List.take_of_length_le (by simp [newC, Ce.row]; omega)]
          congr 1
          rw [List.drop_take, List.length_take, Nat.min_eq_left (by omega)]
          congr 1)
        rw [rowsC_len, hl2] at this
        exact cs_own this (fun c hc => (List.mem_or_eq_of_mem_set hc).elim (HOK.out c) (fun h => h ▸ newC_ok he)) (by rw [hl2]; rw [HN.out] at h47; exact h47)
      | false =>
        rw [hf] at cb
        by_cases h256 : n = 256
        · have HSV := hidp (HALL.out.2.1 hf h256).1; have HSE := hidp (HALL.out.2.1 hf h256).2
          have e256 : ((n : Int) == 256) = true := by rw [h256]; rfl
          have HH := hidp h256
          clear hf HALL hfl h256
          go_enter Tryz.func57, Tryz.ntmps57
          go_wp2_with (first | (refine Mm.box 25 H rfl (.tmp 1) rfl e.row rfl ?_; clear H; intro b3 _ H nw; have hb := nw.below; clear hb nw) | (go_at_call 53; refine (ck.out _ (HV.out.to H.out.below) (HI.out.below H.out.below (Nat.le_refl _))).mono ?_; rintro e _ ⟨rfl, hb⟩; replace H := hidp (H.out.call hb); clear hb) | (go_at_call 104; refine (co.out _ (HV.out.to H.out.below)).mono ?_; rintro x w2 ⟨v1, rfl, ho, hb⟩; have hbl := own_lt ho; obtain ⟨a1, c1, rfl⟩ := ho.rs.form; rw [rowsC_len, HN.out] at ho hbl ⊢; have HO := hidp (ho.base H.out.le); have HG := hidp hbl; replace H := hidp (H.out.call hb); clear ho hb hbl) | (refine Mm.get0 rtE H rfl (.tmp 3) rfl rfl rfl ?_) | (go_at_call 105; refine (cl.out _ (HI.out.below H.out.below (Nat.le_refl _))).mono ?_; rintro e _ ⟨rfl, hb⟩; replace H := hidp (H.out.call hb); clear cl; replace HO := hidp (HO.out.to hb (Nat.le_refl _)); replace HG := hidp (own_lt HO.out); clear hb) | (refine Mm.get0 rtE H rfl (.tmp 3) rfl rfl rfl ?_) | (go_at_call 106; refine (cc.out _).mono ?_; rintro e _ ⟨rfl, hb⟩; replace H := hidp (H.out.call hb); clear cc; replace HO := hidp (HO.out.to hb (Nat.le_refl _)); replace HG := hidp (own_lt HO.out); clear hb) | (refine Mm.new rtC H (some 8) rfl rfl rfl ?_; clear H; intro b8 _ H nw; have hb := nw.below; have hgb := hidp (show (Value.slice a1 n c1).ownBlock ≠ some b8 from fun h => Nat.lt_irrefl _ (Nat.lt_of_lt_of_le (HG.out _ h) nw.le)); replace HO := hidp (HO.out.to hb (Nat.le_refl _)); replace HG := hidp (own_lt HO.out); clear hb nw) | (refine Mm.put0 rtC H rfl (.tmp 8) (.tmp 23) (newC e).row rfl rfl rfl rfl (Ce.one _) rfl ?_; intro _ H2 st; replace HO := hidp (own_stpB HO.out st hgb.out); replace HG := hidp (own_lt HO.out); clear st H; have H := H2; clear H2) | (refine Mm.get0 rtC H rfl (.tmp 8) rfl rfl rfl ?_) | (go_at_call 107; refine (cb.out _ _ (cs_own HO.out HOK.out h47)).mono ?_; rintro e _ ⟨rfl, hb⟩; replace H := hidp (H.out.call hb); clear cb; replace HO := hidp (HO.out.to hb (Nat.le_refl _)); replace HG := hidp (own_lt HO.out); clear hb))
          go_ret2
          refine ⟨_, by rw [HSE.out]; rfl, ?_, H.out.below⟩
          rw [HSV.out]
          exact cs_own HO.out HOK.out h47
        · have HSV := hidp (HALL.out.2.2 hf h256).1; have HSE := hidp (HALL.out.2.2 hf h256).2
          have e256 : ((n : Int) == 256) = false := by simp; omega
          clear hf HALL hfl
          go_enter Tryz.func57, Tryz.ntmps57
          go_wp2_with (first | (refine Mm.box 25 H rfl (.tmp 1) rfl e.row rfl ?_; clear H; intro b3 _ H nw; have hb := nw.below; clear hb nw) | (go_at_call 53; refine (ck.out _ (HV.out.to H.out.below) (HI.out.below H.out.below (Nat.le_refl _))).mono ?_; rintro e _ ⟨rfl, hb⟩; replace H := hidp (H.out.call hb); clear hb) | (go_at_call 104; refine (co.out _ (HV.out.to H.out.below)).mono ?_; rintro x w2 ⟨v1, rfl, ho, hb⟩; have hbl := own_lt ho; obtain ⟨a1, c1, rfl⟩ := ho.rs.form; rw [rowsC_len, HN.out] at ho hbl ⊢; have HO := hidp (ho.base H.out.le); have HG := hidp hbl; replace H := hidp (H.out.call hb); clear ho hb hbl) | (refine Mm.get0 rtE H rfl (.tmp 3) rfl rfl rfl ?_) | (go_at_call 105; refine (cl.out _ (HI.out.below H.out.below (Nat.le_refl _))).mono ?_; rintro e _ ⟨rfl, hb⟩; replace H := hidp (H.out.call hb); clear cl; replace HO := hidp (HO.out.to hb (Nat.le_refl _)); replace HG := hidp (own_lt HO.out); clear hb) | (refine Mm.get0 rtE H rfl (.tmp 3) rfl rfl rfl ?_) | (go_at_call 106; refine (cc.out _).mono ?_; rintro e _ ⟨rfl, hb⟩; replace H := hidp (H.out.call hb); clear cc; replace HO := hidp (HO.out.to hb (Nat.le_refl _)); replace HG := hidp (own_lt HO.out); clear hb) | (refine Mm.new rtC H (some 8) rfl rfl rfl ?_; clear H; intro b8 _ H nw; have hb := nw.below; have hgb := hidp (show (Value.slice a1 n c1).ownBlock ≠ some b8 from fun h => Nat.lt_irrefl _ (Nat.lt_of_lt_of_le (HG.out _ h) nw.le)); replace HO := hidp (HO.out.to hb (Nat.le_refl _)); replace HG := hidp (own_lt HO.out); clear hb nw) | (refine Mm.put0 rtC H rfl (.tmp 8) (.tmp 23) (newC e).row rfl rfl rfl rfl (Ce.one _) rfl ?_; intro _ H2 st; replace HO := hidp (own_stpB HO.out st hgb.out); replace HG := hidp (own_lt HO.out); clear st H; have H := H2; clear H2) | (refine Mm.get0 rtC H rfl (.tmp 8) rfl rfl rfl ?_) | (go_at_call 107; refine (cb.out _ _ (cs_own HO.out HOK.out h47)).mono ?_; rintro e _ ⟨rfl, hb⟩; replace H := hidp (H.out.call hb); clear cb; replace HO := hidp (HO.out.to hb (Nat.le_refl _)); replace HG := hidp (own_lt HO.out); clear hb) | (refine Mm.get0 rtC H rfl (.tmp 8) rfl rfl rfl ?_) | (refine wpL_bs1R tyC rfl (.tmp 42) rfl (newC e).row rfl rfl ?_; intro b43 _ nw; have hgc := hidp (show (Value.slice a1 n c1).ownBlock ≠ some b43 from fun h => Nat.lt_irrefl _ (Nat.lt_of_lt_of_le (HG.out _ h) nw.le)); replace HO := hidp (HO.out.to nw.below (Nat.le_refl _)); replace H := hidp (H.out.new nw); clear nw) | (go_at_call 108; refine (insert_own _ w.heap.size _ (rowsC cs) b43 (newC e).row ps HO.out (rowsC_one _) H.out.at0 rfl (Ce.one _) hgc.out (by rw [rowsC_len, HN.out]; omega) (by rw [rowsC_len, HN.out]; omega) H.out.le).mono ?_; rintro x w9 ⟨v9, rfl, ho9, hb9⟩; have HO9 := hidp ho9; have HB9 := hidp (H.out.below.trans hb9); clear ho9 hb9))
          go_ret2
          refine ⟨_, by rw [HSE.out]; rfl, ?_, HB9.out⟩
          have hh := HO9.out
          rw [rowsC_ins] at hh
          rw [HSV.out]
          refine cs_own hh (fun c hc => ?_) (by have := HN.out; simp; omega)
          simp only [List.mem_append, List.mem_singleton] at hc
          rcases hc with (hc | rfl) | hc
          · exact HOK.out c (List.mem_of_mem_take hc)
          · exact newC_ok he
          · exact HOK.out c (List.mem_of_mem_drop hc)
end Go.Proofs.YtiakfopdohcigaaGreatDoor
