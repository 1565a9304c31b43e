
/-
  auth: Next; the desk of an event; deeds.
-/
import Derived.Test.YtkcgmimcopoknaaGreatDoorAuX
namespace Go.Proofs.YtkcgmimcopoknaaGreatDoor
set_option maxRecDepth 100000
set_option linter.unusedVariables false
set_option linter.unusedSimpArgs false
open Go.RowKit Rw

theorem ps_ok {t : ByteArray} {l : Lv} (h : psL t = some l) : lvOk l = true := by
  unfold psL at h
  split at h
  · cases h
  · split at h
    · rename_i hh; cases h; exact hh.1
    · cases h
theorem usr_no : usr (⟨#[]⟩ : ByteArray) = false := by kernel_rfl
theorem ok_named {l : Lv} (h : lvOk l = true) : ∀ p ∈ l.us, p.1 ≠ ⟨#[]⟩ := by
  intro p hp e
  obtain ⟨i, hi, rfl⟩ := List.getElem_of_mem hp
  unfold lvOk at h
  simp only [Bool.and_eq_true] at h
  have h1 := uTo_le h.2 hi
  unfold uAt at h1
  simp only [Bool.and_eq_true] at h1
  have h2 := h1.1.1
  rw [getU hi, e, usr_no] at h2
  cases h2
theorem lv_named {cs : List Ce} (h : lvX cs = 0) : ∀ p ∈ (lvS cs).us, p.1 ≠ ⟨#[]⟩ := by
  unfold lvX at h
  unfold lvS
  cases h3 : onlyS cs 3 with
  | some e =>
    rw [h3] at h
    simp only at h ⊢
    cases hp : psL e.body with
    | none => rw [hp] at h; cases h
    | some m => simp only [psV, hp, Option.getD_some]; exact ok_named (ps_ok hp)
  | none =>
    rw [h3] at h
    simp only at h ⊢
    cases h1 : onlyS cs 1 with
    | none => rw [h1] at h; cases h
    | some c =>
      simp only [fsL]
      intro p hp e
      split at hp
      · rename_i hu
        obtain rfl : p = (c.sender, 100) := by simpa using hp
        rw [show c.sender = ⟨#[]⟩ from e, usr_no] at hu
        cases hu
      · cases hp
theorem UsAt.stpZ {w W : World} {v : Value} {us : List (ByteArray × Int)} {b t : Nat} {xs : List Value} (h : UsAt w v us) (st : Rt.Stp b w W) (ha : Arr w b t xs) (hx : ∀ s, Value.string s ∈ xs → s = ⟨#[]⟩) (hnm : ∀ p ∈ us, p.1 ≠ ⟨#[]⟩) : UsAt W v us := by
  refine ⟨⟨h.rs.1, ?_⟩, h.len, h.sz⟩
  rcases h.rs.2 with h0 | ⟨B, o, c, e, hc, hB, hr⟩
  · exact .inl h0
  · cases us with
    | nil => exact .inr ⟨B, o, c, e, hc, by rw [st.size]; exact hB, fun j u hj => by simp [uRs] at hj⟩
    | cons p r =>
      refine .inr ⟨B, o, c, e, hc, by rw [st.size]; exact hB, fun j u hj => ?_⟩
      have hne : B ≠ b := by
        rintro rfl
        have h0 := hr 0 (.string p.1) rfl
        have hc0 : w.cell? ⟨B, o + 0, none⟩ = xs[o + 0]? := by simp [World.cell?, show w.heap[B]? = _ from ha]
        rw [hc0] at h0
        exact hnm p (List.mem_cons_self ..) (hx _ (List.mem_of_getElem? h0))
      have hcell : W.cell? ⟨B, o + j, none⟩ = w.cell? ⟨B, o + j, none⟩ := World.cell?_of_block (w := w) (st.other B hne)
      rw [hcell]; exact hr j u hj
theorem zD_no : ∀ s, Value.string s ∈ zD → s = ⟨#[]⟩ := by
  intro s hs
  simp [zD] at hs
  exact hs
def nxV : Option Int → Value
  | some n => .tuple #[.int .i64 n, .bool true]
  | none => .tuple #[.int .i64 0, .bool false]

set_option maxHeartbeats 8000000 in
theorem next_any (w : World) (t : ByteArray) (hs : t.size ≤ 281474976710656) (hP : PT w) :
    Calls Tryz.prog 16 #[.string t] w fun x w' => x = .returned (nxV (nxO t)) ∧ Below w.heap.size w w' := by
  by_cases hat : ∃ v, Lib.atoiAll t.data.toList = .ok v
  · obtain ⟨v, hat⟩ := hat
    have c := hidp (Tryz.strconv_Atoi_ok t (by omega) v hat w)
    have HP := hidp hP
    have hun : nxO t = if 0 ≤ v ∧ v ≤ 63 ∧ (itT v).toList = t.toList then some v else none := by unfold nxO; rw [hat]
    clear hat hP
    by_cases h0 : v < 0
    · have d0 : decide (v < 0) = true := decide_eq_true h0
      have HF := hidp (show nxO t = none from by rw [hun, if_neg (by omega)])
      clear hun
      go_enter Tryz.func16, Tryz.ntmps16
      go_wp2_with fail
      refine c.out.mono ?_
      rintro x w3 ⟨rfl, hw3⟩
      have hb3 : Below w.heap.size w w3 := by
        rcases hw3 with rfl | ⟨t, rfl⟩
        · exact Below.refl _ _
        · exact bytesW_below _ _
      have HB := hidp hb3
      clear hw3 hb3
      go_wp2_with (first | (refine Rt.wpL_skip _ _ rfl rfl ?_) | (go_at_call 44; refine (ci.out _ (HP.out.below HB.out (Nat.le_refl _))).mono ?_; rintro x w4 ⟨rfl, hb⟩; replace HB := hidp (HB.out.trans (hb.mono HB.out.size)); clear hb ci))
      go_ret2
      exact ⟨by rw [HF.out]; rfl, HB.out⟩
    · have d0 : decide (v < 0) = false := decide_eq_false h0
      by_cases h1 : v > 63
      · have d1 : decide (v > 63) = true := decide_eq_true h1
        have n1 : (63 : Int) < v := h1
        have HF := hidp (show nxO t = none from by rw [hun, if_neg (by omega)])
        clear hun h1
        go_enter Tryz.func16, Tryz.ntmps16
        go_wp2_with fail
        refine c.out.mono ?_
        rintro x w3 ⟨rfl, hw3⟩
        have hb3 : Below w.heap.size w w3 := by
          rcases hw3 with rfl | ⟨t, rfl⟩
          · exact Below.refl _ _
          · exact bytesW_below _ _
        have HB := hidp hb3
        clear hw3 hb3
        go_wp2_with (first | (refine Rt.wpL_skip _ _ rfl rfl ?_) | (go_at_call 44; refine (ci.out _ (HP.out.below HB.out (Nat.le_refl _))).mono ?_; rintro x w4 ⟨rfl, hb⟩; replace HB := hidp (HB.out.trans (hb.mono HB.out.size)); clear hb ci))
        go_ret2
        exact ⟨by rw [HF.out]; rfl, HB.out⟩
      · have d1 : decide (v > 63) = false := decide_eq_false h1
        have n1 : ¬ (63 : Int) < v := h1
        have ci := hidp (fun W h => itoa_any W v (by omega) (by omega) h)
        obtain ⟨T, hT⟩ : ∃ T, itT v = T := ⟨_, rfl⟩
        rw [hT] at ci hun
        cases h2 : (T.toList == t.toList) with
        | true =>
          have m2 : (T.toList != t.toList) = false := by rw [bne, h2]; rfl
          have HF := hidp (show nxO t = some v from by rw [hun, if_pos ⟨by omega, by omega, beq_iff_eq.1 h2⟩])
          clear hun hT h1
          go_enter Tryz.func16, Tryz.ntmps16
          go_wp2_with fail
          refine c.out.mono ?_
          rintro x w3 ⟨rfl, hw3⟩
          have hb3 : Below w.heap.size w w3 := by
            rcases hw3 with rfl | ⟨t, rfl⟩
            · exact Below.refl _ _
            · exact bytesW_below _ _
          have HB := hidp hb3
          clear hw3 hb3
          go_wp2_with (first | (refine Rt.wpL_skip _ _ rfl rfl ?_) | (go_at_call 44; refine (ci.out _ (HP.out.below HB.out (Nat.le_refl _))).mono ?_; rintro x w4 ⟨rfl, hb⟩; replace HB := hidp (HB.out.trans (hb.mono HB.out.size)); clear hb ci))
          go_ret2
          exact ⟨by rw [HF.out]; rfl, HB.out⟩
        | false =>
          have m2 : (T.toList != t.toList) = true := by rw [bne, h2]; rfl
          have HF := hidp (show nxO t = none from by rw [hun, if_neg (fun h => by rw [beq_eq_false_iff_ne] at h2; exact h2 h.2.2)])
          clear hun hT h1
          go_enter Tryz.func16, Tryz.ntmps16
          go_wp2_with fail
          refine c.out.mono ?_
          rintro x w3 ⟨rfl, hw3⟩
          have hb3 : Below w.heap.size w w3 := by
            rcases hw3 with rfl | ⟨t, rfl⟩
            · exact Below.refl _ _
            · exact bytesW_below _ _
          have HB := hidp hb3
          clear hw3 hb3
          go_wp2_with (first | (refine Rt.wpL_skip _ _ rfl rfl ?_) | (go_at_call 44; refine (ci.out _ (HP.out.below HB.out (Nat.le_refl _))).mono ?_; rintro x w4 ⟨rfl, hb⟩; replace HB := hidp (HB.out.trans (hb.mono HB.out.size)); clear hb ci))
          go_ret2
          exact ⟨by rw [HF.out]; rfl, HB.out⟩
  · have hno : ∀ v, Lib.atoiAll t.data.toList ≠ .ok v := fun v h => hat ⟨v, h⟩
    have c := hidp (atoi_fails t hs hno w hP.1)
    have HF := hidp (show nxO t = none from by
      unfold nxO
      rcases h : Lib.atoiAll t.data.toList with v | _ | _
      · exact absurd h (hno v)
      · rfl
      · rfl)
    clear hat hno hP
    go_enter Tryz.func16, Tryz.ntmps16
    go_wp2_with fail
    refine c.out.mono ?_
    rintro x w3 ⟨N, z, rfl, hb3⟩
    have HB := hidp hb3
    clear hb3
    go_wp2_with (refine Rt.wpL_skip _ _ rfl rfl ?_)
    go_ret2
    exact ⟨by rw [HF.out]; rfl, HB.out⟩

set_option maxHeartbeats 8000000 in
theorem desk_lv (w : World) (v : Value) (cs : List Ce) (hv : CsAt w v cs) (hs : ∀ c ∈ cs, c.e.body.size ≤ 140737488351232 ∧ c.e.sender.size ≤ 140737488351232) (e : Ev) (hP : PT w) (hx : lvX cs ≠ 0) : Calls Tryz.prog 30 #[v, .agg e.row.toArray] w fun x w' => x = .returned (.tuple #[.agg zD.toArray, .int .i64 (lvX cs)]) ∧ Below w.heap.size w w' := by
  have HV := hidp hv; have HP := hidp hP
  have cl := hidp (fun W h h2 => alevelsOf_any W v cs h hs h2); have cr := hidp (fun W h => ruleOf_any W v cs h)
  obtain ⟨a0, c0, rfl⟩ := hv.form
  have H := hidp (Mm.M.nil w)
  obtain ⟨L, hL⟩ : ∃ L, lvS cs = L := ⟨_, rfl⟩
  obtain ⟨R, hR⟩ : ∃ R, ruS cs = R := ⟨_, rfl⟩
  rw [hL] at cl
  obtain ⟨X, hX⟩ : ∃ X, lvX cs = X := ⟨_, rfl⟩
  rw [hX] at cl hx ⊢
  have ex : (X == 0) = false := by simpa using hx
  have ex2 : (X != 0) = true := by rw [bne, ex]; rfl
  clear hv hs hP hL hR hX hx
  go_enter Tryz.func30, Tryz.ntmps30
  go_wp2_with (first | (refine Mm.box 25 H rfl (.tmp 1) rfl e.row rfl ?_; clear H; intro b3 _ H nw; have hb := nw.below; clear hb nw) | (refine Mm.new rtD H (some 4) rfl rfl rfl ?_; clear H; intro b4 _ H nw; have hb := nw.below; clear hb nw) | (go_at_call 47; refine (cl.out _ (HV.out.to H.out.below) (HP.out.below H.out.below (Nat.le_refl _))).mono ?_; rintro x _ ⟨u1, rfl, hu, hb⟩; obtain ⟨a1, c1, rfl⟩ := hu.form; replace H := hidp (H.out.call hb); have HU := hidp hu; clear hu hb cl) | (refine Mm.new tyL H (some 6) rfl rfl rfl ?_; clear H; intro b6 _ H nw; have hb := nw.below; replace HU := hidp (HU.out.to hb); clear hb nw) | (refine Mm.put0 tyL H rfl (.tmp 6) (.tmp 12) [.int .i64 L.a, .int .i64 L.s, .int .i64 L.i, .int .i64 L.k, .int .i64 L.b, .int .i64 L.r, .slice a1 L.us.length c1] rfl rfl rfl rfl (by simp [Value.oneCell']) rfl ?_; intro _ H2 st; replace HU := hidp (HU.out.stp st H.out.at0 (by simp [zL])); clear st H; have H := H2; clear H2) | (refine Rt.wpL_build rfl 64 _ rfl zD (by kernel_rfl) ?_) | (refine Mm.put1 rtD H rfl (.tmp 4) (.tmp 16) zD rfl rfl rfl rfl (by simp [zD, Value.oneCell']) rfl ?_; intro _ H2 st; clear st H; have H := H2; clear H2))
  refine bodyPost_ret (Mm.ret_rowv rtD Tryz.results30 _ b4 _ _ rfl rfl H.out.at1 rfl) rfl ⟨rfl, H.out.below⟩

set_option maxHeartbeats 8000000 in
theorem desk_ru (w : World) (v : Value) (cs : List Ce) (hv : CsAt w v cs) (hs : ∀ c ∈ cs, c.e.body.size ≤ 140737488351232 ∧ c.e.sender.size ≤ 140737488351232) (e : Ev) (hP : PT w) (hx0 : lvX cs = 0) (hx : ruX cs ≠ 0) : Calls Tryz.prog 30 #[v, .agg e.row.toArray] w fun x w' => x = .returned (.tuple #[.agg zD.toArray, .int .i64 (ruX cs)]) ∧ Below w.heap.size w w' := by
  have HV := hidp hv; have HP := hidp hP
  have cl := hidp (fun W h h2 => alevelsOf_any W v cs h hs h2); have cr := hidp (fun W h => ruleOf_any W v cs h)
  obtain ⟨a0, c0, rfl⟩ := hv.form
  have H := hidp (Mm.M.nil w)
  obtain ⟨L, hL⟩ : ∃ L, lvS cs = L := ⟨_, rfl⟩
  obtain ⟨R, hR⟩ : ∃ R, ruS cs = R := ⟨_, rfl⟩
  rw [hL, hx0] at cl
  obtain ⟨X, hX⟩ : ∃ X, ruX cs = X := ⟨_, rfl⟩
  rw [hX] at cr hx ⊢
  rw [hR] at cr
  have ex : (X == 0) = false := by simpa using hx
  have ex2 : (X != 0) = true := by rw [bne, ex]; rfl
  clear hv hs hP hL hR hX hx hx0
  go_enter Tryz.func30, Tryz.ntmps30
  go_wp2_with (first | (refine Mm.box 25 H rfl (.tmp 1) rfl e.row rfl ?_; clear H; intro b3 _ H nw; have hb := nw.below; clear hb nw) | (refine Mm.new rtD H (some 4) rfl rfl rfl ?_; clear H; intro b4 _ H nw; have hb := nw.below; clear hb nw) | (go_at_call 47; refine (cl.out _ (HV.out.to H.out.below) (HP.out.below H.out.below (Nat.le_refl _))).mono ?_; rintro x _ ⟨u1, rfl, hu, hb⟩; obtain ⟨a1, c1, rfl⟩ := hu.form; replace H := hidp (H.out.call hb); have HU := hidp hu; clear hu hb cl) | (refine Mm.new tyL H (some 6) rfl rfl rfl ?_; clear H; intro b6 _ H nw; have hb := nw.below; replace HU := hidp (HU.out.to hb); clear hb nw) | (refine Mm.put0 tyL H rfl (.tmp 6) (.tmp 12) [.int .i64 L.a, .int .i64 L.s, .int .i64 L.i, .int .i64 L.k, .int .i64 L.b, .int .i64 L.r, .slice a1 L.us.length c1] rfl rfl rfl rfl (by simp [Value.oneCell']) rfl ?_; intro _ H2 st; replace HU := hidp (HU.out.stp st H.out.at0 (by simp [zL])); clear st H; have H := H2; clear H2) | (go_at_call 58; refine (cr.out _ (HV.out.to H.out.below)).mono ?_; rintro e _ ⟨rfl, hb⟩; replace H := hidp (H.out.call hb); replace HU := hidp (HU.out.to hb); clear hb) | (refine Rt.wpL_build rfl 64 _ rfl zD (by kernel_rfl) ?_) | (refine Mm.put1 rtD H rfl (.tmp 4) (.tmp 25) zD rfl rfl rfl rfl (by simp [zD, Value.oneCell']) rfl ?_; intro _ H2 st; clear st H; have H := H2; clear H2))
  refine bodyPost_ret (Mm.ret_rowv rtD Tryz.results30 _ b4 _ _ rfl rfl H.out.at1 rfl) rfl ⟨rfl, H.out.below⟩

set_option maxHeartbeats 8000000 in
theorem desk_ok (w : World) (v : Value) (cs : List Ce) (hv : CsAt w v cs) (hs : ∀ c ∈ cs, c.e.body.size ≤ 140737488351232 ∧ c.e.sender.size ≤ 140737488351232) (e : Ev) (hP : PT w) (hx0 : lvX cs = 0) (hx : ruX cs = 0) : Calls Tryz.prog 30 #[v, .agg e.row.toArray] w fun x w' => ∃ u, x = .returned (.tuple #[.agg (dkR e v (lvS cs) u (ruS cs)).toArray, .int .i64 0]) ∧ UsAt w' u (lvS cs).us ∧ Below w.heap.size w w' := by
  have HV := hidp hv; have HP := hidp hP
  have cl := hidp (fun W h h2 => alevelsOf_any W v cs h hs h2); have cr := hidp (fun W h => ruleOf_any W v cs h)
  obtain ⟨a0, c0, rfl⟩ := hv.form
  have H := hidp (Mm.M.nil w)
  obtain ⟨L, hL⟩ : ∃ L, lvS cs = L := ⟨_, rfl⟩
  obtain ⟨R, hR⟩ : ∃ R, ruS cs = R := ⟨_, rfl⟩
  have HNM := hidp (lv_named hx0)
  rw [hL, hx0] at cl
  rw [hL] at HNM ⊢
  rw [hR, hx] at cr
  rw [hR]
  clear hv hs hP hL hR hx hx0
  go_enter Tryz.func30, Tryz.ntmps30
  go_wp2_with (first | (refine Mm.box 25 H rfl (.tmp 1) rfl e.row rfl ?_; clear H; intro b3 _ H nw; have hb := nw.below; clear hb nw) | (refine Mm.new rtD H (some 4) rfl rfl rfl ?_; clear H; intro b4 _ H nw; have hb := nw.below; clear hb nw) | (go_at_call 47; refine (cl.out _ (HV.out.to H.out.below) (HP.out.below H.out.below (Nat.le_refl _))).mono ?_; rintro x _ ⟨u1, rfl, hu, hb⟩; obtain ⟨a1, c1, rfl⟩ := hu.form; replace H := hidp (H.out.call hb); have HU := hidp hu; clear hu hb cl) | (refine Mm.new tyL H (some 6) rfl rfl rfl ?_; clear H; intro b6 _ H nw; have hb := nw.below; replace HU := hidp (HU.out.to hb); clear hb nw) | (refine Mm.put0 tyL H rfl (.tmp 6) (.tmp 12) [.int .i64 L.a, .int .i64 L.s, .int .i64 L.i, .int .i64 L.k, .int .i64 L.b, .int .i64 L.r, .slice a1 L.us.length c1] rfl rfl rfl rfl (by simp [Value.oneCell']) rfl ?_; intro _ H2 st; replace HU := hidp (HU.out.stp st H.out.at0 (by simp [zL])); clear st H; have H := H2; clear H2) | (go_at_call 58; refine (cr.out _ (HV.out.to H.out.below)).mono ?_; rintro e _ ⟨rfl, hb⟩; replace H := hidp (H.out.call hb); replace HU := hidp (HU.out.to hb); clear hb) | (refine Mm.get2 rtE H rfl (.tmp 3) rfl rfl rfl ?_) | (refine Mm.get0 tyL H rfl (.tmp 6) rfl rfl rfl ?_) | (refine Rt.wpL_build rfl 64 _ rfl (dkR e (.slice a0 cs.length c0) L (.slice a1 L.us.length c1) R) (by kernel_rfl) ?_) | (refine Mm.put1 rtD H rfl (.tmp 4) (.tmp 31) (dkR e (.slice a0 cs.length c0) L (.slice a1 L.us.length c1) R) rfl rfl rfl rfl (by simp [dkR, Value.oneCell']) rfl ?_; intro _ H2 st; replace HU := hidp (HU.out.stpZ st H.out.at1 zD_no HNM.out); clear st H; have H := H2; clear H2))
  refine bodyPost_ret (Mm.ret_rowv rtD Tryz.results30 _ b4 _ _ rfl rfl H.out.at1 rfl) rfl ⟨_, rfl, HU.out, H.out.below⟩

theorem needE_if (l : Lv) (u : ByteArray) (n : Int) : needE l u n = 0 ∨ needE l u n = 12 := by unfold needE; split <;> simp
set_option maxHeartbeats 16000000 in
theorem ddeed_any (w : World) (e : Ev) (v : Value) (l : Lv) (u : Value) (r : ByteArray) (hu : UsAt w u l.us) (cs : List Ce) (hv : CsAt w v cs) (he : e.ok) (hbs : e.body.size ≤ 140737488351232) (hP : PT w) : Calls Tryz.prog 32 #[.agg (dkR e v l u r).toArray] w fun x w' => x = .returned (.int .i64 (deE cs e l)) ∧ Below w.heap.size w w' := by
  have HU := hidp hu; have HP := hidp hP; have HV := hidp hv
  have cm := hidp (fun W h => mem_any W v cs h e.sender)
  have H := hidp (Mm.M.nil w)
  obtain ⟨m, hm⟩ : ∃ m, memS cs e.sender = m := ⟨_, rfl⟩
  rw [hm] at cm
  cases hj : (m.toList == ([106, 111, 105, 110] : List UInt8)) with
  | false =>
    have hj2 : (m.toList != ([106, 111, 105, 110] : List UInt8)) = true := by rw [bne, hj]; rfl
    have HF := hidp (show deE cs e l = 12 from by unfold deE; rw [hm, if_neg (fun h => by rw [beq_eq_false_iff_ne] at hj; exact hj (h.trans (toList_lit _)))])
    clear hm hu hP hv
    go_enter Tryz.func32, Tryz.ntmps32
    go_wp2_with (first | (refine Mm.box 64 H rfl (.tmp 0) rfl (dkR e v l u r) rfl ?_; clear H; intro b1 _ H nw; have hb := nw.below; clear hb nw) | (refine Mm.ld0 naC H rfl (.tmp 5) 6 _ rfl rfl rfl ?_) | (refine Mm.ld0 naS H rfl (.tmp 8) 1 (.string e.sender) rfl rfl rfl ?_) | (go_at_call 11; refine (cm.out _ (HV.out.to H.out.below)).mono ?_; rintro e _ ⟨rfl, hb⟩; replace H := hidp (H.out.call hb); clear hb))
    go_ret
    exact ⟨by rw [HF.out]; rfl, H.out.below⟩
  | true =>
    have hj2 : (m.toList != ([106, 111, 105, 110] : List UInt8)) = false := by rw [bne, hj]; rfl
    have hd : deE cs e l = (if e.kind = 3 then cgE l e else if e.kind = 4 then (if ruleB e.body = true then needE l e.sender l.s else 2) else if e.kind = 8 then (if (nxO e.body).isSome = true then needE l e.sender l.s else 2) else if e.kind = 5 then needE l e.sender l.s else if e.kind = 7 then needE l e.sender l.r else 0) := by
      unfold deE cgE; rw [hm]; exact if_pos ((beq_iff_eq.1 hj).trans (toList_lit [106, 111, 105, 110]).symm)
    clear hm hu hP hv
    by_cases hk : e.kind = 3
    · have cc := hidp (fun W h h2 => dchange_any W e v l u r h hbs h2)
      have HF := hidp (show deE cs e l = cgE l e from by rw [hd, if_pos hk])
      obtain ⟨Z, hZ⟩ : ∃ Z, cgE l e = Z := ⟨_, rfl⟩
      rw [hZ] at cc HF
      have k3 : ((e.kind : Int) == 3) = true := by rw [hk]; rfl
      clear hd hZ hk
      go_enter Tryz.func32, Tryz.ntmps32
      go_wp2_with (first | (refine Mm.box 64 H rfl (.tmp 0) rfl (dkR e v l u r) rfl ?_; clear H; intro b1 _ H nw; have hb := nw.below; clear hb nw) | (refine Mm.ld0 naC H rfl (.tmp 5) 6 _ rfl rfl rfl ?_) | (refine Mm.ld0 naS H rfl (.tmp 8) 1 (.string e.sender) rfl rfl rfl ?_) | (go_at_call 11; refine (cm.out _ (HV.out.to H.out.below)).mono ?_; rintro e _ ⟨rfl, hb⟩; replace H := hidp (H.out.call hb); clear hb) | (refine Mm.ld0 naK H rfl (.tmp 13) 2 (.int .u8 (e.kind : Int)) rfl rfl rfl ?_) | (refine Mm.get0 rtD H rfl (.tmp 1) rfl rfl rfl ?_) | (go_at_call 67; refine (cc.out _ (HU.out.to H.out.below) (HP.out.below H.out.below (Nat.le_refl _))).mono ?_; rintro e _ ⟨rfl, hb⟩; replace H := hidp (H.out.call hb); clear hb))
      go_ret
      exact ⟨by rw [HF.out]; rfl, H.out.below⟩
    · rw [if_neg hk] at hd
      have hk3 := hk
      clear hk
      by_cases hk : e.kind = 4
      · have cr := hidp (fun W => mrule W e.body)
        have cs0 := hidp (fun W h f => dsetting_any W e v l u r h f)
        have HF0 : deE cs e l = (if ruleB e.body = true then needE l e.sender l.s else 2) := by rw [hd, if_pos hk]
        obtain ⟨B, hB⟩ : ∃ B, ruleB e.body = B := ⟨_, rfl⟩
        rw [hB] at cr HF0
        obtain ⟨Z, hZ⟩ : ∃ Z, (if B = true then needE l e.sender l.s else 2) = Z := ⟨_, rfl⟩
        have csx := hidp (fun W h => cs0.out W h B)
        rw [hZ] at csx HF0
        have HF := hidp HF0
        have k3 : ((e.kind : Int) == 3) = false := by rw [beq_eq_false_iff_ne]; omega
        have k4 : ((e.kind : Int) == 4) = true := by rw [hk]; rfl
        clear hd hZ hk hk3 hB HF0 cs0
        go_enter Tryz.func32, Tryz.ntmps32
        go_wp2_with (first | (refine Mm.box 64 H rfl (.tmp 0) rfl (dkR e v l u r) rfl ?_; clear H; intro b1 _ H nw; have hb := nw.below; clear hb nw) | (refine Mm.ld0 naC H rfl (.tmp 5) 6 _ rfl rfl rfl ?_) | (refine Mm.ld0 naS H rfl (.tmp 8) 1 (.string e.sender) rfl rfl rfl ?_) | (go_at_call 11; refine (cm.out _ (HV.out.to H.out.below)).mono ?_; rintro e _ ⟨rfl, hb⟩; replace H := hidp (H.out.call hb); clear hb) | (refine Mm.ld0 naK H rfl (.tmp 13) 2 (.int .u8 (e.kind : Int)) rfl rfl rfl ?_))
        refine Mm.region H (.take 0 (.take 1 (.take 2 (.take 3 (.one 4 (.one 5 (.take 6 .done))))))) (by kernel_rfl) (by kernel_rfl) (by simp [Scr.depth]) (by kernel_rfl) ?_
        clear H
        intro _ H hb
        clear hb
        refine Mm.sget0 rtD (fun w h => h) rfl rfl (.tmp 1) rfl rfl rfl ?_
        simp only [Act.put, List.getElem_toArray, List.getElem_cons_zero, List.getElem_cons_succ, List.setIfInBounds_toArray, List.set_cons_zero, List.set_cons_succ]
        apply s_val
        case ho => rfl
        case hw => rfl
        case hv => intro w hw; go_simp; first | done | with_reducible rfl | rfl
        simp only [Act.put, List.getElem_toArray, List.getElem_cons_zero, List.getElem_cons_succ, List.setIfInBounds_toArray, List.set_cons_zero, List.set_cons_succ]
        apply s_val
        case ho => rfl
        case hw => rfl
        case hv => intro w hw; go_simp; first | done | with_reducible rfl | rfl
        simp only [Act.put, List.getElem_toArray, List.getElem_cons_zero, List.getElem_cons_succ, List.setIfInBounds_toArray, List.set_cons_zero, List.set_cons_succ]
        refine Mm.sld0 naS (fun w h => h) rfl rfl (.tmp 23) 4 (.string e.body) rfl rfl rfl ?_
        simp only [Act.put, List.getElem_toArray, List.getElem_cons_zero, List.getElem_cons_succ, List.setIfInBounds_toArray, List.set_cons_zero, List.set_cons_succ]
        refine Mm.o_callH (v := .bool B) H (fun W h => h) rfl rfl 69 (#[.string e.body]) (by go_simp; first | done | rfl) (cr.out _) ?_
        clear H
        intro _ H hb
        clear hb
        simp only [Act.put, List.getElem_toArray, List.getElem_cons_zero, List.getElem_cons_succ, List.setIfInBounds_toArray, List.set_cons_zero, List.set_cons_succ]
        refine Mm.o_callH (v := .int .i64 Z) H (fun W h => h) rfl rfl 68 (#[.agg (dkR e v l u r).toArray, .bool B]) (by go_simp; first | done | rfl) (csx.out _ (HU.out.to H.out.below)) ?_
        clear H
        intro _ H hb
        clear hb
        simp only [Act.put, List.getElem_toArray, List.getElem_cons_zero, List.getElem_cons_succ, List.setIfInBounds_toArray, List.set_cons_zero, List.set_cons_succ]
        apply s_val
        case ho => rfl
        case hw => rfl
        case hv => intro w hw; go_simp; first | done | with_reducible rfl | rfl
        simp only [Act.put, List.getElem_toArray, List.getElem_cons_zero, List.getElem_cons_succ, List.setIfInBounds_toArray, List.set_cons_zero, List.set_cons_succ]
        refine NoPanic.normal ?_
        go_wp2_with fail
        go_ret
        exact ⟨by rw [HF.out]; rfl, H.out.below⟩
      · rw [if_neg hk] at hd
        have hk4 := hk
        clear hk
        by_cases hk : e.kind = 8
        · have cx := hidp (fun W h => next_any W e.body he.b h)
          have cs0 := hidp (fun W h f => dsetting_any W e v l u r h f)
          rw [if_pos hk] at hd
          have k3 : ((e.kind : Int) == 3) = false := by rw [beq_eq_false_iff_ne]; omega
          have k4 : ((e.kind : Int) == 4) = false := by rw [beq_eq_false_iff_ne]; omega
          have k8 : ((e.kind : Int) == 8) = true := by rw [hk]; rfl
          clear hk hk3 hk4
          cases hn : nxO e.body with
          | none =>
            rw [hn] at cx hd
            simp only [nxV] at cx
            have csx := hidp (fun W h => cs0.out W h false)
            simp only [Bool.false_eq_true, if_false] at csx
            have HF := hidp (show deE cs e l = 2 from by rw [hd]; rfl)
            clear hd hn cs0
            go_enter Tryz.func32, Tryz.ntmps32
            go_wp2_with (first | (refine Mm.box 64 H rfl (.tmp 0) rfl (dkR e v l u r) rfl ?_; clear H; intro b1 _ H nw; have hb := nw.below; clear hb nw) | (refine Mm.ld0 naC H rfl (.tmp 5) 6 _ rfl rfl rfl ?_) | (refine Mm.ld0 naS H rfl (.tmp 8) 1 (.string e.sender) rfl rfl rfl ?_) | (go_at_call 11; refine (cm.out _ (HV.out.to H.out.below)).mono ?_; rintro e _ ⟨rfl, hb⟩; replace H := hidp (H.out.call hb); clear hb) | (refine Mm.ld0 naK H rfl (.tmp 13) 2 (.int .u8 (e.kind : Int)) rfl rfl rfl ?_) | (refine Mm.ld0 naS H rfl (.tmp 31) 4 (.string e.body) rfl rfl rfl ?_) | (go_at_call 16; refine (cx.out _ (HP.out.below H.out.below (Nat.le_refl _))).mono ?_; rintro e _ ⟨rfl, hb⟩; replace H := hidp (H.out.call hb); clear hb) | (refine Mm.get0 rtD H rfl (.tmp 1) rfl rfl rfl ?_) | (go_at_call 68; refine (csx.out _ (HU.out.to H.out.below)).mono ?_; rintro e _ ⟨rfl, hb⟩; replace H := hidp (H.out.call hb); clear hb))
            go_ret
            exact ⟨by rw [HF.out]; rfl, H.out.below⟩
          | some n =>
            rw [hn] at cx hd
            simp only [nxV] at cx
            have csx := hidp (fun W h => cs0.out W h true)
            simp only [if_true] at csx
            have HF := hidp (show deE cs e l = needE l e.sender l.s from by rw [hd]; rfl)
            obtain ⟨Z, hZ⟩ : ∃ Z, needE l e.sender l.s = Z := ⟨_, rfl⟩
            rw [hZ] at csx HF
            clear hd hn cs0 hZ
            go_enter Tryz.func32, Tryz.ntmps32
            go_wp2_with (first | (refine Mm.box 64 H rfl (.tmp 0) rfl (dkR e v l u r) rfl ?_; clear H; intro b1 _ H nw; have hb := nw.below; clear hb nw) | (refine Mm.ld0 naC H rfl (.tmp 5) 6 _ rfl rfl rfl ?_) | (refine Mm.ld0 naS H rfl (.tmp 8) 1 (.string e.sender) rfl rfl rfl ?_) | (go_at_call 11; refine (cm.out _ (HV.out.to H.out.below)).mono ?_; rintro e _ ⟨rfl, hb⟩; replace H := hidp (H.out.call hb); clear hb) | (refine Mm.ld0 naK H rfl (.tmp 13) 2 (.int .u8 (e.kind : Int)) rfl rfl rfl ?_) | (refine Mm.ld0 naS H rfl (.tmp 31) 4 (.string e.body) rfl rfl rfl ?_) | (go_at_call 16; refine (cx.out _ (HP.out.below H.out.below (Nat.le_refl _))).mono ?_; rintro e _ ⟨rfl, hb⟩; replace H := hidp (H.out.call hb); clear hb) | (refine Mm.get0 rtD H rfl (.tmp 1) rfl rfl rfl ?_) | (go_at_call 68; refine (csx.out _ (HU.out.to H.out.below)).mono ?_; rintro e _ ⟨rfl, hb⟩; replace H := hidp (H.out.call hb); clear hb))
            go_ret
            exact ⟨by rw [HF.out]; rfl, H.out.below⟩
        · rw [if_neg hk] at hd
          have hk8 := hk
          clear hk
          by_cases hk : e.kind = 5
          · have csx := hidp (fun W h => dsetting_any W e v l u r h true)
            simp only [if_true] at csx
            rw [if_pos hk] at hd
            have HF := hidp hd
            obtain ⟨Z, hZ⟩ : ∃ Z, needE l e.sender l.s = Z := ⟨_, rfl⟩
            rw [hZ] at csx HF
            have k3 : ((e.kind : Int) == 3) = false := by rw [beq_eq_false_iff_ne]; omega
            have k4 : ((e.kind : Int) == 4) = false := by rw [beq_eq_false_iff_ne]; omega
            have k8 : ((e.kind : Int) == 8) = false := by rw [beq_eq_false_iff_ne]; omega
            have k5 : ((e.kind : Int) == 5) = true := by rw [hk]; rfl
            clear hd hk hk3 hk4 hk8 hZ
            go_enter Tryz.func32, Tryz.ntmps32
            go_wp2_with (first | (refine Mm.box 64 H rfl (.tmp 0) rfl (dkR e v l u r) rfl ?_; clear H; intro b1 _ H nw; have hb := nw.below; clear hb nw) | (refine Mm.ld0 naC H rfl (.tmp 5) 6 _ rfl rfl rfl ?_) | (refine Mm.ld0 naS H rfl (.tmp 8) 1 (.string e.sender) rfl rfl rfl ?_) | (go_at_call 11; refine (cm.out _ (HV.out.to H.out.below)).mono ?_; rintro e _ ⟨rfl, hb⟩; replace H := hidp (H.out.call hb); clear hb) | (refine Mm.ld0 naK H rfl (.tmp 13) 2 (.int .u8 (e.kind : Int)) rfl rfl rfl ?_) | (refine Mm.get0 rtD H rfl (.tmp 1) rfl rfl rfl ?_) | (go_at_call 68; refine (csx.out _ (HU.out.to H.out.below)).mono ?_; rintro e _ ⟨rfl, hb⟩; replace H := hidp (H.out.call hb); clear hb))
            go_ret
            exact ⟨by rw [HF.out]; rfl, H.out.below⟩
          · rw [if_neg hk] at hd
            have hk5 := hk
            clear hk
            by_cases hk : e.kind = 7
            · have cn := hidp (fun W h => dneeds_any W e v l u r h l.r)
              rw [if_pos hk] at hd
              have HF := hidp hd
              obtain ⟨Z, hZ⟩ : ∃ Z, needE l e.sender l.r = Z := ⟨_, rfl⟩
              rw [hZ] at cn HF
              have k3 : ((e.kind : Int) == 3) = false := by rw [beq_eq_false_iff_ne]; omega
              have k4 : ((e.kind : Int) == 4) = false := by rw [beq_eq_false_iff_ne]; omega
              have k8 : ((e.kind : Int) == 8) = false := by rw [beq_eq_false_iff_ne]; omega
              have k5 : ((e.kind : Int) == 5) = false := by rw [beq_eq_false_iff_ne]; omega
              have k7 : ((e.kind : Int) == 7) = true := by rw [hk]; rfl
              clear hd hk hk3 hk4 hk8 hk5 hZ
              go_enter Tryz.func32, Tryz.ntmps32
              go_wp2_with (first | (refine Mm.box 64 H rfl (.tmp 0) rfl (dkR e v l u r) rfl ?_; clear H; intro b1 _ H nw; have hb := nw.below; clear hb nw) | (refine Mm.ld0 naC H rfl (.tmp 5) 6 _ rfl rfl rfl ?_) | (refine Mm.ld0 naS H rfl (.tmp 8) 1 (.string e.sender) rfl rfl rfl ?_) | (go_at_call 11; refine (cm.out _ (HV.out.to H.out.below)).mono ?_; rintro e _ ⟨rfl, hb⟩; replace H := hidp (H.out.call hb); clear hb) | (refine Mm.ld0 naK H rfl (.tmp 13) 2 (.int .u8 (e.kind : Int)) rfl rfl rfl ?_) | (refine Mm.get0 rtD H rfl (.tmp 1) rfl rfl rfl ?_) | (refine Mm.ld0 naInt H rfl (.tmp 47) 12 (.int .i64 l.r) rfl rfl rfl ?_) | (go_at_call 70; refine (cn.out _ (HU.out.to H.out.below)).mono ?_; rintro e _ ⟨rfl, hb⟩; replace H := hidp (H.out.call hb); clear hb))
              go_ret
              exact ⟨by rw [HF.out]; rfl, H.out.below⟩
            · rw [if_neg hk] at hd
              have HF := hidp hd
              have k3 : ((e.kind : Int) == 3) = false := by rw [beq_eq_false_iff_ne]; omega
              have k4 : ((e.kind : Int) == 4) = false := by rw [beq_eq_false_iff_ne]; omega
              have k8 : ((e.kind : Int) == 8) = false := by rw [beq_eq_false_iff_ne]; omega
              have k5 : ((e.kind : Int) == 5) = false := by rw [beq_eq_false_iff_ne]; omega
              have k7 : ((e.kind : Int) == 7) = false := by rw [beq_eq_false_iff_ne]; omega
              clear hd hk hk3 hk4 hk8 hk5
              go_enter Tryz.func32, Tryz.ntmps32
              go_wp2_with (first | (refine Mm.box 64 H rfl (.tmp 0) rfl (dkR e v l u r) rfl ?_; clear H; intro b1 _ H nw; have hb := nw.below; clear hb nw) | (refine Mm.ld0 naC H rfl (.tmp 5) 6 _ rfl rfl rfl ?_) | (refine Mm.ld0 naS H rfl (.tmp 8) 1 (.string e.sender) rfl rfl rfl ?_) | (go_at_call 11; refine (cm.out _ (HV.out.to H.out.below)).mono ?_; rintro e _ ⟨rfl, hb⟩; replace H := hidp (H.out.call hb); clear hb) | (refine Mm.ld0 naK H rfl (.tmp 13) 2 (.int .u8 (e.kind : Int)) rfl rfl rfl ?_))
              go_ret
              exact ⟨by rw [HF.out]; rfl, H.out.below⟩
end Go.Proofs.YtkcgmimcopoknaaGreatDoor
