/-
  Joined: AuB AuC.
-/
import Derived.Test.YtkcgmimcopoknaaGreatDoorAuA
namespace Go.Proofs.YtkcgmimcopoknaaGreatDoor
set_option maxRecDepth 100000
set_option linter.unusedVariables false
set_option linter.unusedSimpArgs false
open Go.RowKit Rw

theorem only_step {cs : List Ce} {k i : Nat} (h : i < cs.length) : onlyS (cs.drop i) k = if cs[i].k = k then some cs[i].e else onlyS (cs.drop (i + 1)) k := by
  unfold onlyS
  rw [List.drop_eq_getElem_cons h, List.find?_cons]
  by_cases hk : cs[i].k = k <;> simp [hk]
theorem only_ok {cs : List Ce} (h : ∀ c ∈ cs, c.ok) {k : Nat} {e : Ev} (he : onlyS cs k = some e) : e.ok := by
  unfold onlyS at he
  cases hf : cs.find? (fun c => decide (c.k = k)) with
  | none => rw [hf] at he; cases he
  | some c =>
    rw [hf] at he
    simp only [Option.map_some, Option.some.injEq] at he
    subst he
    exact (h c (List.mem_of_find?_eq_some hf)).e

theorem only_sz {cs : List Ce} (h : ∀ c ∈ cs, c.e.body.size ≤ 140737488351232 ∧ c.e.sender.size ≤ 140737488351232) {k : Nat} {e : Ev} (he : onlyS cs k = some e) : e.body.size ≤ 140737488351232 ∧ e.sender.size ≤ 140737488351232 := by
  unfold onlyS at he
  cases hf : cs.find? (fun c => decide (c.k = k)) with
  | none => rw [hf] at he; cases he
  | some c =>
    rw [hf] at he
    simp only [Option.map_some, Option.some.injEq] at he
    subst he
    exact h c (List.mem_of_find?_eq_some hf)
theorem mrule (w : World) (x : ByteArray) : Calls Tryz.prog 69 #[.string x] w fun e w' => e = .returned (.bool (ruleB x)) ∧ Below w.heap.size w w' := rule_any w x
set_option maxHeartbeats 8000000 in
theorem only_any (w : World) (v : Value) (cs : List Ce) (hv : CsAt w v cs) (k : Nat) :
    Calls Tryz.prog 29 #[v, .int .u8 (k : Int)] w fun e w' => e = .returned (foV (onlyS cs k)) ∧ Below w.heap.size w w' := by
  have HV := hidp hv; clear hv
  obtain ⟨av, cv0, rfl⟩ := HV.out.form
  have h47 := HV.out.len
  obtain ⟨n, hn⟩ : ∃ n, cs.length = n := ⟨_, rfl⟩
  have HN := hidp hn
  rw [hn] at HV h47 ⊢
  clear hn
  obtain ⟨R, hR⟩ : ∃ R, onlyS cs k = R := ⟨_, rfl⟩
  have HRR := hidp (show onlyS (cs.drop 0) k = R from hR)
  rw [hR]
  clear hR
  have H := hidp (Mm.M.nil w)
  go_enter Tryz.func29, Tryz.ntmps29
  go_wp2_with (refine Mm.new rtE H (some 4) rfl rfl rfl ?_; clear H; intro b4 _ H nw; clear nw)
  go_loopw [10] (fun t10 wr => ∃ i : Nat, t10 = .int .i64 (i : Int) ∧ i ≤ n ∧ Hid (onlyS (cs.drop i) k = R) ∧ Mm.M w.heap.size w wr [⟨b4, 25, zE⟩]) (fun t10 _ => n - (intOf t10).toNat)
  case atStart => exact ⟨0, rfl, by omega, HRR, H.out⟩
  case round =>
    clear H
    obtain ⟨i, rfl, hi, HR1, hM⟩ := hrel
    have H := hidp hM
    clear hM
    by_cases hlt : i < n
    · have e1 : decide ((i : Int) < (n : Int)) = true := by simp; omega
      have hgl : i < cs.length := by rw [HN.out]; exact hlt
      obtain ⟨BK, off, c0, e2, hc, hBK0, hR0⟩ := HV.out.get (by rw [HN.out]; omega)
      rw [HN.out] at e2
      simp only [Value.slice.injEq] at e2
      obtain ⟨rfl, -, rfl⟩ := e2
      obtain ⟨c, hge⟩ : ∃ c, cs[i] = c := ⟨_, rfl⟩
      have HRI := hidp (show wr.rangeAt BK (off + 8 * i) c.row from by rw [← hge]; exact rangeAt_below (hR0 i hgl) H.out.below hBK0)
      have hst := HR1.out
      rw [only_step hgl, hge] at hst
      clear hR0 hBK0 hge hc
      by_cases hk : c.k = k
      · have ek : ((c.k : Int) == (k : Int)) = true := by rw [hk]; simp
        rw [if_pos hk] at hst
        have HF := hidp hst.symm
        clear hst hk
        go_wp2_with (first | (refine wpL_idxR tyC rfl (.tmp 8) (.tmp 10) rfl BK off n _ i rfl rfl hlt ?_) | (refine wpL_atR tyC rfl (.tmp 12) rfl BK (off + 8 * i) c.row rfl rfl HRI.out ?_) | (refine Mm.new rtC H (some 7) rfl rfl rfl ?_; clear H; intro b7 _ H nw; have hb := nw.below; clear hb nw) | (refine Mm.put0 rtC H rfl (.tmp 7) (.tmp 13) c.row rfl rfl rfl rfl (Ce.one c) rfl ?_; intro _ H2 st; clear st H; have H := H2; clear H2) | (refine Mm.ld0 naK H rfl (.tmp 14) 0 (.int .u8 (c.k : Int)) rfl rfl rfl ?_) | (refine wpL_mid rtE rfl (.tmp 18) b7 2 c.e.row rfl rfl rfl (ce_evA H.out.at0) ?_) | (refine Mm.put1 rtE H rfl (.tmp 4) (.tmp 19) c.e.row rfl rfl rfl rfl (Ev.one _) rfl ?_; intro _ H2 st; clear st H; have H := H2; clear H2))
        refine bodyPost_ret (Mm.ret_rowv rtE Tryz.results29 _ b4 _ _ rfl rfl H.out.at1 rfl) rfl ⟨by rw [HF.out]; rfl, H.out.below⟩
      · have ek : ((c.k : Int) == (k : Int)) = false := by rw [beq_eq_false_iff_ne]; omega
        rw [if_neg hk] at hst
        have HR2 := hidp hst
        clear hst hk
        go_wp2_with (first | (refine wpL_idxR tyC rfl (.tmp 8) (.tmp 10) rfl BK off n _ i rfl rfl hlt ?_) | (refine wpL_atR tyC rfl (.tmp 12) rfl BK (off + 8 * i) c.row rfl rfl HRI.out ?_) | (refine Mm.new rtC H (some 7) rfl rfl rfl ?_; clear H; intro b7 _ H nw; have hb := nw.below; clear hb nw) | (refine Mm.put0 rtC H rfl (.tmp 7) (.tmp 13) c.row rfl rfl rfl rfl (Ce.one c) rfl ?_; intro _ H2 st; clear st H; have H := H2; clear H2) | (refine Mm.ld0 naK H rfl (.tmp 14) 0 (.int .u8 (c.k : Int)) rfl rfl rfl ?_))
        exact ⟨⟨i + 1, by go_num, by omega, HR2.out, H.out.tail⟩, by simp [intOf]; omega⟩
    · have e1 : decide ((i : Int) < (n : Int)) = false := by simp; omega
      have hin : i = n := by omega
      have HF := hidp (show R = none from by rw [← HR1.out, hin, ← HN.out, List.drop_length]; rfl)
      go_wp2_with (first | (refine Rt.wpL_build rfl 25 _ rfl zE (by kernel_rfl) ?_) | (refine Mm.put0 rtE H rfl (.tmp 4) (.tmp 21) zE rfl rfl rfl rfl (by simp [zE, Value.oneCell']) rfl ?_; intro _ H2 st; clear st H; have H := H2; clear H2))
      refine bodyPost_ret (Mm.ret_rowv rtE Tryz.results29 _ b4 _ _ rfl rfl H.out.at0 rfl) rfl ⟨by rw [HF.out]; rfl, H.out.below⟩

set_option maxHeartbeats 8000000 in
theorem ruleOf_any (w : World) (v : Value) (cs : List Ce) (hv : CsAt w v cs) :
    Calls Tryz.prog 58 #[v] w fun e w' => e = .returned (.tuple #[.string (ruS cs), .int .i64 (ruX cs)]) ∧ Below w.heap.size w w' := by
  have HV := hidp hv
  have co := hidp (fun W h => only_any W v cs h 4)
  have H := hidp (Mm.M.nil w)
  cases ho : onlyS cs 4 with
  | none =>
    rw [ho] at co
    simp only [foV] at co
    have H1 := hidp (show ruS cs = wInvite from by unfold ruS; rw [ho]); have H2 := hidp (show ruX cs = 0 from by unfold ruX; rw [ho])
    clear ho hv
    go_enter Tryz.func58, Tryz.ntmps58
    go_wp2_with (first | (go_at_call 29; refine (co.out _ (HV.out.to H.out.below)).mono ?_; rintro e _ ⟨rfl, hb⟩; replace H := hidp (H.out.call hb); clear hb) | (refine Mm.new rtE H (some 4) rfl rfl rfl ?_; clear H; intro b4 _ H nw; have hb := nw.below; clear hb nw) | (refine Mm.put0 rtE H rfl (.tmp 4) (.tmp 9) zEv.row rfl rfl rfl rfl (Ev.one _) rfl ?_; intro _ H2 st; clear st H; have H := H2; clear H2))
    go_ret2
    exact ⟨by rw [H1.out, H2.out]; rfl, H.out.below⟩
  | some e =>
    rw [ho] at co
    simp only [foV] at co
    have cr := hidp (fun W => mrule W e.body)
    cases hr : ruleB e.body with
    | true =>
      rw [hr] at cr
      have H1 := hidp (show ruS cs = e.body from by unfold ruS; rw [ho]; simp only [hr, if_true]); have H2 := hidp (show ruX cs = 0 from by unfold ruX; rw [ho]; simp only [hr, if_true])
      clear ho hv hr
      go_enter Tryz.func58, Tryz.ntmps58
      go_wp2_with (first | (go_at_call 29; refine (co.out _ (HV.out.to H.out.below)).mono ?_; rintro e _ ⟨rfl, hb⟩; replace H := hidp (H.out.call hb); clear hb) | (refine Mm.new rtE H (some 4) rfl rfl rfl ?_; clear H; intro b4 _ H nw; have hb := nw.below; clear hb nw) | (refine Mm.put0 rtE H rfl (.tmp 4) (.tmp 9) e.row rfl rfl rfl rfl (Ev.one _) rfl ?_; intro _ H2 st; clear st H; have H := H2; clear H2) | (refine Mm.ld0 naS H rfl (.tmp 13) 4 (.string e.body) rfl rfl rfl ?_) | (go_at_call 69; refine (cr.out _).mono ?_; rintro e _ ⟨rfl, hb⟩; replace H := hidp (H.out.call hb); clear hb) | (refine Mm.ld0 naS H rfl (.tmp 17) 4 (.string e.body) rfl rfl rfl ?_))
      go_ret2
      exact ⟨by rw [H1.out, H2.out]; rfl, H.out.below⟩
    | false =>
      rw [hr] at cr
      have H1 := hidp (show ruS cs = ⟨#[]⟩ from by unfold ruS; rw [ho]; simp [hr]); have H2 := hidp (show ruX cs = 2 from by unfold ruX; rw [ho]; simp [hr])
      clear ho hv hr
      go_enter Tryz.func58, Tryz.ntmps58
      go_wp2_with (first | (go_at_call 29; refine (co.out _ (HV.out.to H.out.below)).mono ?_; rintro e _ ⟨rfl, hb⟩; replace H := hidp (H.out.call hb); clear hb) | (refine Mm.new rtE H (some 4) rfl rfl rfl ?_; clear H; intro b4 _ H nw; have hb := nw.below; clear hb nw) | (refine Mm.put0 rtE H rfl (.tmp 4) (.tmp 9) e.row rfl rfl rfl rfl (Ev.one _) rfl ?_; intro _ H2 st; clear st H; have H := H2; clear H2) | (refine Mm.ld0 naS H rfl (.tmp 13) 4 (.string e.body) rfl rfl rfl ?_) | (go_at_call 69; refine (cr.out _).mono ?_; rintro e _ ⟨rfl, hb⟩; replace H := hidp (H.out.call hb); clear hb) | (refine Mm.ld0 naS H rfl (.tmp 17) 4 (.string e.body) rfl rfl rfl ?_))
      go_ret2
      exact ⟨by rw [H1.out, H2.out]; rfl, H.out.below⟩

set_option maxHeartbeats 8000000 in
theorem alevelsOf_any (w : World) (v : Value) (cs : List Ce) (hv : CsAt w v cs) (hs : ∀ c ∈ cs, c.e.body.size ≤ 140737488351232 ∧ c.e.sender.size ≤ 140737488351232) (hP : PT w) :
    Calls Tryz.prog 47 #[v] w fun e w' => ∃ u, e = .returned (.tuple #[.agg #[.int .i64 (lvS cs).a, .int .i64 (lvS cs).s, .int .i64 (lvS cs).i, .int .i64 (lvS cs).k, .int .i64 (lvS cs).b, .int .i64 (lvS cs).r, u], .int .i64 (lvX cs)]) ∧ UsAt w' u (lvS cs).us ∧ Below w.heap.size w w' := by
  have HV := hidp hv; have HP := hidp hP
  have co3 := hidp (fun W h => only_any W v cs h 3); have co1 := hidp (fun W h => only_any W v cs h 1)
  have H := hidp (Mm.M.nil w)
  cases h3 : onlyS cs 3 with
  | some e =>
    rw [h3] at co3
    simp only [foV] at co3
    have hbs := (only_sz hs h3).1
    have cp := hidp (fun W h => lvParse_any W e.body hbs h)
    cases hp : psL e.body with
    | some m =>
      rw [show psX e.body = 0 from by unfold psX; rw [hp]; rfl, show psV e.body = m from by unfold psV; rw [hp]; rfl] at cp
      have H1 := hidp (show lvS cs = m from by unfold lvS; rw [h3]; simp only [psV, hp]; rfl); have H2 := hidp (show lvX cs = 0 from by unfold lvX; rw [h3]; simp [hp])
      clear h3 hp hv hs hP
      go_enter Tryz.func47, Tryz.ntmps47
      go_wp2_with (first | (refine Mm.new tyL H (some 2) rfl rfl rfl ?_; clear H; intro b2 _ H nw; have hb := nw.below; clear hb nw) | (go_at_call 29; refine (co3.out _ (HV.out.to H.out.below)).mono ?_; rintro e _ ⟨rfl, hb⟩; replace H := hidp (H.out.call hb); clear co3; clear hb) | (refine Mm.new rtE H (some 4) rfl rfl rfl ?_; clear H; intro b4 _ H nw; have hb := nw.below; clear hb nw) | (refine Mm.put0 rtE H rfl (.tmp 4) (.tmp 13) e.row rfl rfl rfl rfl (Ev.one _) rfl ?_; intro _ H2 st; clear st H; have H := H2; clear H2) | (refine Mm.ld0 naS H rfl (.tmp 17) 4 (.string e.body) rfl rfl rfl ?_) | (go_at_call 83; refine (cp.out _ (HP.out.below H.out.below (Nat.le_refl _))).mono ?_; rintro x _ ⟨v1, rfl, hu, hb⟩; obtain ⟨a1, c1, rfl⟩ := hu.form; replace H := hidp (H.out.call hb); have HU := hidp hu; clear hu hb cp) | (refine Mm.new tyL H (some 6) rfl rfl rfl ?_; clear H; intro b6 _ H nw; have hb := nw.below; replace HU := hidp (HU.out.to hb); clear hb nw) | (refine Mm.put0 tyL H rfl (.tmp 6) (.tmp 20) [.int .i64 m.a, .int .i64 m.s, .int .i64 m.i, .int .i64 m.k, .int .i64 m.b, .int .i64 m.r, .slice a1 m.us.length c1] rfl rfl rfl rfl (by simp [Value.oneCell']) rfl ?_; intro _ H2 st; replace HU := hidp (HU.out.stp st H.out.at0 (by simp [zL])); clear st H; have H := H2; clear H2) | (refine Mm.get0 tyL H rfl (.tmp 6) rfl rfl rfl ?_) | (refine Mm.put2 tyL H rfl (.tmp 2) (.tmp 25) [.int .i64 m.a, .int .i64 m.s, .int .i64 m.i, .int .i64 m.k, .int .i64 m.b, .int .i64 m.r, .slice a1 m.us.length c1] rfl rfl rfl rfl (by simp [Value.oneCell']) rfl ?_; intro _ H2 st; replace HU := hidp (HU.out.stp st H.out.at2 (by simp [zL])); clear st H; have H := H2; clear H2))
      refine bodyPost_ret (Mm.ret_rowv tyL Tryz.results47 _ b2 _ _ rfl rfl H.out.at2 rfl) rfl ⟨_, by rw [H1.out, H2.out]; rfl, by rw [H1.out]; exact HU.out, H.out.below⟩
    | none =>
      rw [show psX e.body = 6 from by unfold psX; rw [hp]; rfl] at cp
      have H1 := hidp (show lvS cs = zLv from by unfold lvS; rw [h3]; simp only [psV, hp]; rfl); have H2 := hidp (show lvX cs = 2 from by unfold lvX; rw [h3]; simp [hp])
      obtain ⟨L3, hL3⟩ : ∃ z, psV e.body = z := ⟨_, rfl⟩
      rw [hL3] at cp
      clear h3 hp hv hs hP hL3
      go_enter Tryz.func47, Tryz.ntmps47
      go_wp2_with (first | (refine Mm.new tyL H (some 2) rfl rfl rfl ?_; clear H; intro b2 _ H nw; have hb := nw.below; clear hb nw) | (go_at_call 29; refine (co3.out _ (HV.out.to H.out.below)).mono ?_; rintro e _ ⟨rfl, hb⟩; replace H := hidp (H.out.call hb); clear co3; clear hb) | (refine Mm.new rtE H (some 4) rfl rfl rfl ?_; clear H; intro b4 _ H nw; have hb := nw.below; clear hb nw) | (refine Mm.put0 rtE H rfl (.tmp 4) (.tmp 13) e.row rfl rfl rfl rfl (Ev.one _) rfl ?_; intro _ H2 st; clear st H; have H := H2; clear H2) | (refine Mm.ld0 naS H rfl (.tmp 17) 4 (.string e.body) rfl rfl rfl ?_) | (go_at_call 83; refine (cp.out _ (HP.out.below H.out.below (Nat.le_refl _))).mono ?_; rintro x _ ⟨v1, rfl, hu, hb⟩; obtain ⟨a1, c1, rfl⟩ := hu.form; replace H := hidp (H.out.call hb); have HU := hidp hu; clear hu hb cp) | (refine Mm.new tyL H (some 6) rfl rfl rfl ?_; clear H; intro b6 _ H nw; have hb := nw.below; replace HU := hidp (HU.out.to hb); clear hb nw) | (refine Mm.put0 tyL H rfl (.tmp 6) (.tmp 20) [.int .i64 L3.a, .int .i64 L3.s, .int .i64 L3.i, .int .i64 L3.k, .int .i64 L3.b, .int .i64 L3.r, .slice a1 L3.us.length c1] rfl rfl rfl rfl (by simp [Value.oneCell']) rfl ?_; intro _ H2 st; replace HU := hidp (HU.out.stp st H.out.at0 (by simp [zL])); clear st H; have H := H2; clear H2) | (refine Rt.wpL_build rfl 47 _ rfl zL (by kernel_rfl) ?_) | (refine Mm.put2 tyL H rfl (.tmp 2) (.tmp 24) zL rfl rfl rfl rfl (by simp [zL, Value.oneCell']) rfl ?_; intro _ H2 st; clear st H; have H := H2; clear H2))
      refine bodyPost_ret (Mm.ret_rowv tyL Tryz.results47 _ b2 _ _ rfl rfl H.out.at2 rfl) rfl ⟨_, by rw [H1.out, H2.out]; rfl, by rw [H1.out]; exact UsAt.nil _, H.out.below⟩
  | none =>
    rw [h3] at co3
    simp only [foV] at co3
    cases h1 : onlyS cs 1 with
    | none =>
      rw [h1] at co1
      simp only [foV] at co1
      have H1 := hidp (show lvS cs = zLv from by unfold lvS; rw [h3]; simp only [h1]); have H2 := hidp (show lvX cs = 3 from by unfold lvX; rw [h3]; simp [h1])
      clear h3 h1 hv hs hP
      go_enter Tryz.func47, Tryz.ntmps47
      go_wp2_with (first | (refine Mm.new tyL H (some 2) rfl rfl rfl ?_; clear H; intro b2 _ H nw; have hb := nw.below; clear hb nw) | (go_at_call 29; refine (co3.out _ (HV.out.to H.out.below)).mono ?_; rintro e _ ⟨rfl, hb⟩; replace H := hidp (H.out.call hb); clear co3; clear hb) | (refine Mm.new rtE H (some 4) rfl rfl rfl ?_; clear H; intro b4 _ H nw; have hb := nw.below; clear hb nw) | (refine Mm.put0 rtE H rfl (.tmp 4) (.tmp 13) zEv.row rfl rfl rfl rfl (Ev.one _) rfl ?_; intro _ H2 st; clear st H; have H := H2; clear H2) | (go_at_call 29; refine (co1.out _ (HV.out.to H.out.below)).mono ?_; rintro e _ ⟨rfl, hb⟩; replace H := hidp (H.out.call hb); clear co1; clear hb) | (refine Mm.new rtE H (some 8) rfl rfl rfl ?_; clear H; intro b8 _ H nw; have hb := nw.below; clear hb nw) | (refine Mm.put0 rtE H rfl (.tmp 8) (.tmp 29) zEv.row rfl rfl rfl rfl (Ev.one _) rfl ?_; intro _ H2 st; clear st H; have H := H2; clear H2) | (refine Rt.wpL_build rfl 47 _ rfl zL (by kernel_rfl) ?_) | (refine Mm.put2 tyL H rfl (.tmp 2) (.tmp 33) zL rfl rfl rfl rfl (by simp [zL, Value.oneCell']) rfl ?_; intro _ H2 st; clear st H; have H := H2; clear H2))
      refine bodyPost_ret (Mm.ret_rowv tyL Tryz.results47 _ b2 _ _ rfl rfl H.out.at2 rfl) rfl ⟨_, by rw [H1.out, H2.out]; rfl, by rw [H1.out]; exact UsAt.nil _, H.out.below⟩
    | some e =>
      rw [h1] at co1
      simp only [foV] at co1
      have hss := (only_sz hs h1).2
      have cf := hidp (fun W h => first_any W e.sender hss h)
      have H1 := hidp (show lvS cs = fsL e.sender from by unfold lvS; rw [h3]; simp only [h1]); have H2 := hidp (show lvX cs = 0 from by unfold lvX; rw [h3]; simp [h1])
      clear h3 h1 hv hs hP hss
      go_enter Tryz.func47, Tryz.ntmps47
      go_wp2_with (first | (refine Mm.new tyL H (some 2) rfl rfl rfl ?_; clear H; intro b2 _ H nw; have hb := nw.below; clear hb nw) | (go_at_call 29; refine (co3.out _ (HV.out.to H.out.below)).mono ?_; rintro e _ ⟨rfl, hb⟩; replace H := hidp (H.out.call hb); clear co3; clear hb) | (refine Mm.new rtE H (some 4) rfl rfl rfl ?_; clear H; intro b4 _ H nw; have hb := nw.below; clear hb nw) | (refine Mm.put0 rtE H rfl (.tmp 4) (.tmp 13) zEv.row rfl rfl rfl rfl (Ev.one _) rfl ?_; intro _ H2 st; clear st H; have H := H2; clear H2) | (go_at_call 29; refine (co1.out _ (HV.out.to H.out.below)).mono ?_; rintro e _ ⟨rfl, hb⟩; replace H := hidp (H.out.call hb); clear co1; clear hb) | (refine Mm.new rtE H (some 8) rfl rfl rfl ?_; clear H; intro b8 _ H nw; have hb := nw.below; clear hb nw) | (refine Mm.put0 rtE H rfl (.tmp 8) (.tmp 29) e.row rfl rfl rfl rfl (Ev.one _) rfl ?_; intro _ H2 st; clear st H; have H := H2; clear H2) | (refine Mm.ld0 naS H rfl (.tmp 34) 1 (.string e.sender) rfl rfl rfl ?_) | (go_at_call 84; refine (cf.out _ (HP.out.below H.out.below (Nat.le_refl _))).mono ?_; rintro x _ ⟨v1, rfl, hu, hb⟩; obtain ⟨a1, c1, rfl⟩ := hu.form; replace H := hidp (H.out.call hb); have HU := hidp hu; clear hu hb cf) | (refine Mm.put2 tyL H rfl (.tmp 2) (.tmp 36) [.int .i64 (fsL e.sender).a, .int .i64 (fsL e.sender).s, .int .i64 (fsL e.sender).i, .int .i64 (fsL e.sender).k, .int .i64 (fsL e.sender).b, .int .i64 (fsL e.sender).r, .slice a1 (fsL e.sender).us.length c1] rfl rfl rfl rfl (by simp [Value.oneCell']) rfl ?_; intro _ H2 st; replace HU := hidp (HU.out.stp st H.out.at2 (by simp [zL])); clear st H; have H := H2; clear H2))
      refine bodyPost_ret (Mm.ret_rowv tyL Tryz.results47 _ b2 _ _ rfl rfl H.out.at2 rfl) rfl ⟨_, by rw [H1.out, H2.out]; rfl, by rw [H1.out]; exact HU.out, H.out.below⟩
end Go.Proofs.YtkcgmimcopoknaaGreatDoor

namespace Go.Proofs.YtkcgmimcopoknaaGreatDoor
set_option maxRecDepth 100000
set_option linter.unusedVariables false
set_option linter.unusedSimpArgs false
open Go.RowKit Rw

def lvR (l : Lv) (u : Value) : List Value := [.int .i64 l.a, .int .i64 l.s, .int .i64 l.i, .int .i64 l.k, .int .i64 l.b, .int .i64 l.r, u]
def dkR (e : Ev) (v : Value) (l : Lv) (u : Value) (r : ByteArray) : List Value :=
  [.string e.room, .string e.sender, .int .u8 (e.kind : Int), .string e.key, .string e.body, .int .i64 e.nonce, v, .int .i64 l.a, .int .i64 l.s, .int .i64 l.i, .int .i64 l.k, .int .i64 l.b, .int .i64 l.r, u, .string r]
def zD : List Value := [.string ⟨#[]⟩, .string ⟨#[]⟩, .int .u8 0, .string ⟨#[]⟩, .string ⟨#[]⟩, .int .i64 0, .slice none 0 0, .int .i64 0, .int .i64 0, .int .i64 0, .int .i64 0, .int .i64 0, .int .i64 0, .slice none 0 0, .string ⟨#[]⟩]
theorem rtD : Rt.RT Tryz.prog 64 15 zD := ⟨rfl, .inl ⟨_, Tryz.underlying64⟩, by kernel_rfl⟩
theorem naC : Mm.NA Tryz.prog 22 := ⟨_, Tryz.underlying22, rfl⟩
theorem dk_lv {w : World} {b t : Nat} {e : Ev} {v u : Value} {l : Lv} {r : ByteArray} (h : Arr w b t (dkR e v l u r)) : w.rangeAt b 7 [.int .i64 l.a, .int .i64 l.s, .int .i64 l.i, .int .i64 l.k, .int .i64 l.b, .int .i64 l.r, u] := by
  have h2 := h.range
  have ed : dkR e v l u r = (e.row ++ [v]) ++ ([.int .i64 l.a, .int .i64 l.s, .int .i64 l.i, .int .i64 l.k, .int .i64 l.b, .int .i64 l.r, u] ++ [.string r]) := rfl
  rw [ed, rAt_app] at h2
  have h3 := h2.2
  rw [rAt_app] at h3
  replace h3 := h3.1
  have hl : 0 + (e.row ++ [v]).length = 7 := rfl
  rw [hl] at h3
  exact h3

set_option maxHeartbeats 4000000 in
theorem dlevel_any (w : World) (e : Ev) (v : Value) (l : Lv) (u : Value) (r : ByteArray) (hu : UsAt w u l.us) : Calls Tryz.prog 66 #[.agg (dkR e v l u r).toArray] w fun x w' => x = .returned (.int .i64 (ofL l e.sender)) ∧ Below w.heap.size w w' := by
  have HU := hidp hu
  have co := hidp (fun W h => of_any W l u e.sender h)
  have H := hidp (Mm.M.nil w)
  clear hu
  go_enter Tryz.func66, Tryz.ntmps66
  go_wp2_with (first | (refine Mm.box 64 H rfl (.tmp 0) rfl (dkR e v l u r) rfl ?_; clear H; intro b1 _ H nw; have hb := nw.below; clear hb nw) | (refine wpL_mid tyL rfl (.tmp 3) b1 7 [.int .i64 l.a, .int .i64 l.s, .int .i64 l.i, .int .i64 l.k, .int .i64 l.b, .int .i64 l.r, u] rfl rfl rfl (dk_lv H.out.at0) ?_) | (refine Mm.ld0 naS H rfl (.tmp 6) 1 (.string e.sender) rfl rfl rfl ?_) | (go_at_call 22; refine (co.out _ (HU.out.to H.out.below)).mono ?_; rintro e _ ⟨rfl, hb⟩; replace H := hidp (H.out.call hb); clear hb))
  go_ret
  exact ⟨rfl, H.out.below⟩

set_option maxHeartbeats 4000000 in
theorem dreaches_any (w : World) (e : Ev) (v : Value) (l : Lv) (u : Value) (r : ByteArray) (hu : UsAt w u l.us) (n : Int) : Calls Tryz.prog 65 #[.agg (dkR e v l u r).toArray, .int .i64 n] w fun x w' => x = .returned (.bool (decide (n ≤ ofL l e.sender))) ∧ Below w.heap.size w w' := by
  have HU := hidp hu
  have cl := hidp (fun W h => dlevel_any W e v l u r h)
  have H := hidp (Mm.M.nil w)
  obtain ⟨m, hm⟩ : ∃ m, ofL l e.sender = m := ⟨_, rfl⟩
  rw [hm] at cl ⊢
  obtain ⟨B, hB⟩ : ∃ B, decide (n ≤ m) = B := ⟨_, rfl⟩
  rw [hB]
  have hB2 : decide (m ≥ n) = B := hB
  clear hu hm
  go_enter Tryz.func65, Tryz.ntmps65
  go_wp2_with (first | (refine Mm.box 64 H rfl (.tmp 0) rfl (dkR e v l u r) rfl ?_; clear H; intro b2 _ H nw; have hb := nw.below; clear hb nw) | (refine Mm.get0 rtD H rfl (.tmp 2) rfl rfl rfl ?_) | (go_at_call 66; refine (cl.out _ (HU.out.to H.out.below)).mono ?_; rintro e _ ⟨rfl, hb⟩; replace H := hidp (H.out.call hb); clear hb))
  go_ret
  exact ⟨rfl, H.out.below⟩

set_option maxHeartbeats 4000000 in
theorem dneeds_any (w : World) (e : Ev) (v : Value) (l : Lv) (u : Value) (r : ByteArray) (hu : UsAt w u l.us) (n : Int) : Calls Tryz.prog 70 #[.agg (dkR e v l u r).toArray, .int .i64 n] w fun x w' => x = .returned (.int .i64 (needE l e.sender n)) ∧ Below w.heap.size w w' := by
  have HU := hidp hu
  have cr := hidp (fun W h => dreaches_any W e v l u r h n)
  have H := hidp (Mm.M.nil w)
  by_cases h : n ≤ ofL l e.sender
  · rw [decide_eq_true h] at cr
    have HF := hidp (show needE l e.sender n = 0 from if_pos h)
    clear hu h
    go_enter Tryz.func70, Tryz.ntmps70
    go_wp2_with (first | (refine Mm.box 64 H rfl (.tmp 0) rfl (dkR e v l u r) rfl ?_; clear H; intro b2 _ H nw; have hb := nw.below; clear hb nw) | (refine Mm.get0 rtD H rfl (.tmp 2) rfl rfl rfl ?_) | (go_at_call 65; refine (cr.out _ (HU.out.to H.out.below)).mono ?_; rintro e _ ⟨rfl, hb⟩; replace H := hidp (H.out.call hb); clear hb))
    go_ret
    exact ⟨by rw [HF.out]; rfl, H.out.below⟩
  · rw [decide_eq_false h] at cr
    have HF := hidp (show needE l e.sender n = 12 from if_neg h)
    clear hu h
    go_enter Tryz.func70, Tryz.ntmps70
    go_wp2_with (first | (refine Mm.box 64 H rfl (.tmp 0) rfl (dkR e v l u r) rfl ?_; clear H; intro b2 _ H nw; have hb := nw.below; clear hb nw) | (refine Mm.get0 rtD H rfl (.tmp 2) rfl rfl rfl ?_) | (go_at_call 65; refine (cr.out _ (HU.out.to H.out.below)).mono ?_; rintro e _ ⟨rfl, hb⟩; replace H := hidp (H.out.call hb); clear hb))
    go_ret
    exact ⟨by rw [HF.out]; rfl, H.out.below⟩

set_option maxHeartbeats 4000000 in
theorem dsetting_any (w : World) (e : Ev) (v : Value) (l : Lv) (u : Value) (r : ByteArray) (hu : UsAt w u l.us) (f : Bool) : Calls Tryz.prog 68 #[.agg (dkR e v l u r).toArray, .bool f] w fun x w' => x = .returned (.int .i64 (if f = true then needE l e.sender l.s else 2)) ∧ Below w.heap.size w w' := by
  have HU := hidp hu
  have cn := hidp (fun W h => dneeds_any W e v l u r h l.s)
  have H := hidp (Mm.M.nil w)
  clear hu
  cases f with
  | true =>
    go_enter Tryz.func68, Tryz.ntmps68
    go_wp2_with (first | (refine Mm.box 64 H rfl (.tmp 0) rfl (dkR e v l u r) rfl ?_; clear H; intro b2 _ H nw; have hb := nw.below; clear hb nw) | (refine Mm.get0 rtD H rfl (.tmp 2) rfl rfl rfl ?_) | (refine Mm.ld0 naInt H rfl (.tmp 9) 8 (.int .i64 l.s) rfl rfl rfl ?_) | (go_at_call 70; refine (cn.out _ (HU.out.to H.out.below)).mono ?_; rintro e _ ⟨rfl, hb⟩; replace H := hidp (H.out.call hb); clear hb))
    go_ret
    exact ⟨rfl, H.out.below⟩
  | false =>
    go_enter Tryz.func68, Tryz.ntmps68
    go_wp2_with (first | (refine Mm.box 64 H rfl (.tmp 0) rfl (dkR e v l u r) rfl ?_; clear H; intro b2 _ H nw; have hb := nw.below; clear hb nw) | (refine Mm.get0 rtD H rfl (.tmp 2) rfl rfl rfl ?_) | (refine Mm.ld0 naInt H rfl (.tmp 9) 8 (.int .i64 l.s) rfl rfl rfl ?_) | (go_at_call 70; refine (cn.out _ (HU.out.to H.out.below)).mono ?_; rintro e _ ⟨rfl, hb⟩; replace H := hidp (H.out.call hb); clear hb))
    go_ret
    exact ⟨rfl, H.out.below⟩

def cgE (l : Lv) (e : Ev) : Int := if (psL e.body).isSome = true then (if needE l e.sender l.s = 0 then chE l (psV e.body) e.sender else 12) else 2
set_option maxHeartbeats 8000000 in
theorem dchange_any (w : World) (e : Ev) (v : Value) (l : Lv) (u : Value) (r : ByteArray) (hu : UsAt w u l.us) (hbs : e.body.size ≤ 140737488351232) (hP : PT w) : Calls Tryz.prog 67 #[.agg (dkR e v l u r).toArray] w fun x w' => x = .returned (.int .i64 (cgE l e)) ∧ Below w.heap.size w w' := by
  have HU := hidp hu; have HP := hidp hP
  have cp := hidp (fun W h => lvParse_any W e.body hbs h)
  have H := hidp (Mm.M.nil w)
  clear hu hP
  cases hp : psL e.body with
  | none =>
    rw [show psX e.body = 6 from by unfold psX; rw [hp]; rfl] at cp
    obtain ⟨L3, hL3⟩ : ∃ z, psV e.body = z := ⟨_, rfl⟩
    rw [hL3] at cp
    have cs := hidp (fun W h => dsetting_any W e v l u r h false)
    simp only [Bool.false_eq_true, if_false] at cs
    have HF := hidp (show cgE l e = 2 from by unfold cgE; rw [hp]; rfl)
    clear hp hL3
    go_enter Tryz.func67, Tryz.ntmps67
    go_wp2_with (first | (refine Mm.box 64 H rfl (.tmp 0) rfl (dkR e v l u r) rfl ?_; clear H; intro b1 _ H nw; have hb := nw.below; clear hb nw) | (refine Mm.ld0 naS H rfl (.tmp 8) 4 (.string e.body) rfl rfl rfl ?_) | (go_at_call 83; refine (cp.out _ (HP.out.below H.out.below (Nat.le_refl _))).mono ?_; rintro x _ ⟨v1, rfl, hu, hb⟩; obtain ⟨a1, c1, rfl⟩ := hu.form; replace HU := hidp ((HU.out.to H.out.below).to hb); replace H := hidp (H.out.call hb); have HN := hidp hu; clear hu hb cp) | (refine Mm.new tyL H (some 3) rfl rfl rfl ?_; clear H; intro b3 _ H nw; have hb := nw.below; replace HN := hidp (HN.out.to hb); replace HU := hidp (HU.out.to hb); clear hb nw) | (refine Mm.put0 tyL H rfl (.tmp 3) (.tmp 11) [.int .i64 L3.a, .int .i64 L3.s, .int .i64 L3.i, .int .i64 L3.k, .int .i64 L3.b, .int .i64 L3.r, .slice a1 L3.us.length c1] rfl rfl rfl rfl (by simp [Value.oneCell']) rfl ?_; intro _ H2 st; replace HN := hidp (HN.out.stp st H.out.at0 (by simp [zL])); replace HU := hidp (HU.out.stp st H.out.at0 (by simp [zL])); clear st H; have H := H2; clear H2) | (refine Mm.get1 rtD H rfl (.tmp 1) rfl rfl rfl ?_) | (go_at_call 68; refine (cs.out _ HU.out).mono ?_; rintro e _ ⟨rfl, hb⟩; replace H := hidp (H.out.call hb); replace HN := hidp (HN.out.to hb); replace HU := hidp (HU.out.to hb); clear hb))
    go_ret
    exact ⟨by rw [HF.out]; rfl, H.out.below⟩
  | some m =>
    rw [show psX e.body = 0 from by unfold psX; rw [hp]; rfl, show psV e.body = m from by unfold psV; rw [hp]; rfl] at cp
    have cs := hidp (fun W h => dsetting_any W e v l u r h true)
    simp only [if_true] at cs
    have hmm : psV e.body = m := by unfold psV; rw [hp]; rfl
    by_cases hn : needE l e.sender l.s = 0
    · rw [hn] at cs
      have cc := hidp (fun W v3 h1 h2 h3 => change_any W l m u v3 e.sender h1 h2 h3)
      have HF := hidp (show cgE l e = chE l m e.sender from by unfold cgE; rw [hp, hn, hmm]; rfl)
      obtain ⟨X, hX⟩ : ∃ X, chE l m e.sender = X := ⟨_, rfl⟩
      rw [hX] at cc HF
      clear hp hn hmm hX
      go_enter Tryz.func67, Tryz.ntmps67
      go_wp2_with (first | (refine Mm.box 64 H rfl (.tmp 0) rfl (dkR e v l u r) rfl ?_; clear H; intro b1 _ H nw; have hb := nw.below; clear hb nw) | (refine Mm.ld0 naS H rfl (.tmp 8) 4 (.string e.body) rfl rfl rfl ?_) | (go_at_call 83; refine (cp.out _ (HP.out.below H.out.below (Nat.le_refl _))).mono ?_; rintro x _ ⟨v1, rfl, hu, hb⟩; obtain ⟨a1, c1, rfl⟩ := hu.form; replace HU := hidp ((HU.out.to H.out.below).to hb); replace H := hidp (H.out.call hb); have HN := hidp hu; clear hu hb cp) | (refine Mm.new tyL H (some 3) rfl rfl rfl ?_; clear H; intro b3 _ H nw; have hb := nw.below; replace HN := hidp (HN.out.to hb); replace HU := hidp (HU.out.to hb); clear hb nw) | (refine Mm.put0 tyL H rfl (.tmp 3) (.tmp 11) [.int .i64 m.a, .int .i64 m.s, .int .i64 m.i, .int .i64 m.k, .int .i64 m.b, .int .i64 m.r, .slice a1 m.us.length c1] rfl rfl rfl rfl (by simp [Value.oneCell']) rfl ?_; intro _ H2 st; replace HN := hidp (HN.out.stp st H.out.at0 (by simp [zL])); replace HU := hidp (HU.out.stp st H.out.at0 (by simp [zL])); clear st H; have H := H2; clear H2) | (refine Mm.get1 rtD H rfl (.tmp 1) rfl rfl rfl ?_) | (go_at_call 68; refine (cs.out _ HU.out).mono ?_; rintro e _ ⟨rfl, hb⟩; replace H := hidp (H.out.call hb); replace HN := hidp (HN.out.to hb); replace HU := hidp (HU.out.to hb); clear hb) | (refine wpL_mid tyL rfl (.tmp 20) b1 7 [.int .i64 l.a, .int .i64 l.s, .int .i64 l.i, .int .i64 l.k, .int .i64 l.b, .int .i64 l.r, u] rfl rfl rfl (dk_lv H.out.at1) ?_) | (refine Mm.get0 tyL H rfl (.tmp 3) rfl rfl rfl ?_) | (refine Mm.ld1 naS H rfl (.tmp 24) 1 (.string e.sender) rfl rfl rfl ?_) | (go_at_call 93; refine (cc.out _ _ HU.out HN.out (HP.out.below H.out.below (Nat.le_refl _))).mono ?_; rintro e _ ⟨rfl, hb⟩; replace H := hidp (H.out.call hb); replace HN := hidp (HN.out.to hb); replace HU := hidp (HU.out.to hb); clear hb))
      go_ret
      exact ⟨by rw [HF.out]; rfl, H.out.below⟩
    · have h12 : needE l e.sender l.s = 12 := by unfold needE at hn ⊢; split <;> simp_all
      rw [h12] at cs
      have HF := hidp (show cgE l e = 12 from by unfold cgE; rw [hp, h12]; rfl)
      clear hp hn hmm h12
      go_enter Tryz.func67, Tryz.ntmps67
      go_wp2_with (first | (refine Mm.box 64 H rfl (.tmp 0) rfl (dkR e v l u r) rfl ?_; clear H; intro b1 _ H nw; have hb := nw.below; clear hb nw) | (refine Mm.ld0 naS H rfl (.tmp 8) 4 (.string e.body) rfl rfl rfl ?_) | (go_at_call 83; refine (cp.out _ (HP.out.below H.out.below (Nat.le_refl _))).mono ?_; rintro x _ ⟨v1, rfl, hu, hb⟩; obtain ⟨a1, c1, rfl⟩ := hu.form; replace HU := hidp ((HU.out.to H.out.below).to hb); replace H := hidp (H.out.call hb); have HN := hidp hu; clear hu hb cp) | (refine Mm.new tyL H (some 3) rfl rfl rfl ?_; clear H; intro b3 _ H nw; have hb := nw.below; replace HN := hidp (HN.out.to hb); replace HU := hidp (HU.out.to hb); clear hb nw) | (refine Mm.put0 tyL H rfl (.tmp 3) (.tmp 11) [.int .i64 m.a, .int .i64 m.s, .int .i64 m.i, .int .i64 m.k, .int .i64 m.b, .int .i64 m.r, .slice a1 m.us.length c1] rfl rfl rfl rfl (by simp [Value.oneCell']) rfl ?_; intro _ H2 st; replace HN := hidp (HN.out.stp st H.out.at0 (by simp [zL])); replace HU := hidp (HU.out.stp st H.out.at0 (by simp [zL])); clear st H; have H := H2; clear H2) | (refine Mm.get1 rtD H rfl (.tmp 1) rfl rfl rfl ?_) | (go_at_call 68; refine (cs.out _ HU.out).mono ?_; rintro e _ ⟨rfl, hb⟩; replace H := hidp (H.out.call hb); replace HN := hidp (HN.out.to hb); replace HU := hidp (HU.out.to hb); clear hb))
      go_ret
      exact ⟨by rw [HF.out]; rfl, H.out.below⟩

set_option maxHeartbeats 4000000 in
theorem created_any (w : World) (v : Value) (cs : List Ce) (hv : CsAt w v cs) (e : Ev) (he : e.ok) (ho : evOk e = true) (hI : IT w) : Calls Tryz.prog 28 #[v, .agg e.row.toArray] w fun x w' => x = .returned (.int .i64 (crE cs e)) ∧ Below w.heap.size w w' := by
  have HI := hidp hI
  obtain ⟨a0, c0, rfl⟩ := hv.form
  obtain ⟨⟨p, hp⟩, ⟨q, hq⟩, -⟩ := evOk_parts ho
  have cr := hidp (fun W h => room_any W e.room he.r h); have cu := hidp (fun W h => user_any W e.sender he.s h)
  rw [hp] at cr; rw [hq] at cu
  simp only [whoV] at cr cu
  have H := hidp (Mm.M.nil w)
  have h47 := hv.len
  obtain ⟨n, hn⟩ : ∃ n, cs.length = n := ⟨_, rfl⟩
  rw [hn] at h47 ⊢
  by_cases hz : n = 0
  · have e0 : decide (0 < n) = false := by simp; omega
    by_cases hpq : p = q
    · have e1 : ((p : Int) != (q : Int)) = false := by rw [hpq]; simp
      have HF := hidp (show crE cs e = 0 from by unfold crE; rw [hp, hq, hn]; simp [hz, hpq])
      clear hv hn hp hq hpq hI ho hz
      go_enter Tryz.func28, Tryz.ntmps28
      go_wp2_with (first | (refine Rt.wpL_skip _ _ rfl rfl ?_) | (refine Mm.box 25 H rfl (.tmp 1) rfl e.row rfl ?_; clear H; intro b3 _ H nw; have hb := nw.below; clear hb nw) | (refine Mm.ld0 naS H rfl (.tmp 10) 0 (.string e.room) rfl rfl rfl ?_) | (go_at_call 15; refine (cr.out _ (HI.out.below H.out.below (Nat.le_refl _))).mono ?_; rintro e _ ⟨rfl, hb⟩; replace H := hidp (H.out.call hb); clear hb) | (refine Mm.ld0 naS H rfl (.tmp 16) 1 (.string e.sender) rfl rfl rfl ?_) | (go_at_call 60; refine (cu.out _ (HI.out.below H.out.below (Nat.le_refl _))).mono ?_; rintro e _ ⟨rfl, hb⟩; replace H := hidp (H.out.call hb); clear hb))
      go_ret
      exact ⟨by rw [HF.out]; rfl, H.out.below⟩
    · have e1 : ((p : Int) != (q : Int)) = true := by simp; omega
      have HF := hidp (show crE cs e = 12 from by unfold crE; rw [hp, hq, hn]; simp [hpq])
      clear hv hn hp hq hpq hI ho hz
      go_enter Tryz.func28, Tryz.ntmps28
      go_wp2_with (first | (refine Rt.wpL_skip _ _ rfl rfl ?_) | (refine Mm.box 25 H rfl (.tmp 1) rfl e.row rfl ?_; clear H; intro b3 _ H nw; have hb := nw.below; clear hb nw) | (refine Mm.ld0 naS H rfl (.tmp 10) 0 (.string e.room) rfl rfl rfl ?_) | (go_at_call 15; refine (cr.out _ (HI.out.below H.out.below (Nat.le_refl _))).mono ?_; rintro e _ ⟨rfl, hb⟩; replace H := hidp (H.out.call hb); clear hb) | (refine Mm.ld0 naS H rfl (.tmp 16) 1 (.string e.sender) rfl rfl rfl ?_) | (go_at_call 60; refine (cu.out _ (HI.out.below H.out.below (Nat.le_refl _))).mono ?_; rintro e _ ⟨rfl, hb⟩; replace H := hidp (H.out.call hb); clear hb))
      go_ret
      exact ⟨by rw [HF.out]; rfl, H.out.below⟩
  · have e0 : decide (0 < n) = true := by simp; omega
    have n0 : (0 : Int) < (n : Int) := by omega
    have HF := hidp (show crE cs e = 12 from by unfold crE; rw [hn]; simp [hz])
    clear hv hn hp hq hI ho hz
    go_enter Tryz.func28, Tryz.ntmps28
    go_wp2_with (first | (refine Rt.wpL_skip _ _ rfl rfl ?_) | (refine Mm.box 25 H rfl (.tmp 1) rfl e.row rfl ?_; clear H; intro b3 _ H nw; have hb := nw.below; clear hb nw) | (refine Mm.ld0 naS H rfl (.tmp 10) 0 (.string e.room) rfl rfl rfl ?_) | (go_at_call 15; refine (cr.out _ (HI.out.below H.out.below (Nat.le_refl _))).mono ?_; rintro e _ ⟨rfl, hb⟩; replace H := hidp (H.out.call hb); clear hb) | (refine Mm.ld0 naS H rfl (.tmp 16) 1 (.string e.sender) rfl rfl rfl ?_) | (go_at_call 60; refine (cu.out _ (HI.out.below H.out.below (Nat.le_refl _))).mono ?_; rintro e _ ⟨rfl, hb⟩; replace H := hidp (H.out.call hb); clear hb))
    go_ret
    exact ⟨by rw [HF.out]; rfl, H.out.below⟩
end Go.Proofs.YtkcgmimcopoknaaGreatDoor
