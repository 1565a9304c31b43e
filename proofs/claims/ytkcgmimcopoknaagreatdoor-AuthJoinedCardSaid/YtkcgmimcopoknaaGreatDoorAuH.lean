
/-
  auth: who is banned, who has not joined.
-/
import Derived.Test.YtkcgmimcopoknaaGreatDoorAuG
namespace Go.Proofs.YtkcgmimcopoknaaGreatDoor
set_option maxRecDepth 100000
set_option linter.unusedVariables false
set_option linter.unusedSimpArgs false
open Go.RowKit Rw
open Go.Shelf
attribute [local go_sem] Oper.semAt_some

set_option maxHeartbeats 8000000 in
theorem banned_walk (w : World) (v : Value) (cs : List Ce) (hv : CsAt w v cs) (hs : ∀ c ∈ cs, c.e.body.size ≤ 140737488351232 ∧ c.e.sender.size ≤ 140737488351232) (e : Ev) (he : e.ok) (hbs : e.body.size ≤ 140737488351232) (hP : PT w) : Calls Tryz.prog 4 #[v, .agg e.row.toArray] w fun x w' => x = .returned (.bool true) ∧ Below w.heap.size w w' := by
  have HV := hidp hv; have HP := hidp hP
  have li := hidp (fun W h => lives17_any W h)
  have cm := hidp (fun W h => mem_any W v cs h e.sender)
  have ca := hidp (fun W h h2 => aallowed_any W v cs h hs e he hbs h2)
  obtain ⟨a0, c0, rfl⟩ := hv.form
  have H := hidp (Mm.M.nil w)
  have h47 := hv.len
  obtain ⟨m, hm⟩ : ∃ m, memS cs e.sender = m := ⟨_, rfl⟩
  rw [hm] at cm
  obtain ⟨n, hn⟩ : ∃ n, cs.length = n := ⟨_, rfl⟩
  obtain ⟨Z, hZ⟩ : ∃ Z, auE cs e = Z := ⟨_, rfl⟩
  rw [hZ] at ca
  rw [hn] at HV ca cm h47 ⊢
  cases hj : (m.toList == ([98, 97, 110] : List UInt8)) with
  | false =>
    have hj2 : (m.toList != ([98, 97, 110] : List UInt8)) = true := by rw [bne, hj]; rfl
    clear hm hP hv hs hn hZ
    go_enter Tryz.func4, Tryz.ntmps4
    go_wp2_with (first | (refine Rt.wpL_skip _ _ rfl rfl ?_) | (refine Mm.box 25 H rfl (.tmp 1) rfl e.row rfl ?_; clear H; intro b3 _ H nw; have hb := nw.below; clear hb nw) | (go_at_call 8; refine (li.out _ (HP.out.below H.out.below (Nat.le_refl _))).mono ?_; rintro e _ ⟨rfl, hb⟩; replace H := hidp (H.out.call hb); clear li; clear hb) | (refine Mm.ld0 naS H rfl (.tmp 8) 1 (.string e.sender) rfl rfl rfl ?_) | (go_at_call 11; refine (cm.out _ (HV.out.to H.out.below)).mono ?_; rintro e _ ⟨rfl, hb⟩; replace H := hidp (H.out.call hb); clear hb))
    go_ret
    exact ⟨rfl, H.out.below⟩
  | true =>
    have hj2 : (m.toList != ([98, 97, 110] : List UInt8)) = false := by rw [bne, hj]; rfl
    by_cases hlt : n < 2
    · have d1 : decide (n < 2) = true := decide_eq_true hlt
      have d2 : decide ((n : Int) < 2) = true := by simp; omega
      have d3 : (n : Int) < 2 := by omega
      clear hm hP hv hs hn hZ
      go_enter Tryz.func4, Tryz.ntmps4
      go_wp2_with (first | (refine Rt.wpL_skip _ _ rfl rfl ?_) | (refine Mm.box 25 H rfl (.tmp 1) rfl e.row rfl ?_; clear H; intro b3 _ H nw; have hb := nw.below; clear hb nw) | (go_at_call 8; refine (li.out _ (HP.out.below H.out.below (Nat.le_refl _))).mono ?_; rintro e _ ⟨rfl, hb⟩; replace H := hidp (H.out.call hb); clear li; clear hb) | (refine Mm.ld0 naS H rfl (.tmp 8) 1 (.string e.sender) rfl rfl rfl ?_) | (go_at_call 11; refine (cm.out _ (HV.out.to H.out.below)).mono ?_; rintro e _ ⟨rfl, hb⟩; replace H := hidp (H.out.call hb); clear hb))
      go_ret
      exact ⟨rfl, H.out.below⟩
    · have d1 : decide (n < 2) = false := decide_eq_false hlt
      have d2 : decide ((n : Int) < 2) = false := by simp; omega
      have d3 : ¬ (n : Int) < 2 := by omega
      have hz : Z ≠ 0 := by rw [← hZ]; exact banned_none (by rw [hm]; exact beq_iff_eq.1 hj) (by omega)
      have z1 : (Z != 0) = true := by simpa using hz
      have z2 : (Z == 0) = false := by simpa using hz
      clear hm hP hv hs hn hZ hz
      go_enter Tryz.func4, Tryz.ntmps4
      go_wp2_with (first | (refine Rt.wpL_skip _ _ rfl rfl ?_) | (refine Mm.box 25 H rfl (.tmp 1) rfl e.row rfl ?_; clear H; intro b3 _ H nw; have hb := nw.below; clear hb nw) | (go_at_call 8; refine (li.out _ (HP.out.below H.out.below (Nat.le_refl _))).mono ?_; rintro e _ ⟨rfl, hb⟩; replace H := hidp (H.out.call hb); clear li; clear hb) | (refine Mm.ld0 naS H rfl (.tmp 8) 1 (.string e.sender) rfl rfl rfl ?_) | (go_at_call 11; refine (cm.out _ (HV.out.to H.out.below)).mono ?_; rintro e _ ⟨rfl, hb⟩; replace H := hidp (H.out.call hb); clear hb) | (refine Mm.get0 rtE H rfl (.tmp 3) rfl rfl rfl ?_) | (go_at_call 9; refine (ca.out _ (HV.out.to H.out.below) (HP.out.below H.out.below (Nat.le_refl _))).mono ?_; rintro e _ ⟨rfl, hb⟩; replace H := hidp (H.out.call hb); clear hb))
      go_ret
      exact ⟨rfl, H.out.below⟩

theorem ge_made {cs : List Ce} {c : Ev} (h : okS cs = true) (ho : onlyS cs 1 = some c) : geV cs 1 ⟨#[]⟩ = c ∧ geE cs 1 ⟨#[]⟩ = 0 := by
  have hf := ok_only h (by decide) ho
  unfold geV geE
  rw [h, hf]
  exact ⟨rfl, rfl⟩
set_option maxHeartbeats 8000000 in
theorem joined_walk (w : World) (v : Value) (cs : List Ce) (hv : CsAt w v cs) (hs : ∀ c ∈ cs, c.e.body.size ≤ 140737488351232 ∧ c.e.sender.size ≤ 140737488351232) (e : Ev) (he : e.ok) (hbs : e.body.size ≤ 140737488351232) (hP : PT w) : Calls Tryz.prog 3 #[v, .agg e.row.toArray] w fun x w' => x = .returned (.bool true) ∧ Below w.heap.size w w' := by
  have cg := hidp (fun W h h2 => get_any W v cs h 1 ⟨#[]⟩ h2)
  have HV := hidp hv; have HP := hidp hP
  have li := hidp (fun W h => lives17_any W h)
  have cm := hidp (fun W h => mem_any W v cs h e.sender)
  have ca := hidp (fun W h h2 => aallowed_any W v cs h hs e he hbs h2)
  obtain ⟨a0, c0, rfl⟩ := hv.form
  have H := hidp (Mm.M.nil w)
  have h47 := hv.len
  obtain ⟨m, hm⟩ : ∃ m, memS cs e.sender = m := ⟨_, rfl⟩
  rw [hm] at cm
  obtain ⟨n, hn⟩ : ∃ n, cs.length = n := ⟨_, rfl⟩
  obtain ⟨Z, hZ⟩ : ∃ Z, auE cs e = Z := ⟨_, rfl⟩
  rw [hZ] at ca
  rw [hn] at HV ca cm cg h47 ⊢
  by_cases hz : Z = 0
  · have hau : auE cs e = 0 := by rw [hZ, hz]
    subst hz
    obtain ⟨ok, -, hc⟩ := au_parts hau
    by_cases hk : e.kind = 1
    · have k1 : ((e.kind : Int) == 1) = true := by rw [hk]; rfl
      have n0 : n = 0 := by
        rcases hc with h | h
        · rw [← hn]; exact h.2
        · exact absurd hk h.1
      have n1 : ((n : Int) == 0) = true := by rw [n0]; rfl
      clear hm hP hv hs hn hZ hau hc ok cg cm hk n0
      go_enter Tryz.func3, Tryz.ntmps3
      go_wp2_with (first | (refine Rt.wpL_skip _ _ rfl rfl ?_) | (refine Mm.box 25 H rfl (.tmp 1) rfl e.row rfl ?_; clear H; intro b3 _ H nw; have hb := nw.below; clear hb nw) | (go_at_call 8; refine (li.out _ (HP.out.below H.out.below (Nat.le_refl _))).mono ?_; rintro e _ ⟨rfl, hb⟩; replace H := hidp (H.out.call hb); clear li; clear hb) | (refine Mm.get0 rtE H rfl (.tmp 3) rfl rfl rfl ?_) | (go_at_call 9; refine (ca.out _ (HV.out.to H.out.below) (HP.out.below H.out.below (Nat.le_refl _))).mono ?_; rintro e _ ⟨rfl, hb⟩; replace H := hidp (H.out.call hb); clear hb) | (refine Mm.ld0 naK H rfl (.tmp 13) 2 (.int .u8 (e.kind : Int)) rfl rfl rfl ?_))
      go_ret
      exact ⟨rfl, H.out.below⟩
    · have k1 : ((e.kind : Int) == 1) = false := by rw [beq_eq_false_iff_ne]; omega
      obtain ⟨c, ho⟩ : ∃ c, onlyS cs 1 = some c := by
        rcases hc with h | ⟨-, c, h, -⟩
        · exact absurd h.1 hk
        · exact ⟨c, h⟩
      obtain ⟨g1, g2⟩ := ge_made ok ho
      rw [g1, g2] at cg
      cases hj : (m.toList == ([106, 111, 105, 110] : List UInt8)) with
      | true =>
        clear hm hP hv hs hn hZ hau hc ok hk ho g1 g2
        go_enter Tryz.func3, Tryz.ntmps3
        go_wp2_with (first | (refine Rt.wpL_skip _ _ rfl rfl ?_) | (refine Mm.box 25 H rfl (.tmp 1) rfl e.row rfl ?_; clear H; intro b3 _ H nw; have hb := nw.below; clear hb nw) | (go_at_call 8; refine (li.out _ (HP.out.below H.out.below (Nat.le_refl _))).mono ?_; rintro e _ ⟨rfl, hb⟩; replace H := hidp (H.out.call hb); clear li; clear hb) | (refine Mm.get0 rtE H rfl (.tmp 3) rfl rfl rfl ?_) | (go_at_call 9; refine (ca.out _ (HV.out.to H.out.below) (HP.out.below H.out.below (Nat.le_refl _))).mono ?_; rintro e _ ⟨rfl, hb⟩; replace H := hidp (H.out.call hb); clear hb) | (refine Mm.ld0 naK H rfl (.tmp 13) 2 (.int .u8 (e.kind : Int)) rfl rfl rfl ?_) | (go_at_call 10; refine (cg.out _ (HV.out.to H.out.below) (HP.out.1.below H.out.below (Nat.le_refl _))).mono ?_; rintro e _ ⟨rfl, hb⟩; replace H := hidp (H.out.call hb); clear hb) | (refine Mm.new rtE H (some 5) rfl rfl rfl ?_; clear H; intro b5 _ H nw; have hb := nw.below; clear hb nw) | (refine Mm.put0 rtE H rfl (.tmp 5) (.tmp 22) c.row rfl rfl rfl rfl (Ev.one _) rfl ?_; intro _ H2 st; clear st H; have H := H2; clear H2) | (refine Mm.ld1 naS H rfl (.tmp 27) 1 (.string e.sender) rfl rfl rfl ?_) | (go_at_call 11; refine (cm.out _ (HV.out.to H.out.below)).mono ?_; rintro e _ ⟨rfl, hb⟩; replace H := hidp (H.out.call hb); clear hb))
        go_ret
        exact ⟨rfl, H.out.below⟩
      | false =>
        obtain ⟨f1, f2, f3⟩ := joined_facts hau hk (by rw [hm]; intro h; rw [beq_eq_false_iff_ne] at hj; exact hj (h.trans (toList_lit [106, 111, 105, 110])))
        have k2 : ((e.kind : Int) == 2) = true := by rw [f1]; rfl
        have sk : (e.sender.toList == e.key.toList) = true := beq_iff_eq.2 f2
        cases c4 : (e.body.toList == ([106, 111, 105, 110] : List UInt8)) with
        | true =>
          clear hm hP hv hs hn hZ hau hc ok hk ho g1 g2 f1 f2 f3
          go_enter Tryz.func3, Tryz.ntmps3
          go_wp2_with (first | (refine Rt.wpL_skip _ _ rfl rfl ?_) | (refine Mm.box 25 H rfl (.tmp 1) rfl e.row rfl ?_; clear H; intro b3 _ H nw; have hb := nw.below; clear hb nw) | (go_at_call 8; refine (li.out _ (HP.out.below H.out.below (Nat.le_refl _))).mono ?_; rintro e _ ⟨rfl, hb⟩; replace H := hidp (H.out.call hb); clear li; clear hb) | (refine Mm.get0 rtE H rfl (.tmp 3) rfl rfl rfl ?_) | (go_at_call 9; refine (ca.out _ (HV.out.to H.out.below) (HP.out.below H.out.below (Nat.le_refl _))).mono ?_; rintro e _ ⟨rfl, hb⟩; replace H := hidp (H.out.call hb); clear hb) | (refine Mm.ld0 naK H rfl (.tmp 13) 2 (.int .u8 (e.kind : Int)) rfl rfl rfl ?_) | (go_at_call 10; refine (cg.out _ (HV.out.to H.out.below) (HP.out.1.below H.out.below (Nat.le_refl _))).mono ?_; rintro e _ ⟨rfl, hb⟩; replace H := hidp (H.out.call hb); clear hb) | (refine Mm.new rtE H (some 5) rfl rfl rfl ?_; clear H; intro b5 _ H nw; have hb := nw.below; clear hb nw) | (refine Mm.put0 rtE H rfl (.tmp 5) (.tmp 22) c.row rfl rfl rfl rfl (Ev.one _) rfl ?_; intro _ H2 st; clear st H; have H := H2; clear H2) | (refine Mm.ld1 naS H rfl (.tmp 27) 1 (.string e.sender) rfl rfl rfl ?_) | (go_at_call 11; refine (cm.out _ (HV.out.to H.out.below)).mono ?_; rintro e _ ⟨rfl, hb⟩; replace H := hidp (H.out.call hb); clear hb) | (refine Mm.ld1 naK H rfl (.tmp 31) 2 (.int .u8 (e.kind : Int)) rfl rfl rfl ?_) | (refine Mm.ld1 naS H rfl (.tmp 35) 1 (.string e.sender) rfl rfl rfl ?_) | (refine Mm.ld1 naS H rfl (.tmp 37) 3 (.string e.key) rfl rfl rfl ?_) | (refine Mm.ld1 naS H rfl (.tmp 42) 4 (.string e.body) rfl rfl rfl ?_))
          go_ret
          exact ⟨rfl, H.out.below⟩
        | false =>
          cases c5 : (e.body.toList == ([107, 110, 111, 99, 107] : List UInt8)) with
          | true =>
            clear hm hP hv hs hn hZ hau hc ok hk ho g1 g2 f1 f2 f3
            go_enter Tryz.func3, Tryz.ntmps3
            go_wp2_with (first | (refine Rt.wpL_skip _ _ rfl rfl ?_) | (refine Mm.box 25 H rfl (.tmp 1) rfl e.row rfl ?_; clear H; intro b3 _ H nw; have hb := nw.below; clear hb nw) | (go_at_call 8; refine (li.out _ (HP.out.below H.out.below (Nat.le_refl _))).mono ?_; rintro e _ ⟨rfl, hb⟩; replace H := hidp (H.out.call hb); clear li; clear hb) | (refine Mm.get0 rtE H rfl (.tmp 3) rfl rfl rfl ?_) | (go_at_call 9; refine (ca.out _ (HV.out.to H.out.below) (HP.out.below H.out.below (Nat.le_refl _))).mono ?_; rintro e _ ⟨rfl, hb⟩; replace H := hidp (H.out.call hb); clear hb) | (refine Mm.ld0 naK H rfl (.tmp 13) 2 (.int .u8 (e.kind : Int)) rfl rfl rfl ?_) | (go_at_call 10; refine (cg.out _ (HV.out.to H.out.below) (HP.out.1.below H.out.below (Nat.le_refl _))).mono ?_; rintro e _ ⟨rfl, hb⟩; replace H := hidp (H.out.call hb); clear hb) | (refine Mm.new rtE H (some 5) rfl rfl rfl ?_; clear H; intro b5 _ H nw; have hb := nw.below; clear hb nw) | (refine Mm.put0 rtE H rfl (.tmp 5) (.tmp 22) c.row rfl rfl rfl rfl (Ev.one _) rfl ?_; intro _ H2 st; clear st H; have H := H2; clear H2) | (refine Mm.ld1 naS H rfl (.tmp 27) 1 (.string e.sender) rfl rfl rfl ?_) | (go_at_call 11; refine (cm.out _ (HV.out.to H.out.below)).mono ?_; rintro e _ ⟨rfl, hb⟩; replace H := hidp (H.out.call hb); clear hb) | (refine Mm.ld1 naK H rfl (.tmp 31) 2 (.int .u8 (e.kind : Int)) rfl rfl rfl ?_) | (refine Mm.ld1 naS H rfl (.tmp 35) 1 (.string e.sender) rfl rfl rfl ?_) | (refine Mm.ld1 naS H rfl (.tmp 37) 3 (.string e.key) rfl rfl rfl ?_) | (refine Mm.ld1 naS H rfl (.tmp 42) 4 (.string e.body) rfl rfl rfl ?_) | (refine Mm.ld1 naS H rfl (.tmp 46) 4 (.string e.body) rfl rfl rfl ?_))
            go_ret
            exact ⟨rfl, H.out.below⟩
          | false =>
            have c6 : (e.body.toList == ([108, 101, 97, 118, 101] : List UInt8)) = true := by
              rw [beq_eq_false_iff_ne] at c4 c5
              rcases f3 with h | h | h
              · exact absurd (h.trans (toList_lit [106, 111, 105, 110])) c4
              · exact absurd h c5
              · exact beq_iff_eq.2 (h.trans (toList_lit [108, 101, 97, 118, 101]))
            clear hm hP hv hs hn hZ hau hc ok hk ho g1 g2 f1 f2 f3
            go_enter Tryz.func3, Tryz.ntmps3
            go_wp2_with (first | (refine Rt.wpL_skip _ _ rfl rfl ?_) | (refine Mm.box 25 H rfl (.tmp 1) rfl e.row rfl ?_; clear H; intro b3 _ H nw; have hb := nw.below; clear hb nw) | (go_at_call 8; refine (li.out _ (HP.out.below H.out.below (Nat.le_refl _))).mono ?_; rintro e _ ⟨rfl, hb⟩; replace H := hidp (H.out.call hb); clear li; clear hb) | (refine Mm.get0 rtE H rfl (.tmp 3) rfl rfl rfl ?_) | (go_at_call 9; refine (ca.out _ (HV.out.to H.out.below) (HP.out.below H.out.below (Nat.le_refl _))).mono ?_; rintro e _ ⟨rfl, hb⟩; replace H := hidp (H.out.call hb); clear hb) | (refine Mm.ld0 naK H rfl (.tmp 13) 2 (.int .u8 (e.kind : Int)) rfl rfl rfl ?_) | (go_at_call 10; refine (cg.out _ (HV.out.to H.out.below) (HP.out.1.below H.out.below (Nat.le_refl _))).mono ?_; rintro e _ ⟨rfl, hb⟩; replace H := hidp (H.out.call hb); clear hb) | (refine Mm.new rtE H (some 5) rfl rfl rfl ?_; clear H; intro b5 _ H nw; have hb := nw.below; clear hb nw) | (refine Mm.put0 rtE H rfl (.tmp 5) (.tmp 22) c.row rfl rfl rfl rfl (Ev.one _) rfl ?_; intro _ H2 st; clear st H; have H := H2; clear H2) | (refine Mm.ld1 naS H rfl (.tmp 27) 1 (.string e.sender) rfl rfl rfl ?_) | (go_at_call 11; refine (cm.out _ (HV.out.to H.out.below)).mono ?_; rintro e _ ⟨rfl, hb⟩; replace H := hidp (H.out.call hb); clear hb) | (refine Mm.ld1 naK H rfl (.tmp 31) 2 (.int .u8 (e.kind : Int)) rfl rfl rfl ?_) | (refine Mm.ld1 naS H rfl (.tmp 35) 1 (.string e.sender) rfl rfl rfl ?_) | (refine Mm.ld1 naS H rfl (.tmp 37) 3 (.string e.key) rfl rfl rfl ?_) | (refine Mm.ld1 naS H rfl (.tmp 42) 4 (.string e.body) rfl rfl rfl ?_) | (refine Mm.ld1 naS H rfl (.tmp 46) 4 (.string e.body) rfl rfl rfl ?_) | (refine Mm.ld1 naS H rfl (.tmp 51) 4 (.string e.body) rfl rfl rfl ?_))
            go_ret
            exact ⟨rfl, H.out.below⟩
  · have z1 : (Z != 0) = true := by simpa using hz
    have z2 : (Z == 0) = false := by simpa using hz
    clear hm hP hv hs hn hZ hz
    go_enter Tryz.func3, Tryz.ntmps3
    go_wp2_with (first | (refine Rt.wpL_skip _ _ rfl rfl ?_) | (refine Mm.box 25 H rfl (.tmp 1) rfl e.row rfl ?_; clear H; intro b3 _ H nw; have hb := nw.below; clear hb nw) | (go_at_call 8; refine (li.out _ (HP.out.below H.out.below (Nat.le_refl _))).mono ?_; rintro e _ ⟨rfl, hb⟩; replace H := hidp (H.out.call hb); clear li; clear hb) | (refine Mm.get0 rtE H rfl (.tmp 3) rfl rfl rfl ?_) | (go_at_call 9; refine (ca.out _ (HV.out.to H.out.below) (HP.out.below H.out.below (Nat.le_refl _))).mono ?_; rintro e _ ⟨rfl, hb⟩; replace H := hidp (H.out.call hb); clear hb))
    go_ret
    exact ⟨rfl, H.out.below⟩
end Go.Proofs.YtkcgmimcopoknaaGreatDoor
