
/-
  auth: Allowed.
-/
import Derived.Test.YtkcgmimcopoknaaGreatDoorAuE
namespace Go.Proofs.YtkcgmimcopoknaaGreatDoor
set_option maxRecDepth 100000
set_option linter.unusedVariables false
set_option linter.unusedSimpArgs false
open Go.RowKit Rw

set_option maxHeartbeats 32000000 in
theorem aallowed_any (w : World) (v : Value) (cs : List Ce) (hv : CsAt w v cs) (hs : ∀ c ∈ cs, c.e.body.size ≤ 140737488351232 ∧ c.e.sender.size ≤ 140737488351232) (e : Ev) (he : e.ok) (hbs : e.body.size ≤ 140737488351232) (hP : PT w) :
    Calls Tryz.prog 9 #[v, .agg e.row.toArray] w fun x w' => x = .returned (.int .i64 (auE cs e)) ∧ Below w.heap.size w w' := by
  have HP := hidp hP; have HV := hidp hv
  have ck := hidp (fun W h h' => stCheck_any W v cs h h'); have ce := hidp (fun W h => evCheck_ev W e he h); have co := hidp (fun W h => only_any W v cs h 1)
  obtain ⟨a0, c0, hv0⟩ := hv.form
  have H := hidp (Mm.M.nil w)
  cases hok : okS cs with
  | false =>
    rw [show ckS cs = 2 from if_neg (by rw [hok]; exact Bool.false_ne_true)] at ck
    have HF := hidp (show auE cs e = 2 from if_neg (fun h => by rw [hok] at h; cases h.1))
    clear hok hv hs hP hv0
    go_enter Tryz.func9, Tryz.ntmps9
    go_wp2_with (first | (refine Mm.box 25 H rfl (.tmp 1) rfl e.row rfl ?_; clear H; intro b3 _ H nw; have hb := nw.below; clear hb nw) | (go_at_call 26; refine (ck.out _ (HV.out.to H.out.below) (HP.out.1.below H.out.below (Nat.le_refl _))).mono ?_; rintro e _ ⟨rfl, hb⟩; replace H := hidp (H.out.call hb); clear ck; clear hb) | (refine Mm.skipd 13 rfl _ _ rfl rfl ?_) | (refine Mm.skipd 14 rfl _ _ rfl rfl ?_) | (refine Mm.skipd 15 rfl _ _ rfl rfl ?_))
    go_ret
    exact ⟨by rw [HF.out]; rfl, H.out.below⟩
  | true =>
    rw [show ckS cs = 0 from if_pos hok] at ck
    cases hev : evOk e with
    | false =>
      rw [show evE e = 2 from if_neg (by rw [hev]; exact Bool.false_ne_true)] at ce
      have HF := hidp (show auE cs e = 2 from if_neg (fun h => by rw [hev] at h; cases h.2))
      clear hok hev hv hs hP hv0
      go_enter Tryz.func9, Tryz.ntmps9
      go_wp2_with (first | (refine Mm.box 25 H rfl (.tmp 1) rfl e.row rfl ?_; clear H; intro b3 _ H nw; have hb := nw.below; clear hb nw) | (go_at_call 26; refine (ck.out _ (HV.out.to H.out.below) (HP.out.1.below H.out.below (Nat.le_refl _))).mono ?_; rintro e _ ⟨rfl, hb⟩; replace H := hidp (H.out.call hb); clear ck; clear hb) | (refine Mm.get0 rtE H rfl (.tmp 3) rfl rfl rfl ?_) | (go_at_call 27; refine (ce.out _ (HP.out.1.below H.out.below (Nat.le_refl _))).mono ?_; rintro e _ ⟨rfl, hb⟩; replace H := hidp (H.out.call hb); clear ce; clear hb))
      go_ret
      exact ⟨by rw [HF.out]; rfl, H.out.below⟩
    | true =>
      rw [show evE e = 0 from if_pos hev] at ce
      have hau : auE cs e = (if e.kind = 1 then crE cs e else match onlyS cs 1 with | none => 12 | some c => if c.room.toList = e.room.toList then (if lvX cs = 0 then (if ruX cs = 0 then (if e.kind = 2 then mbE cs e c.sender (lvS cs) (ruS cs) else deE cs e (lvS cs)) else ruX cs) else lvX cs) else 12) := if_pos ⟨hok, hev⟩
      by_cases hk : e.kind = 1
      · have k1 : ((e.kind : Int) == 1) = true := by rw [hk]; rfl
        have cr := hidp (fun W h h2 => created_any W v cs h e he hev h2)
        rw [if_pos hk] at hau
        have HF := hidp hau
        obtain ⟨Z, hZ⟩ : ∃ Z, crE cs e = Z := ⟨_, rfl⟩
        rw [hZ] at cr HF
        clear hok hev hv hs hP hk hau hv0 hZ
        go_enter Tryz.func9, Tryz.ntmps9
        go_wp2_with (first | (refine Mm.box 25 H rfl (.tmp 1) rfl e.row rfl ?_; clear H; intro b3 _ H nw; have hb := nw.below; clear hb nw) | (go_at_call 26; refine (ck.out _ (HV.out.to H.out.below) (HP.out.1.below H.out.below (Nat.le_refl _))).mono ?_; rintro e _ ⟨rfl, hb⟩; replace H := hidp (H.out.call hb); clear ck; clear hb) | (refine Mm.get0 rtE H rfl (.tmp 3) rfl rfl rfl ?_) | (go_at_call 27; refine (ce.out _ (HP.out.1.below H.out.below (Nat.le_refl _))).mono ?_; rintro e _ ⟨rfl, hb⟩; replace H := hidp (H.out.call hb); clear ce; clear hb) | (refine Mm.ld0 naK H rfl (.tmp 17) 2 (.int .u8 (e.kind : Int)) rfl rfl rfl ?_) | (refine Mm.get0 rtE H rfl (.tmp 3) rfl rfl rfl ?_) | (go_at_call 28; refine (cr.out _ (HV.out.to H.out.below) (HP.out.1.below H.out.below (Nat.le_refl _))).mono ?_; rintro e _ ⟨rfl, hb⟩; replace H := hidp (H.out.call hb); clear hb))
        go_ret
        exact ⟨by rw [HF.out]; rfl, H.out.below⟩
      · have k1 : ((e.kind : Int) == 1) = false := by rw [beq_eq_false_iff_ne]; omega
        rw [if_neg hk] at hau
        cases ho : onlyS cs 1 with
        | none =>
          rw [ho] at co hau
          simp only [foV] at co
          have HF := hidp hau
          clear hok hev hv hs hP hk hau ho hv0
          go_enter Tryz.func9, Tryz.ntmps9
          go_wp2_with (first | (refine Mm.box 25 H rfl (.tmp 1) rfl e.row rfl ?_; clear H; intro b3 _ H nw; have hb := nw.below; clear hb nw) | (go_at_call 26; refine (ck.out _ (HV.out.to H.out.below) (HP.out.1.below H.out.below (Nat.le_refl _))).mono ?_; rintro e _ ⟨rfl, hb⟩; replace H := hidp (H.out.call hb); clear ck; clear hb) | (refine Mm.get0 rtE H rfl (.tmp 3) rfl rfl rfl ?_) | (go_at_call 27; refine (ce.out _ (HP.out.1.below H.out.below (Nat.le_refl _))).mono ?_; rintro e _ ⟨rfl, hb⟩; replace H := hidp (H.out.call hb); clear ce; clear hb) | (refine Mm.ld0 naK H rfl (.tmp 17) 2 (.int .u8 (e.kind : Int)) rfl rfl rfl ?_) | (go_at_call 29; refine (co.out _ (HV.out.to H.out.below)).mono ?_; rintro e _ ⟨rfl, hb⟩; replace H := hidp (H.out.call hb); clear hb) | (refine Mm.new rtE H (some 5) rfl rfl rfl ?_; clear H; intro b5 _ H nw; have hb := nw.below; clear hb nw) | (refine Mm.put0 rtE H rfl (.tmp 5) (.tmp 26) zEv.row rfl rfl rfl rfl (Ev.one _) rfl ?_; intro _ H2 st; clear st H; have H := H2; clear H2) | (refine Mm.skipd 31 rfl _ _ rfl rfl ?_) | (refine Mm.skipd 32 rfl _ _ rfl rfl ?_) | (refine Mm.skipd 33 rfl _ _ rfl rfl ?_) | (refine Mm.skipd 34 rfl _ _ rfl rfl ?_) | (refine Mm.skipd 35 rfl _ _ rfl rfl ?_))
          go_ret
          exact ⟨by rw [HF.out]; rfl, H.out.below⟩
        | some c =>
          rw [ho] at co hau
          simp only [foV] at co hau
          cases hr : (c.room.toList == e.room.toList) with
          | false =>
            have hr2 : (c.room.toList != e.room.toList) = true := by rw [bne, hr]; rfl
            rw [if_neg (by rw [beq_eq_false_iff_ne] at hr; exact hr)] at hau
            have HF := hidp hau
            clear hok hev hv hs hP hk hau ho hv0
            go_enter Tryz.func9, Tryz.ntmps9
            go_wp2_with (first | (refine Mm.box 25 H rfl (.tmp 1) rfl e.row rfl ?_; clear H; intro b3 _ H nw; have hb := nw.below; clear hb nw) | (go_at_call 26; refine (ck.out _ (HV.out.to H.out.below) (HP.out.1.below H.out.below (Nat.le_refl _))).mono ?_; rintro e _ ⟨rfl, hb⟩; replace H := hidp (H.out.call hb); clear ck; clear hb) | (refine Mm.get0 rtE H rfl (.tmp 3) rfl rfl rfl ?_) | (go_at_call 27; refine (ce.out _ (HP.out.1.below H.out.below (Nat.le_refl _))).mono ?_; rintro e _ ⟨rfl, hb⟩; replace H := hidp (H.out.call hb); clear ce; clear hb) | (refine Mm.ld0 naK H rfl (.tmp 17) 2 (.int .u8 (e.kind : Int)) rfl rfl rfl ?_) | (go_at_call 29; refine (co.out _ (HV.out.to H.out.below)).mono ?_; rintro e _ ⟨rfl, hb⟩; replace H := hidp (H.out.call hb); clear hb) | (refine Mm.new rtE H (some 5) rfl rfl rfl ?_; clear H; intro b5 _ H nw; have hb := nw.below; clear hb nw) | (refine Mm.put0 rtE H rfl (.tmp 5) (.tmp 26) c.row rfl rfl rfl rfl (Ev.one _) rfl ?_; intro _ H2 st; clear st H; have H := H2; clear H2) | (refine Mm.ld0 naS H rfl (.tmp 31) 0 (.string c.room) rfl rfl rfl ?_) | (refine Mm.ld1 naS H rfl (.tmp 33) 0 (.string e.room) rfl rfl rfl ?_))
            go_ret
            exact ⟨by rw [HF.out]; rfl, H.out.below⟩
          | true =>
            have hr2 : (c.room.toList != e.room.toList) = false := by rw [bne, hr]; rfl
            rw [if_pos (beq_iff_eq.1 hr)] at hau
            by_cases hl : lvX cs = 0
            · rw [if_pos hl] at hau
              by_cases hx : ruX cs = 0
              · rw [if_pos hx] at hau
                have cd := hidp (fun W h h2 => desk_ok W v cs h hs e h2 hl hx)
                have HNM := hidp (lv_named hl)
                obtain ⟨L, hL⟩ : ∃ L, lvS cs = L := ⟨_, rfl⟩
                obtain ⟨R, hR⟩ : ∃ R, ruS cs = R := ⟨_, rfl⟩
                rw [hL, hR] at cd hau
                rw [hL] at HNM
                have h47 := hv.len
                obtain ⟨n, hn⟩ : ∃ n, cs.length = n := ⟨_, rfl⟩
                rw [hn] at hv0 h47
                subst hv0
                by_cases h2 : e.kind = 2
                · have k2 : ((e.kind : Int) == 2) = true := by rw [h2]; rfl
                  rw [if_pos h2] at hau
                  have cm := hidp (fun W u h1 h3 => dmember_any W e (.slice a0 n c0) L u R h1 cs h3 c.sender)
                  have HF := hidp hau
                  obtain ⟨Z, hZ⟩ : ∃ Z, mbE cs e c.sender L R = Z := ⟨_, rfl⟩
                  rw [hZ] at cm HF
                  clear hok hev hv hs hP hk hau ho hl hx hL hR hn h2 hZ
                  go_enter Tryz.func9, Tryz.ntmps9
                  go_wp2_with (first | (refine Mm.box 25 H rfl (.tmp 1) rfl e.row rfl ?_; clear H; intro b3 _ H nw; have hb := nw.below; clear hb nw) | (go_at_call 26; refine (ck.out _ (HV.out.to H.out.below) (HP.out.1.below H.out.below (Nat.le_refl _))).mono ?_; rintro e _ ⟨rfl, hb⟩; replace H := hidp (H.out.call hb); clear ck; clear hb) | (refine Mm.get0 rtE H rfl (.tmp 3) rfl rfl rfl ?_) | (go_at_call 27; refine (ce.out _ (HP.out.1.below H.out.below (Nat.le_refl _))).mono ?_; rintro e _ ⟨rfl, hb⟩; replace H := hidp (H.out.call hb); clear ce; clear hb) | (refine Mm.ld0 naK H rfl (.tmp 17) 2 (.int .u8 (e.kind : Int)) rfl rfl rfl ?_) | (go_at_call 29; refine (co.out _ (HV.out.to H.out.below)).mono ?_; rintro e _ ⟨rfl, hb⟩; replace H := hidp (H.out.call hb); clear hb) | (refine Mm.new rtE H (some 5) rfl rfl rfl ?_; clear H; intro b5 _ H nw; have hb := nw.below; clear hb nw) | (refine Mm.put0 rtE H rfl (.tmp 5) (.tmp 26) c.row rfl rfl rfl rfl (Ev.one _) rfl ?_; intro _ H2 st; clear st H; have H := H2; clear H2) | (refine Mm.ld0 naS H rfl (.tmp 31) 0 (.string c.room) rfl rfl rfl ?_) | (refine Mm.ld1 naS H rfl (.tmp 33) 0 (.string e.room) rfl rfl rfl ?_) | (refine Mm.get1 rtE H rfl (.tmp 3) rfl rfl rfl ?_) | (go_at_call 30; refine (cd.out _ (HV.out.to H.out.below) (HP.out.below H.out.below (Nat.le_refl _))).mono ?_; rintro x _ ⟨u1, rfl, hu, hb⟩; obtain ⟨a1, c1, rfl⟩ := hu.form; replace H := hidp (H.out.call hb); have HU := hidp hu; clear hu hb cd) | (refine Mm.new rtD H (some 7) rfl rfl rfl ?_; clear H; intro b7 _ H nw; have hb := nw.below; replace HU := hidp (HU.out.to hb); clear hb nw) | (refine Mm.put0 rtD H rfl (.tmp 7) (.tmp 41) (dkR e (.slice a0 n c0) L (.slice a1 L.us.length c1) R) rfl rfl rfl rfl (by simp [dkR, Value.oneCell']) rfl ?_; intro _ H2 st; replace HU := hidp (HU.out.stpZ st H.out.at0 zD_no HNM.out); clear st H; have H := H2; clear H2) | (refine Mm.ld2 naK H rfl (.tmp 46) 2 (.int .u8 (e.kind : Int)) rfl rfl rfl ?_) | (refine Mm.get0 rtD H rfl (.tmp 7) rfl rfl rfl ?_) | (refine Mm.ld1 naS H rfl (.tmp 50) 1 (.string c.sender) rfl rfl rfl ?_) | (go_at_call 31; refine (cm.out _ _ HU.out (HV.out.to H.out.below)).mono ?_; rintro e _ ⟨rfl, hb⟩; replace H := hidp (H.out.call hb); replace HU := hidp (HU.out.to hb); clear hb))
                  go_ret
                  exact ⟨by rw [HF.out]; rfl, H.out.below⟩
                · have k2 : ((e.kind : Int) == 2) = false := by rw [beq_eq_false_iff_ne]; omega
                  rw [if_neg h2] at hau
                  have cm := hidp (fun W u h1 h3 h4 => ddeed_any W e (.slice a0 n c0) L u R h1 cs h3 he hbs h4)
                  have HF := hidp hau
                  obtain ⟨Z, hZ⟩ : ∃ Z, deE cs e L = Z := ⟨_, rfl⟩
                  rw [hZ] at cm HF
                  clear hok hev hv hs hP hk hau ho hl hx hL hR hn h2 hZ
                  go_enter Tryz.func9, Tryz.ntmps9
                  go_wp2_with (first | (refine Mm.box 25 H rfl (.tmp 1) rfl e.row rfl ?_; clear H; intro b3 _ H nw; have hb := nw.below; clear hb nw) | (go_at_call 26; refine (ck.out _ (HV.out.to H.out.below) (HP.out.1.below H.out.below (Nat.le_refl _))).mono ?_; rintro e _ ⟨rfl, hb⟩; replace H := hidp (H.out.call hb); clear ck; clear hb) | (refine Mm.get0 rtE H rfl (.tmp 3) rfl rfl rfl ?_) | (go_at_call 27; refine (ce.out _ (HP.out.1.below H.out.below (Nat.le_refl _))).mono ?_; rintro e _ ⟨rfl, hb⟩; replace H := hidp (H.out.call hb); clear ce; clear hb) | (refine Mm.ld0 naK H rfl (.tmp 17) 2 (.int .u8 (e.kind : Int)) rfl rfl rfl ?_) | (go_at_call 29; refine (co.out _ (HV.out.to H.out.below)).mono ?_; rintro e _ ⟨rfl, hb⟩; replace H := hidp (H.out.call hb); clear hb) | (refine Mm.new rtE H (some 5) rfl rfl rfl ?_; clear H; intro b5 _ H nw; have hb := nw.below; clear hb nw) | (refine Mm.put0 rtE H rfl (.tmp 5) (.tmp 26) c.row rfl rfl rfl rfl (Ev.one _) rfl ?_; intro _ H2 st; clear st H; have H := H2; clear H2) | (refine Mm.ld0 naS H rfl (.tmp 31) 0 (.string c.room) rfl rfl rfl ?_) | (refine Mm.ld1 naS H rfl (.tmp 33) 0 (.string e.room) rfl rfl rfl ?_) | (refine Mm.get1 rtE H rfl (.tmp 3) rfl rfl rfl ?_) | (go_at_call 30; refine (cd.out _ (HV.out.to H.out.below) (HP.out.below H.out.below (Nat.le_refl _))).mono ?_; rintro x _ ⟨u1, rfl, hu, hb⟩; obtain ⟨a1, c1, rfl⟩ := hu.form; replace H := hidp (H.out.call hb); have HU := hidp hu; clear hu hb cd) | (refine Mm.new rtD H (some 7) rfl rfl rfl ?_; clear H; intro b7 _ H nw; have hb := nw.below; replace HU := hidp (HU.out.to hb); clear hb nw) | (refine Mm.put0 rtD H rfl (.tmp 7) (.tmp 41) (dkR e (.slice a0 n c0) L (.slice a1 L.us.length c1) R) rfl rfl rfl rfl (by simp [dkR, Value.oneCell']) rfl ?_; intro _ H2 st; replace HU := hidp (HU.out.stpZ st H.out.at0 zD_no HNM.out); clear st H; have H := H2; clear H2) | (refine Mm.ld2 naK H rfl (.tmp 46) 2 (.int .u8 (e.kind : Int)) rfl rfl rfl ?_) | (refine Mm.get0 rtD H rfl (.tmp 7) rfl rfl rfl ?_) | (go_at_call 32; refine (cm.out _ _ HU.out (HV.out.to H.out.below) (HP.out.below H.out.below (Nat.le_refl _))).mono ?_; rintro e _ ⟨rfl, hb⟩; replace H := hidp (H.out.call hb); replace HU := hidp (HU.out.to hb); clear hb))
                  go_ret
                  exact ⟨by rw [HF.out]; rfl, H.out.below⟩
              · rw [if_neg hx] at hau
                have cd := hidp (fun W h h2 => desk_ru W v cs h hs e h2 hl hx)
                have HF := hidp hau
                obtain ⟨Z, hZ⟩ : ∃ Z, ruX cs = Z := ⟨_, rfl⟩
                rw [hZ] at cd HF hx
                have z1 : (Z != 0) = true := by simpa using hx
                have z2 : (Z == 0) = false := by simpa using hx
                clear hok hev hv hs hP hk hau ho hv0 hl hx hZ
                go_enter Tryz.func9, Tryz.ntmps9
                go_wp2_with (first | (refine Mm.box 25 H rfl (.tmp 1) rfl e.row rfl ?_; clear H; intro b3 _ H nw; have hb := nw.below; clear hb nw) | (go_at_call 26; refine (ck.out _ (HV.out.to H.out.below) (HP.out.1.below H.out.below (Nat.le_refl _))).mono ?_; rintro e _ ⟨rfl, hb⟩; replace H := hidp (H.out.call hb); clear ck; clear hb) | (refine Mm.get0 rtE H rfl (.tmp 3) rfl rfl rfl ?_) | (go_at_call 27; refine (ce.out _ (HP.out.1.below H.out.below (Nat.le_refl _))).mono ?_; rintro e _ ⟨rfl, hb⟩; replace H := hidp (H.out.call hb); clear ce; clear hb) | (refine Mm.ld0 naK H rfl (.tmp 17) 2 (.int .u8 (e.kind : Int)) rfl rfl rfl ?_) | (go_at_call 29; refine (co.out _ (HV.out.to H.out.below)).mono ?_; rintro e _ ⟨rfl, hb⟩; replace H := hidp (H.out.call hb); clear hb) | (refine Mm.new rtE H (some 5) rfl rfl rfl ?_; clear H; intro b5 _ H nw; have hb := nw.below; clear hb nw) | (refine Mm.put0 rtE H rfl (.tmp 5) (.tmp 26) c.row rfl rfl rfl rfl (Ev.one _) rfl ?_; intro _ H2 st; clear st H; have H := H2; clear H2) | (refine Mm.ld0 naS H rfl (.tmp 31) 0 (.string c.room) rfl rfl rfl ?_) | (refine Mm.ld1 naS H rfl (.tmp 33) 0 (.string e.room) rfl rfl rfl ?_) | (refine Mm.get1 rtE H rfl (.tmp 3) rfl rfl rfl ?_) | (go_at_call 30; refine (cd.out _ (HV.out.to H.out.below) (HP.out.below H.out.below (Nat.le_refl _))).mono ?_; rintro e _ ⟨rfl, hb⟩; replace H := hidp (H.out.call hb); clear hb) | (refine Mm.new rtD H (some 7) rfl rfl rfl ?_; clear H; intro b7 _ H nw; have hb := nw.below; clear hb nw) | (refine Mm.put0 rtD H rfl (.tmp 7) (.tmp 41) zD rfl rfl rfl rfl (by simp [zD, Value.oneCell']) rfl ?_; intro _ H2 st; clear st H; have H := H2; clear H2))
                go_ret
                exact ⟨by rw [HF.out]; rfl, H.out.below⟩
            · rw [if_neg hl] at hau
              have cd := hidp (fun W h h2 => desk_lv W v cs h hs e h2 hl)
              have HF := hidp hau
              obtain ⟨Z, hZ⟩ : ∃ Z, lvX cs = Z := ⟨_, rfl⟩
              rw [hZ] at cd HF hl
              have z1 : (Z != 0) = true := by simpa using hl
              have z2 : (Z == 0) = false := by simpa using hl
              clear hok hev hv hs hP hk hau ho hv0 hl hZ
              go_enter Tryz.func9, Tryz.ntmps9
              go_wp2_with (first | (refine Mm.box 25 H rfl (.tmp 1) rfl e.row rfl ?_; clear H; intro b3 _ H nw; have hb := nw.below; clear hb nw) | (go_at_call 26; refine (ck.out _ (HV.out.to H.out.below) (HP.out.1.below H.out.below (Nat.le_refl _))).mono ?_; rintro e _ ⟨rfl, hb⟩; replace H := hidp (H.out.call hb); clear ck; clear hb) | (refine Mm.get0 rtE H rfl (.tmp 3) rfl rfl rfl ?_) | (go_at_call 27; refine (ce.out _ (HP.out.1.below H.out.below (Nat.le_refl _))).mono ?_; rintro e _ ⟨rfl, hb⟩; replace H := hidp (H.out.call hb); clear ce; clear hb) | (refine Mm.ld0 naK H rfl (.tmp 17) 2 (.int .u8 (e.kind : Int)) rfl rfl rfl ?_) | (go_at_call 29; refine (co.out _ (HV.out.to H.out.below)).mono ?_; rintro e _ ⟨rfl, hb⟩; replace H := hidp (H.out.call hb); clear hb) | (refine Mm.new rtE H (some 5) rfl rfl rfl ?_; clear H; intro b5 _ H nw; have hb := nw.below; clear hb nw) | (refine Mm.put0 rtE H rfl (.tmp 5) (.tmp 26) c.row rfl rfl rfl rfl (Ev.one _) rfl ?_; intro _ H2 st; clear st H; have H := H2; clear H2) | (refine Mm.ld0 naS H rfl (.tmp 31) 0 (.string c.room) rfl rfl rfl ?_) | (refine Mm.ld1 naS H rfl (.tmp 33) 0 (.string e.room) rfl rfl rfl ?_) | (refine Mm.get1 rtE H rfl (.tmp 3) rfl rfl rfl ?_) | (go_at_call 30; refine (cd.out _ (HV.out.to H.out.below) (HP.out.below H.out.below (Nat.le_refl _))).mono ?_; rintro e _ ⟨rfl, hb⟩; replace H := hidp (H.out.call hb); clear hb) | (refine Mm.new rtD H (some 7) rfl rfl rfl ?_; clear H; intro b7 _ H nw; have hb := nw.below; clear hb nw) | (refine Mm.put0 rtD H rfl (.tmp 7) (.tmp 41) zD rfl rfl rfl rfl (by simp [zD, Value.oneCell']) rfl ?_; intro _ H2 st; clear st H; have H := H2; clear H2))
              go_ret
              exact ⟨by rw [HF.out]; rfl, H.out.below⟩
end Go.Proofs.YtkcgmimcopoknaaGreatDoor
