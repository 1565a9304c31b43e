
/-
  auth: Levels, Rule; what the examples ask.
-/
import Derived.Test.YtkcgmimcopoknaaGreatDoorAuF
namespace Go.Proofs.YtkcgmimcopoknaaGreatDoor
set_option maxRecDepth 100000
set_option linter.unusedVariables false
set_option linter.unusedSimpArgs false
open Go.RowKit Rw

set_option maxHeartbeats 8000000 in
theorem aLevels_any (w : World) (v : Value) (cs : List Ce) (hv : CsAt w v cs) (hs : ∀ c ∈ cs, c.e.body.size ≤ 140737488351232 ∧ c.e.sender.size ≤ 140737488351232) (hP : PT w) : Calls Tryz.prog 19 #[v] w fun x w' => ∃ u, x = .returned (.tuple #[.agg #[.int .i64 (aLv cs).a, .int .i64 (aLv cs).s, .int .i64 (aLv cs).i, .int .i64 (aLv cs).k, .int .i64 (aLv cs).b, .int .i64 (aLv cs).r, u], .int .i64 (aLx cs)]) ∧ UsAt w' u (aLv cs).us ∧ Below w.heap.size w w' := by
  have HV := hidp hv; have HP := hidp hP
  have ck := hidp (fun W h h' => stCheck_any W v cs h h'); have cl := hidp (fun W h h2 => alevelsOf_any W v cs h hs h2)
  have H := hidp (Mm.M.nil w)
  cases hok : okS cs with
  | false =>
    rw [show ckS cs = 2 from if_neg (by rw [hok]; exact Bool.false_ne_true)] at ck
    have H1 := hidp (show aLv cs = zLv from by unfold aLv; rw [hok]; rfl); have H2 := hidp (show aLx cs = 2 from by unfold aLx; rw [hok]; rfl)
    clear hok hv hs hP
    go_enter Tryz.func19, Tryz.ntmps19
    go_wp2_with (first | (refine Mm.new tyL H (some 2) rfl rfl rfl ?_; clear H; intro b2 _ H nw; have hb := nw.below; clear hb nw) | (go_at_call 26; refine (ck.out _ (HV.out.to H.out.below) (HP.out.1.below H.out.below (Nat.le_refl _))).mono ?_; rintro e _ ⟨rfl, hb⟩; replace H := hidp (H.out.call hb); clear hb) | (refine Rt.wpL_build rfl 47 _ rfl zL (by kernel_rfl) ?_) | (refine Mm.put0 tyL H rfl (.tmp 2) (.tmp 9) zL rfl rfl rfl rfl (by simp [zL, Value.oneCell']) rfl ?_; intro _ H2 st; clear st H; have H := H2; clear H2))
    refine bodyPost_ret (Mm.ret_rowv tyL Tryz.results19 _ b2 _ _ rfl rfl H.out.at0 rfl) rfl ⟨_, by rw [H1.out, H2.out]; rfl, by rw [H1.out]; exact UsAt.nil _, H.out.below⟩
  | true =>
    rw [show ckS cs = 0 from if_pos hok] at ck
    have H1 := (show aLv cs = lvS cs from by unfold aLv; rw [hok]; rfl); have H2 := (show aLx cs = lvX cs from by unfold aLx; rw [hok]; rfl)
    obtain ⟨L, hL⟩ : ∃ L, lvS cs = L := ⟨_, rfl⟩
    obtain ⟨X, hX⟩ : ∃ X, lvX cs = X := ⟨_, rfl⟩
    rw [hL, hX] at cl; rw [hL] at H1; rw [hX] at H2
    replace H1 := hidp H1; replace H2 := hidp H2
    clear hok hv hs hP hL hX
    go_enter Tryz.func19, Tryz.ntmps19
    go_wp2_with (first | (refine Mm.new tyL H (some 2) rfl rfl rfl ?_; clear H; intro b2 _ H nw; have hb := nw.below; clear hb nw) | (go_at_call 26; refine (ck.out _ (HV.out.to H.out.below) (HP.out.1.below H.out.below (Nat.le_refl _))).mono ?_; rintro e _ ⟨rfl, hb⟩; replace H := hidp (H.out.call hb); clear hb) | (go_at_call 47; refine (cl.out _ (HV.out.to H.out.below) (HP.out.below H.out.below (Nat.le_refl _))).mono ?_; rintro x _ ⟨u1, rfl, hu, hb⟩; obtain ⟨a1, c1, rfl⟩ := hu.form; replace H := hidp (H.out.call hb); have HU := hidp hu; clear hu hb cl) | (refine Mm.put0 tyL H rfl (.tmp 2) (.tmp 13) [.int .i64 L.a, .int .i64 L.s, .int .i64 L.i, .int .i64 L.k, .int .i64 L.b, .int .i64 L.r, .slice a1 L.us.length c1] rfl rfl rfl rfl (by simp [Value.oneCell']) rfl ?_; intro _ H2 st; replace HU := hidp (HU.out.stp st H.out.at0 (by simp [zL])); clear st H; have H := H2; clear H2))
    refine bodyPost_ret (Mm.ret_rowv tyL Tryz.results19 _ b2 _ _ rfl rfl H.out.at0 rfl) rfl ⟨_, by rw [H1.out, H2.out]; rfl, by rw [H1.out]; exact HU.out, H.out.below⟩
set_option maxHeartbeats 8000000 in
theorem aRule_any (w : World) (v : Value) (cs : List Ce) (hv : CsAt w v cs) (hs : ∀ c ∈ cs, c.e.body.size ≤ 140737488351232 ∧ c.e.sender.size ≤ 140737488351232) (hP : PT w) : Calls Tryz.prog 25 #[v] w fun x w' => x = .returned (.tuple #[.string (aRu cs), .int .i64 (aRx cs)]) ∧ Below w.heap.size w w' := by
  have HV := hidp hv; have HP := hidp hP
  have ck := hidp (fun W h h' => stCheck_any W v cs h h'); have cr := hidp (fun W h => ruleOf_any W v cs h)
  have H := hidp (Mm.M.nil w)
  cases hok : okS cs with
  | false =>
    rw [show ckS cs = 2 from if_neg (by rw [hok]; exact Bool.false_ne_true)] at ck
    have H1 := hidp (show aRu cs = ⟨#[]⟩ from by unfold aRu; rw [hok]; rfl); have H2 := hidp (show aRx cs = 2 from by unfold aRx; rw [hok]; rfl)
    clear hok hv hs hP
    go_enter Tryz.func25, Tryz.ntmps25
    go_wp2_with (first | (go_at_call 26; refine (ck.out _ (HV.out.to H.out.below) (HP.out.1.below H.out.below (Nat.le_refl _))).mono ?_; rintro e _ ⟨rfl, hb⟩; replace H := hidp (H.out.call hb); clear hb))
    go_ret2
    exact ⟨by rw [H1.out, H2.out]; rfl, H.out.below⟩
  | true =>
    rw [show ckS cs = 0 from if_pos hok] at ck
    have H1 := (show aRu cs = ruS cs from by unfold aRu; rw [hok]; rfl); have H2 := (show aRx cs = ruX cs from by unfold aRx; rw [hok]; rfl)
    have hsz := ruS_size hs
    obtain ⟨R, hR⟩ : ∃ R, ruS cs = R := ⟨_, rfl⟩
    obtain ⟨X, hX⟩ : ∃ X, ruX cs = X := ⟨_, rfl⟩
    rw [hR, hX] at cr; rw [hR] at H1 hsz; rw [hX] at H2
    replace H1 := hidp H1; replace H2 := hidp H2
    have cc := hidp (fun W => strClone_any R W hsz)
    clear hok hv hs hP hR hX
    go_enter Tryz.func25, Tryz.ntmps25
    go_wp2_with (first | (go_at_call 26; refine (ck.out _ (HV.out.to H.out.below) (HP.out.1.below H.out.below (Nat.le_refl _))).mono ?_; rintro e _ ⟨rfl, hb⟩; replace H := hidp (H.out.call hb); clear hb) | (go_at_call 58; refine (cr.out _ (HV.out.to H.out.below)).mono ?_; rintro e _ ⟨rfl, hb⟩; replace H := hidp (H.out.call hb); clear hb) | (go_at_call 35; refine (cc.out _).mono ?_; rintro e _ ⟨rfl, hb⟩; replace H := hidp (H.out.call hb); clear hb))
    go_ret2
    exact ⟨by rw [H1.out, H2.out]; rfl, H.out.below⟩

end Go.Proofs.YtkcgmimcopoknaaGreatDoor
