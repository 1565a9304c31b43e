
/-
  auth: lives.
-/
import Derived.Test.YtkcgmimcopoknaaGreatDoorAuI
import Derived.Test.YtkcgmimcopoknaaGreatDoorAuF
namespace Go.Proofs.YtkcgmimcopoknaaGreatDoor
set_option maxRecDepth 100000
set_option linter.unusedVariables false
set_option linter.unusedSimpArgs false
open Go.RowKit Rw
open Go.Shelf
attribute [local go_sem] Oper.semAt_some

set_option maxHeartbeats 4000000 in
theorem ev17_any (w : World) (k : Nat) (s y b : ByteArray) : Calls Tryz.prog 23 #[.int .u8 (k : Int), .string s, .string y, .string b] w fun x w' => x = .returned (.agg (⟨(⟨#[33, 104, 97, 108, 108, 58, 48]⟩ : ByteArray), s, k, y, b, 0⟩ : Ev).row.toArray) ∧ Below w.heap.size w w' := by
  have H := hidp (Mm.M.nil w)
  go_enter Tryz.func23, Tryz.ntmps23
  go_wp2_with (first | (refine Mm.new rtE H (some 8) rfl rfl rfl ?_; clear H; intro b8 _ H nw; have hb := nw.below; clear hb nw) | (refine Rt.wpL_build rfl 25 _ rfl (⟨(⟨#[33, 104, 97, 108, 108, 58, 48]⟩ : ByteArray), s, k, y, b, 0⟩ : Ev).row (by kernel_rfl) ?_) | (refine Mm.put0 rtE H rfl (.tmp 8) (.tmp 13) (⟨(⟨#[33, 104, 97, 108, 108, 58, 48]⟩ : ByteArray), s, k, y, b, 0⟩ : Ev).row rfl rfl rfl rfl (Ev.one _) rfl ?_; intro _ H2 st; clear st H; have H := H2; clear H2))
  refine bodyPost_ret (Mm.ret_row rtE Tryz.results23 _ b8 _ rfl H.out.at0 rfl) rfl ⟨rfl, H.out.below⟩
theorem sz1 : ∀ c ∈ xS1, c.e.body.size ≤ 140737488351232 ∧ c.e.sender.size ≤ 140737488351232 := by
  intro c hc
  simp only [xS1, List.mem_cons, List.not_mem_nil, or_false] at hc
  subst hc; exact ⟨by decide, by decide⟩
theorem sz2 : ∀ c ∈ xS2, c.e.body.size ≤ 140737488351232 ∧ c.e.sender.size ≤ 140737488351232 := by
  intro c hc
  simp only [xS2, List.mem_cons, List.not_mem_nil, or_false] at hc
  rcases hc with rfl | rfl <;> exact ⟨by decide, by decide⟩
theorem kE1 (W : World) : Calls Tryz.prog 23 #[.int .u8 1, .string (⟨#[64, 97, 110, 110, 58, 48]⟩ : ByteArray), .string (⟨#[]⟩ : ByteArray), .string (⟨#[]⟩ : ByteArray)] W fun x w' => x = .returned (.agg xE1.row.toArray) ∧ Below W.heap.size W w' := ev17_any W 1 (⟨#[64, 97, 110, 110, 58, 48]⟩ : ByteArray) (⟨#[]⟩ : ByteArray) (⟨#[]⟩ : ByteArray)
theorem kE2 (W : World) : Calls Tryz.prog 23 #[.int .u8 2, .string (⟨#[64, 97, 110, 110, 58, 48]⟩ : ByteArray), .string (⟨#[64, 97, 110, 110, 58, 48]⟩ : ByteArray), .string (⟨#[106, 111, 105, 110]⟩ : ByteArray)] W fun x w' => x = .returned (.agg xE2.row.toArray) ∧ Below W.heap.size W w' := ev17_any W 2 (⟨#[64, 97, 110, 110, 58, 48]⟩ : ByteArray) (⟨#[64, 97, 110, 110, 58, 48]⟩ : ByteArray) (⟨#[106, 111, 105, 110]⟩ : ByteArray)
theorem kEB (W : World) : Calls Tryz.prog 23 #[.int .u8 1, .string (⟨#[64, 98, 111, 98, 58, 49]⟩ : ByteArray), .string (⟨#[]⟩ : ByteArray), .string (⟨#[]⟩ : ByteArray)] W fun x w' => x = .returned (.agg xEB.row.toArray) ∧ Below W.heap.size W w' := ev17_any W 1 (⟨#[64, 98, 111, 98, 58, 49]⟩ : ByteArray) (⟨#[]⟩ : ByteArray) (⟨#[]⟩ : ByteArray)
theorem kM1 (W : World) : Calls Tryz.prog 23 #[.int .u8 6, .string (⟨#[64, 98, 111, 98, 58, 49]⟩ : ByteArray), .string (⟨#[]⟩ : ByteArray), .string (⟨#[104, 105]⟩ : ByteArray)] W fun x w' => x = .returned (.agg xM1.row.toArray) ∧ Below W.heap.size W w' := ev17_any W 6 (⟨#[64, 98, 111, 98, 58, 49]⟩ : ByteArray) (⟨#[]⟩ : ByteArray) (⟨#[104, 105]⟩ : ByteArray)
theorem kM2 (W : World) : Calls Tryz.prog 23 #[.int .u8 6, .string (⟨#[64, 97, 110, 110, 58, 48]⟩ : ByteArray), .string (⟨#[]⟩ : ByteArray), .string (⟨#[104, 105]⟩ : ByteArray)] W fun x w' => x = .returned (.agg xM2.row.toArray) ∧ Below W.heap.size W w' := ev17_any W 6 (⟨#[64, 97, 110, 110, 58, 48]⟩ : ByteArray) (⟨#[]⟩ : ByteArray) (⟨#[104, 105]⟩ : ByteArray)
theorem kT3 (W : World) : Calls Tryz.prog 23 #[.int .u8 2, .string (⟨#[64, 97, 110, 110, 58, 48]⟩ : ByteArray), .string (⟨#[64, 98, 111, 98, 58, 49]⟩ : ByteArray), .string (⟨#[116, 104, 105, 114, 100]⟩ : ByteArray)] W fun x w' => x = .returned (.agg xT3.row.toArray) ∧ Below W.heap.size W w' := ev17_any W 2 (⟨#[64, 97, 110, 110, 58, 48]⟩ : ByteArray) (⟨#[64, 98, 111, 98, 58, 49]⟩ : ByteArray) (⟨#[116, 104, 105, 114, 100]⟩ : ByteArray)
theorem okE1 : xE1.ok := ⟨by decide, by decide, by decide, by decide, by decide⟩
theorem okE2 : xE2.ok := ⟨by decide, by decide, by decide, by decide, by decide⟩
theorem okEB : xEB.ok := ⟨by decide, by decide, by decide, by decide, by decide⟩
theorem okM1 : xM1.ok := ⟨by decide, by decide, by decide, by decide, by decide⟩
theorem okM2 : xM2.ok := ⟨by decide, by decide, by decide, by decide, by decide⟩
theorem okT3 : xT3.ok := ⟨by decide, by decide, by decide, by decide, by decide⟩
theorem a1 (W : World) (v : Value) (hv : CsAt W v []) (h : PT W) : Calls Tryz.prog 9 #[v, .agg xE1.row.toArray] W fun x w' => x = .returned (.int .i64 0) ∧ Below W.heap.size W w' := by
  have := aallowed_any W v [] hv (by simp) xE1 okE1 (by decide) h; rw [l_a1] at this; exact this
theorem a2 (W : World) (v : Value) (hv : CsAt W v []) (h : PT W) : Calls Tryz.prog 9 #[v, .agg xEB.row.toArray] W fun x w' => x = .returned (.int .i64 12) ∧ Below W.heap.size W w' := by
  have := aallowed_any W v [] hv (by simp) xEB okEB (by decide) h; rw [l_a2] at this; exact this
theorem a3 (W : World) (v : Value) (hv : CsAt W v xS1) (h : PT W) : Calls Tryz.prog 9 #[v, .agg xE2.row.toArray] W fun x w' => x = .returned (.int .i64 0) ∧ Below W.heap.size W w' := by
  have := aallowed_any W v xS1 hv sz1 xE2 okE2 (by decide) h; rw [l_a3] at this; exact this
theorem a4 (W : World) (v : Value) (hv : CsAt W v xS2) (h : PT W) : Calls Tryz.prog 9 #[v, .agg xM1.row.toArray] W fun x w' => x = .returned (.int .i64 12) ∧ Below W.heap.size W w' := by
  have := aallowed_any W v xS2 hv sz2 xM1 okM1 (by decide) h; rw [l_a4] at this; exact this
theorem a5 (W : World) (v : Value) (hv : CsAt W v xS2) (h : PT W) : Calls Tryz.prog 9 #[v, .agg xM2.row.toArray] W fun x w' => x = .returned (.int .i64 0) ∧ Below W.heap.size W w' := by
  have := aallowed_any W v xS2 hv sz2 xM2 okM2 (by decide) h; rw [l_a5] at this; exact this
theorem a6 (W : World) (v : Value) (hv : CsAt W v xS2) (h : PT W) : Calls Tryz.prog 9 #[v, .agg xT3.row.toArray] W fun x w' => x = .returned (.int .i64 2) ∧ Below W.heap.size W w' := by
  have := aallowed_any W v xS2 hv sz2 xT3 okT3 (by decide) h; rw [l_a6] at this; exact this
theorem s1 (W : World) (v : Value) (hv : CsAt W v []) (h : IT W) : Calls Tryz.prog 24 #[v, .agg xE1.row.toArray] W fun x w' => ∃ v', x = .returned (.tuple #[v', .int .i64 (setE [] xE1)]) ∧ CsAt w' v' xS1 ∧ Below W.heap.size W w' := by
  have := set_any W v [] hv xE1 okE1 h; rw [l_s1] at this; exact this
theorem s2 (W : World) (v : Value) (hv : CsAt W v xS1) (h : IT W) : Calls Tryz.prog 24 #[v, .agg xE2.row.toArray] W fun x w' => ∃ v', x = .returned (.tuple #[v', .int .i64 (setE xS1 xE2)]) ∧ CsAt w' v' xS2 ∧ Below W.heap.size W w' := by
  have := set_any W v xS1 hv xE2 okE2 h; rw [l_s2] at this; exact this
theorem n12 (W : World) (h : PT W) : Calls Tryz.prog 16 #[.string (⟨#[49, 50]⟩ : ByteArray)] W fun x w' => x = .returned (.tuple #[.int .i64 12, .bool true]) ∧ Below W.heap.size W w' := by
  have := next_any W (⟨#[49, 50]⟩ : ByteArray) (by decide) h; rw [l_n1] at this; exact this
theorem n64 (W : World) (h : PT W) : Calls Tryz.prog 16 #[.string (⟨#[54, 52]⟩ : ByteArray)] W fun x w' => x = .returned (.tuple #[.int .i64 0, .bool false]) ∧ Below W.heap.size W w' := by
  have := next_any W (⟨#[54, 52]⟩ : ByteArray) (by decide) h; rw [l_n2] at this; exact this
theorem lv2 (W : World) (v : Value) (hv : CsAt W v xS2) (h : PT W) : Calls Tryz.prog 19 #[v] W fun x w' => ∃ u, x = .returned (.tuple #[.agg #[.int .i64 (aLv xS2).a, .int .i64 (aLv xS2).s, .int .i64 (aLv xS2).i, .int .i64 (aLv xS2).k, .int .i64 (aLv xS2).b, .int .i64 (aLv xS2).r, u], .int .i64 0]) ∧ UsAt w' u (aLv xS2).us ∧ Below W.heap.size W w' := by
  have := aLevels_any W v xS2 hv sz2 h; rw [l_lx] at this; exact this
theorem ru2 (W : World) (v : Value) (hv : CsAt W v xS2) (h : PT W) : Calls Tryz.prog 25 #[v] W fun x w' => x = .returned (.tuple #[.string (aRu xS2), .int .i64 0]) ∧ Below W.heap.size W w' := by
  have := aRule_any W v xS2 hv sz2 h; rw [l_rx] at this; exact this
theorem of2 (W : World) (u : Value) (hu : UsAt W u (aLv xS2).us) : Calls Tryz.prog 22 #[.agg #[.int .i64 (aLv xS2).a, .int .i64 (aLv xS2).s, .int .i64 (aLv xS2).i, .int .i64 (aLv xS2).k, .int .i64 (aLv xS2).b, .int .i64 (aLv xS2).r, u], .string (⟨#[64, 97, 110, 110, 58, 48]⟩ : ByteArray)] W fun x w' => x = .returned (.int .i64 100) ∧ Below W.heap.size W w' := by
  have := of_any W (aLv xS2) u (⟨#[64, 97, 110, 110, 58, 48]⟩ : ByteArray) hu; rw [l_lo] at this; exact this

set_option maxHeartbeats 32000000 in
theorem lives17_any (w : World) (hP : PT w) : Calls Tryz.prog 8 #[] w fun x w' => x = .returned (.bool true) ∧ Below w.heap.size w w' := by
  have HP := hidp hP
  clear hP
  have kE1 := hidp kE1
  have kE2 := hidp kE2
  have kEB := hidp kEB
  have kM1 := hidp kM1
  have kM2 := hidp kM2
  have kT3 := hidp kT3
  have a1 := hidp a1
  have a2 := hidp a2
  have a3 := hidp a3
  have a4 := hidp a4
  have a5 := hidp a5
  have a6 := hidp a6
  have s1 := hidp s1
  have s2 := hidp s2
  have lv2 := hidp lv2
  have ru2 := hidp ru2
  have of2 := hidp of2
  have n12 := hidp n12
  have n64 := hidp n64
  have hR : ((aRu xS2).toList == ([105, 110, 118, 105, 116, 101] : List UInt8)) = true := by rw [l_ru, toList_lit]; rfl
  generalize aLv xS2 = L at *
  generalize aRu xS2 = R at *
  generalize setE [] xE1 = X1 at *
  generalize setE xS1 xE2 = X2 at *
  generalize xS1 = z1 at *
  generalize xS2 = z2 at *
  generalize xE1 = e1 at *
  generalize xE2 = e2 at *
  generalize xEB = eB at *
  generalize xM1 = m1 at *
  generalize xM2 = m2 at *
  generalize xT3 = t3 at *
  have H := hidp (Mm.M.nil w)
  go_enter Tryz.func8, Tryz.ntmps8
  go_wp2_with (first | (go_at_call 23; refine (kE1.out _).mono ?_; rintro e _ ⟨rfl, hb⟩; replace H := hidp (H.out.call hb); clear kE1; clear hb) | (refine Mm.new rtE H (some 1) rfl rfl rfl ?_; clear H; intro b1 _ H nw; have hb := nw.below; clear hb nw) | (refine Mm.put0 rtE H rfl (.tmp 1) (.tmp 19) e1.row rfl rfl rfl rfl (Ev.one _) rfl ?_; intro _ H2 st; clear st H; have H := H2; clear H2) | (go_at_call 23; refine (kE2.out _).mono ?_; rintro e _ ⟨rfl, hb⟩; replace H := hidp (H.out.call hb); clear kE2; clear hb) | (refine Mm.new rtE H (some 2) rfl rfl rfl ?_; clear H; intro b2 _ H nw; have hb := nw.below; clear hb nw) | (refine Mm.put0 rtE H rfl (.tmp 2) (.tmp 20) e2.row rfl rfl rfl rfl (Ev.one _) rfl ?_; intro _ H2 st; clear st H; have H := H2; clear H2) | (refine Mm.get1 rtE H rfl (.tmp 1) rfl rfl rfl ?_) | (go_at_call 9; refine (a1.out _ _ (CsAt.nil _) (HP.out.below H.out.below (Nat.le_refl _))).mono ?_; rintro e _ ⟨rfl, hb⟩; replace H := hidp (H.out.call hb); clear a1; clear hb) | (go_at_call 23; refine (kEB.out _).mono ?_; rintro e _ ⟨rfl, hb⟩; replace H := hidp (H.out.call hb); clear kEB; clear hb) | (go_at_call 9; refine (a2.out _ _ (CsAt.nil _) (HP.out.below H.out.below (Nat.le_refl _))).mono ?_; rintro e _ ⟨rfl, hb⟩; replace H := hidp (H.out.call hb); clear a2; clear hb) | (go_at_call 24; refine (s1.out _ _ (CsAt.nil _) (HP.out.1.below H.out.below (Nat.le_refl _))).mono ?_; rintro x _ ⟨v1, rfl, hcs, hb⟩; obtain ⟨p1, q1, rfl⟩ := hcs.form; replace H := hidp (H.out.call hb); have HS := hidp hcs; clear hcs hb s1) | (refine Mm.get0 rtE H rfl (.tmp 2) rfl rfl rfl ?_) | (go_at_call 9; refine (a3.out _ _ HS.out (HP.out.below H.out.below (Nat.le_refl _))).mono ?_; rintro e _ ⟨rfl, hb⟩; replace H := hidp (H.out.call hb); clear a3; replace HS := hidp (HS.out.to hb); clear hb) | (go_at_call 24; refine (s2.out _ _ HS.out (HP.out.1.below H.out.below (Nat.le_refl _))).mono ?_; rintro x _ ⟨v1, rfl, hcs, hb⟩; obtain ⟨p2, q2, rfl⟩ := hcs.form; replace H := hidp (H.out.call hb); clear HS; have HS := hidp hcs; clear hcs hb s2) | (go_at_call 23; refine (kM1.out _).mono ?_; rintro e _ ⟨rfl, hb⟩; replace H := hidp (H.out.call hb); clear kM1; replace HS := hidp (HS.out.to hb); clear hb) | (go_at_call 9; refine (a4.out _ _ HS.out (HP.out.below H.out.below (Nat.le_refl _))).mono ?_; rintro e _ ⟨rfl, hb⟩; replace H := hidp (H.out.call hb); clear a4; replace HS := hidp (HS.out.to hb); clear hb) | (go_at_call 23; refine (kM2.out _).mono ?_; rintro e _ ⟨rfl, hb⟩; replace H := hidp (H.out.call hb); clear kM2; replace HS := hidp (HS.out.to hb); clear hb) | (go_at_call 9; refine (a5.out _ _ HS.out (HP.out.below H.out.below (Nat.le_refl _))).mono ?_; rintro e _ ⟨rfl, hb⟩; replace H := hidp (H.out.call hb); clear a5; replace HS := hidp (HS.out.to hb); clear hb) | (go_at_call 23; refine (kT3.out _).mono ?_; rintro e _ ⟨rfl, hb⟩; replace H := hidp (H.out.call hb); clear kT3; replace HS := hidp (HS.out.to hb); clear hb) | (go_at_call 9; refine (a6.out _ _ HS.out (HP.out.below H.out.below (Nat.le_refl _))).mono ?_; rintro e _ ⟨rfl, hb⟩; replace H := hidp (H.out.call hb); clear a6; replace HS := hidp (HS.out.to hb); clear hb) | (go_at_call 19; refine (lv2.out _ _ HS.out (HP.out.below H.out.below (Nat.le_refl _))).mono ?_; rintro x _ ⟨u1, rfl, hu, hb⟩; obtain ⟨p3, q3, rfl⟩ := hu.form; replace H := hidp (H.out.call hb); replace HS := hidp (HS.out.to hb); have HU := hidp hu; clear hu hb lv2) | (refine Mm.new tyL H (some 11) rfl rfl rfl ?_; clear H; intro b11 _ H nw; have hb := nw.below; replace HS := hidp (HS.out.to hb); replace HU := hidp (HU.out.to hb); clear hb nw) | (refine Mm.put0 tyL H rfl (.tmp 11) (.tmp 51) [.int .i64 L.a, .int .i64 L.s, .int .i64 L.i, .int .i64 L.k, .int .i64 L.b, .int .i64 L.r, .slice p3 L.us.length q3] rfl rfl rfl rfl (by simp [Value.oneCell']) rfl ?_; intro _ H2 st; replace HS := hidp (HS.out.stp st H.out.at0 (by simp [zL])); replace HU := hidp (HU.out.stp st H.out.at0 (by simp [zL])); clear st H; have H := H2; clear H2) | (go_at_call 25; refine (ru2.out _ _ HS.out (HP.out.below H.out.below (Nat.le_refl _))).mono ?_; rintro e _ ⟨rfl, hb⟩; replace H := hidp (H.out.call hb); clear ru2; replace HS := hidp (HS.out.to hb); replace HU := hidp (HU.out.to hb); clear hb) | (go_at_call 16; refine (n12.out _ (HP.out.below H.out.below (Nat.le_refl _))).mono ?_; rintro e _ ⟨rfl, hb⟩; replace H := hidp (H.out.call hb); clear n12; replace HS := hidp (HS.out.to hb); replace HU := hidp (HU.out.to hb); clear hb) | (go_at_call 16; refine (n64.out _ (HP.out.below H.out.below (Nat.le_refl _))).mono ?_; rintro e _ ⟨rfl, hb⟩; replace H := hidp (H.out.call hb); clear n64; replace HS := hidp (HS.out.to hb); replace HU := hidp (HU.out.to hb); clear hb) | (refine Mm.get0 tyL H rfl (.tmp 11) rfl rfl rfl ?_) | (go_at_call 22; refine (of2.out _ _ HU.out).mono ?_; rintro e _ ⟨rfl, hb⟩; replace H := hidp (H.out.call hb); clear of2; replace HS := hidp (HS.out.to hb); replace HU := hidp (HU.out.to hb); clear hb))
  go_ret
  exact ⟨rfl, H.out.below⟩
end Go.Proofs.YtkcgmimcopoknaaGreatDoor
