
/-
  power: lives.
-/
import Derived.Test.YtiakfopdohcigaaGreatDoorPwM
namespace Go.Proofs.YtiakfopdohcigaaGreatDoor
set_option maxRecDepth 100000
set_option linter.unusedVariables false
set_option linter.unusedSimpArgs false
open Go.RowKit Rw Go.Shelf
attribute [local go_sem] Oper.semAt_some


theorem run_bs2U (p q : ByteArray × Int) (w : World) : (Instr.buildSlice 35 2 #[(0, .agg #[.string p.1, .int .i64 p.2]), (1, .agg #[.string q.1, .int .i64 q.2])]).run Tryz.prog w = .ok (.slice (some ⟨w.heap.size, 0, none⟩) 2 2) (w.alloc (.cells #[.string p.1, .int .i64 p.2, .string q.1, .int .i64 q.2] 83)) := by
  obtain ⟨i0, hi, hz0, hz1, hz2⟩ := info_parts tyU.info
  refine run_buildSlice w 35 83 2 _ _ i0 _ tyU.us hi hz0 (by rw [hz1]; omega) (by rw [hz1]; omega) ?_
  have hr : Array.range 4 = #[0, 1, 2, 3] := by decide
  rw [hz1]; simp [Instr.fill, Value.cells, zU, hr]
section
variable {ops : Array Oper} {rest : List Oper} {o : Oper} {a : Act} {w : World} {Q : Exit → Act → World → Prop}
theorem wpL_bs2U (hgd : o.guard = none) (x y : Operand) (ho : o.op = .buildSlice 35 2 #[(0, x), (1, y)]) (p q : ByteArray × Int) (hx : a.eval x = .agg #[.string p.1, .int .i64 p.2]) (hy : a.eval y = .agg #[.string q.1, .int .i64 q.2])
    (h : ∀ b W, Rt.NewAt w W b 83 [.string p.1, .int .i64 p.2, .string q.1, .int .i64 q.2] → wpList Tryz.prog ops Q rest (a.put o.dst (.slice (some ⟨b, 0, none⟩) 2 2)) W) : wpList Tryz.prog ops Q (o :: rest) a w := by
  refine wpList_plain hgd fun K hK => ?_
  have := hK _ _ (h w.heap.size (w.alloc (.cells [.string p.1, .int .i64 p.2, .string q.1, .int .i64 q.2].toArray 83)) (Rt.NewAt.mk' _ _ _))
  unfold Oper.wp execOp
  simp only [ho, List.map_toArray, List.map_cons, List.map_nil, hx, hy, Sem.run_bind, run_bs2U, Result.andThen_ok]
  exact this
end
theorem lp1 (W : World) (h : PT W) : Calls Tryz.prog 20 #[.string (⟨#[48, 32, 53, 48, 32, 48, 32, 53, 48, 32, 53, 48, 32, 53, 48, 32, 64, 97, 110, 110, 58, 48, 32, 49, 48, 48]⟩ : ByteArray)] W fun e w' => ∃ v, e = .returned (.tuple #[.agg #[.int .i64 lvl.a, .int .i64 lvl.s, .int .i64 lvl.i, .int .i64 lvl.k, .int .i64 lvl.b, .int .i64 lvl.r, v], .int .i64 0]) ∧ UsAt w' v lvl.us ∧ Below W.heap.size W w' := by
  have := lvParse_any W (⟨#[48, 32, 53, 48, 32, 48, 32, 53, 48, 32, 53, 48, 32, 53, 48, 32, 64, 97, 110, 110, 58, 48, 32, 49, 48, 48]⟩ : ByteArray) (by decide) h
  rw [show psV (⟨#[48, 32, 53, 48, 32, 48, 32, 53, 48, 32, 53, 48, 32, 53, 48, 32, 64, 97, 110, 110, 58, 48, 32, 49, 48, 48]⟩ : ByteArray) = lvl from by unfold psV; rw [l_ps]; rfl, show psX (⟨#[48, 32, 53, 48, 32, 48, 32, 53, 48, 32, 53, 48, 32, 53, 48, 32, 64, 97, 110, 110, 58, 48, 32, 49, 48, 48]⟩ : ByteArray) = 0 from by unfold psX; rw [l_ps]; rfl] at this
  exact this
theorem lp2 (W : World) (h : PT W) : Calls Tryz.prog 20 #[.string (⟨#[48, 32, 53, 48, 32, 48, 32, 53, 48, 32, 53, 48, 32, 53, 48, 32, 64, 97, 110, 110, 58, 48]⟩ : ByteArray)] W fun e w' => ∃ v, e = .returned (.tuple #[.agg #[.int .i64 zLv.a, .int .i64 zLv.s, .int .i64 zLv.i, .int .i64 zLv.k, .int .i64 zLv.b, .int .i64 zLv.r, v], .int .i64 6]) ∧ UsAt w' v zLv.us ∧ Below W.heap.size W w' := by
  have := lvParse_any W (⟨#[48, 32, 53, 48, 32, 48, 32, 53, 48, 32, 53, 48, 32, 53, 48, 32, 64, 97, 110, 110, 58, 48]⟩ : ByteArray) (by decide) h
  rw [show psV (⟨#[48, 32, 53, 48, 32, 48, 32, 53, 48, 32, 53, 48, 32, 53, 48, 32, 64, 97, 110, 110, 58, 48]⟩ : ByteArray) = zLv from by unfold psV; rw [l_px]; rfl, show psX (⟨#[48, 32, 53, 48, 32, 48, 32, 53, 48, 32, 53, 48, 32, 53, 48, 32, 64, 97, 110, 110, 58, 48]⟩ : ByteArray) = 6 from by unfold psX; rw [l_px]; rfl] at this
  exact this

theorem cc1 (X : World) (v1 v2 : Value) (h1 : UsAt X v1 lvl.us) (h2 : UsAt X v2 lvm.us) (hP : PT X) : Calls Tryz.prog 29 #[.agg #[.int .i64 lvl.a, .int .i64 lvl.s, .int .i64 lvl.i, .int .i64 lvl.k, .int .i64 lvl.b, .int .i64 lvl.r, v1], .agg #[.int .i64 lvl.a, .int .i64 lvl.s, .int .i64 lvl.i, .int .i64 lvl.k, .int .i64 lvl.b, .int .i64 lvl.r, v2], .string (⟨#[64, 97, 110, 110, 58, 48]⟩ : ByteArray)] X fun e w' => e = .returned (.int .i64 0) ∧ Below X.heap.size X w' := by
  have := change_any X lvl lvm v1 v2 (⟨#[64, 97, 110, 110, 58, 48]⟩ : ByteArray) h1 h2 hP; rw [l_c1] at this; exact this
theorem cc2 (X : World) (v1 v2 : Value) (h1 : UsAt X v1 lvl.us) (h2 : UsAt X v2 lvm.us) (hP : PT X) : Calls Tryz.prog 29 #[.agg #[.int .i64 lvl.a, .int .i64 lvl.s, .int .i64 lvl.i, .int .i64 lvl.k, .int .i64 lvl.b, .int .i64 lvl.r, v1], .agg #[.int .i64 lvl.a, .int .i64 lvl.s, .int .i64 lvl.i, .int .i64 lvl.k, .int .i64 lvl.b, .int .i64 lvl.r, v2], .string (⟨#[64, 98, 111, 98, 58, 49]⟩ : ByteArray)] X fun e w' => e = .returned (.int .i64 12) ∧ Below X.heap.size X w' := by
  have := change_any X lvl lvm v1 v2 (⟨#[64, 98, 111, 98, 58, 49]⟩ : ByteArray) h1 h2 hP; rw [l_c2] at this; exact this
theorem cc3 (X : World) (v1 v2 : Value) (h1 : UsAt X v1 lvl.us) (h2 : UsAt X v2 lvm.us) (hP : PT X) : Calls Tryz.prog 29 #[.agg #[.int .i64 lvl.a, .int .i64 lvl.s, .int .i64 lvl.i, .int .i64 lvl.k, .int .i64 lvl.b, .int .i64 lvl.r, v2], .agg #[.int .i64 lvl.a, .int .i64 lvl.s, .int .i64 lvl.i, .int .i64 lvl.k, .int .i64 lvl.b, .int .i64 lvl.r, v1], .string (⟨#[64, 97, 110, 110, 58, 48]⟩ : ByteArray)] X fun e w' => e = .returned (.int .i64 12) ∧ Below X.heap.size X w' := by
  have := change_any X lvm lvl v2 v1 (⟨#[64, 97, 110, 110, 58, 48]⟩ : ByteArray) h2 h1 hP; rw [l_c3] at this; exact this

set_option maxHeartbeats 32000000 in
theorem lives15_any (w : World) (hP : PT w) : Calls Tryz.prog 17 #[] w fun e w' => e = .returned (.bool true) ∧ Below w.heap.size w w' := by
  have HP := hidp hP; clear hP
  have cp1 := hidp (lp1 w HP.out); have cp2 := hidp (fun W h => lp2 W h)
  have cT := hidp (fun W v (h : UsAt W v lvl.us) (hp : PT W) => show Calls Tryz.prog 18 #[.agg #[.int .i64 lvl.a, .int .i64 lvl.s, .int .i64 lvl.i, .int .i64 lvl.k, .int .i64 lvl.b, .int .i64 lvl.r, v]] W fun e w' => e = .returned (.tuple #[.string (⟨#[48, 32, 53, 48, 32, 48, 32, 53, 48, 32, 53, 48, 32, 53, 48, 32, 64, 97, 110, 110, 58, 48, 32, 49, 48, 48]⟩ : ByteArray), .int .i64 0]) ∧ Below W.heap.size W w' from by have := text_any W lvl v h hp; rw [l_tx, l_e] at this; exact this)
  go_enter Tryz.func17, Tryz.ntmps17
  go_wp2_with (first | (go_at_call 20; refine (cp1.out).mono ?_; rintro e w1 ⟨v, rfl, hu, hb⟩; obtain ⟨a1, c1, rfl⟩ := hu.form; have HU1 := hidp hu; have HBw := hidp hb; have HB1 := hidp (Below.refl w1.heap.size w1); obtain ⟨n1, hn1⟩ : ∃ n, lvl.us.length = n := ⟨_, rfl⟩; rw [hn1] at HU1 ⊢; have HP1 := hidp (HP.out.below hb (Nat.le_refl _)); clear hu hb cp1 hn1) | (refine Rt.wpL_new tyL (some 1) rfl rfl rfl ?_; intro b1 w2 n2; have HB2 := hidp (HB1.out.trans (n2.below.mono HB1.out.size)); have hg_b1 := hidp (Nat.le_trans HB1.out.size n2.le); have HA2 := hidp n2.arr; clear n2 HB1) | (refine Rt.wpL_put tyL rfl (.tmp 1) (.tmp 13) rfl b1 [.int .i64 lvl.a, .int .i64 lvl.s, .int .i64 lvl.i, .int .i64 lvl.k, .int .i64 lvl.b, .int .i64 lvl.r, (.slice a1 n1 c1)] rfl rfl rfl (by simp [Value.oneCell']) zL rfl HA2.out ?_; intro w3 ha hp; have HB3 := hidp (hp.below' HB2.out hg_b1.out); have HA3 := hidp ha; clear ha hp HB2 HA2) | (refine Rt.wpL_get tyL rfl (.tmp 1) rfl b1 [.int .i64 lvl.a, .int .i64 lvl.s, .int .i64 lvl.i, .int .i64 lvl.k, .int .i64 lvl.b, .int .i64 lvl.r, (.slice a1 n1 c1)] rfl rfl HA3.out ?_) | (go_at_call 18; refine (cT.out _ _ (HU1.out.to' HB3.out) (HP1.out.below HB3.out (Nat.le_refl _))).mono ?_; rintro e w4 ⟨rfl, hb⟩; have HB4 := hidp (HB3.out.trans (hb.mono HB3.out.size)); have HA4 := hidp (HA3.out.below hb HA3.out.lt); clear hb HB3 HA3; clear cT) | (go_at_call 20; refine (cp2.out _ (HP1.out.below HB4.out (Nat.le_refl _))).mono ?_; rintro e w5 ⟨v, rfl, hu, hb⟩; obtain ⟨a5, c5, rfl⟩ := hu.form; obtain ⟨n5, hn5⟩ : ∃ n, zLv.us.length = n := ⟨_, rfl⟩; rw [hn5]; have HB5 := hidp (HB4.out.trans (hb.mono HB4.out.size)); have HA5 := hidp (HA4.out.below hb HA4.out.lt); clear hb hu hn5 cp2 HB4 HA4) | (refine Rt.wpL_new tyL (some 5) rfl rfl rfl ?_; intro b5 w6 n6; have HB6 := hidp (HB5.out.trans (n6.below.mono HB5.out.size)); have hg_b5 := hidp (Nat.le_trans HB5.out.size n6.le); have HA6 := hidp (n6.old HA5.out); have hl_HA_b5 := hidp (show b1 < b5 from by have := n6.at_; have := HA5.out.lt; omega); have HE6 := hidp n6.arr; clear n6 HA5 HB5) | (refine Rt.wpL_put tyL rfl (.tmp 5) (.tmp 22) rfl b5 [.int .i64 zLv.a, .int .i64 zLv.s, .int .i64 zLv.i, .int .i64 zLv.k, .int .i64 zLv.b, .int .i64 zLv.r, (.slice a5 n5 c5)] rfl rfl rfl (by simp [Value.oneCell']) zL rfl HE6.out ?_; intro w7 ha hp; have HB7 := hidp (hp.below' HB6.out hg_b5.out); have HA7 := hidp (hp.arr (by have := hl_HA_b5.out; omega) HA6.out); have HE7 := hidp ha; clear ha hp HB6 HA6 HE6) | (refine Rt.wpL_get tyL rfl (.tmp 1) rfl b1 [.int .i64 lvl.a, .int .i64 lvl.s, .int .i64 lvl.i, .int .i64 lvl.k, .int .i64 lvl.b, .int .i64 lvl.r, (.slice a1 n1 c1)] rfl rfl HA7.out ?_) | (refine Rt.wpL_new tyL (some 7) rfl rfl rfl ?_; intro b7 w8 n8; have HB8 := hidp (HB7.out.trans (n8.below.mono HB7.out.size)); have hg_b7 := hidp (Nat.le_trans HB7.out.size n8.le); have HA8 := hidp (n8.old HA7.out); have hl_HA_b7 := hidp (show b1 < b7 from by have := n8.at_; have := HA7.out.lt; omega); have HE8 := hidp (n8.old HE7.out); have hl_HE_b7 := hidp (show b5 < b7 from by have := n8.at_; have := HE7.out.lt; omega); have HC8 := hidp n8.arr; clear n8 HA7 HE7 HB7) | (refine Rt.wpL_put tyL rfl (.tmp 7) (.tmp 24) rfl b7 [.int .i64 lvl.a, .int .i64 lvl.s, .int .i64 lvl.i, .int .i64 lvl.k, .int .i64 lvl.b, .int .i64 lvl.r, (.slice a1 n1 c1)] rfl rfl rfl (by simp [Value.oneCell']) zL rfl HC8.out ?_; intro w9 ha hp; have HB9 := hidp (hp.below' HB8.out hg_b7.out); have HA9 := hidp (hp.arr (by have := hl_HA_b7.out; omega) HA8.out); have HE9 := hidp (hp.arr (by have := hl_HE_b7.out; omega) HE8.out); have HC9 := hidp ha; clear ha hp HB8 HA8 HE8 HC8) | (refine wpL_bs2U rfl (.tmp 25) (.tmp 26) rfl ((⟨#[64, 97, 110, 110, 58, 48]⟩ : ByteArray), 100) ((⟨#[64, 98, 111, 98, 58, 49]⟩ : ByteArray), 100) rfl rfl ?_; intro b8 w10 n10; have HB10 := hidp (HB9.out.trans (n10.below.mono HB9.out.size)); have hg_b8 := hidp (Nat.le_trans HB9.out.size n10.le); have HA10 := hidp (n10.old HA9.out); have hl_HA_b8 := hidp (show b1 < b8 from by have := n10.at_; have := HA9.out.lt; omega); have HE10 := hidp (n10.old HE9.out); have hl_HE_b8 := hidp (show b5 < b8 from by have := n10.at_; have := HE9.out.lt; omega); have HC10 := hidp (n10.old HC9.out); have hl_HC_b8 := hidp (show b7 < b8 from by have := n10.at_; have := HC9.out.lt; omega); have HN10 := hidp n10.arr; clear n10 HA9 HE9 HC9 HB9) | (refine Rt.wpL_putF rfl 35 (.tmp 28) _ rfl b7 6 (.slice (some ⟨b8, 0, none⟩) 2 2) rfl rfl (by kernel_rfl) rfl [.int .i64 lvl.a, .int .i64 lvl.s, .int .i64 lvl.i, .int .i64 lvl.k, .int .i64 lvl.b, .int .i64 lvl.r, (.slice a1 n1 c1)] HC10.out (by simp) ?_; intro w11 ha hp; have HB11 := hidp (hp.below' HB10.out hg_b7.out); have HC11 := hidp (show Arr w11 b7 37 [.int .i64 lvl.a, .int .i64 lvl.s, .int .i64 lvl.i, .int .i64 lvl.k, .int .i64 lvl.b, .int .i64 lvl.r, (.slice (some ⟨b8, 0, none⟩) 2 2)] from ha); have HA11 := hidp (hp.arr (by have := hl_HA_b7.out; omega) HA10.out); have HN11 := hidp (hp.arr (by have := hl_HC_b8.out; omega) HN10.out); clear ha hp HB10 HA10 HC10 HN10 HE10))
  have HA9 := HA11; have HC9 := HC11
  have HX0 := hidp (Below.refl w11.heap.size w11)
  have HBA := hidp (HBw.out.trans (HB11.out.mono HBw.out.size))
  have HV1 := hidp (HU1.out.to' HB11.out)
  have HP9 := hidp (HP1.out.below HB11.out (Nat.le_refl _))
  have HV8 := hidp (us_of (us := lvm.us) (B := 0) (show OwnR 83 2 w11 0 (.slice (some ⟨b8, 0, none⟩) 2 2) (uRs lvm.us) from OwnR.of_arr (uRs_all _) HN11.out (Nat.zero_le _) (by decide) (by decide) rfl rfl) (by decide) (by intro p hp; simp [lvm] at hp; rcases hp with rfl | rfl <;> decide))
  have kc1 : Hid (∀ X, Below w11.heap.size w11 X → Calls Tryz.prog 29 #[.agg #[.int .i64 lvl.a, .int .i64 lvl.s, .int .i64 lvl.i, .int .i64 lvl.k, .int .i64 lvl.b, .int .i64 lvl.r, (.slice a1 n1 c1)], .agg #[.int .i64 lvl.a, .int .i64 lvl.s, .int .i64 lvl.i, .int .i64 lvl.k, .int .i64 lvl.b, .int .i64 lvl.r, (.slice (some ⟨b8, 0, none⟩) 2 2)], .string (⟨#[64, 97, 110, 110, 58, 48]⟩ : ByteArray)] X fun e w' => e = .returned (.int .i64 0) ∧ Below X.heap.size X w') := hidp (fun X h => cc1 X _ _ (HV1.out.to' h) (HV8.out.to' h) (HP9.out.below h (Nat.le_refl _)))
  have kc2 : Hid (∀ X, Below w11.heap.size w11 X → Calls Tryz.prog 29 #[.agg #[.int .i64 lvl.a, .int .i64 lvl.s, .int .i64 lvl.i, .int .i64 lvl.k, .int .i64 lvl.b, .int .i64 lvl.r, (.slice a1 n1 c1)], .agg #[.int .i64 lvl.a, .int .i64 lvl.s, .int .i64 lvl.i, .int .i64 lvl.k, .int .i64 lvl.b, .int .i64 lvl.r, (.slice (some ⟨b8, 0, none⟩) 2 2)], .string (⟨#[64, 98, 111, 98, 58, 49]⟩ : ByteArray)] X fun e w' => e = .returned (.int .i64 12) ∧ Below X.heap.size X w') := hidp (fun X h => cc2 X _ _ (HV1.out.to' h) (HV8.out.to' h) (HP9.out.below h (Nat.le_refl _)))
  have kc3 : Hid (∀ X, Below w11.heap.size w11 X → Calls Tryz.prog 29 #[.agg #[.int .i64 lvl.a, .int .i64 lvl.s, .int .i64 lvl.i, .int .i64 lvl.k, .int .i64 lvl.b, .int .i64 lvl.r, (.slice (some ⟨b8, 0, none⟩) 2 2)], .agg #[.int .i64 lvl.a, .int .i64 lvl.s, .int .i64 lvl.i, .int .i64 lvl.k, .int .i64 lvl.b, .int .i64 lvl.r, (.slice a1 n1 c1)], .string (⟨#[64, 97, 110, 110, 58, 48]⟩ : ByteArray)] X fun e w' => e = .returned (.int .i64 12) ∧ Below X.heap.size X w') := hidp (fun X h => cc3 X _ _ (HV1.out.to' h) (HV8.out.to' h) (HP9.out.below h (Nat.le_refl _)))
  have kc4 : Hid (∀ X, Below w11.heap.size w11 X → Calls Tryz.prog 25 #[.string (⟨#[64, 97, 110, 110, 58, 48]⟩ : ByteArray)] X fun e w' => ∃ v, e = .returned v ∧ (∃ vf, v = .agg #[.int .i64 lvl.a, .int .i64 lvl.s, .int .i64 lvl.i, .int .i64 lvl.k, .int .i64 lvl.b, .int .i64 lvl.r, vf] ∧ UsAt w' vf lvl.us ∧ Below X.heap.size X w')) := hidp (fun X h => by
    have := first_any X (⟨#[64, 97, 110, 110, 58, 48]⟩ : ByteArray) (by decide) (HP9.out.below h (Nat.le_refl _)); rw [l_f] at this
    exact this.mono fun e w' ⟨v, h1, h2, h3⟩ => ⟨_, h1, v, rfl, h2, h3⟩)
  have kc5 : Hid (∀ X vf, Below w11.heap.size w11 X → UsAt X vf lvl.us → Calls Tryz.prog 24 #[.agg #[.int .i64 lvl.a, .int .i64 lvl.s, .int .i64 lvl.i, .int .i64 lvl.k, .int .i64 lvl.b, .int .i64 lvl.r, (.slice a1 n1 c1)], .agg #[.int .i64 lvl.a, .int .i64 lvl.s, .int .i64 lvl.i, .int .i64 lvl.k, .int .i64 lvl.b, .int .i64 lvl.r, vf]] X fun e w' => e = .returned (.bool true) ∧ Below X.heap.size X w') := hidp (fun X vf h hv => same_any X lvl _ _ (HV1.out.to' h) hv)
  have kc6 : Hid (∀ X, Below w11.heap.size w11 X → Calls Tryz.prog 27 #[.agg #[.int .i64 lvl.a, .int .i64 lvl.s, .int .i64 lvl.i, .int .i64 lvl.k, .int .i64 lvl.b, .int .i64 lvl.r, (.slice a1 n1 c1)], .string (⟨#[64, 97, 110, 110, 58, 48]⟩ : ByteArray)] X fun e w' => e = .returned (.int .i64 100) ∧ Below X.heap.size X w') := hidp (fun X h => by have := of_any X lvl _ (⟨#[64, 97, 110, 110, 58, 48]⟩ : ByteArray) (HV1.out.to' h); rw [l_o1] at this; exact this)
  have kc7 : Hid (∀ X, Below w11.heap.size w11 X → Calls Tryz.prog 27 #[.agg #[.int .i64 lvl.a, .int .i64 lvl.s, .int .i64 lvl.i, .int .i64 lvl.k, .int .i64 lvl.b, .int .i64 lvl.r, (.slice a1 n1 c1)], .string (⟨#[64, 98, 111, 98, 58, 49]⟩ : ByteArray)] X fun e w' => e = .returned (.int .i64 0) ∧ Below X.heap.size X w') := hidp (fun X h => by have := of_any X lvl _ (⟨#[64, 98, 111, 98, 58, 49]⟩ : ByteArray) (HV1.out.to' h); rw [l_o2] at this; exact this)
  have kc8 : Hid (∀ X, Below w11.heap.size w11 X → Calls Tryz.prog 22 #[.agg #[.int .i64 101, .int .i64 0, .int .i64 0, .int .i64 0, .int .i64 0, .int .i64 0, .slice none 0 0]] X fun e w' => e = .returned (.int .i64 2) ∧ Below X.heap.size X w') := hidp (fun X h => by have := lvCheck_any X ⟨101, 0, 0, 0, 0, 0, []⟩ (.slice none 0 0) (UsAt.nil _) (HP9.out.below h (Nat.le_refl _)); rw [l_b] at this; exact this)
  clear HP HU1 HP1 HB11 HBw
  obtain ⟨X1, hU⟩ : ∃ U, ({ w11 with drawn := w11.drawn + 1 } : World) = U := ⟨_, rfl⟩
  have bU : Below w11.heap.size w11 X1 := by rw [← hU]; exact (Below.refl _ _).drew
  have HX1 := hidp (HX0.out.trans (bU.mono HX0.out.size))
  have HS := hidp (show Arr X1 b1 37 [.int .i64 lvl.a, .int .i64 lvl.s, .int .i64 lvl.i, .int .i64 lvl.k, .int .i64 lvl.b, .int .i64 lvl.r, (.slice a1 n1 c1)] ∧ Arr X1 b7 37 [.int .i64 lvl.a, .int .i64 lvl.s, .int .i64 lvl.i, .int .i64 lvl.k, .int .i64 lvl.b, .int .i64 lvl.r, (.slice (some ⟨b8, 0, none⟩) 2 2)] from ⟨HA9.out.below HX1.out HA9.out.lt, HC9.out.below HX1.out HC9.out.lt⟩)
  clear bU HX0
  refine wp_region_noPanic ?_
  refine wp_region_scr (S := fun W => Arr W b1 37 [.int .i64 lvl.a, .int .i64 lvl.s, .int .i64 lvl.i, .int .i64 lvl.k, .int .i64 lvl.b, .int .i64 lvl.r, (.slice a1 n1 c1)] ∧ Arr W b7 37 [.int .i64 lvl.a, .int .i64 lvl.s, .int .i64 lvl.i, .int .i64 lvl.k, .int .i64 lvl.b, .int .i64 lvl.r, (.slice (some ⟨b8, 0, none⟩) 2 2)]) (.take 0 (.take 1 (.take 3 (.take 4 (.one 2 (.one 5 (.take 6 (.take 7 .done)))))))) (by kernel_rfl) (by kernel_rfl) (fun _ _ _ _ _ h => h) (by simp [Scr.depth]) (by kernel_rfl) (by rw [hU]; exact HS.out) ?_
  simp only [hU]
  clear hU HS
  refine Rt.s_get tyL rfl rfl (.tmp 1) rfl b1 [.int .i64 lvl.a, .int .i64 lvl.s, .int .i64 lvl.i, .int .i64 lvl.k, .int .i64 lvl.b, .int .i64 lvl.r, (.slice a1 n1 c1)] rfl rfl (fun w h => h.1) ?_
  simp only [Act.put, List.getElem_toArray, List.getElem_cons_zero, List.getElem_cons_succ, List.setIfInBounds_toArray, List.set_cons_zero, List.set_cons_succ]
  refine Rt.s_get tyL rfl rfl (.tmp 7) rfl b7 [.int .i64 lvl.a, .int .i64 lvl.s, .int .i64 lvl.i, .int .i64 lvl.k, .int .i64 lvl.b, .int .i64 lvl.r, (.slice (some ⟨b8, 0, none⟩) 2 2)] rfl rfl (fun w h => h.2) ?_
  simp only [Act.put, List.getElem_toArray, List.getElem_cons_zero, List.getElem_cons_succ, List.setIfInBounds_toArray, List.set_cons_zero, List.set_cons_succ]
  refine Rt.s_get tyL rfl rfl (.tmp 1) rfl b1 [.int .i64 lvl.a, .int .i64 lvl.s, .int .i64 lvl.i, .int .i64 lvl.k, .int .i64 lvl.b, .int .i64 lvl.r, (.slice a1 n1 c1)] rfl rfl (fun w h => h.1) ?_
  simp only [Act.put, List.getElem_toArray, List.getElem_cons_zero, List.getElem_cons_succ, List.setIfInBounds_toArray, List.set_cons_zero, List.set_cons_succ]
  refine Rt.s_get tyL rfl rfl (.tmp 7) rfl b7 [.int .i64 lvl.a, .int .i64 lvl.s, .int .i64 lvl.i, .int .i64 lvl.k, .int .i64 lvl.b, .int .i64 lvl.r, (.slice (some ⟨b8, 0, none⟩) 2 2)] rfl rfl (fun w h => h.2) ?_
  simp only [Act.put, List.getElem_toArray, List.getElem_cons_zero, List.getElem_cons_succ, List.setIfInBounds_toArray, List.set_cons_zero, List.set_cons_succ]
  apply o_call (f := 29) (args := #[.agg #[.int .i64 lvl.a, .int .i64 lvl.s, .int .i64 lvl.i, .int .i64 lvl.k, .int .i64 lvl.b, .int .i64 lvl.r, (.slice a1 n1 c1)], .agg #[.int .i64 lvl.a, .int .i64 lvl.s, .int .i64 lvl.i, .int .i64 lvl.k, .int .i64 lvl.b, .int .i64 lvl.r, (.slice (some ⟨b8, 0, none⟩) 2 2)], .string (⟨#[64, 97, 110, 110, 58, 48]⟩ : ByteArray)]) (v := .int .i64 0) (hc := kc1.out _ HX1.out)
  case ho => rfl
  case hw => rfl
  case hop => go_simp; first | done | rfl
  rintro X2 hb
  have HX2 := hidp (HX1.out.trans (hb.mono HX1.out.size))
  refine ⟨⟨HA9.out.below HX2.out HA9.out.lt, HC9.out.below HX2.out HC9.out.lt⟩, ?_⟩
  clear hb HX1
  simp only [Act.put, List.getElem_toArray, List.getElem_cons_zero, List.getElem_cons_succ, List.setIfInBounds_toArray, List.set_cons_zero, List.set_cons_succ]
  apply o_call (f := 29) (args := #[.agg #[.int .i64 lvl.a, .int .i64 lvl.s, .int .i64 lvl.i, .int .i64 lvl.k, .int .i64 lvl.b, .int .i64 lvl.r, (.slice a1 n1 c1)], .agg #[.int .i64 lvl.a, .int .i64 lvl.s, .int .i64 lvl.i, .int .i64 lvl.k, .int .i64 lvl.b, .int .i64 lvl.r, (.slice (some ⟨b8, 0, none⟩) 2 2)], .string (⟨#[64, 98, 111, 98, 58, 49]⟩ : ByteArray)]) (v := .int .i64 12) (hc := kc2.out _ HX2.out)
  case ho => rfl
  case hw => rfl
  case hop => go_simp; first | done | rfl
  rintro X3 hb
  have HX3 := hidp (HX2.out.trans (hb.mono HX2.out.size))
  refine ⟨⟨HA9.out.below HX3.out HA9.out.lt, HC9.out.below HX3.out HC9.out.lt⟩, ?_⟩
  clear hb HX2
  simp only [Act.put, List.getElem_toArray, List.getElem_cons_zero, List.getElem_cons_succ, List.setIfInBounds_toArray, List.set_cons_zero, List.set_cons_succ]
  apply s_val
  case ho => rfl
  case hw => rfl
  case hv => intro w hw; go_simp; first | done | with_reducible rfl | rfl
  simp only [Act.put, List.getElem_toArray, List.getElem_cons_zero, List.getElem_cons_succ, List.setIfInBounds_toArray, List.set_cons_zero, List.set_cons_succ]
  apply s_val
  case ho => rfl
  case hw => rfl
  case hv => intro w hw; go_simp; first | done | with_reducible rfl | rfl
  simp only [Act.put, List.getElem_toArray, List.getElem_cons_zero, List.getElem_cons_succ, List.setIfInBounds_toArray, List.set_cons_zero, List.set_cons_succ]
  refine NoPanic.normal ?_
  go_wp2_with (first | (refine Rt.wpL_get tyL rfl (.tmp 7) rfl b7 [.int .i64 lvl.a, .int .i64 lvl.s, .int .i64 lvl.i, .int .i64 lvl.k, .int .i64 lvl.b, .int .i64 lvl.r, (.slice (some ⟨b8, 0, none⟩) 2 2)] rfl rfl (HC9.out.below HX3.out HC9.out.lt) ?_) | (refine Rt.wpL_get tyL rfl (.tmp 1) rfl b1 [.int .i64 lvl.a, .int .i64 lvl.s, .int .i64 lvl.i, .int .i64 lvl.k, .int .i64 lvl.b, .int .i64 lvl.r, (.slice a1 n1 c1)] rfl rfl (HA9.out.below HX3.out HA9.out.lt) ?_) | (go_at_call 29; refine (kc3.out _ HX3.out).mono ?_; rintro e X4 ⟨rfl, hb⟩; have HX4 := hidp (HX3.out.trans (hb.mono HX3.out.size)); clear hb HX3))
  obtain ⟨X5, hU⟩ : ∃ U, ({ X4 with drawn := X4.drawn + 1 } : World) = U := ⟨_, rfl⟩
  have bU : Below X4.heap.size X4 X5 := by rw [← hU]; exact (Below.refl _ _).drew
  have HX5 := hidp (HX4.out.trans (bU.mono HX4.out.size))
  have HS := hidp (show Arr X5 b1 37 [.int .i64 lvl.a, .int .i64 lvl.s, .int .i64 lvl.i, .int .i64 lvl.k, .int .i64 lvl.b, .int .i64 lvl.r, (.slice a1 n1 c1)] ∧ Arr X5 b7 37 [.int .i64 lvl.a, .int .i64 lvl.s, .int .i64 lvl.i, .int .i64 lvl.k, .int .i64 lvl.b, .int .i64 lvl.r, (.slice (some ⟨b8, 0, none⟩) 2 2)] from ⟨HA9.out.below HX5.out HA9.out.lt, HC9.out.below HX5.out HC9.out.lt⟩)
  clear bU HX4
  refine wp_region_noPanic ?_
  refine wp_region_scr (S := fun W => Arr W b1 37 [.int .i64 lvl.a, .int .i64 lvl.s, .int .i64 lvl.i, .int .i64 lvl.k, .int .i64 lvl.b, .int .i64 lvl.r, (.slice a1 n1 c1)] ∧ Arr W b7 37 [.int .i64 lvl.a, .int .i64 lvl.s, .int .i64 lvl.i, .int .i64 lvl.k, .int .i64 lvl.b, .int .i64 lvl.r, (.slice (some ⟨b8, 0, none⟩) 2 2)]) (.take 0 (.take 1 (.take 2 (.take 3 (.one 4 (.one 5 (.take 6 (.take 7 (.take 8 (.take 9 (.take 10 (.take 11 (.take 12 (.take 13 (.take 14 (.take 15 (.take 16 (.take 17 (.take 18 (.take 19 (.take 20 (.take 21 (.take 22 (.take 23 (.take 24 (.take 25 (.take 26 (.take 27 (.take 28 (.take 29 (.take 30 (.take 31 (.take 32 (.one 33 (.take 34 (.take 35 (.take 36 (.take 37 (.one 38 (.take 39 (.take 40 (.take 41 (.take 42 (.one 43 (.take 44 (.take 45 (.take 46 .done))))))))))))))))))))))))))))))))))))))))))))))) (by kernel_rfl) (by kernel_rfl) (fun _ _ _ _ _ h => h) (by simp [Scr.depth]) (by kernel_rfl) (by rw [hU]; exact HS.out) ?_
  simp only [hU]
  clear hU HS
  apply s_val
  case ho => rfl
  case hw => rfl
  case hv => intro w hw; go_simp; first | done | with_reducible rfl | rfl
  simp only [Act.put, List.getElem_toArray, List.getElem_cons_zero, List.getElem_cons_succ, List.setIfInBounds_toArray, List.set_cons_zero, List.set_cons_succ]
  apply s_val (v := .bool true)
  case ho => rfl
  case hw => rfl
  case hv => intro w hw; go_simp; first | done | with_reducible rfl | rfl
  simp only [Act.put, List.getElem_toArray, List.getElem_cons_zero, List.getElem_cons_succ, List.setIfInBounds_toArray, List.set_cons_zero, List.set_cons_succ]
  apply s_val
  case ho => rfl
  case hw => rfl
  case hv => intro w hw; go_simp; first | done | with_reducible rfl | rfl
  simp only [Act.put, List.getElem_toArray, List.getElem_cons_zero, List.getElem_cons_succ, List.setIfInBounds_toArray, List.set_cons_zero, List.set_cons_succ]
  refine Rt.s_get tyL rfl rfl (.tmp 1) rfl b1 [.int .i64 lvl.a, .int .i64 lvl.s, .int .i64 lvl.i, .int .i64 lvl.k, .int .i64 lvl.b, .int .i64 lvl.r, (.slice a1 n1 c1)] rfl rfl (fun w h => h.1) ?_
  simp only [Act.put, List.getElem_toArray, List.getElem_cons_zero, List.getElem_cons_succ, List.setIfInBounds_toArray, List.set_cons_zero, List.set_cons_succ]
  apply o_callE (f := 25) (args := #[.string (⟨#[64, 97, 110, 110, 58, 48]⟩ : ByteArray)]) (hc := kc4.out _ HX5.out)
  case ho => rfl
  case hw => rfl
  case hop => go_simp; first | done | rfl
  rintro _ X6 ⟨vf, rfl, huf, hb⟩
  have HX6 := hidp (HX5.out.trans (hb.mono HX5.out.size)); have HVF := hidp huf
  refine ⟨⟨HA9.out.below HX6.out HA9.out.lt, HC9.out.below HX6.out HC9.out.lt⟩, ?_⟩
  clear hb HX5 huf
  simp only [Act.put, List.getElem_toArray, List.getElem_cons_zero, List.getElem_cons_succ, List.setIfInBounds_toArray, List.set_cons_zero, List.set_cons_succ]
  apply o_call (f := 24) (args := #[.agg #[.int .i64 lvl.a, .int .i64 lvl.s, .int .i64 lvl.i, .int .i64 lvl.k, .int .i64 lvl.b, .int .i64 lvl.r, (.slice a1 n1 c1)], .agg #[.int .i64 lvl.a, .int .i64 lvl.s, .int .i64 lvl.i, .int .i64 lvl.k, .int .i64 lvl.b, .int .i64 lvl.r, vf]]) (v := .bool true) (hc := kc5.out X6 vf HX6.out HVF.out)
  case ho => rfl
  case hw => rfl
  case hop => go_simp; first | done | rfl
  rintro X7 hb
  have HX7 := hidp (HX6.out.trans (hb.mono HX6.out.size))
  refine ⟨⟨HA9.out.below HX7.out HA9.out.lt, HC9.out.below HX7.out HC9.out.lt⟩, ?_⟩
  clear hb HX6
  simp only [Act.put, List.getElem_toArray, List.getElem_cons_zero, List.getElem_cons_succ, List.setIfInBounds_toArray, List.set_cons_zero, List.set_cons_succ]
  apply s_val
  case ho => rfl
  case hw => rfl
  case hv => intro w hw; go_simp; first | done | with_reducible rfl | rfl
  simp only [Act.put, List.getElem_toArray, List.getElem_cons_zero, List.getElem_cons_succ, List.setIfInBounds_toArray, List.set_cons_zero, List.set_cons_succ]
  apply s_val
  case ho => rfl
  case hw => rfl
  case hv => intro w hw; go_simp; first | done | with_reducible rfl | rfl
  simp only [Act.put, List.getElem_toArray, List.getElem_cons_zero, List.getElem_cons_succ, List.setIfInBounds_toArray, List.set_cons_zero, List.set_cons_succ]
  apply s_val
  case ho => rfl
  case hw => rfl
  case hv => intro w hw; go_simp; first | done | with_reducible rfl | rfl
  simp only [Act.put, List.getElem_toArray, List.getElem_cons_zero, List.getElem_cons_succ, List.setIfInBounds_toArray, List.set_cons_zero, List.set_cons_succ]
  apply s_val (v := .bool true)
  case ho => rfl
  case hw => rfl
  case hv => intro w hw; go_simp; first | done | with_reducible rfl | rfl
  simp only [Act.put, List.getElem_toArray, List.getElem_cons_zero, List.getElem_cons_succ, List.setIfInBounds_toArray, List.set_cons_zero, List.set_cons_succ]
  apply s_val
  case ho => rfl
  case hw => rfl
  case hv => intro w hw; go_simp; first | done | with_reducible rfl | rfl
  simp only [Act.put, List.getElem_toArray, List.getElem_cons_zero, List.getElem_cons_succ, List.setIfInBounds_toArray, List.set_cons_zero, List.set_cons_succ]
  apply s_val
  case ho => rfl
  case hw => rfl
  case hv => intro w hw; go_simp; first | done | with_reducible rfl | rfl
  simp only [Act.put, List.getElem_toArray, List.getElem_cons_zero, List.getElem_cons_succ, List.setIfInBounds_toArray, List.set_cons_zero, List.set_cons_succ]
  apply s_val
  case ho => rfl
  case hw => rfl
  case hv => intro w hw; go_simp; first | done | with_reducible rfl | rfl
  simp only [Act.put, List.getElem_toArray, List.getElem_cons_zero, List.getElem_cons_succ, List.setIfInBounds_toArray, List.set_cons_zero, List.set_cons_succ]
  apply s_val (v := .bool true)
  case ho => rfl
  case hw => rfl
  case hv => intro w hw; go_simp; first | done | with_reducible rfl | rfl
  simp only [Act.put, List.getElem_toArray, List.getElem_cons_zero, List.getElem_cons_succ, List.setIfInBounds_toArray, List.set_cons_zero, List.set_cons_succ]
  apply s_val
  case ho => rfl
  case hw => rfl
  case hv => intro w hw; go_simp; first | done | with_reducible rfl | rfl
  simp only [Act.put, List.getElem_toArray, List.getElem_cons_zero, List.getElem_cons_succ, List.setIfInBounds_toArray, List.set_cons_zero, List.set_cons_succ]
  apply s_val
  case ho => rfl
  case hw => rfl
  case hv => intro w hw; go_simp; first | done | with_reducible rfl | rfl
  simp only [Act.put, List.getElem_toArray, List.getElem_cons_zero, List.getElem_cons_succ, List.setIfInBounds_toArray, List.set_cons_zero, List.set_cons_succ]
  apply s_val
  case ho => rfl
  case hw => rfl
  case hv => intro w hw; go_simp; first | done | with_reducible rfl | rfl
  simp only [Act.put, List.getElem_toArray, List.getElem_cons_zero, List.getElem_cons_succ, List.setIfInBounds_toArray, List.set_cons_zero, List.set_cons_succ]
  apply s_val (v := .bool true)
  case ho => rfl
  case hw => rfl
  case hv => intro w hw; go_simp; first | done | with_reducible rfl | rfl
  simp only [Act.put, List.getElem_toArray, List.getElem_cons_zero, List.getElem_cons_succ, List.setIfInBounds_toArray, List.set_cons_zero, List.set_cons_succ]
  apply s_val
  case ho => rfl
  case hw => rfl
  case hv => intro w hw; go_simp; first | done | with_reducible rfl | rfl
  simp only [Act.put, List.getElem_toArray, List.getElem_cons_zero, List.getElem_cons_succ, List.setIfInBounds_toArray, List.set_cons_zero, List.set_cons_succ]
  apply s_val
  case ho => rfl
  case hw => rfl
  case hv => intro w hw; go_simp; first | done | with_reducible rfl | rfl
  simp only [Act.put, List.getElem_toArray, List.getElem_cons_zero, List.getElem_cons_succ, List.setIfInBounds_toArray, List.set_cons_zero, List.set_cons_succ]
  apply s_val
  case ho => rfl
  case hw => rfl
  case hv => intro w hw; go_simp; first | done | with_reducible rfl | rfl
  simp only [Act.put, List.getElem_toArray, List.getElem_cons_zero, List.getElem_cons_succ, List.setIfInBounds_toArray, List.set_cons_zero, List.set_cons_succ]
  apply s_val (v := .bool true)
  case ho => rfl
  case hw => rfl
  case hv => intro w hw; go_simp; first | done | with_reducible rfl | rfl
  simp only [Act.put, List.getElem_toArray, List.getElem_cons_zero, List.getElem_cons_succ, List.setIfInBounds_toArray, List.set_cons_zero, List.set_cons_succ]
  apply s_val
  case ho => rfl
  case hw => rfl
  case hv => intro w hw; go_simp; first | done | with_reducible rfl | rfl
  simp only [Act.put, List.getElem_toArray, List.getElem_cons_zero, List.getElem_cons_succ, List.setIfInBounds_toArray, List.set_cons_zero, List.set_cons_succ]
  apply s_val
  case ho => rfl
  case hw => rfl
  case hv => intro w hw; go_simp; first | done | with_reducible rfl | rfl
  simp only [Act.put, List.getElem_toArray, List.getElem_cons_zero, List.getElem_cons_succ, List.setIfInBounds_toArray, List.set_cons_zero, List.set_cons_succ]
  apply s_val
  case ho => rfl
  case hw => rfl
  case hv => intro w hw; go_simp; first | done | with_reducible rfl | rfl
  simp only [Act.put, List.getElem_toArray, List.getElem_cons_zero, List.getElem_cons_succ, List.setIfInBounds_toArray, List.set_cons_zero, List.set_cons_succ]
  apply s_val (v := .bool true)
  case ho => rfl
  case hw => rfl
  case hv => intro w hw; go_simp; first | done | with_reducible rfl | rfl
  simp only [Act.put, List.getElem_toArray, List.getElem_cons_zero, List.getElem_cons_succ, List.setIfInBounds_toArray, List.set_cons_zero, List.set_cons_succ]
  apply s_val
  case ho => rfl
  case hw => rfl
  case hv => intro w hw; go_simp; first | done | with_reducible rfl | rfl
  simp only [Act.put, List.getElem_toArray, List.getElem_cons_zero, List.getElem_cons_succ, List.setIfInBounds_toArray, List.set_cons_zero, List.set_cons_succ]
  apply s_val
  case ho => rfl
  case hw => rfl
  case hv => intro w hw; go_simp; first | done | with_reducible rfl | rfl
  simp only [Act.put, List.getElem_toArray, List.getElem_cons_zero, List.getElem_cons_succ, List.setIfInBounds_toArray, List.set_cons_zero, List.set_cons_succ]
  apply s_val
  case ho => rfl
  case hw => rfl
  case hv => intro w hw; go_simp; first | done | with_reducible rfl | rfl
  simp only [Act.put, List.getElem_toArray, List.getElem_cons_zero, List.getElem_cons_succ, List.setIfInBounds_toArray, List.set_cons_zero, List.set_cons_succ]
  apply s_val (v := .bool true)
  case ho => rfl
  case hw => rfl
  case hv => intro w hw; go_simp; first | done | with_reducible rfl | rfl
  simp only [Act.put, List.getElem_toArray, List.getElem_cons_zero, List.getElem_cons_succ, List.setIfInBounds_toArray, List.set_cons_zero, List.set_cons_succ]
  apply s_val
  case ho => rfl
  case hw => rfl
  case hv => intro w hw; go_simp; first | done | with_reducible rfl | rfl
  simp only [Act.put, List.getElem_toArray, List.getElem_cons_zero, List.getElem_cons_succ, List.setIfInBounds_toArray, List.set_cons_zero, List.set_cons_succ]
  apply s_val
  case ho => rfl
  case hw => rfl
  case hv => intro w hw; go_simp; first | done | with_reducible rfl | rfl
  simp only [Act.put, List.getElem_toArray, List.getElem_cons_zero, List.getElem_cons_succ, List.setIfInBounds_toArray, List.set_cons_zero, List.set_cons_succ]
  refine Rt.s_get tyL rfl rfl (.tmp 1) rfl b1 [.int .i64 lvl.a, .int .i64 lvl.s, .int .i64 lvl.i, .int .i64 lvl.k, .int .i64 lvl.b, .int .i64 lvl.r, (.slice a1 n1 c1)] rfl rfl (fun w h => h.1) ?_
  simp only [Act.put, List.getElem_toArray, List.getElem_cons_zero, List.getElem_cons_succ, List.setIfInBounds_toArray, List.set_cons_zero, List.set_cons_succ]
  apply o_call (f := 27) (args := #[.agg #[.int .i64 lvl.a, .int .i64 lvl.s, .int .i64 lvl.i, .int .i64 lvl.k, .int .i64 lvl.b, .int .i64 lvl.r, (.slice a1 n1 c1)], .string (⟨#[64, 97, 110, 110, 58, 48]⟩ : ByteArray)]) (v := .int .i64 100) (hc := kc6.out _ HX7.out)
  case ho => rfl
  case hw => rfl
  case hop => go_simp; first | done | rfl
  rintro X8 hb
  have HX8 := hidp (HX7.out.trans (hb.mono HX7.out.size))
  refine ⟨⟨HA9.out.below HX8.out HA9.out.lt, HC9.out.below HX8.out HC9.out.lt⟩, ?_⟩
  clear hb HX7
  simp only [Act.put, List.getElem_toArray, List.getElem_cons_zero, List.getElem_cons_succ, List.setIfInBounds_toArray, List.set_cons_zero, List.set_cons_succ]
  apply s_val (v := .bool true)
  case ho => rfl
  case hw => rfl
  case hv => intro w hw; go_simp; first | done | with_reducible rfl | rfl
  simp only [Act.put, List.getElem_toArray, List.getElem_cons_zero, List.getElem_cons_succ, List.setIfInBounds_toArray, List.set_cons_zero, List.set_cons_succ]
  apply s_val
  case ho => rfl
  case hw => rfl
  case hv => intro w hw; go_simp; first | done | with_reducible rfl | rfl
  simp only [Act.put, List.getElem_toArray, List.getElem_cons_zero, List.getElem_cons_succ, List.setIfInBounds_toArray, List.set_cons_zero, List.set_cons_succ]
  apply s_val
  case ho => rfl
  case hw => rfl
  case hv => intro w hw; go_simp; first | done | with_reducible rfl | rfl
  simp only [Act.put, List.getElem_toArray, List.getElem_cons_zero, List.getElem_cons_succ, List.setIfInBounds_toArray, List.set_cons_zero, List.set_cons_succ]
  refine Rt.s_get tyL rfl rfl (.tmp 1) rfl b1 [.int .i64 lvl.a, .int .i64 lvl.s, .int .i64 lvl.i, .int .i64 lvl.k, .int .i64 lvl.b, .int .i64 lvl.r, (.slice a1 n1 c1)] rfl rfl (fun w h => h.1) ?_
  simp only [Act.put, List.getElem_toArray, List.getElem_cons_zero, List.getElem_cons_succ, List.setIfInBounds_toArray, List.set_cons_zero, List.set_cons_succ]
  apply o_call (f := 27) (args := #[.agg #[.int .i64 lvl.a, .int .i64 lvl.s, .int .i64 lvl.i, .int .i64 lvl.k, .int .i64 lvl.b, .int .i64 lvl.r, (.slice a1 n1 c1)], .string (⟨#[64, 98, 111, 98, 58, 49]⟩ : ByteArray)]) (v := .int .i64 0) (hc := kc7.out _ HX8.out)
  case ho => rfl
  case hw => rfl
  case hop => go_simp; first | done | rfl
  rintro X9 hb
  have HX9 := hidp (HX8.out.trans (hb.mono HX8.out.size))
  refine ⟨⟨HA9.out.below HX9.out HA9.out.lt, HC9.out.below HX9.out HC9.out.lt⟩, ?_⟩
  clear hb HX8
  simp only [Act.put, List.getElem_toArray, List.getElem_cons_zero, List.getElem_cons_succ, List.setIfInBounds_toArray, List.set_cons_zero, List.set_cons_succ]
  apply s_val (v := .bool true)
  case ho => rfl
  case hw => rfl
  case hv => intro w hw; go_simp; first | done | with_reducible rfl | rfl
  simp only [Act.put, List.getElem_toArray, List.getElem_cons_zero, List.getElem_cons_succ, List.setIfInBounds_toArray, List.set_cons_zero, List.set_cons_succ]
  apply s_val
  case ho => rfl
  case hw => rfl
  case hv => intro w hw; go_simp; first | done | with_reducible rfl | rfl
  simp only [Act.put, List.getElem_toArray, List.getElem_cons_zero, List.getElem_cons_succ, List.setIfInBounds_toArray, List.set_cons_zero, List.set_cons_succ]
  apply s_val
  case ho => rfl
  case hw => rfl
  case hv => intro w hw; go_simp; first | done | with_reducible rfl | rfl
  simp only [Act.put, List.getElem_toArray, List.getElem_cons_zero, List.getElem_cons_succ, List.setIfInBounds_toArray, List.set_cons_zero, List.set_cons_succ]
  apply s_val (v := .agg #[.int .i64 101, .int .i64 0, .int .i64 0, .int .i64 0, .int .i64 0, .int .i64 0, .slice none 0 0])
  case ho => rfl
  case hw => rfl
  case hv => intro w hw; go_simp; first | done | with_reducible rfl | rfl
  simp only [Act.put, List.getElem_toArray, List.getElem_cons_zero, List.getElem_cons_succ, List.setIfInBounds_toArray, List.set_cons_zero, List.set_cons_succ]
  apply o_call (f := 22) (args := #[.agg #[.int .i64 101, .int .i64 0, .int .i64 0, .int .i64 0, .int .i64 0, .int .i64 0, .slice none 0 0]]) (v := .int .i64 2) (hc := kc8.out _ HX9.out)
  case ho => rfl
  case hw => rfl
  case hop => go_simp; first | done | rfl
  rintro X10 hb
  have HX10 := hidp (HX9.out.trans (hb.mono HX9.out.size))
  refine ⟨⟨HA9.out.below HX10.out HA9.out.lt, HC9.out.below HX10.out HC9.out.lt⟩, ?_⟩
  clear hb HX9
  simp only [Act.put, List.getElem_toArray, List.getElem_cons_zero, List.getElem_cons_succ, List.setIfInBounds_toArray, List.set_cons_zero, List.set_cons_succ]
  apply s_val (v := .bool true)
  case ho => rfl
  case hw => rfl
  case hv => intro w hw; go_simp; first | done | with_reducible rfl | rfl
  simp only [Act.put, List.getElem_toArray, List.getElem_cons_zero, List.getElem_cons_succ, List.setIfInBounds_toArray, List.set_cons_zero, List.set_cons_succ]
  apply s_val
  case ho => rfl
  case hw => rfl
  case hv => intro w hw; go_simp; first | done | with_reducible rfl | rfl
  simp only [Act.put, List.getElem_toArray, List.getElem_cons_zero, List.getElem_cons_succ, List.setIfInBounds_toArray, List.set_cons_zero, List.set_cons_succ]
  apply s_val
  case ho => rfl
  case hw => rfl
  case hv => intro w hw; go_simp; first | done | with_reducible rfl | rfl
  simp only [Act.put, List.getElem_toArray, List.getElem_cons_zero, List.getElem_cons_succ, List.setIfInBounds_toArray, List.set_cons_zero, List.set_cons_succ]
  refine NoPanic.normal ?_
  go_wp2_with fail
  go_ret
  exact ⟨rfl, HBA.out.trans (HX10.out.mono HBA.out.size)⟩
end Go.Proofs.YtiakfopdohcigaaGreatDoor
