
/-
  EventTells: the walk.
-/
import Derived.Test.YtglfdenlgglccaaDoorEvL
import Derived.Test.YtglfdenlgglccaaDoorEvF
namespace Go.Proofs.YtglfdenlgglccaaDoor
set_option maxRecDepth 100000
set_option linter.unusedVariables false
set_option linter.unusedSimpArgs false
open Go.RowKit

theorem u8_nat' {a : Int} (h : (Lit.int .u8 a).wf = true) : ∃ n : Nat, a = n ∧ n < 256 := by
  have hx : 0 ≤ a ∧ a ≤ 255 := by simpa [Lit.wf, IntKind.min, IntKind.max, IntKind.signed, IntKind.bits] using h
  exact ⟨a.toNat, by omega, by omega⟩
theorem evV_form (o : Option Ev) : ∃ (r s : ByteArray) (k : Nat) (y b : ByteArray) (n : Int), evV o = .agg #[.string r, .string s, .int .u8 (k : Int), .string y, .string b, .int .i64 n] := by
  cases o with
  | none => exact ⟨_, _, 0, _, _, _, rfl⟩
  | some e => exact ⟨_, _, _, _, _, _, rfl⟩

set_option maxHeartbeats 32000000 in
theorem walk_eventTells (w : World) (e : Ev) (hk : e.kind < 256) (hn : (Lit.int .i64 e.nonce).wf = true) (hz : evSmall e) (t : ByteArray) (ht : t.size ≤ 140737488351232) (kk : Int) (hkk : (Lit.int .u8 kk).wf = true) (hI : IT w) (hW : WT w) :
    Calls Tryd.prog 3 #[.agg #[.string e.room, .string e.sender, .int .u8 (e.kind : Int), .string e.key, .string e.body, .int .i64 e.nonce], .string t, .int .u8 kk] w fun e w' => e = .returned (.bool true) ∧ Below w.heap.size w w' := by
  obtain ⟨r, s, k, y, b, n⟩ := e
  obtain ⟨z1, z2, z3, z4⟩ := hz
  obtain ⟨k3, rfl, hk3⟩ := u8_nat' hkk
  simp only at hk z1 z2 z3 z4 ⊢
  clear hn hkk
  have L := hidp (fun W (h : IT W) (h' : WT W) => lives12_any W h h')
  have HI := hidp hI; have HW := hidp hW
  clear hI hW
  have c1 := hidp (fun W (h : IT W) (h' : WT W) => evBytes_any W r s k y b n hk (by omega) (by omega) (by omega) (by omega) h h')
  have c2 := hidp (fun W => revBytes_any W r s k y b n hk (by omega) (by omega) (by omega) (by omega))
  have c3 := hidp (fun W (h : IT W) (h' : WT W) => evParse_any W t (by omega) h h')
  have c4 := hidp (fun W => revParse_any W t (by omega))
  have c5 := hidp (fun W (h : IT W) => evCheck_any W r s k y b n hk (by omega) (by omega) (by omega) (by omega) h)
  have c6 := hidp (fun W => revCheck_any W r s k y b n hk (by omega) (by omega) (by omega) (by omega))
  have c7 := hidp (fun W => state_any W k3 hk3)
  have c8 := hidp (fun W => rstate_any W k3 hk3)
  have c9 := hidp (fun W (h : WT W) => word_any W k3 hk3 h)
  have c10 := hidp (fun W => rword_any W k3 hk3)
  obtain ⟨X, hX⟩ : ∃ x, evB (⟨r, s, k, y, b, n⟩ : Ev) = x := ⟨_, rfl⟩
  obtain ⟨E, hE⟩ : ∃ x, evE (⟨r, s, k, y, b, n⟩ : Ev) = x := ⟨_, rfl⟩
  obtain ⟨yr, ys, yk, yy, yb, yn, hp⟩ := evV_form (evP t)
  obtain ⟨P, hP⟩ : ∃ x, evX (evP t) = x := ⟨_, rfl⟩
  obtain ⟨B3, hB3⟩ : ∃ x, stB k3 = x := ⟨_, rfl⟩
  obtain ⟨K3, hK3⟩ : ∃ x, word k3 = x := ⟨_, rfl⟩
  rw [hX, hE] at c1 c2
  rw [hp, hP] at c3 c4
  rw [hE] at c5 c6
  rw [hB3] at c7 c8
  rw [hK3] at c9 c10
  clear hX hE hp hP hB3 hK3
  have q1 := fun W => eq_event W yr ys yk yy yb yn
  by_cases hbig : 16384 < t.size
  · have e0 : decide ((16384 : Int) < (t.size : Int)) = true := by simp; omega
    have x0 : (16384 : Int) < (t.size : Int) := by omega
    clear hbig
    go_enter Tryd.func3, Tryd.ntmps3
    go_wp2_with fail
    have HX0d := hidp ((Below.refl w.heap.size w).alloc (Nat.le_refl _) (.cells #[.string r, .string s, .int .u8 (k : Int), .string y, .string b, .int .i64 n] 24))
    have Ad0d := hidp (Arr.new w 24 [.string r, .string s, .int .u8 (k : Int), .string y, .string b, .int .i64 n])
    obtain ⟨bd, hbd⟩ : ∃ b, w.heap.size = b := ⟨_, rfl⟩
    generalize hWW : (w.alloc (.cells #[.string r, .string s, .int .u8 (k : Int), .string y, .string b, .int .i64 n] 24)) = W0d at HX0d Ad0d ⊢
    rw [hbd] at Ad0d ⊢
    have hged : w.heap.size ≤ bd := by omega
    clear hWW hbd
    refine (L.out _ (HI.out.below HX0d.out (Nat.le_refl _)) (HW.out.below HX0d.out (Nat.le_refl _))).mono ?_
    rintro e w1 ⟨rfl, hb1⟩
    have HB1 := hidp (HX0d.out.trans (hb1.mono HX0d.out.size))
    have hle1 := HB1.out.size
    have Ad1 := hidp (Ad0d.out.below hb1 Ad0d.out.lt)
    have hltd := Ad1.out.lt
    clear hb1
    go_wp2_with fail
    go_ret
    exact ⟨rfl, HB1.out⟩
  · have e0 : decide ((16384 : Int) < (t.size : Int)) = false := by simp; omega
    have x0 : ¬ (16384 : Int) < (t.size : Int) := by omega
    clear hbig
    go_enter Tryd.func3, Tryd.ntmps3
    go_wp2_with fail
    have HX0d := hidp ((Below.refl w.heap.size w).alloc (Nat.le_refl _) (.cells #[.string r, .string s, .int .u8 (k : Int), .string y, .string b, .int .i64 n] 24))
    have Ad0d := hidp (Arr.new w 24 [.string r, .string s, .int .u8 (k : Int), .string y, .string b, .int .i64 n])
    obtain ⟨bd, hbd⟩ : ∃ b, w.heap.size = b := ⟨_, rfl⟩
    generalize hWW : (w.alloc (.cells #[.string r, .string s, .int .u8 (k : Int), .string y, .string b, .int .i64 n] 24)) = W0d at HX0d Ad0d ⊢
    rw [hbd] at Ad0d ⊢
    have hged : w.heap.size ≤ bd := by omega
    clear hWW hbd
    refine (c1.out _ (HI.out.below HX0d.out (Nat.le_refl _)) (HW.out.below HX0d.out (Nat.le_refl _))).mono ?_
    rintro e w1 ⟨rfl, hb1⟩
    have HB1 := hidp (HX0d.out.trans (hb1.mono HX0d.out.size))
    have hle1 := HB1.out.size
    have Ad1 := hidp (Ad0d.out.below hb1 Ad0d.out.lt)
    have hltd := Ad1.out.lt
    clear hb1
    obtain ⟨d0, d1, d2, d3, d4, d5⟩ := arr6 Ad1.out
    go_wp2_with fail
    clear d0 d1 d2 d3 d4 d5
    refine (c2.out _).mono ?_
    rintro e w2 ⟨rfl, hb2⟩
    have HB2 := hidp (HB1.out.trans (hb2.mono HB1.out.size))
    have hle2 := HB2.out.size
    have Ad2 := hidp (Ad1.out.below hb2 Ad1.out.lt)
    have hltd := Ad2.out.lt
    clear hb2
    go_wp2_with fail
    refine (c3.out _ (HI.out.below HB2.out (Nat.le_refl _)) (HW.out.below HB2.out (Nat.le_refl _))).mono ?_
    rintro e w3 ⟨rfl, hb3⟩
    have HB3 := hidp (HB2.out.trans (hb3.mono HB2.out.size))
    have hle3 := HB3.out.size
    have Ad3 := hidp (Ad2.out.below hb3 Ad2.out.lt)
    have hltd := Ad3.out.lt
    clear hb3
    go_wp2_with fail
    have HX3x := hidp (HB3.out.alloc hle3 (.cells #[.string yr, .string ys, .int .u8 (yk : Int), .string yy, .string yb, .int .i64 yn] 24))
    have Ad3x := hidp (Ad3.out.alloc (.cells #[.string yr, .string ys, .int .u8 (yk : Int), .string yy, .string yb, .int .i64 yn] 24))
    have Ax3x := hidp (Arr.new w3 24 [.string yr, .string ys, .int .u8 (yk : Int), .string yy, .string yb, .int .i64 yn])
    obtain ⟨bx, hbx⟩ : ∃ b, w3.heap.size = b := ⟨_, rfl⟩
    generalize hWW : (w3.alloc (.cells #[.string yr, .string ys, .int .u8 (yk : Int), .string yy, .string yb, .int .i64 yn] 24)) = W3x at HX3x Ad3x Ax3x ⊢
    rw [hbx] at Ax3x ⊢
    have hgex : w.heap.size ≤ bx := by rw [← hbx]; exact hle3
    clear hWW hbx
    refine (c4.out _).mono ?_
    rintro e w4 ⟨rfl, hb4⟩
    have HB4 := hidp (HX3x.out.trans (hb4.mono HX3x.out.size))
    have hle4 := HB4.out.size
    have Ad4 := hidp (Ad3x.out.below hb4 Ad3x.out.lt)
    have hltd := Ad4.out.lt
    have Ax4 := hidp (Ax3x.out.below hb4 Ax3x.out.lt)
    have hltx := Ax4.out.lt
    clear hb4
    go_wp2_with fail
    have HX4z := hidp (HB4.out.alloc hle4 (.cells #[.string yr, .string ys, .int .u8 (yk : Int), .string yy, .string yb, .int .i64 yn] 24))
    have Ad4z := hidp (Ad4.out.alloc (.cells #[.string yr, .string ys, .int .u8 (yk : Int), .string yy, .string yb, .int .i64 yn] 24))
    have Ax4z := hidp (Ax4.out.alloc (.cells #[.string yr, .string ys, .int .u8 (yk : Int), .string yy, .string yb, .int .i64 yn] 24))
    have Az4z := hidp (Arr.new w4 24 [.string yr, .string ys, .int .u8 (yk : Int), .string yy, .string yb, .int .i64 yn])
    obtain ⟨bz, hbz⟩ : ∃ b, w4.heap.size = b := ⟨_, rfl⟩
    generalize hWW : (w4.alloc (.cells #[.string yr, .string ys, .int .u8 (yk : Int), .string yy, .string yb, .int .i64 yn] 24)) = W4z at HX4z Ad4z Ax4z Az4z ⊢
    rw [hbz] at Az4z ⊢
    have hgez : w.heap.size ≤ bz := by rw [← hbz]; exact hle4
    clear hWW hbz
    have HIW := hidp (HI.out.below HX4z.out (Nat.le_refl _)); have HWW := hidp (HW.out.below HX4z.out (Nat.le_refl _))
    have cr := hidp (show ∀ W, Cls W4z.heap.size W4z W → W.cell? ⟨bd, 0, none⟩ = some (.string r) ∧ W.cell? ⟨bd, 1, none⟩ = some (.string s) ∧ W.cell? ⟨bd, 2, none⟩ = some (.int .u8 (k : Int)) ∧ W.cell? ⟨bd, 3, none⟩ = some (.string y) ∧ W.cell? ⟨bd, 4, none⟩ = some (.string b) ∧ W.cell? ⟨bd, 5, none⟩ = some (.int .i64 n) ∧ W.cell? ⟨bx, 0, none⟩ = some (.string yr) ∧ W.cell? ⟨bx, 1, none⟩ = some (.string ys) ∧ W.cell? ⟨bx, 2, none⟩ = some (.int .u8 (yk : Int)) ∧ W.cell? ⟨bx, 3, none⟩ = some (.string yy) ∧ W.cell? ⟨bx, 4, none⟩ = some (.string yb) ∧ W.cell? ⟨bx, 5, none⟩ = some (.int .i64 yn) ∧ W.cell? ⟨bz, 0, none⟩ = some (.string yr) ∧ W.cell? ⟨bz, 1, none⟩ = some (.string ys) ∧ W.cell? ⟨bz, 2, none⟩ = some (.int .u8 (yk : Int)) ∧ W.cell? ⟨bz, 3, none⟩ = some (.string yy) ∧ W.cell? ⟨bz, 4, none⟩ = some (.string yb) ∧ W.cell? ⟨bz, 5, none⟩ = some (.int .i64 yn) from fun W h => by
      obtain ⟨d0, d1, d2, d3, d4, d5⟩ := arr6 (Ad4z.out.below h Ad4z.out.lt)
      obtain ⟨x0, x1, x2, x3, x4, x5⟩ := arr6 (Ax4z.out.below h Ax4z.out.lt)
      obtain ⟨z0, z1, z2, z3, z4, z5⟩ := arr6 (Az4z.out.below h Az4z.out.lt)
      exact ⟨d0, d1, d2, d3, d4, d5, x0, x1, x2, x3, x4, x5, z0, z1, z2, z3, z4, z5⟩)
    have k0 := hidp (show ∀ W, Cls W4z.heap.size W4z W → Calls Tryd.prog 6 #[] W fun e w' => e = .returned (.bool true) ∧ Cls W4z.heap.size W4z w' from fun W h => (L.out W (HIW.out.below h (Nat.le_refl _)) (HWW.out.below h (Nat.le_refl _))).mono fun e w' ⟨h1, h2⟩ => ⟨h1, h.step (Nat.le_refl _) h2⟩)
    have k1 := hidp (show ∀ W, Cls W4z.heap.size W4z W → Calls Tryd.prog 11 #[.agg #[.string r, .string s, .int .u8 (k : Int), .string y, .string b, .int .i64 n]] W fun e w' => e = .returned (.int .i64 E) ∧ Cls W4z.heap.size W4z w' from fun W h => (c5.out W (HIW.out.below h (Nat.le_refl _))).mono fun e w' ⟨h1, h2⟩ => ⟨h1, h.step (Nat.le_refl _) h2⟩)
    have k2 := hidp (show ∀ W, Cls W4z.heap.size W4z W → Calls Tryd.prog 12 #[.agg #[.string r, .string s, .int .u8 (k : Int), .string y, .string b, .int .i64 n]] W fun e w' => e = .returned (.int .i64 E) ∧ Cls W4z.heap.size W4z w' from fun W h => (c6.out W).mono fun e w' ⟨h1, h2⟩ => ⟨h1, h.step (Nat.le_refl _) h2⟩)
    have k4 := hidp (show ∀ W, Cls W4z.heap.size W4z W → Calls Tryd.prog 13 #[.int .u8 (k3 : Int)] W fun e w' => e = .returned (.bool B3) ∧ Cls W4z.heap.size W4z w' from fun W h => (c7.out W).mono fun e w' ⟨h1, h2⟩ => ⟨h1, h2 ▸ h⟩)
    have k5 := hidp (show ∀ W, Cls W4z.heap.size W4z W → Calls Tryd.prog 14 #[.int .u8 (k3 : Int)] W fun e w' => e = .returned (.bool B3) ∧ Cls W4z.heap.size W4z w' from fun W h => (c8.out W).mono fun e w' ⟨h1, h2⟩ => ⟨h1, h.step (Nat.le_refl _) h2⟩)
    have k6 := hidp (show ∀ W, Cls W4z.heap.size W4z W → Calls Tryd.prog 15 #[.int .u8 (k3 : Int)] W fun e w' => e = .returned (.string K3) ∧ Cls W4z.heap.size W4z w' from fun W h => (c9.out W (HWW.out.below h (Nat.le_refl _))).mono fun e w' ⟨h1, h2⟩ => ⟨h1, h2 ▸ h⟩)
    have k7 := hidp (show ∀ W, Cls W4z.heap.size W4z W → Calls Tryd.prog 16 #[.int .u8 (k3 : Int)] W fun e w' => e = .returned (.string K3) ∧ Cls W4z.heap.size W4z w' from fun W h => (c10.out W).mono fun e w' ⟨h1, h2⟩ => ⟨h1, h.step (Nat.le_refl _) h2⟩)
    refine wp_region_quiet (C := Cls W4z.heap.size W4z) (by kernel_rfl) (by kernel_rfl) (Cls.start _ _) ?_
    simp only []
    refine q_call ?_ 6 #[] ?_ k0.out ?_
    · rfl
    · intro w; go_simp; done
    simp only [Act.put, List.setIfInBounds_toArray, List.set_cons_zero, List.set_cons_succ]
    apply q_val
    · rfl
    · intro w hw; obtain ⟨d0, d1, d2, d3, d4, d5, x0, x1, x2, x3, x4, x5, z0, z1, z2, z3, z4, z5⟩ := cr.out w hw; go_simp; first | done | with_reducible rfl | rfl
    simp only [Act.put, List.setIfInBounds_toArray, List.set_cons_zero, List.set_cons_succ]
    apply q_val
    · rfl
    · intro w hw; obtain ⟨d0, d1, d2, d3, d4, d5, x0, x1, x2, x3, x4, x5, z0, z1, z2, z3, z4, z5⟩ := cr.out w hw; go_simp; first | done | with_reducible rfl | rfl
    simp only [Act.put, List.setIfInBounds_toArray, List.set_cons_zero, List.set_cons_succ]
    refine q_call ?_ 11 #[.agg #[.string r, .string s, .int .u8 (k : Int), .string y, .string b, .int .i64 n]] ?_ k1.out ?_
    · rfl
    · intro w; go_simp; done
    simp only [Act.put, List.setIfInBounds_toArray, List.set_cons_zero, List.set_cons_succ]
    apply q_val
    · rfl
    · intro w hw; obtain ⟨d0, d1, d2, d3, d4, d5, x0, x1, x2, x3, x4, x5, z0, z1, z2, z3, z4, z5⟩ := cr.out w hw; go_simp; first | done | with_reducible rfl | rfl
    simp only [Act.put, List.setIfInBounds_toArray, List.set_cons_zero, List.set_cons_succ]
    refine q_call ?_ 12 #[.agg #[.string r, .string s, .int .u8 (k : Int), .string y, .string b, .int .i64 n]] ?_ k2.out ?_
    · rfl
    · intro w; go_simp; done
    simp only [Act.put, List.setIfInBounds_toArray, List.set_cons_zero, List.set_cons_succ]
    apply q_val
    · rfl
    · intro w hw; obtain ⟨d0, d1, d2, d3, d4, d5, x0, x1, x2, x3, x4, x5, z0, z1, z2, z3, z4, z5⟩ := cr.out w hw; go_simp; first | done | with_reducible rfl | rfl
    simp only [Act.put, List.setIfInBounds_toArray, List.set_cons_zero, List.set_cons_succ]
    apply q_val
    · rfl
    · intro w hw; obtain ⟨d0, d1, d2, d3, d4, d5, x0, x1, x2, x3, x4, x5, z0, z1, z2, z3, z4, z5⟩ := cr.out w hw; go_simp; first | done | with_reducible rfl | rfl
    simp only [Act.put, List.setIfInBounds_toArray, List.set_cons_zero, List.set_cons_succ]
    apply q_val
    · rfl
    · intro w hw; obtain ⟨d0, d1, d2, d3, d4, d5, x0, x1, x2, x3, x4, x5, z0, z1, z2, z3, z4, z5⟩ := cr.out w hw; go_simp; first | done | with_reducible rfl | rfl
    simp only [Act.put, List.setIfInBounds_toArray, List.set_cons_zero, List.set_cons_succ]
    apply q_val
    · rfl
    · intro w hw; obtain ⟨d0, d1, d2, d3, d4, d5, x0, x1, x2, x3, x4, x5, z0, z1, z2, z3, z4, z5⟩ := cr.out w hw; go_simp; first | done | with_reducible rfl | rfl
    simp only [Act.put, List.setIfInBounds_toArray, List.set_cons_zero, List.set_cons_succ]
    apply q_val
    · rfl
    · intro w hw; obtain ⟨d0, d1, d2, d3, d4, d5, x0, x1, x2, x3, x4, x5, z0, z1, z2, z3, z4, z5⟩ := cr.out w hw; go_simp; first | done | with_reducible rfl | rfl
    simp only [Act.put, List.setIfInBounds_toArray, List.set_cons_zero, List.set_cons_succ]
    apply q_val
    · rfl
    · intro w hw; obtain ⟨d0, d1, d2, d3, d4, d5, x0, x1, x2, x3, x4, x5, z0, z1, z2, z3, z4, z5⟩ := cr.out w hw; go_simp; first | done | with_reducible rfl | rfl
    simp only [Act.put, List.setIfInBounds_toArray, List.set_cons_zero, List.set_cons_succ]
    apply q_val
    · rfl
    · intro w hw; obtain ⟨d0, d1, d2, d3, d4, d5, x0, x1, x2, x3, x4, x5, z0, z1, z2, z3, z4, z5⟩ := cr.out w hw; go_simp; first | done | with_reducible rfl | rfl
    simp only [Act.put, List.setIfInBounds_toArray, List.set_cons_zero, List.set_cons_succ]
    apply q_val
    · rfl
    · intro w hw; obtain ⟨d0, d1, d2, d3, d4, d5, x0, x1, x2, x3, x4, x5, z0, z1, z2, z3, z4, z5⟩ := cr.out w hw; go_simp; first | done | with_reducible rfl | rfl
    simp only [Act.put, List.setIfInBounds_toArray, List.set_cons_zero, List.set_cons_succ]
    apply q_val
    · rfl
    · intro w hw; obtain ⟨d0, d1, d2, d3, d4, d5, x0, x1, x2, x3, x4, x5, z0, z1, z2, z3, z4, z5⟩ := cr.out w hw; go_simp; first | done | with_reducible rfl | rfl
    simp only [Act.put, List.setIfInBounds_toArray, List.set_cons_zero, List.set_cons_succ]
    apply q_val
    · rfl
    · intro w hw; obtain ⟨d0, d1, d2, d3, d4, d5, x0, x1, x2, x3, x4, x5, z0, z1, z2, z3, z4, z5⟩ := cr.out w hw; go_simp; first | done | with_reducible rfl | rfl
    simp only [Act.put, List.setIfInBounds_toArray, List.set_cons_zero, List.set_cons_succ]
    apply q_val
    · rfl
    · intro w hw; obtain ⟨d0, d1, d2, d3, d4, d5, x0, x1, x2, x3, x4, x5, z0, z1, z2, z3, z4, z5⟩ := cr.out w hw; go_simp; first | done | with_reducible rfl | rfl
    simp only [Act.put, List.setIfInBounds_toArray, List.set_cons_zero, List.set_cons_succ]
    apply q_val
    · rfl
    · intro w hw; obtain ⟨d0, d1, d2, d3, d4, d5, x0, x1, x2, x3, x4, x5, z0, z1, z2, z3, z4, z5⟩ := cr.out w hw; go_simp; first | done | with_reducible rfl | rfl
    simp only [Act.put, List.setIfInBounds_toArray, List.set_cons_zero, List.set_cons_succ]
    apply q_val
    · rfl
    · intro w hw; obtain ⟨d0, d1, d2, d3, d4, d5, x0, x1, x2, x3, x4, x5, z0, z1, z2, z3, z4, z5⟩ := cr.out w hw; go_simp; first | done | with_reducible rfl | rfl
    simp only [Act.put, List.setIfInBounds_toArray, List.set_cons_zero, List.set_cons_succ]
    apply q_val
    · rfl
    · intro w hw; obtain ⟨d0, d1, d2, d3, d4, d5, x0, x1, x2, x3, x4, x5, z0, z1, z2, z3, z4, z5⟩ := cr.out w hw; go_simp; first | done | with_reducible rfl | rfl
    simp only [Act.put, List.setIfInBounds_toArray, List.set_cons_zero, List.set_cons_succ]
    apply q_val
    · rfl
    · intro w hw; obtain ⟨d0, d1, d2, d3, d4, d5, x0, x1, x2, x3, x4, x5, z0, z1, z2, z3, z4, z5⟩ := cr.out w hw; go_simp; first | done | with_reducible rfl | rfl
    simp only [Act.put, List.setIfInBounds_toArray, List.set_cons_zero, List.set_cons_succ]
    apply q_val
    · rfl
    · intro w hw; obtain ⟨d0, d1, d2, d3, d4, d5, x0, x1, x2, x3, x4, x5, z0, z1, z2, z3, z4, z5⟩ := cr.out w hw; go_simp; first | done | with_reducible rfl | rfl
    simp only [Act.put, List.setIfInBounds_toArray, List.set_cons_zero, List.set_cons_succ]
    apply q_val
    · rfl
    · intro w hw; obtain ⟨d0, d1, d2, d3, d4, d5, x0, x1, x2, x3, x4, x5, z0, z1, z2, z3, z4, z5⟩ := cr.out w hw; go_simp; first | done | with_reducible rfl | rfl
    simp only [Act.put, List.setIfInBounds_toArray, List.set_cons_zero, List.set_cons_succ]
    apply q_val
    · rfl
    · intro w hw; obtain ⟨d0, d1, d2, d3, d4, d5, x0, x1, x2, x3, x4, x5, z0, z1, z2, z3, z4, z5⟩ := cr.out w hw; go_simp; first | done | with_reducible rfl | rfl
    simp only [Act.put, List.setIfInBounds_toArray, List.set_cons_zero, List.set_cons_succ]
    apply q_val
    · rfl
    · intro w hw; obtain ⟨d0, d1, d2, d3, d4, d5, x0, x1, x2, x3, x4, x5, z0, z1, z2, z3, z4, z5⟩ := cr.out w hw; go_simp; first | done | with_reducible rfl | rfl
    simp only [Act.put, List.setIfInBounds_toArray, List.set_cons_zero, List.set_cons_succ]
    apply q_val
    · rfl
    · intro w hw; obtain ⟨d0, d1, d2, d3, d4, d5, x0, x1, x2, x3, x4, x5, z0, z1, z2, z3, z4, z5⟩ := cr.out w hw; go_simp; first | done | with_reducible rfl | rfl
    simp only [Act.put, List.setIfInBounds_toArray, List.set_cons_zero, List.set_cons_succ]
    apply q_val
    · rfl
    · intro w hw; obtain ⟨d0, d1, d2, d3, d4, d5, x0, x1, x2, x3, x4, x5, z0, z1, z2, z3, z4, z5⟩ := cr.out w hw; go_simp; first | done | with_reducible rfl | rfl
    simp only [Act.put, List.setIfInBounds_toArray, List.set_cons_zero, List.set_cons_succ]
    apply q_val
    · rfl
    · intro w hw; obtain ⟨d0, d1, d2, d3, d4, d5, x0, x1, x2, x3, x4, x5, z0, z1, z2, z3, z4, z5⟩ := cr.out w hw; go_simp; first | done | with_reducible rfl | rfl
    simp only [Act.put, List.setIfInBounds_toArray, List.set_cons_zero, List.set_cons_succ]
    apply q_val
    · rfl
    · intro w hw; obtain ⟨d0, d1, d2, d3, d4, d5, x0, x1, x2, x3, x4, x5, z0, z1, z2, z3, z4, z5⟩ := cr.out w hw; go_simp; first | done | with_reducible rfl | rfl
    simp only [Act.put, List.setIfInBounds_toArray, List.set_cons_zero, List.set_cons_succ]
    apply q_val
    · rfl
    · intro w hw; obtain ⟨d0, d1, d2, d3, d4, d5, x0, x1, x2, x3, x4, x5, z0, z1, z2, z3, z4, z5⟩ := cr.out w hw; go_simp; first | done | with_reducible rfl | rfl
    simp only [Act.put, List.setIfInBounds_toArray, List.set_cons_zero, List.set_cons_succ]
    refine q_call ?_ 13 #[.int .u8 (k3 : Int)] ?_ k4.out ?_
    · rfl
    · intro w; go_simp; done
    simp only [Act.put, List.setIfInBounds_toArray, List.set_cons_zero, List.set_cons_succ]
    apply q_val
    · rfl
    · intro w hw; obtain ⟨d0, d1, d2, d3, d4, d5, x0, x1, x2, x3, x4, x5, z0, z1, z2, z3, z4, z5⟩ := cr.out w hw; go_simp; first | done | with_reducible rfl | rfl
    simp only [Act.put, List.setIfInBounds_toArray, List.set_cons_zero, List.set_cons_succ]
    refine q_call ?_ 14 #[.int .u8 (k3 : Int)] ?_ k5.out ?_
    · rfl
    · intro w; go_simp; done
    simp only [Act.put, List.setIfInBounds_toArray, List.set_cons_zero, List.set_cons_succ]
    apply q_val
    · rfl
    · intro w hw; obtain ⟨d0, d1, d2, d3, d4, d5, x0, x1, x2, x3, x4, x5, z0, z1, z2, z3, z4, z5⟩ := cr.out w hw; go_simp; first | done | with_reducible rfl | rfl
    simp only [Act.put, List.setIfInBounds_toArray, List.set_cons_zero, List.set_cons_succ]
    apply q_val
    · rfl
    · intro w hw; obtain ⟨d0, d1, d2, d3, d4, d5, x0, x1, x2, x3, x4, x5, z0, z1, z2, z3, z4, z5⟩ := cr.out w hw; go_simp; first | done | with_reducible rfl | rfl
    simp only [Act.put, List.setIfInBounds_toArray, List.set_cons_zero, List.set_cons_succ]
    apply q_val
    · rfl
    · intro w hw; obtain ⟨d0, d1, d2, d3, d4, d5, x0, x1, x2, x3, x4, x5, z0, z1, z2, z3, z4, z5⟩ := cr.out w hw; go_simp; first | done | with_reducible rfl | rfl
    simp only [Act.put, List.setIfInBounds_toArray, List.set_cons_zero, List.set_cons_succ]
    apply q_val
    · rfl
    · intro w hw; obtain ⟨d0, d1, d2, d3, d4, d5, x0, x1, x2, x3, x4, x5, z0, z1, z2, z3, z4, z5⟩ := cr.out w hw; go_simp; first | done | with_reducible rfl | rfl
    simp only [Act.put, List.setIfInBounds_toArray, List.set_cons_zero, List.set_cons_succ]
    refine q_call ?_ 15 #[.int .u8 (k3 : Int)] ?_ k6.out ?_
    · rfl
    · intro w; go_simp; done
    simp only [Act.put, List.setIfInBounds_toArray, List.set_cons_zero, List.set_cons_succ]
    apply q_val
    · rfl
    · intro w hw; obtain ⟨d0, d1, d2, d3, d4, d5, x0, x1, x2, x3, x4, x5, z0, z1, z2, z3, z4, z5⟩ := cr.out w hw; go_simp; first | done | with_reducible rfl | rfl
    simp only [Act.put, List.setIfInBounds_toArray, List.set_cons_zero, List.set_cons_succ]
    refine q_call ?_ 16 #[.int .u8 (k3 : Int)] ?_ k7.out ?_
    · rfl
    · intro w; go_simp; done
    simp only [Act.put, List.setIfInBounds_toArray, List.set_cons_zero, List.set_cons_succ]
    apply q_val
    · rfl
    · intro w hw; obtain ⟨d0, d1, d2, d3, d4, d5, x0, x1, x2, x3, x4, x5, z0, z1, z2, z3, z4, z5⟩ := cr.out w hw; go_simp; first | done | with_reducible rfl | rfl
    simp only [Act.put, List.setIfInBounds_toArray, List.set_cons_zero, List.set_cons_succ]
    apply q_val
    · rfl
    · intro w hw; obtain ⟨d0, d1, d2, d3, d4, d5, x0, x1, x2, x3, x4, x5, z0, z1, z2, z3, z4, z5⟩ := cr.out w hw; go_simp; first | done | with_reducible rfl | rfl
    simp only [Act.put, List.setIfInBounds_toArray, List.set_cons_zero, List.set_cons_succ]
    apply q_val
    · rfl
    · intro w hw; obtain ⟨d0, d1, d2, d3, d4, d5, x0, x1, x2, x3, x4, x5, z0, z1, z2, z3, z4, z5⟩ := cr.out w hw; go_simp; first | done | with_reducible rfl | rfl
    simp only [Act.put, List.setIfInBounds_toArray, List.set_cons_zero, List.set_cons_succ]
    refine wpQuiet_nil ?_
    intro w9 hC
    go_wp2_with fail
    go_ret
    exact ⟨rfl, HX4z.out.trans (Below.mono hC HX4z.out.size)⟩
end Go.Proofs.YtglfdenlgglccaaDoor
