
/-
  EventBack: the walk.
-/
import Derived.Test.YtglfdenlgglccaaDoorEvE
namespace Go.Proofs.YtglfdenlgglccaaDoor
set_option maxRecDepth 100000
set_option linter.unusedVariables false
set_option linter.unusedSimpArgs false
open Go.RowKit

/-- The texts of an event are no greater than an argument may be. -/
def evSmall (e : Ev) : Prop := e.room.size ≤ 140737488351232 ∧ e.sender.size ≤ 140737488351232 ∧ e.key.size ≤ 140737488351232 ∧ e.body.size ≤ 140737488351232
theorem ev_small {e : Ev} (h : evOk e = true) : e.room.size ≤ 20 ∧ e.sender.size ≤ 20 ∧ e.kind < 256 ∧ e.key.size ≤ 20 ∧ e.body.size ≤ 512 := by
  obtain ⟨⟨n1, h1⟩, ⟨n2, h2⟩, h3, h4, h5, h6, h7, h8⟩ := evOk_parts h
  exact ⟨who_size h1, who_size h2, by omega, keyOk_size h5, h6⟩
theorem evB_size {e : Ev} (h : evOk e = true) : (evB e).size ≤ 65536 := by
  have hL := evL_ok h
  unfold evB; rw [if_pos h, mkS_size]; unfold encL
  have h1 := encTs_len _ hL.2
  have h2 := encN_len64 (evL e).length (by unfold evL; simp)
  have h3 : (evL e).length = 6 := rfl
  simp only [List.length_append] at h1 h2 ⊢; omega

set_option maxHeartbeats 16000000 in
theorem walk_eventBack (w : World) (e : Ev) (hk : e.kind < 256) (hn : (Lit.int .i64 e.nonce).wf = true) (hz : evSmall e) (t : ByteArray) (ht : t.size ≤ 140737488351232) (hI : IT w) (hW : WT w) :
    Calls Tryd.prog 4 #[.agg #[.string e.room, .string e.sender, .int .u8 (e.kind : Int), .string e.key, .string e.body, .int .i64 e.nonce], .string t] w fun e w' => e = .returned (.bool true) ∧ Below w.heap.size w w' := by
  obtain ⟨r, s, k, y, b, n⟩ := e
  obtain ⟨z1, z2, z3, z4⟩ := hz
  simp only at hk z1 z2 z3 z4 ⊢
  clear hn
  have L := hidp (fun W (h : IT W) (h' : WT W) => lives12_any W h h')
  have HI := hidp hI; have HW := hidp hW
  clear hI hW
  have c1 := hidp (fun W (h : IT W) (h' : WT W) => evBytes_any W r s k y b n hk (by omega) (by omega) (by omega) (by omega) h h')
  have c3 := hidp (fun W (h : IT W) (h' : WT W) => evParse_any W t (by omega) h h')
  have c5 := hidp (fun W (h : IT W) => evCheck_any W r s k y b n hk (by omega) (by omega) (by omega) (by omega) h)
  have q1 := fun W => eq_event W r s k y b n
  by_cases hok : evOk (⟨r, s, k, y, b, n⟩ : Ev) = true
  · have hE : evE (⟨r, s, k, y, b, n⟩ : Ev) = 0 := by unfold evE; rw [if_pos hok]
    have hPB := evP_back hok
    have hBs := evB_size hok
    obtain ⟨X, hX⟩ : ∃ X, evB (⟨r, s, k, y, b, n⟩ : Ev) = X := ⟨_, rfl⟩
    rw [hX] at c1 hPB hBs
    rw [hE] at c1 c5
    have c2 := hidp (fun W (h : IT W) (h' : WT W) => evParse_any W X (by omega) h h')
    rw [hPB] at c2
    unfold evV evX at c2
    clear hE hPB hX hok
    cases hp : evP t with
    | none =>
      rw [hp] at c3
      unfold evV evX at c3
      have c4 := hidp (show ∀ W, IT W → WT W → Calls Tryd.prog 7 #[.agg #[.string ⟨#[]⟩, .string ⟨#[]⟩, .int .u8 0, .string ⟨#[]⟩, .string ⟨#[]⟩, .int .i64 0]] W fun e w' => e = .returned (.tuple #[.string ⟨#[]⟩, .int .i64 2]) ∧ Below W.heap.size W w' from fun W h h' => by
        have := evBytes_any W ⟨#[]⟩ ⟨#[]⟩ 0 ⟨#[]⟩ ⟨#[]⟩ 0 (by omega) (by decide) (by decide) (by decide) (by decide) h h'
        rw [show evE (⟨⟨#[]⟩, ⟨#[]⟩, 0, ⟨#[]⟩, ⟨#[]⟩, 0⟩ : Ev) = 2 from by unfold evE; rw [evz_no]; rfl, show evB (⟨⟨#[]⟩, ⟨#[]⟩, 0, ⟨#[]⟩, ⟨#[]⟩, 0⟩ : Ev) = ⟨#[]⟩ from by unfold evB; rw [evz_no]; rfl] at this; exact this)
      clear hp
      go_enter Tryd.func4, Tryd.ntmps4
      go_wp2_with fail
      have HX0d := hidp ((Below.refl w.heap.size w).alloc (Nat.le_refl _) (.cells #[.string r, .string s, .int .u8 (k : Int), .string y, .string b, .int .i64 n] 24))
      have Ad0d := hidp (Arr.new w 24 [.string r, .string s, .int .u8 (k : Int), .string y, .string b, .int .i64 n])
      obtain ⟨bd, hbd⟩ : ∃ b, w.heap.size = b := ⟨_, rfl⟩
      generalize hWW : (w.alloc (.cells #[.string r, .string s, .int .u8 (k : Int), .string y, .string b, .int .i64 n] 24)) = W0d at HX0d Ad0d ⊢
      rw [hbd] at Ad0d ⊢
      have hged : w.heap.size ≤ bd := by omega
      clear hWW hbd
      refine (L.out _ (HI.out.below HX0d.out (Nat.le_refl _)) (HW.out.below HX0d.out (Nat.le_refl _))).mono ?_
      rintro e w1 ⟨rfl, hb1⟩
      have HB1 := hidp (HX0d.out.trans (hb1.mono HX0d.out.size))
      have hle1 := HB1.out.size
      have Ad1 := hidp (Ad0d.out.below hb1 Ad0d.out.lt)
      have hltd := Ad1.out.lt
      clear hb1
      obtain ⟨d0, d1, d2, d3, d4, d5⟩ := arr6 Ad1.out
      go_wp2_with fail
      clear d0 d1 d2 d3 d4 d5
      refine (c1.out _ (HI.out.below HB1.out (Nat.le_refl _)) (HW.out.below HB1.out (Nat.le_refl _))).mono ?_
      rintro e w2 ⟨rfl, hb2⟩
      have HB2 := hidp (HB1.out.trans (hb2.mono HB1.out.size))
      have hle2 := HB2.out.size
      have Ad2 := hidp (Ad1.out.below hb2 Ad1.out.lt)
      have hltd := Ad2.out.lt
      clear hb2
      go_wp2_with fail
      refine (c2.out _ (HI.out.below HB2.out (Nat.le_refl _)) (HW.out.below HB2.out (Nat.le_refl _))).mono ?_
      rintro e w3 ⟨rfl, hb3⟩
      have HB3 := hidp (HB2.out.trans (hb3.mono HB2.out.size))
      have hle3 := HB3.out.size
      have Ad3 := hidp (Ad2.out.below hb3 Ad2.out.lt)
      have hltd := Ad3.out.lt
      clear hb3
      go_wp2_with fail
      have HX3x := hidp (HB3.out.alloc hle3 (.cells #[.string r, .string s, .int .u8 (k : Int), .string y, .string b, .int .i64 n] 24))
      have Ad3x := hidp (Ad3.out.alloc (.cells #[.string r, .string s, .int .u8 (k : Int), .string y, .string b, .int .i64 n] 24))
      have Ax3x := hidp (Arr.new w3 24 [.string r, .string s, .int .u8 (k : Int), .string y, .string b, .int .i64 n])
      obtain ⟨bx, hbx⟩ : ∃ b, w3.heap.size = b := ⟨_, rfl⟩
      generalize hWW : (w3.alloc (.cells #[.string r, .string s, .int .u8 (k : Int), .string y, .string b, .int .i64 n] 24)) = W3x at HX3x Ad3x Ax3x ⊢
      rw [hbx] at Ax3x ⊢
      have hgex : w.heap.size ≤ bx := by rw [← hbx]; exact hle3
      clear hWW hbx
      refine (c3.out _ (HI.out.below HX3x.out (Nat.le_refl _)) (HW.out.below HX3x.out (Nat.le_refl _))).mono ?_
      rintro e w4 ⟨rfl, hb4⟩
      have HB4 := hidp (HX3x.out.trans (hb4.mono HX3x.out.size))
      have hle4 := HB4.out.size
      have Ad4 := hidp (Ad3x.out.below hb4 Ad3x.out.lt)
      have hltd := Ad4.out.lt
      have Ax4 := hidp (Ax3x.out.below hb4 Ax3x.out.lt)
      have hltx := Ax4.out.lt
      clear hb4
      go_wp2_with fail
      have HX4z := hidp (HB4.out.alloc hle4 (.cells #[.string ⟨#[]⟩, .string ⟨#[]⟩, .int .u8 0, .string ⟨#[]⟩, .string ⟨#[]⟩, .int .i64 0] 24))
      have Ad4z := hidp (Ad4.out.alloc (.cells #[.string ⟨#[]⟩, .string ⟨#[]⟩, .int .u8 0, .string ⟨#[]⟩, .string ⟨#[]⟩, .int .i64 0] 24))
      have Ax4z := hidp (Ax4.out.alloc (.cells #[.string ⟨#[]⟩, .string ⟨#[]⟩, .int .u8 0, .string ⟨#[]⟩, .string ⟨#[]⟩, .int .i64 0] 24))
      have Az4z := hidp (Arr.new w4 24 [.string ⟨#[]⟩, .string ⟨#[]⟩, .int .u8 0, .string ⟨#[]⟩, .string ⟨#[]⟩, .int .i64 0])
      obtain ⟨bz, hbz⟩ : ∃ b, w4.heap.size = b := ⟨_, rfl⟩
      generalize hWW : (w4.alloc (.cells #[.string ⟨#[]⟩, .string ⟨#[]⟩, .int .u8 0, .string ⟨#[]⟩, .string ⟨#[]⟩, .int .i64 0] 24)) = W4z at HX4z Ad4z Ax4z Az4z ⊢
      rw [hbz] at Az4z ⊢
      have hgez : w.heap.size ≤ bz := by rw [← hbz]; exact hle4
      clear hWW hbz
      refine (c4.out _ (HI.out.below HX4z.out (Nat.le_refl _)) (HW.out.below HX4z.out (Nat.le_refl _))).mono ?_
      rintro e w5 ⟨rfl, hb5⟩
      have HB5 := hidp (HX4z.out.trans (hb5.mono HX4z.out.size))
      have hle5 := HB5.out.size
      have Ad5 := hidp (Ad4z.out.below hb5 Ad4z.out.lt)
      have hltd := Ad5.out.lt
      have Ax5 := hidp (Ax4z.out.below hb5 Ax4z.out.lt)
      have hltx := Ax5.out.lt
      have Az5 := hidp (Az4z.out.below hb5 Az4z.out.lt)
      have hltz := Az5.out.lt
      clear hb5
      obtain ⟨d0, d1, d2, d3, d4, d5⟩ := arr6 Ad5.out
      go_wp2_with fail
      clear d0 d1 d2 d3 d4 d5
      refine (c5.out _ (HI.out.below HB5.out (Nat.le_refl _))).mono ?_
      rintro e w6 ⟨rfl, hb6⟩
      have HB6 := hidp (HB5.out.trans (hb6.mono HB5.out.size))
      have hle6 := HB6.out.size
      have Ad6 := hidp (Ad5.out.below hb6 Ad5.out.lt)
      have hltd := Ad6.out.lt
      have Ax6 := hidp (Ax5.out.below hb6 Ax5.out.lt)
      have hltx := Ax6.out.lt
      have Az6 := hidp (Az5.out.below hb6 Az5.out.lt)
      have hltz := Az6.out.lt
      clear hb6
      obtain ⟨d0, d1, d2, d3, d4, d5⟩ := arr6 Ad6.out
      obtain ⟨x0, x1, x2, x3, x4, x5⟩ := arr6 Ax6.out
      obtain ⟨z0, z1, z2, z3, z4, z5⟩ := arr6 Az6.out
      go_wp2_with fail
      go_ret
      exact ⟨rfl, HB6.out⟩
    | some yv =>
      obtain ⟨hy1, hy2⟩ := evP_some hp
      obtain ⟨yr, ys, yk, yy, yb, yn⟩ := yv
      have hy3 := ev_small hy1
      simp only at hy3
      obtain ⟨a1, a2, a3, a4, a5⟩ := hy3
      have hy4 : evE (⟨yr, ys, yk, yy, yb, yn⟩ : Ev) = 0 := by unfold evE; rw [hy1]; rfl
      rw [hp] at c3
      unfold evV evX at c3
      have c4 := hidp (fun W (h : IT W) (h' : WT W) => evBytes_any W yr ys yk yy yb yn a3 (by omega) (by omega) (by omega) (by omega) h h')
      have c6 := hidp (fun W (h : IT W) => evCheck_any W yr ys yk yy yb yn a3 (by omega) (by omega) (by omega) (by omega) h)
      rw [hy2, hy4] at c4
      rw [hy4] at c6
      clear hp hy1 hy2 hy4
      go_enter Tryd.func4, Tryd.ntmps4
      go_wp2_with fail
      have HX0d := hidp ((Below.refl w.heap.size w).alloc (Nat.le_refl _) (.cells #[.string r, .string s, .int .u8 (k : Int), .string y, .string b, .int .i64 n] 24))
      have Ad0d := hidp (Arr.new w 24 [.string r, .string s, .int .u8 (k : Int), .string y, .string b, .int .i64 n])
      obtain ⟨bd, hbd⟩ : ∃ b, w.heap.size = b := ⟨_, rfl⟩
      generalize hWW : (w.alloc (.cells #[.string r, .string s, .int .u8 (k : Int), .string y, .string b, .int .i64 n] 24)) = W0d at HX0d Ad0d ⊢
      rw [hbd] at Ad0d ⊢
      have hged : w.heap.size ≤ bd := by omega
      clear hWW hbd
      refine (L.out _ (HI.out.below HX0d.out (Nat.le_refl _)) (HW.out.below HX0d.out (Nat.le_refl _))).mono ?_
      rintro e w1 ⟨rfl, hb1⟩
      have HB1 := hidp (HX0d.out.trans (hb1.mono HX0d.out.size))
      have hle1 := HB1.out.size
      have Ad1 := hidp (Ad0d.out.below hb1 Ad0d.out.lt)
      have hltd := Ad1.out.lt
      clear hb1
      obtain ⟨d0, d1, d2, d3, d4, d5⟩ := arr6 Ad1.out
      go_wp2_with fail
      clear d0 d1 d2 d3 d4 d5
      refine (c1.out _ (HI.out.below HB1.out (Nat.le_refl _)) (HW.out.below HB1.out (Nat.le_refl _))).mono ?_
      rintro e w2 ⟨rfl, hb2⟩
      have HB2 := hidp (HB1.out.trans (hb2.mono HB1.out.size))
      have hle2 := HB2.out.size
      have Ad2 := hidp (Ad1.out.below hb2 Ad1.out.lt)
      have hltd := Ad2.out.lt
      clear hb2
      go_wp2_with fail
      refine (c2.out _ (HI.out.below HB2.out (Nat.le_refl _)) (HW.out.below HB2.out (Nat.le_refl _))).mono ?_
      rintro e w3 ⟨rfl, hb3⟩
      have HB3 := hidp (HB2.out.trans (hb3.mono HB2.out.size))
      have hle3 := HB3.out.size
      have Ad3 := hidp (Ad2.out.below hb3 Ad2.out.lt)
      have hltd := Ad3.out.lt
      clear hb3
      go_wp2_with fail
      have HX3x := hidp (HB3.out.alloc hle3 (.cells #[.string r, .string s, .int .u8 (k : Int), .string y, .string b, .int .i64 n] 24))
      have Ad3x := hidp (Ad3.out.alloc (.cells #[.string r, .string s, .int .u8 (k : Int), .string y, .string b, .int .i64 n] 24))
      have Ax3x := hidp (Arr.new w3 24 [.string r, .string s, .int .u8 (k : Int), .string y, .string b, .int .i64 n])
      obtain ⟨bx, hbx⟩ : ∃ b, w3.heap.size = b := ⟨_, rfl⟩
      generalize hWW : (w3.alloc (.cells #[.string r, .string s, .int .u8 (k : Int), .string y, .string b, .int .i64 n] 24)) = W3x at HX3x Ad3x Ax3x ⊢
      rw [hbx] at Ax3x ⊢
      have hgex : w.heap.size ≤ bx := by rw [← hbx]; exact hle3
      clear hWW hbx
      refine (c3.out _ (HI.out.below HX3x.out (Nat.le_refl _)) (HW.out.below HX3x.out (Nat.le_refl _))).mono ?_
      rintro e w4 ⟨rfl, hb4⟩
      have HB4 := hidp (HX3x.out.trans (hb4.mono HX3x.out.size))
      have hle4 := HB4.out.size
      have Ad4 := hidp (Ad3x.out.below hb4 Ad3x.out.lt)
      have hltd := Ad4.out.lt
      have Ax4 := hidp (Ax3x.out.below hb4 Ax3x.out.lt)
      have hltx := Ax4.out.lt
      clear hb4
      go_wp2_with fail
      have HX4z := hidp (HB4.out.alloc hle4 (.cells #[.string yr, .string ys, .int .u8 (yk : Int), .string yy, .string yb, .int .i64 yn] 24))
      have Ad4z := hidp (Ad4.out.alloc (.cells #[.string yr, .string ys, .int .u8 (yk : Int), .string yy, .string yb, .int .i64 yn] 24))
      have Ax4z := hidp (Ax4.out.alloc (.cells #[.string yr, .string ys, .int .u8 (yk : Int), .string yy, .string yb, .int .i64 yn] 24))
      have Az4z := hidp (Arr.new w4 24 [.string yr, .string ys, .int .u8 (yk : Int), .string yy, .string yb, .int .i64 yn])
      obtain ⟨bz, hbz⟩ : ∃ b, w4.heap.size = b := ⟨_, rfl⟩
      generalize hWW : (w4.alloc (.cells #[.string yr, .string ys, .int .u8 (yk : Int), .string yy, .string yb, .int .i64 yn] 24)) = W4z at HX4z Ad4z Ax4z Az4z ⊢
      rw [hbz] at Az4z ⊢
      have hgez : w.heap.size ≤ bz := by rw [← hbz]; exact hle4
      clear hWW hbz
      refine (c4.out _ (HI.out.below HX4z.out (Nat.le_refl _)) (HW.out.below HX4z.out (Nat.le_refl _))).mono ?_
      rintro e w5 ⟨rfl, hb5⟩
      have HB5 := hidp (HX4z.out.trans (hb5.mono HX4z.out.size))
      have hle5 := HB5.out.size
      have Ad5 := hidp (Ad4z.out.below hb5 Ad4z.out.lt)
      have hltd := Ad5.out.lt
      have Ax5 := hidp (Ax4z.out.below hb5 Ax4z.out.lt)
      have hltx := Ax5.out.lt
      have Az5 := hidp (Az4z.out.below hb5 Az4z.out.lt)
      have hltz := Az5.out.lt
      clear hb5
      obtain ⟨d0, d1, d2, d3, d4, d5⟩ := arr6 Ad5.out
      go_wp2_with fail
      clear d0 d1 d2 d3 d4 d5
      refine (c5.out _ (HI.out.below HB5.out (Nat.le_refl _))).mono ?_
      rintro e w6 ⟨rfl, hb6⟩
      have HB6 := hidp (HB5.out.trans (hb6.mono HB5.out.size))
      have hle6 := HB6.out.size
      have Ad6 := hidp (Ad5.out.below hb6 Ad5.out.lt)
      have hltd := Ad6.out.lt
      have Ax6 := hidp (Ax5.out.below hb6 Ax5.out.lt)
      have hltx := Ax6.out.lt
      have Az6 := hidp (Az5.out.below hb6 Az5.out.lt)
      have hltz := Az6.out.lt
      clear hb6
      obtain ⟨d0, d1, d2, d3, d4, d5⟩ := arr6 Ad6.out
      obtain ⟨x0, x1, x2, x3, x4, x5⟩ := arr6 Ax6.out
      obtain ⟨z0, z1, z2, z3, z4, z5⟩ := arr6 Az6.out
      go_wp2_with fail
      clear d0 d1 d2 d3 d4 d5
      clear x0 x1 x2 x3 x4 x5
      clear z0 z1 z2 z3 z4 z5
      refine (c6.out _ (HI.out.below HB6.out (Nat.le_refl _))).mono ?_
      rintro e w7 ⟨rfl, hb7⟩
      have HB7 := hidp (HB6.out.trans (hb7.mono HB6.out.size))
      have hle7 := HB7.out.size
      have Ad7 := hidp (Ad6.out.below hb7 Ad6.out.lt)
      have hltd := Ad7.out.lt
      have Ax7 := hidp (Ax6.out.below hb7 Ax6.out.lt)
      have hltx := Ax7.out.lt
      have Az7 := hidp (Az6.out.below hb7 Az6.out.lt)
      have hltz := Az7.out.lt
      clear hb7
      go_wp2_with fail
      go_ret
      exact ⟨rfl, HB7.out⟩
  · have hE : evE (⟨r, s, k, y, b, n⟩ : Ev) = 2 := by unfold evE; rw [if_neg hok]
    have hB : evB (⟨r, s, k, y, b, n⟩ : Ev) = ⟨#[]⟩ := by unfold evB; rw [if_neg hok]; rfl
    rw [hE, hB] at c1
    rw [hE] at c5
    have c2 := hidp (fun W (h : IT W) (h' : WT W) => evParse_any W ⟨#[]⟩ (by decide) h h')
    rw [evP_empty] at c2
    unfold evV evX at c2
    clear hE hB hok
    cases hp : evP t with
    | none =>
      rw [hp] at c3
      unfold evV evX at c3
      have c4 := hidp (show ∀ W, IT W → WT W → Calls Tryd.prog 7 #[.agg #[.string ⟨#[]⟩, .string ⟨#[]⟩, .int .u8 0, .string ⟨#[]⟩, .string ⟨#[]⟩, .int .i64 0]] W fun e w' => e = .returned (.tuple #[.string ⟨#[]⟩, .int .i64 2]) ∧ Below W.heap.size W w' from fun W h h' => by
        have := evBytes_any W ⟨#[]⟩ ⟨#[]⟩ 0 ⟨#[]⟩ ⟨#[]⟩ 0 (by omega) (by decide) (by decide) (by decide) (by decide) h h'
        rw [show evE (⟨⟨#[]⟩, ⟨#[]⟩, 0, ⟨#[]⟩, ⟨#[]⟩, 0⟩ : Ev) = 2 from by unfold evE; rw [evz_no]; rfl, show evB (⟨⟨#[]⟩, ⟨#[]⟩, 0, ⟨#[]⟩, ⟨#[]⟩, 0⟩ : Ev) = ⟨#[]⟩ from by unfold evB; rw [evz_no]; rfl] at this; exact this)
      clear hp
      go_enter Tryd.func4, Tryd.ntmps4
      go_wp2_with fail
      have HX0d := hidp ((Below.refl w.heap.size w).alloc (Nat.le_refl _) (.cells #[.string r, .string s, .int .u8 (k : Int), .string y, .string b, .int .i64 n] 24))
      have Ad0d := hidp (Arr.new w 24 [.string r, .string s, .int .u8 (k : Int), .string y, .string b, .int .i64 n])
      obtain ⟨bd, hbd⟩ : ∃ b, w.heap.size = b := ⟨_, rfl⟩
      generalize hWW : (w.alloc (.cells #[.string r, .string s, .int .u8 (k : Int), .string y, .string b, .int .i64 n] 24)) = W0d at HX0d Ad0d ⊢
      rw [hbd] at Ad0d ⊢
      have hged : w.heap.size ≤ bd := by omega
      clear hWW hbd
      refine (L.out _ (HI.out.below HX0d.out (Nat.le_refl _)) (HW.out.below HX0d.out (Nat.le_refl _))).mono ?_
      rintro e w1 ⟨rfl, hb1⟩
      have HB1 := hidp (HX0d.out.trans (hb1.mono HX0d.out.size))
      have hle1 := HB1.out.size
      have Ad1 := hidp (Ad0d.out.below hb1 Ad0d.out.lt)
      have hltd := Ad1.out.lt
      clear hb1
      obtain ⟨d0, d1, d2, d3, d4, d5⟩ := arr6 Ad1.out
      go_wp2_with fail
      clear d0 d1 d2 d3 d4 d5
      refine (c1.out _ (HI.out.below HB1.out (Nat.le_refl _)) (HW.out.below HB1.out (Nat.le_refl _))).mono ?_
      rintro e w2 ⟨rfl, hb2⟩
      have HB2 := hidp (HB1.out.trans (hb2.mono HB1.out.size))
      have hle2 := HB2.out.size
      have Ad2 := hidp (Ad1.out.below hb2 Ad1.out.lt)
      have hltd := Ad2.out.lt
      clear hb2
      go_wp2_with fail
      refine (c2.out _ (HI.out.below HB2.out (Nat.le_refl _)) (HW.out.below HB2.out (Nat.le_refl _))).mono ?_
      rintro e w3 ⟨rfl, hb3⟩
      have HB3 := hidp (HB2.out.trans (hb3.mono HB2.out.size))
      have hle3 := HB3.out.size
      have Ad3 := hidp (Ad2.out.below hb3 Ad2.out.lt)
      have hltd := Ad3.out.lt
      clear hb3
      go_wp2_with fail
      have HX3x := hidp (HB3.out.alloc hle3 (.cells #[.string ⟨#[]⟩, .string ⟨#[]⟩, .int .u8 0, .string ⟨#[]⟩, .string ⟨#[]⟩, .int .i64 0] 24))
      have Ad3x := hidp (Ad3.out.alloc (.cells #[.string ⟨#[]⟩, .string ⟨#[]⟩, .int .u8 0, .string ⟨#[]⟩, .string ⟨#[]⟩, .int .i64 0] 24))
      have Ax3x := hidp (Arr.new w3 24 [.string ⟨#[]⟩, .string ⟨#[]⟩, .int .u8 0, .string ⟨#[]⟩, .string ⟨#[]⟩, .int .i64 0])
      obtain ⟨bx, hbx⟩ : ∃ b, w3.heap.size = b := ⟨_, rfl⟩
      generalize hWW : (w3.alloc (.cells #[.string ⟨#[]⟩, .string ⟨#[]⟩, .int .u8 0, .string ⟨#[]⟩, .string ⟨#[]⟩, .int .i64 0] 24)) = W3x at HX3x Ad3x Ax3x ⊢
      rw [hbx] at Ax3x ⊢
      have hgex : w.heap.size ≤ bx := by rw [← hbx]; exact hle3
      clear hWW hbx
      refine (c3.out _ (HI.out.below HX3x.out (Nat.le_refl _)) (HW.out.below HX3x.out (Nat.le_refl _))).mono ?_
      rintro e w4 ⟨rfl, hb4⟩
      have HB4 := hidp (HX3x.out.trans (hb4.mono HX3x.out.size))
      have hle4 := HB4.out.size
      have Ad4 := hidp (Ad3x.out.below hb4 Ad3x.out.lt)
      have hltd := Ad4.out.lt
      have Ax4 := hidp (Ax3x.out.below hb4 Ax3x.out.lt)
      have hltx := Ax4.out.lt
      clear hb4
      go_wp2_with fail
      have HX4z := hidp (HB4.out.alloc hle4 (.cells #[.string ⟨#[]⟩, .string ⟨#[]⟩, .int .u8 0, .string ⟨#[]⟩, .string ⟨#[]⟩, .int .i64 0] 24))
      have Ad4z := hidp (Ad4.out.alloc (.cells #[.string ⟨#[]⟩, .string ⟨#[]⟩, .int .u8 0, .string ⟨#[]⟩, .string ⟨#[]⟩, .int .i64 0] 24))
      have Ax4z := hidp (Ax4.out.alloc (.cells #[.string ⟨#[]⟩, .string ⟨#[]⟩, .int .u8 0, .string ⟨#[]⟩, .string ⟨#[]⟩, .int .i64 0] 24))
      have Az4z := hidp (Arr.new w4 24 [.string ⟨#[]⟩, .string ⟨#[]⟩, .int .u8 0, .string ⟨#[]⟩, .string ⟨#[]⟩, .int .i64 0])
      obtain ⟨bz, hbz⟩ : ∃ b, w4.heap.size = b := ⟨_, rfl⟩
      generalize hWW : (w4.alloc (.cells #[.string ⟨#[]⟩, .string ⟨#[]⟩, .int .u8 0, .string ⟨#[]⟩, .string ⟨#[]⟩, .int .i64 0] 24)) = W4z at HX4z Ad4z Ax4z Az4z ⊢
      rw [hbz] at Az4z ⊢
      have hgez : w.heap.size ≤ bz := by rw [← hbz]; exact hle4
      clear hWW hbz
      refine (c4.out _ (HI.out.below HX4z.out (Nat.le_refl _)) (HW.out.below HX4z.out (Nat.le_refl _))).mono ?_
      rintro e w5 ⟨rfl, hb5⟩
      have HB5 := hidp (HX4z.out.trans (hb5.mono HX4z.out.size))
      have hle5 := HB5.out.size
      have Ad5 := hidp (Ad4z.out.below hb5 Ad4z.out.lt)
      have hltd := Ad5.out.lt
      have Ax5 := hidp (Ax4z.out.below hb5 Ax4z.out.lt)
      have hltx := Ax5.out.lt
      have Az5 := hidp (Az4z.out.below hb5 Az4z.out.lt)
      have hltz := Az5.out.lt
      clear hb5
      obtain ⟨d0, d1, d2, d3, d4, d5⟩ := arr6 Ad5.out
      go_wp2_with fail
      clear d0 d1 d2 d3 d4 d5
      refine (c5.out _ (HI.out.below HB5.out (Nat.le_refl _))).mono ?_
      rintro e w6 ⟨rfl, hb6⟩
      have HB6 := hidp (HB5.out.trans (hb6.mono HB5.out.size))
      have hle6 := HB6.out.size
      have Ad6 := hidp (Ad5.out.below hb6 Ad5.out.lt)
      have hltd := Ad6.out.lt
      have Ax6 := hidp (Ax5.out.below hb6 Ax5.out.lt)
      have hltx := Ax6.out.lt
      have Az6 := hidp (Az5.out.below hb6 Az5.out.lt)
      have hltz := Az6.out.lt
      clear hb6
      obtain ⟨d0, d1, d2, d3, d4, d5⟩ := arr6 Ad6.out
      obtain ⟨x0, x1, x2, x3, x4, x5⟩ := arr6 Ax6.out
      obtain ⟨z0, z1, z2, z3, z4, z5⟩ := arr6 Az6.out
      go_wp2_with fail
      go_ret
      exact ⟨rfl, HB6.out⟩
    | some yv =>
      obtain ⟨hy1, hy2⟩ := evP_some hp
      obtain ⟨yr, ys, yk, yy, yb, yn⟩ := yv
      have hy3 := ev_small hy1
      simp only at hy3
      obtain ⟨a1, a2, a3, a4, a5⟩ := hy3
      have hy4 : evE (⟨yr, ys, yk, yy, yb, yn⟩ : Ev) = 0 := by unfold evE; rw [hy1]; rfl
      rw [hp] at c3
      unfold evV evX at c3
      have c4 := hidp (fun W (h : IT W) (h' : WT W) => evBytes_any W yr ys yk yy yb yn a3 (by omega) (by omega) (by omega) (by omega) h h')
      have c6 := hidp (fun W (h : IT W) => evCheck_any W yr ys yk yy yb yn a3 (by omega) (by omega) (by omega) (by omega) h)
      rw [hy2, hy4] at c4
      rw [hy4] at c6
      clear hp hy1 hy2 hy4
      go_enter Tryd.func4, Tryd.ntmps4
      go_wp2_with fail
      have HX0d := hidp ((Below.refl w.heap.size w).alloc (Nat.le_refl _) (.cells #[.string r, .string s, .int .u8 (k : Int), .string y, .string b, .int .i64 n] 24))
      have Ad0d := hidp (Arr.new w 24 [.string r, .string s, .int .u8 (k : Int), .string y, .string b, .int .i64 n])
      obtain ⟨bd, hbd⟩ : ∃ b, w.heap.size = b := ⟨_, rfl⟩
      generalize hWW : (w.alloc (.cells #[.string r, .string s, .int .u8 (k : Int), .string y, .string b, .int .i64 n] 24)) = W0d at HX0d Ad0d ⊢
      rw [hbd] at Ad0d ⊢
      have hged : w.heap.size ≤ bd := by omega
      clear hWW hbd
      refine (L.out _ (HI.out.below HX0d.out (Nat.le_refl _)) (HW.out.below HX0d.out (Nat.le_refl _))).mono ?_
      rintro e w1 ⟨rfl, hb1⟩
      have HB1 := hidp (HX0d.out.trans (hb1.mono HX0d.out.size))
      have hle1 := HB1.out.size
      have Ad1 := hidp (Ad0d.out.below hb1 Ad0d.out.lt)
      have hltd := Ad1.out.lt
      clear hb1
      obtain ⟨d0, d1, d2, d3, d4, d5⟩ := arr6 Ad1.out
      go_wp2_with fail
      clear d0 d1 d2 d3 d4 d5
      refine (c1.out _ (HI.out.below HB1.out (Nat.le_refl _)) (HW.out.below HB1.out (Nat.le_refl _))).mono ?_
      rintro e w2 ⟨rfl, hb2⟩
      have HB2 := hidp (HB1.out.trans (hb2.mono HB1.out.size))
      have hle2 := HB2.out.size
      have Ad2 := hidp (Ad1.out.below hb2 Ad1.out.lt)
      have hltd := Ad2.out.lt
      clear hb2
      go_wp2_with fail
      refine (c2.out _ (HI.out.below HB2.out (Nat.le_refl _)) (HW.out.below HB2.out (Nat.le_refl _))).mono ?_
      rintro e w3 ⟨rfl, hb3⟩
      have HB3 := hidp (HB2.out.trans (hb3.mono HB2.out.size))
      have hle3 := HB3.out.size
      have Ad3 := hidp (Ad2.out.below hb3 Ad2.out.lt)
      have hltd := Ad3.out.lt
      clear hb3
      go_wp2_with fail
      have HX3x := hidp (HB3.out.alloc hle3 (.cells #[.string ⟨#[]⟩, .string ⟨#[]⟩, .int .u8 0, .string ⟨#[]⟩, .string ⟨#[]⟩, .int .i64 0] 24))
      have Ad3x := hidp (Ad3.out.alloc (.cells #[.string ⟨#[]⟩, .string ⟨#[]⟩, .int .u8 0, .string ⟨#[]⟩, .string ⟨#[]⟩, .int .i64 0] 24))
      have Ax3x := hidp (Arr.new w3 24 [.string ⟨#[]⟩, .string ⟨#[]⟩, .int .u8 0, .string ⟨#[]⟩, .string ⟨#[]⟩, .int .i64 0])
      obtain ⟨bx, hbx⟩ : ∃ b, w3.heap.size = b := ⟨_, rfl⟩
      generalize hWW : (w3.alloc (.cells #[.string ⟨#[]⟩, .string ⟨#[]⟩, .int .u8 0, .string ⟨#[]⟩, .string ⟨#[]⟩, .int .i64 0] 24)) = W3x at HX3x Ad3x Ax3x ⊢
      rw [hbx] at Ax3x ⊢
      have hgex : w.heap.size ≤ bx := by rw [← hbx]; exact hle3
      clear hWW hbx
      refine (c3.out _ (HI.out.below HX3x.out (Nat.le_refl _)) (HW.out.below HX3x.out (Nat.le_refl _))).mono ?_
      rintro e w4 ⟨rfl, hb4⟩
      have HB4 := hidp (HX3x.out.trans (hb4.mono HX3x.out.size))
      have hle4 := HB4.out.size
      have Ad4 := hidp (Ad3x.out.below hb4 Ad3x.out.lt)
      have hltd := Ad4.out.lt
      have Ax4 := hidp (Ax3x.out.below hb4 Ax3x.out.lt)
      have hltx := Ax4.out.lt
      clear hb4
      go_wp2_with fail
      have HX4z := hidp (HB4.out.alloc hle4 (.cells #[.string yr, .string ys, .int .u8 (yk : Int), .string yy, .string yb, .int .i64 yn] 24))
      have Ad4z := hidp (Ad4.out.alloc (.cells #[.string yr, .string ys, .int .u8 (yk : Int), .string yy, .string yb, .int .i64 yn] 24))
      have Ax4z := hidp (Ax4.out.alloc (.cells #[.string yr, .string ys, .int .u8 (yk : Int), .string yy, .string yb, .int .i64 yn] 24))
      have Az4z := hidp (Arr.new w4 24 [.string yr, .string ys, .int .u8 (yk : Int), .string yy, .string yb, .int .i64 yn])
      obtain ⟨bz, hbz⟩ : ∃ b, w4.heap.size = b := ⟨_, rfl⟩
      generalize hWW : (w4.alloc (.cells #[.string yr, .string ys, .int .u8 (yk : Int), .string yy, .string yb, .int .i64 yn] 24)) = W4z at HX4z Ad4z Ax4z Az4z ⊢
      rw [hbz] at Az4z ⊢
      have hgez : w.heap.size ≤ bz := by rw [← hbz]; exact hle4
      clear hWW hbz
      refine (c4.out _ (HI.out.below HX4z.out (Nat.le_refl _)) (HW.out.below HX4z.out (Nat.le_refl _))).mono ?_
      rintro e w5 ⟨rfl, hb5⟩
      have HB5 := hidp (HX4z.out.trans (hb5.mono HX4z.out.size))
      have hle5 := HB5.out.size
      have Ad5 := hidp (Ad4z.out.below hb5 Ad4z.out.lt)
      have hltd := Ad5.out.lt
      have Ax5 := hidp (Ax4z.out.below hb5 Ax4z.out.lt)
      have hltx := Ax5.out.lt
      have Az5 := hidp (Az4z.out.below hb5 Az4z.out.lt)
      have hltz := Az5.out.lt
      clear hb5
      obtain ⟨d0, d1, d2, d3, d4, d5⟩ := arr6 Ad5.out
      go_wp2_with fail
      clear d0 d1 d2 d3 d4 d5
      refine (c5.out _ (HI.out.below HB5.out (Nat.le_refl _))).mono ?_
      rintro e w6 ⟨rfl, hb6⟩
      have HB6 := hidp (HB5.out.trans (hb6.mono HB5.out.size))
      have hle6 := HB6.out.size
      have Ad6 := hidp (Ad5.out.below hb6 Ad5.out.lt)
      have hltd := Ad6.out.lt
      have Ax6 := hidp (Ax5.out.below hb6 Ax5.out.lt)
      have hltx := Ax6.out.lt
      have Az6 := hidp (Az5.out.below hb6 Az5.out.lt)
      have hltz := Az6.out.lt
      clear hb6
      obtain ⟨d0, d1, d2, d3, d4, d5⟩ := arr6 Ad6.out
      obtain ⟨x0, x1, x2, x3, x4, x5⟩ := arr6 Ax6.out
      obtain ⟨z0, z1, z2, z3, z4, z5⟩ := arr6 Az6.out
      go_wp2_with fail
      clear d0 d1 d2 d3 d4 d5
      clear x0 x1 x2 x3 x4 x5
      clear z0 z1 z2 z3 z4 z5
      refine (c6.out _ (HI.out.below HB6.out (Nat.le_refl _))).mono ?_
      rintro e w7 ⟨rfl, hb7⟩
      have HB7 := hidp (HB6.out.trans (hb7.mono HB6.out.size))
      have hle7 := HB7.out.size
      have Ad7 := hidp (Ad6.out.below hb7 Ad6.out.lt)
      have hltd := Ad7.out.lt
      have Ax7 := hidp (Ax6.out.below hb7 Ax6.out.lt)
      have hltx := Ax7.out.lt
      have Az7 := hidp (Az6.out.below hb7 Az6.out.lt)
      have hltz := Az7.out.lt
      clear hb7
      go_wp2_with fail
      go_ret
      exact ⟨rfl, HB7.out⟩
end Go.Proofs.YtglfdenlgglccaaDoor
