
/-
  TopNamed: the walk.
-/
import Derived.Test.YtglfdenlgglccaaDoorEvF
namespace Go.Proofs.YtglfdenlgglccaaDoor
set_option maxRecDepth 100000
set_option linter.unusedVariables false
set_option linter.unusedSimpArgs false
open Go.RowKit

set_option maxHeartbeats 16000000 in
theorem walk_topNamed (w : World) (t : ByteArray) (ht : t.size ≤ 140737488351232) (n : Int) (hn : (Lit.int .i64 n).wf = true) (hI : IT w) (hW : WT w) :
    Calls Tryd.prog 5 #[.string t, .int .i64 n] w fun e w' => e = .returned (.bool true) ∧ Below w.heap.size w w' := by
  have c0 := hidp begins_any
  have HI := hidp hI; have HW := hidp hW
  clear hI hW hn
  have c1 := hidp (fun W (h : IT W) (h' : WT W) => evParse_any W t (by omega) h h')
  by_cases hbig : 16384 < t.size
  · have e0 : decide ((16384 : Int) < (t.size : Int)) = true := by simp; omega
    have x0 : (16384 : Int) < (t.size : Int) := by omega
    clear hbig
    go_enter Tryd.func5, Tryd.ntmps5
    go_wp2_with fail
    refine (c0.out _).mono ?_
    rintro e w1 ⟨rfl, hb1⟩
    have HB1 := hidp ((Below.refl w.heap.size w).trans (hb1.mono (Below.refl w.heap.size w).size))
    have hle1 := HB1.out.size
    clear hb1
    go_wp2_with fail
    go_ret
    exact ⟨rfl, HB1.out⟩
  · have e0 : decide ((16384 : Int) < (t.size : Int)) = false := by simp; omega
    have x0 : ¬ (16384 : Int) < (t.size : Int) := by omega
    clear hbig
    cases hp : evP t with
    | none =>
      rw [hp] at c1
      unfold evV evX at c1
      have c5 := hidp (show ∀ W, IT W → Calls Tryd.prog 11 #[.agg #[.string ⟨#[]⟩, .string ⟨#[]⟩, .int .u8 0, .string ⟨#[]⟩, .string ⟨#[]⟩, .int .i64 0]] W fun e w' => e = .returned (.int .i64 2) ∧ Below W.heap.size W w' from fun W h => by
        have := evCheck_any W ⟨#[]⟩ ⟨#[]⟩ 0 ⟨#[]⟩ ⟨#[]⟩ 0 (by omega) (by decide) (by decide) (by decide) (by decide) h
        rw [show evE (⟨⟨#[]⟩, ⟨#[]⟩, 0, ⟨#[]⟩, ⟨#[]⟩, 0⟩ : Ev) = 2 from by unfold evE; rw [evz_no]; rfl] at this; exact this)
      clear hp
      go_enter Tryd.func5, Tryd.ntmps5
      go_wp2_with fail
      refine (c0.out _).mono ?_
      rintro e w1 ⟨rfl, hb1⟩
      have HB1 := hidp ((Below.refl w.heap.size w).trans (hb1.mono (Below.refl w.heap.size w).size))
      have hle1 := HB1.out.size
      clear hb1
      go_wp2_with fail
      refine (c1.out _ (HI.out.below HB1.out (Nat.le_refl _)) (HW.out.below HB1.out (Nat.le_refl _))).mono ?_
      rintro e w2 ⟨rfl, hb2⟩
      have HB2 := hidp (HB1.out.trans (hb2.mono HB1.out.size))
      have hle2 := HB2.out.size
      clear hb2
      go_wp2_with fail
      have HX2d := hidp (HB2.out.alloc hle2 (.cells #[.string ⟨#[]⟩, .string ⟨#[]⟩, .int .u8 0, .string ⟨#[]⟩, .string ⟨#[]⟩, .int .i64 0] 24))
      have Ad2d := hidp (Arr.new w2 24 [.string ⟨#[]⟩, .string ⟨#[]⟩, .int .u8 0, .string ⟨#[]⟩, .string ⟨#[]⟩, .int .i64 0])
      obtain ⟨bd, hbd⟩ : ∃ b, w2.heap.size = b := ⟨_, rfl⟩
      generalize hWW : (w2.alloc (.cells #[.string ⟨#[]⟩, .string ⟨#[]⟩, .int .u8 0, .string ⟨#[]⟩, .string ⟨#[]⟩, .int .i64 0] 24)) = W2d at HX2d Ad2d ⊢
      rw [hbd] at Ad2d ⊢
      have hged : w.heap.size ≤ bd := by rw [← hbd]; exact hle2
      clear hWW hbd
      refine (c5.out _ (HI.out.below HX2d.out (Nat.le_refl _))).mono ?_
      rintro e w3 ⟨rfl, hb3⟩
      have HB3 := hidp (HX2d.out.trans (hb3.mono HX2d.out.size))
      have hle3 := HB3.out.size
      have Ad3 := hidp (Ad2d.out.below hb3 Ad2d.out.lt)
      have hltd := Ad3.out.lt
      clear hb3
      go_wp2_with fail
      go_ret
      exact ⟨rfl, HB3.out⟩
    | some yv =>
      obtain ⟨hy1, hy2⟩ := evP_some hp
      obtain ⟨yr, ys, yk, yy, yb, yn⟩ := yv
      have hy3 := ev_small hy1
      simp only at hy3
      obtain ⟨a1, a2, a3, a4, a5⟩ := hy3
      obtain ⟨⟨m1, g1⟩, ⟨m2, g2⟩, -⟩ := evOk_parts hy1
      simp only at g1 g2
      obtain ⟨n1, p1⟩ := who_some g1
      obtain ⟨n2, p2⟩ := who_some g2
      obtain ⟨i1, j1⟩ := idP_some p1
      obtain ⟨i2, j2⟩ := idP_some p2
      have i1s := idOk_size i1; have i2s := idOk_size i2
      rw [hp] at c1
      unfold evV evX at c1
      have c2 := hidp (fun W (h : IT W) => parse_any W yr (by omega) h)
      have c3 := hidp (fun W (h : IT W) => parse_any W ys (by omega) h)
      rw [p1] at c2
      rw [p2] at c3
      unfold idV idX at c2 c3
      have c4 := hidp (fun W (h : IT W) => idText_any W 2 (by omega) n1 (by omega) m1 h)
      have c5 := hidp (fun W (h : IT W) => idText_any W 1 (by omega) n2 (by omega) m2 h)
      rw [idT_eq (t := yr) (by simpa using ⟨i1, j1⟩), idE_ok i1] at c4
      rw [idT_eq (t := ys) (by simpa using ⟨i2, j2⟩), idE_ok i2] at c5
      have c6 := hidp (fun W (h : IT W) => user_any W ys (by omega) h)
      rw [g2] at c6
      unfold whoV at c6
      have c7 := hidp (fun W (h : IT W) (h' : WT W) => evBytes_any W yr ys yk yy yb n a3 (by omega) (by omega) (by omega) (by omega) h h')
      clear p1 p2 i1 i2 j1 j2 g1 g2 i1s i2s
      by_cases hok : evOk (⟨yr, ys, yk, yy, yb, n⟩ : Ev) = true
      · have hE : evE (⟨yr, ys, yk, yy, yb, n⟩ : Ev) = 0 := by unfold evE; rw [if_pos hok]
        rw [hE] at c7
        by_cases hnn : n = yn
        · subst hnn
          rw [hy2] at c7
          clear hok hE hy1 hy2 hp
          go_enter Tryd.func5, Tryd.ntmps5
          go_wp2_with fail
          refine (c0.out _).mono ?_
          rintro e w1 ⟨rfl, hb1⟩
          have HB1 := hidp ((Below.refl w.heap.size w).trans (hb1.mono (Below.refl w.heap.size w).size))
          have hle1 := HB1.out.size
          clear hb1
          go_wp2_with fail
          refine (c1.out _ (HI.out.below HB1.out (Nat.le_refl _)) (HW.out.below HB1.out (Nat.le_refl _))).mono ?_
          rintro e w2 ⟨rfl, hb2⟩
          have HB2 := hidp (HB1.out.trans (hb2.mono HB1.out.size))
          have hle2 := HB2.out.size
          clear hb2
          go_wp2_with fail
          have HX2d := hidp (HB2.out.alloc hle2 (.cells #[.string yr, .string ys, .int .u8 (yk : Int), .string yy, .string yb, .int .i64 n] 24))
          have Ad2d := hidp (Arr.new w2 24 [.string yr, .string ys, .int .u8 (yk : Int), .string yy, .string yb, .int .i64 n])
          obtain ⟨bd, hbd⟩ : ∃ b, w2.heap.size = b := ⟨_, rfl⟩
          generalize hWW : (w2.alloc (.cells #[.string yr, .string ys, .int .u8 (yk : Int), .string yy, .string yb, .int .i64 n] 24)) = W2d at HX2d Ad2d ⊢
          rw [hbd] at Ad2d ⊢
          have hged : w.heap.size ≤ bd := by rw [← hbd]; exact hle2
          clear hWW hbd
          refine (c2.out _ (HI.out.below HX2d.out (Nat.le_refl _))).mono ?_
          rintro e w3 ⟨rfl, hb3⟩
          have HB3 := hidp (HX2d.out.trans (hb3.mono HX2d.out.size))
          have hle3 := HB3.out.size
          have Ad3 := hidp (Ad2d.out.below hb3 Ad2d.out.lt)
          have hltd := Ad3.out.lt
          clear hb3
          obtain ⟨d0, d1, d2, d3, d4, d5⟩ := arr6 Ad3.out
          have hq := World.block_lt_of_cell? _ _ d0; simp only at hq
          go_wp2_with fail
          clear d0 d1 d2 d3 d4 d5
          clear hq
          have HX3x := hidp (HB3.out.alloc hle3 (.cells #[.int .u8 2, .string n1, .int .i64 (m1 : Int)] 38))
          have Ad3x := hidp (Ad3.out.alloc (.cells #[.int .u8 2, .string n1, .int .i64 (m1 : Int)] 38))
          have Ax3x := hidp (Arr.new w3 38 [.int .u8 2, .string n1, .int .i64 (m1 : Int)])
          obtain ⟨bx, hbx⟩ : ∃ b, w3.heap.size = b := ⟨_, rfl⟩
          generalize hWW : (w3.alloc (.cells #[.int .u8 2, .string n1, .int .i64 (m1 : Int)] 38)) = W3x at HX3x Ad3x Ax3x ⊢
          rw [hbx] at Ax3x ⊢
          have hgex : w.heap.size ≤ bx := by rw [← hbx]; exact hle3
          clear hWW hbx
          refine (c3.out _ (HI.out.below HX3x.out (Nat.le_refl _))).mono ?_
          rintro e w4 ⟨rfl, hb4⟩
          have HB4 := hidp (HX3x.out.trans (hb4.mono HX3x.out.size))
          have hle4 := HB4.out.size
          have Ad4 := hidp (Ad3x.out.below hb4 Ad3x.out.lt)
          have hltd := Ad4.out.lt
          have Ax4 := hidp (Ax3x.out.below hb4 Ax3x.out.lt)
          have hltx := Ax4.out.lt
          clear hb4
          obtain ⟨x0, x1, x2, xf⟩ := arr3 Ax4.out
          clear xf
          have hq := World.block_lt_of_cell? _ _ x0; simp only at hq
          go_wp2_with fail
          clear x0 x1 x2
          clear hq
          have HX4z := hidp (HB4.out.alloc hle4 (.cells #[.int .u8 1, .string n2, .int .i64 (m2 : Int)] 38))
          have Ad4z := hidp (Ad4.out.alloc (.cells #[.int .u8 1, .string n2, .int .i64 (m2 : Int)] 38))
          have Ax4z := hidp (Ax4.out.alloc (.cells #[.int .u8 1, .string n2, .int .i64 (m2 : Int)] 38))
          have Az4z := hidp (Arr.new w4 38 [.int .u8 1, .string n2, .int .i64 (m2 : Int)])
          obtain ⟨bz, hbz⟩ : ∃ b, w4.heap.size = b := ⟨_, rfl⟩
          generalize hWW : (w4.alloc (.cells #[.int .u8 1, .string n2, .int .i64 (m2 : Int)] 38)) = W4z at HX4z Ad4z Ax4z Az4z ⊢
          rw [hbz] at Az4z ⊢
          have hgez : w.heap.size ≤ bz := by rw [← hbz]; exact hle4
          clear hWW hbz
          refine (c4.out _ (HI.out.below HX4z.out (Nat.le_refl _))).mono ?_
          rintro e w5 ⟨rfl, hb5⟩
          have HB5 := hidp (HX4z.out.trans (hb5.mono HX4z.out.size))
          have hle5 := HB5.out.size
          have Ad5 := hidp (Ad4z.out.below hb5 Ad4z.out.lt)
          have hltd := Ad5.out.lt
          have Ax5 := hidp (Ax4z.out.below hb5 Ax4z.out.lt)
          have hltx := Ax5.out.lt
          have Az5 := hidp (Az4z.out.below hb5 Az4z.out.lt)
          have hltz := Az5.out.lt
          clear hb5
          obtain ⟨z0, z1, z2, zf⟩ := arr3 Az5.out
          clear zf
          go_wp2_with fail
          clear z0 z1 z2
          refine (c5.out _ (HI.out.below HB5.out (Nat.le_refl _))).mono ?_
          rintro e w6 ⟨rfl, hb6⟩
          have HB6 := hidp (HB5.out.trans (hb6.mono HB5.out.size))
          have hle6 := HB6.out.size
          have Ad6 := hidp (Ad5.out.below hb6 Ad5.out.lt)
          have hltd := Ad6.out.lt
          have Ax6 := hidp (Ax5.out.below hb6 Ax5.out.lt)
          have hltx := Ax6.out.lt
          have Az6 := hidp (Az5.out.below hb6 Az5.out.lt)
          have hltz := Az6.out.lt
          clear hb6
          obtain ⟨d0, d1, d2, d3, d4, d5⟩ := arr6 Ad6.out
          go_wp2_with fail
          clear d0 d1 d2 d3 d4 d5
          refine (c6.out _ (HI.out.below HB6.out (Nat.le_refl _))).mono ?_
          rintro e w7 ⟨rfl, hb7⟩
          have HB7 := hidp (HB6.out.trans (hb7.mono HB6.out.size))
          have hle7 := HB7.out.size
          have Ad7 := hidp (Ad6.out.below hb7 Ad6.out.lt)
          have hltd := Ad7.out.lt
          have Ax7 := hidp (Ax6.out.below hb7 Ax6.out.lt)
          have hltx := Ax7.out.lt
          have Az7 := hidp (Az6.out.below hb7 Az6.out.lt)
          have hltz := Az7.out.lt
          clear hb7
          obtain ⟨d0, d1, d2, d3, d4, d5⟩ := arr6 Ad7.out
          go_wp2_with fail
          clear d0 d1 d2 d3 d4 d5
          have HX7f := hidp (HB7.out.alloc hle7 (.cells #[.string yr, .string ys, .int .u8 (yk : Int), .string yy, .string yb, .int .i64 n] 24))
          have Ad7f := hidp (Ad7.out.alloc (.cells #[.string yr, .string ys, .int .u8 (yk : Int), .string yy, .string yb, .int .i64 n] 24))
          have Ax7f := hidp (Ax7.out.alloc (.cells #[.string yr, .string ys, .int .u8 (yk : Int), .string yy, .string yb, .int .i64 n] 24))
          have Az7f := hidp (Az7.out.alloc (.cells #[.string yr, .string ys, .int .u8 (yk : Int), .string yy, .string yb, .int .i64 n] 24))
          have Af7f := hidp (Arr.new w7 24 [.string yr, .string ys, .int .u8 (yk : Int), .string yy, .string yb, .int .i64 n])
          obtain ⟨bf, hbf⟩ : ∃ b, w7.heap.size = b := ⟨_, rfl⟩
          generalize hWW : (w7.alloc (.cells #[.string yr, .string ys, .int .u8 (yk : Int), .string yy, .string yb, .int .i64 n] 24)) = W7f at HX7f Ad7f Ax7f Az7f Af7f ⊢
          rw [hbf] at Af7f ⊢
          have hgef : w.heap.size ≤ bf := by rw [← hbf]; exact hle7
          clear hWW hbf
          refine (c7.out _ (HI.out.below HX7f.out (Nat.le_refl _)) (HW.out.below HX7f.out (Nat.le_refl _))).mono ?_
          rintro e w8 ⟨rfl, hb8⟩
          have HB8 := hidp (HX7f.out.trans (hb8.mono HX7f.out.size))
          have hle8 := HB8.out.size
          have Ad8 := hidp (Ad7f.out.below hb8 Ad7f.out.lt)
          have hltd := Ad8.out.lt
          have Ax8 := hidp (Ax7f.out.below hb8 Ax7f.out.lt)
          have hltx := Ax8.out.lt
          have Az8 := hidp (Az7f.out.below hb8 Az7f.out.lt)
          have hltz := Az8.out.lt
          have Af8 := hidp (Af7f.out.below hb8 Af7f.out.lt)
          have hltf := Af8.out.lt
          clear hb8
          obtain ⟨d0, d1, d2, d3, d4, d5⟩ := arr6 Ad8.out
          obtain ⟨x0, x1, x2, xf⟩ := arr3 Ax8.out
          clear xf
          obtain ⟨z0, z1, z2, zf⟩ := arr3 Az8.out
          clear zf
          go_wp2_with fail
          go_ret
          exact ⟨rfl, HB8.out⟩
        · have hne : evB (⟨yr, ys, yk, yy, yb, n⟩ : Ev) ≠ t := by
            intro e
            have h1 := evP_back hok
            rw [e, hp] at h1
            simp only [Option.some.injEq, Ev.mk.injEq] at h1
            exact hnn h1.2.2.2.2.2.symm
          have hq1 := toList_no hne
          have hq2 : (n == yn) = false := beq_eq_false_iff_ne.2 hnn
          obtain ⟨X, hX⟩ : ∃ X, evB (⟨yr, ys, yk, yy, yb, n⟩ : Ev) = X := ⟨_, rfl⟩
          rw [hX] at c7 hq1
          clear hok hE hy1 hy2 hp hne hX
          go_enter Tryd.func5, Tryd.ntmps5
          go_wp2_with fail
          refine (c0.out _).mono ?_
          rintro e w1 ⟨rfl, hb1⟩
          have HB1 := hidp ((Below.refl w.heap.size w).trans (hb1.mono (Below.refl w.heap.size w).size))
          have hle1 := HB1.out.size
          clear hb1
          go_wp2_with fail
          refine (c1.out _ (HI.out.below HB1.out (Nat.le_refl _)) (HW.out.below HB1.out (Nat.le_refl _))).mono ?_
          rintro e w2 ⟨rfl, hb2⟩
          have HB2 := hidp (HB1.out.trans (hb2.mono HB1.out.size))
          have hle2 := HB2.out.size
          clear hb2
          go_wp2_with fail
          have HX2d := hidp (HB2.out.alloc hle2 (.cells #[.string yr, .string ys, .int .u8 (yk : Int), .string yy, .string yb, .int .i64 yn] 24))
          have Ad2d := hidp (Arr.new w2 24 [.string yr, .string ys, .int .u8 (yk : Int), .string yy, .string yb, .int .i64 yn])
          obtain ⟨bd, hbd⟩ : ∃ b, w2.heap.size = b := ⟨_, rfl⟩
          generalize hWW : (w2.alloc (.cells #[.string yr, .string ys, .int .u8 (yk : Int), .string yy, .string yb, .int .i64 yn] 24)) = W2d at HX2d Ad2d ⊢
          rw [hbd] at Ad2d ⊢
          have hged : w.heap.size ≤ bd := by rw [← hbd]; exact hle2
          clear hWW hbd
          refine (c2.out _ (HI.out.below HX2d.out (Nat.le_refl _))).mono ?_
          rintro e w3 ⟨rfl, hb3⟩
          have HB3 := hidp (HX2d.out.trans (hb3.mono HX2d.out.size))
          have hle3 := HB3.out.size
          have Ad3 := hidp (Ad2d.out.below hb3 Ad2d.out.lt)
          have hltd := Ad3.out.lt
          clear hb3
          obtain ⟨d0, d1, d2, d3, d4, d5⟩ := arr6 Ad3.out
          have hq := World.block_lt_of_cell? _ _ d0; simp only at hq
          go_wp2_with fail
          clear d0 d1 d2 d3 d4 d5
          clear hq
          have HX3x := hidp (HB3.out.alloc hle3 (.cells #[.int .u8 2, .string n1, .int .i64 (m1 : Int)] 38))
          have Ad3x := hidp (Ad3.out.alloc (.cells #[.int .u8 2, .string n1, .int .i64 (m1 : Int)] 38))
          have Ax3x := hidp (Arr.new w3 38 [.int .u8 2, .string n1, .int .i64 (m1 : Int)])
          obtain ⟨bx, hbx⟩ : ∃ b, w3.heap.size = b := ⟨_, rfl⟩
          generalize hWW : (w3.alloc (.cells #[.int .u8 2, .string n1, .int .i64 (m1 : Int)] 38)) = W3x at HX3x Ad3x Ax3x ⊢
          rw [hbx] at Ax3x ⊢
          have hgex : w.heap.size ≤ bx := by rw [← hbx]; exact hle3
          clear hWW hbx
          refine (c3.out _ (HI.out.below HX3x.out (Nat.le_refl _))).mono ?_
          rintro e w4 ⟨rfl, hb4⟩
          have HB4 := hidp (HX3x.out.trans (hb4.mono HX3x.out.size))
          have hle4 := HB4.out.size
          have Ad4 := hidp (Ad3x.out.below hb4 Ad3x.out.lt)
          have hltd := Ad4.out.lt
          have Ax4 := hidp (Ax3x.out.below hb4 Ax3x.out.lt)
          have hltx := Ax4.out.lt
          clear hb4
          obtain ⟨x0, x1, x2, xf⟩ := arr3 Ax4.out
          clear xf
          have hq := World.block_lt_of_cell? _ _ x0; simp only at hq
          go_wp2_with fail
          clear x0 x1 x2
          clear hq
          have HX4z := hidp (HB4.out.alloc hle4 (.cells #[.int .u8 1, .string n2, .int .i64 (m2 : Int)] 38))
          have Ad4z := hidp (Ad4.out.alloc (.cells #[.int .u8 1, .string n2, .int .i64 (m2 : Int)] 38))
          have Ax4z := hidp (Ax4.out.alloc (.cells #[.int .u8 1, .string n2, .int .i64 (m2 : Int)] 38))
          have Az4z := hidp (Arr.new w4 38 [.int .u8 1, .string n2, .int .i64 (m2 : Int)])
          obtain ⟨bz, hbz⟩ : ∃ b, w4.heap.size = b := ⟨_, rfl⟩
          generalize hWW : (w4.alloc (.cells #[.int .u8 1, .string n2, .int .i64 (m2 : Int)] 38)) = W4z at HX4z Ad4z Ax4z Az4z ⊢
          rw [hbz] at Az4z ⊢
          have hgez : w.heap.size ≤ bz := by rw [← hbz]; exact hle4
          clear hWW hbz
          refine (c4.out _ (HI.out.below HX4z.out (Nat.le_refl _))).mono ?_
          rintro e w5 ⟨rfl, hb5⟩
          have HB5 := hidp (HX4z.out.trans (hb5.mono HX4z.out.size))
          have hle5 := HB5.out.size
          have Ad5 := hidp (Ad4z.out.below hb5 Ad4z.out.lt)
          have hltd := Ad5.out.lt
          have Ax5 := hidp (Ax4z.out.below hb5 Ax4z.out.lt)
          have hltx := Ax5.out.lt
          have Az5 := hidp (Az4z.out.below hb5 Az4z.out.lt)
          have hltz := Az5.out.lt
          clear hb5
          obtain ⟨z0, z1, z2, zf⟩ := arr3 Az5.out
          clear zf
          go_wp2_with fail
          clear z0 z1 z2
          refine (c5.out _ (HI.out.below HB5.out (Nat.le_refl _))).mono ?_
          rintro e w6 ⟨rfl, hb6⟩
          have HB6 := hidp (HB5.out.trans (hb6.mono HB5.out.size))
          have hle6 := HB6.out.size
          have Ad6 := hidp (Ad5.out.below hb6 Ad5.out.lt)
          have hltd := Ad6.out.lt
          have Ax6 := hidp (Ax5.out.below hb6 Ax5.out.lt)
          have hltx := Ax6.out.lt
          have Az6 := hidp (Az5.out.below hb6 Az5.out.lt)
          have hltz := Az6.out.lt
          clear hb6
          obtain ⟨d0, d1, d2, d3, d4, d5⟩ := arr6 Ad6.out
          go_wp2_with fail
          clear d0 d1 d2 d3 d4 d5
          refine (c6.out _ (HI.out.below HB6.out (Nat.le_refl _))).mono ?_
          rintro e w7 ⟨rfl, hb7⟩
          have HB7 := hidp (HB6.out.trans (hb7.mono HB6.out.size))
          have hle7 := HB7.out.size
          have Ad7 := hidp (Ad6.out.below hb7 Ad6.out.lt)
          have hltd := Ad7.out.lt
          have Ax7 := hidp (Ax6.out.below hb7 Ax6.out.lt)
          have hltx := Ax7.out.lt
          have Az7 := hidp (Az6.out.below hb7 Az6.out.lt)
          have hltz := Az7.out.lt
          clear hb7
          obtain ⟨d0, d1, d2, d3, d4, d5⟩ := arr6 Ad7.out
          go_wp2_with fail
          clear d0 d1 d2 d3 d4 d5
          have HX7f := hidp (HB7.out.alloc hle7 (.cells #[.string yr, .string ys, .int .u8 (yk : Int), .string yy, .string yb, .int .i64 n] 24))
          have Ad7f := hidp (Ad7.out.alloc (.cells #[.string yr, .string ys, .int .u8 (yk : Int), .string yy, .string yb, .int .i64 n] 24))
          have Ax7f := hidp (Ax7.out.alloc (.cells #[.string yr, .string ys, .int .u8 (yk : Int), .string yy, .string yb, .int .i64 n] 24))
          have Az7f := hidp (Az7.out.alloc (.cells #[.string yr, .string ys, .int .u8 (yk : Int), .string yy, .string yb, .int .i64 n] 24))
          have Af7f := hidp (Arr.new w7 24 [.string yr, .string ys, .int .u8 (yk : Int), .string yy, .string yb, .int .i64 n])
          obtain ⟨bf, hbf⟩ : ∃ b, w7.heap.size = b := ⟨_, rfl⟩
          generalize hWW : (w7.alloc (.cells #[.string yr, .string ys, .int .u8 (yk : Int), .string yy, .string yb, .int .i64 n] 24)) = W7f at HX7f Ad7f Ax7f Az7f Af7f ⊢
          rw [hbf] at Af7f ⊢
          have hgef : w.heap.size ≤ bf := by rw [← hbf]; exact hle7
          clear hWW hbf
          refine (c7.out _ (HI.out.below HX7f.out (Nat.le_refl _)) (HW.out.below HX7f.out (Nat.le_refl _))).mono ?_
          rintro e w8 ⟨rfl, hb8⟩
          have HB8 := hidp (HX7f.out.trans (hb8.mono HX7f.out.size))
          have hle8 := HB8.out.size
          have Ad8 := hidp (Ad7f.out.below hb8 Ad7f.out.lt)
          have hltd := Ad8.out.lt
          have Ax8 := hidp (Ax7f.out.below hb8 Ax7f.out.lt)
          have hltx := Ax8.out.lt
          have Az8 := hidp (Az7f.out.below hb8 Az7f.out.lt)
          have hltz := Az8.out.lt
          have Af8 := hidp (Af7f.out.below hb8 Af7f.out.lt)
          have hltf := Af8.out.lt
          clear hb8
          obtain ⟨d0, d1, d2, d3, d4, d5⟩ := arr6 Ad8.out
          obtain ⟨x0, x1, x2, xf⟩ := arr3 Ax8.out
          clear xf
          obtain ⟨z0, z1, z2, zf⟩ := arr3 Az8.out
          clear zf
          go_wp2_with fail
          go_ret
          exact ⟨rfl, HB8.out⟩
      · have hE : evE (⟨yr, ys, yk, yy, yb, n⟩ : Ev) = 2 := by unfold evE; rw [if_neg hok]
        rw [hE] at c7
        obtain ⟨X, hX⟩ : ∃ X, evB (⟨yr, ys, yk, yy, yb, n⟩ : Ev) = X := ⟨_, rfl⟩
        rw [hX] at c7
        clear hok hE hy1 hy2 hp hX
        go_enter Tryd.func5, Tryd.ntmps5
        go_wp2_with fail
        refine (c0.out _).mono ?_
        rintro e w1 ⟨rfl, hb1⟩
        have HB1 := hidp ((Below.refl w.heap.size w).trans (hb1.mono (Below.refl w.heap.size w).size))
        have hle1 := HB1.out.size
        clear hb1
        go_wp2_with fail
        refine (c1.out _ (HI.out.below HB1.out (Nat.le_refl _)) (HW.out.below HB1.out (Nat.le_refl _))).mono ?_
        rintro e w2 ⟨rfl, hb2⟩
        have HB2 := hidp (HB1.out.trans (hb2.mono HB1.out.size))
        have hle2 := HB2.out.size
        clear hb2
        go_wp2_with fail
        have HX2d := hidp (HB2.out.alloc hle2 (.cells #[.string yr, .string ys, .int .u8 (yk : Int), .string yy, .string yb, .int .i64 yn] 24))
        have Ad2d := hidp (Arr.new w2 24 [.string yr, .string ys, .int .u8 (yk : Int), .string yy, .string yb, .int .i64 yn])
        obtain ⟨bd, hbd⟩ : ∃ b, w2.heap.size = b := ⟨_, rfl⟩
        generalize hWW : (w2.alloc (.cells #[.string yr, .string ys, .int .u8 (yk : Int), .string yy, .string yb, .int .i64 yn] 24)) = W2d at HX2d Ad2d ⊢
        rw [hbd] at Ad2d ⊢
        have hged : w.heap.size ≤ bd := by rw [← hbd]; exact hle2
        clear hWW hbd
        refine (c2.out _ (HI.out.below HX2d.out (Nat.le_refl _))).mono ?_
        rintro e w3 ⟨rfl, hb3⟩
        have HB3 := hidp (HX2d.out.trans (hb3.mono HX2d.out.size))
        have hle3 := HB3.out.size
        have Ad3 := hidp (Ad2d.out.below hb3 Ad2d.out.lt)
        have hltd := Ad3.out.lt
        clear hb3
        obtain ⟨d0, d1, d2, d3, d4, d5⟩ := arr6 Ad3.out
        have hq := World.block_lt_of_cell? _ _ d0; simp only at hq
        go_wp2_with fail
        clear d0 d1 d2 d3 d4 d5
        clear hq
        have HX3x := hidp (HB3.out.alloc hle3 (.cells #[.int .u8 2, .string n1, .int .i64 (m1 : Int)] 38))
        have Ad3x := hidp (Ad3.out.alloc (.cells #[.int .u8 2, .string n1, .int .i64 (m1 : Int)] 38))
        have Ax3x := hidp (Arr.new w3 38 [.int .u8 2, .string n1, .int .i64 (m1 : Int)])
        obtain ⟨bx, hbx⟩ : ∃ b, w3.heap.size = b := ⟨_, rfl⟩
        generalize hWW : (w3.alloc (.cells #[.int .u8 2, .string n1, .int .i64 (m1 : Int)] 38)) = W3x at HX3x Ad3x Ax3x ⊢
        rw [hbx] at Ax3x ⊢
        have hgex : w.heap.size ≤ bx := by rw [← hbx]; exact hle3
        clear hWW hbx
        refine (c3.out _ (HI.out.below HX3x.out (Nat.le_refl _))).mono ?_
        rintro e w4 ⟨rfl, hb4⟩
        have HB4 := hidp (HX3x.out.trans (hb4.mono HX3x.out.size))
        have hle4 := HB4.out.size
        have Ad4 := hidp (Ad3x.out.below hb4 Ad3x.out.lt)
        have hltd := Ad4.out.lt
        have Ax4 := hidp (Ax3x.out.below hb4 Ax3x.out.lt)
        have hltx := Ax4.out.lt
        clear hb4
        obtain ⟨x0, x1, x2, xf⟩ := arr3 Ax4.out
        clear xf
        have hq := World.block_lt_of_cell? _ _ x0; simp only at hq
        go_wp2_with fail
        clear x0 x1 x2
        clear hq
        have HX4z := hidp (HB4.out.alloc hle4 (.cells #[.int .u8 1, .string n2, .int .i64 (m2 : Int)] 38))
        have Ad4z := hidp (Ad4.out.alloc (.cells #[.int .u8 1, .string n2, .int .i64 (m2 : Int)] 38))
        have Ax4z := hidp (Ax4.out.alloc (.cells #[.int .u8 1, .string n2, .int .i64 (m2 : Int)] 38))
        have Az4z := hidp (Arr.new w4 38 [.int .u8 1, .string n2, .int .i64 (m2 : Int)])
        obtain ⟨bz, hbz⟩ : ∃ b, w4.heap.size = b := ⟨_, rfl⟩
        generalize hWW : (w4.alloc (.cells #[.int .u8 1, .string n2, .int .i64 (m2 : Int)] 38)) = W4z at HX4z Ad4z Ax4z Az4z ⊢
        rw [hbz] at Az4z ⊢
        have hgez : w.heap.size ≤ bz := by rw [← hbz]; exact hle4
        clear hWW hbz
        refine (c4.out _ (HI.out.below HX4z.out (Nat.le_refl _))).mono ?_
        rintro e w5 ⟨rfl, hb5⟩
        have HB5 := hidp (HX4z.out.trans (hb5.mono HX4z.out.size))
        have hle5 := HB5.out.size
        have Ad5 := hidp (Ad4z.out.below hb5 Ad4z.out.lt)
        have hltd := Ad5.out.lt
        have Ax5 := hidp (Ax4z.out.below hb5 Ax4z.out.lt)
        have hltx := Ax5.out.lt
        have Az5 := hidp (Az4z.out.below hb5 Az4z.out.lt)
        have hltz := Az5.out.lt
        clear hb5
        obtain ⟨z0, z1, z2, zf⟩ := arr3 Az5.out
        clear zf
        go_wp2_with fail
        clear z0 z1 z2
        refine (c5.out _ (HI.out.below HB5.out (Nat.le_refl _))).mono ?_
        rintro e w6 ⟨rfl, hb6⟩
        have HB6 := hidp (HB5.out.trans (hb6.mono HB5.out.size))
        have hle6 := HB6.out.size
        have Ad6 := hidp (Ad5.out.below hb6 Ad5.out.lt)
        have hltd := Ad6.out.lt
        have Ax6 := hidp (Ax5.out.below hb6 Ax5.out.lt)
        have hltx := Ax6.out.lt
        have Az6 := hidp (Az5.out.below hb6 Az5.out.lt)
        have hltz := Az6.out.lt
        clear hb6
        obtain ⟨d0, d1, d2, d3, d4, d5⟩ := arr6 Ad6.out
        go_wp2_with fail
        clear d0 d1 d2 d3 d4 d5
        refine (c6.out _ (HI.out.below HB6.out (Nat.le_refl _))).mono ?_
        rintro e w7 ⟨rfl, hb7⟩
        have HB7 := hidp (HB6.out.trans (hb7.mono HB6.out.size))
        have hle7 := HB7.out.size
        have Ad7 := hidp (Ad6.out.below hb7 Ad6.out.lt)
        have hltd := Ad7.out.lt
        have Ax7 := hidp (Ax6.out.below hb7 Ax6.out.lt)
        have hltx := Ax7.out.lt
        have Az7 := hidp (Az6.out.below hb7 Az6.out.lt)
        have hltz := Az7.out.lt
        clear hb7
        obtain ⟨d0, d1, d2, d3, d4, d5⟩ := arr6 Ad7.out
        go_wp2_with fail
        clear d0 d1 d2 d3 d4 d5
        have HX7f := hidp (HB7.out.alloc hle7 (.cells #[.string yr, .string ys, .int .u8 (yk : Int), .string yy, .string yb, .int .i64 n] 24))
        have Ad7f := hidp (Ad7.out.alloc (.cells #[.string yr, .string ys, .int .u8 (yk : Int), .string yy, .string yb, .int .i64 n] 24))
        have Ax7f := hidp (Ax7.out.alloc (.cells #[.string yr, .string ys, .int .u8 (yk : Int), .string yy, .string yb, .int .i64 n] 24))
        have Az7f := hidp (Az7.out.alloc (.cells #[.string yr, .string ys, .int .u8 (yk : Int), .string yy, .string yb, .int .i64 n] 24))
        have Af7f := hidp (Arr.new w7 24 [.string yr, .string ys, .int .u8 (yk : Int), .string yy, .string yb, .int .i64 n])
        obtain ⟨bf, hbf⟩ : ∃ b, w7.heap.size = b := ⟨_, rfl⟩
        generalize hWW : (w7.alloc (.cells #[.string yr, .string ys, .int .u8 (yk : Int), .string yy, .string yb, .int .i64 n] 24)) = W7f at HX7f Ad7f Ax7f Az7f Af7f ⊢
        rw [hbf] at Af7f ⊢
        have hgef : w.heap.size ≤ bf := by rw [← hbf]; exact hle7
        clear hWW hbf
        refine (c7.out _ (HI.out.below HX7f.out (Nat.le_refl _)) (HW.out.below HX7f.out (Nat.le_refl _))).mono ?_
        rintro e w8 ⟨rfl, hb8⟩
        have HB8 := hidp (HX7f.out.trans (hb8.mono HX7f.out.size))
        have hle8 := HB8.out.size
        have Ad8 := hidp (Ad7f.out.below hb8 Ad7f.out.lt)
        have hltd := Ad8.out.lt
        have Ax8 := hidp (Ax7f.out.below hb8 Ax7f.out.lt)
        have hltx := Ax8.out.lt
        have Az8 := hidp (Az7f.out.below hb8 Az7f.out.lt)
        have hltz := Az8.out.lt
        have Af8 := hidp (Af7f.out.below hb8 Af7f.out.lt)
        have hltf := Af8.out.lt
        clear hb8
        obtain ⟨d0, d1, d2, d3, d4, d5⟩ := arr6 Ad8.out
        obtain ⟨x0, x1, x2, xf⟩ := arr3 Ax8.out
        clear xf
        obtain ⟨z0, z1, z2, zf⟩ := arr3 Az8.out
        clear zf
        go_wp2_with fail
        go_ret
        exact ⟨rfl, HB8.out⟩
end Go.Proofs.YtglfdenlgglccaaDoor
