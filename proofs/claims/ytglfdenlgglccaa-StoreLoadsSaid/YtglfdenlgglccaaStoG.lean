
/-
  The walks of StorePuts and StoreLoads.
-/
import Derived.Test.YtglfdenlgglccaaStoF
import Derived.Test.YtglfdenlgglccaaStoEr
namespace Go.Proofs.Ytglfdenlgglccaa
set_option maxRecDepth 100000
set_option linter.unusedVariables false
set_option linter.unusedSimpArgs false
open Go.RowKit

theorem adds_both (s : ByteArray) (y r : Int) (t : ByteArray) (ht : t.size ≤ 140737488351232) : ∃ (D : ByteArray) (Y R E : Int), (∀ W, Calls Try.prog 25 #[.agg #[.string s, .int .i64 y, .int .i64 r], .string t] W fun e w' => e = .returned (.tuple #[.agg #[.string D, .int .i64 Y, .int .i64 R], .int .i64 E]) ∧ Below W.heap.size W w') ∧ (∀ W, Calls Try.prog 27 #[.agg #[.string s, .int .i64 y, .int .i64 r], .string t] W fun e w' => e = .returned (.tuple #[.agg #[.string D, .int .i64 Y, .int .i64 R], .int .i64 E]) ∧ Below W.heap.size W w') := by
  by_cases h : okD s y r
  · by_cases h8 : t.size ≤ 8192
    · by_cases hf : ((recB t).length : Int) ≤ r - s.size
      · exact ⟨_, _, _, _, fun W => add_ok W s y r t h h8 hf, fun W => radd_ok W s y r t h h8 hf⟩
      · exact ⟨_, _, _, _, fun W => add_full W s y r t h h8 (by omega), fun W => radd_full W s y r t h h8 (by omega)⟩
    · exact ⟨_, _, _, _, fun W => add_long W s y r t h h8 ht, fun W => radd_long W s y r t h h8 ht⟩
  · exact ⟨_, _, _, _, fun W => add_no W s y r t h, fun W => radd_no W s y r t h⟩

set_option maxHeartbeats 16000000 in
theorem puts_walk (w : World) (s : ByteArray) (y r : Int) (t : ByteArray) (n : Int) (hs : s.size ≤ 262144) (D1 D2 D3 : ByteArray) (Y1 R1 E1 Y2 R2 E2 Y3 R3 E3 : Int)
    (c1 : Hid (∀ W, Calls Try.prog 7 #[.agg #[.string s, .int .i64 y, .int .i64 r], .string t] W fun e w' => e = .returned (.tuple #[.agg #[.string D1, .int .i64 Y1, .int .i64 R1], .int .i64 E1]) ∧ Below W.heap.size W w'))
    (c2 : Hid (∀ W, Calls Try.prog 8 #[.agg #[.string s, .int .i64 y, .int .i64 r], .string t] W fun e w' => e = .returned (.tuple #[.agg #[.string D1, .int .i64 Y1, .int .i64 R1], .int .i64 E1]) ∧ Below W.heap.size W w'))
    (c3 : Hid (∀ W, Calls Try.prog 9 #[.agg #[.string s, .int .i64 y, .int .i64 r], .int .i64 n] W fun e w' => e = .returned (.tuple #[.agg #[.string D2, .int .i64 Y2, .int .i64 R2], .int .i64 E2]) ∧ Below W.heap.size W w'))
    (c4 : Hid (∀ W, Calls Try.prog 10 #[.agg #[.string s, .int .i64 y, .int .i64 r], .int .i64 n] W fun e w' => e = .returned (.tuple #[.agg #[.string D2, .int .i64 Y2, .int .i64 R2], .int .i64 E2]) ∧ Below W.heap.size W w'))
    (c5 : Hid (∀ W, Calls Try.prog 11 #[.agg #[.string s, .int .i64 y, .int .i64 r]] W fun e w' => e = .returned (.tuple #[.agg #[.string D3, .int .i64 Y3, .int .i64 R3], .int .i64 E3]) ∧ Below W.heap.size W w'))
    (c6 : Hid (∀ W, Calls Try.prog 12 #[.agg #[.string s, .int .i64 y, .int .i64 r]] W fun e w' => e = .returned (.tuple #[.agg #[.string D3, .int .i64 Y3, .int .i64 R3], .int .i64 E3]) ∧ Below W.heap.size W w')) :
    Calls Try.prog 3 #[.agg #[.string s, .int .i64 y, .int .i64 r], .string t, .int .i64 n] w fun e w' => e = .returned (.bool true) ∧ Below w.heap.size w w' := by
  have c0 := hidp lives10_any
  have hd : decide ((262144 : Int) < (s.size : Int)) = false := by simp; omega
  have q1 := fun W => eq_disk W D1 Y1 R1
  have q2 := fun W => eq_disk W D2 Y2 R2
  have q3 := fun W => eq_disk W D3 Y3 R3
  have qE1 : (E1 == E1) = true := by simp
  have qE2 : (E2 == E2) = true := by simp
  have qE3 : (E3 == E3) = true := by simp
  go_enter Try.func3, Try.ntmps3
  go_wp2_with fail
  have HX0d := hidp ((Below.refl w.heap.size w).alloc (Nat.le_refl _) (.cells #[.string s, .int .i64 y, .int .i64 r] 23))
  have Ad0d := hidp (Arr.new w 23 [.string s, .int .i64 y, .int .i64 r])
  obtain ⟨bd, hbd⟩ : ∃ b, w.heap.size = b := ⟨_, rfl⟩
  generalize hWW : (w.alloc (.cells #[.string s, .int .i64 y, .int .i64 r] 23)) = W0d at HX0d Ad0d ⊢
  rw [hbd] at Ad0d ⊢
  have hged : w.heap.size ≤ bd := by omega
  clear hWW hbd
  refine (c1.out _).mono ?_
  rintro e w1 ⟨rfl, hb1⟩
  have HB1 := hidp (HX0d.out.trans (hb1.mono HX0d.out.size))
  have hle1 := HB1.out.size
  have Ad1 := hidp (Ad0d.out.below hb1 Ad0d.out.lt)
  have hltd := Ad1.out.lt
  clear hb1
  obtain ⟨d0, d1, d2, df⟩ := arr3 Ad1.out
  clear df
  go_wp2_with fail
  clear d0 d1 d2
  have HX1a := hidp (HB1.out.alloc hle1 (.cells #[.string D1, .int .i64 Y1, .int .i64 R1] 23))
  have Ad1a := hidp (Ad1.out.alloc (.cells #[.string D1, .int .i64 Y1, .int .i64 R1] 23))
  have Aa1a := hidp (Arr.new w1 23 [.string D1, .int .i64 Y1, .int .i64 R1])
  obtain ⟨ba, hba⟩ : ∃ b, w1.heap.size = b := ⟨_, rfl⟩
  generalize hWW : (w1.alloc (.cells #[.string D1, .int .i64 Y1, .int .i64 R1] 23)) = W1a at HX1a Ad1a Aa1a ⊢
  rw [hba] at Aa1a ⊢
  have hgea : w.heap.size ≤ ba := by rw [← hba]; exact hle1
  clear hWW hba
  refine (c2.out _).mono ?_
  rintro e w2 ⟨rfl, hb2⟩
  have HB2 := hidp (HX1a.out.trans (hb2.mono HX1a.out.size))
  have hle2 := HB2.out.size
  have Ad2 := hidp (Ad1a.out.below hb2 Ad1a.out.lt)
  have hltd := Ad2.out.lt
  have Aa2 := hidp (Aa1a.out.below hb2 Aa1a.out.lt)
  have hlta := Aa2.out.lt
  clear hb2
  obtain ⟨d0, d1, d2, df⟩ := arr3 Ad2.out
  clear df
  go_wp2_with fail
  clear d0 d1 d2
  have HX2b := hidp (HB2.out.alloc hle2 (.cells #[.string D1, .int .i64 Y1, .int .i64 R1] 23))
  have Ad2b := hidp (Ad2.out.alloc (.cells #[.string D1, .int .i64 Y1, .int .i64 R1] 23))
  have Aa2b := hidp (Aa2.out.alloc (.cells #[.string D1, .int .i64 Y1, .int .i64 R1] 23))
  have Ab2b := hidp (Arr.new w2 23 [.string D1, .int .i64 Y1, .int .i64 R1])
  obtain ⟨bb, hbb⟩ : ∃ b, w2.heap.size = b := ⟨_, rfl⟩
  generalize hWW : (w2.alloc (.cells #[.string D1, .int .i64 Y1, .int .i64 R1] 23)) = W2b at HX2b Ad2b Aa2b Ab2b ⊢
  rw [hbb] at Ab2b ⊢
  have hgeb : w.heap.size ≤ bb := by rw [← hbb]; exact hle2
  clear hWW hbb
  refine (c3.out _).mono ?_
  rintro e w3 ⟨rfl, hb3⟩
  have HB3 := hidp (HX2b.out.trans (hb3.mono HX2b.out.size))
  have hle3 := HB3.out.size
  have Ad3 := hidp (Ad2b.out.below hb3 Ad2b.out.lt)
  have hltd := Ad3.out.lt
  have Aa3 := hidp (Aa2b.out.below hb3 Aa2b.out.lt)
  have hlta := Aa3.out.lt
  have Ab3 := hidp (Ab2b.out.below hb3 Ab2b.out.lt)
  have hltb := Ab3.out.lt
  clear hb3
  obtain ⟨d0, d1, d2, df⟩ := arr3 Ad3.out
  clear df
  go_wp2_with fail
  clear d0 d1 d2
  have HX3x := hidp (HB3.out.alloc hle3 (.cells #[.string D2, .int .i64 Y2, .int .i64 R2] 23))
  have Ad3x := hidp (Ad3.out.alloc (.cells #[.string D2, .int .i64 Y2, .int .i64 R2] 23))
  have Aa3x := hidp (Aa3.out.alloc (.cells #[.string D2, .int .i64 Y2, .int .i64 R2] 23))
  have Ab3x := hidp (Ab3.out.alloc (.cells #[.string D2, .int .i64 Y2, .int .i64 R2] 23))
  have Ax3x := hidp (Arr.new w3 23 [.string D2, .int .i64 Y2, .int .i64 R2])
  obtain ⟨bx, hbx⟩ : ∃ b, w3.heap.size = b := ⟨_, rfl⟩
  generalize hWW : (w3.alloc (.cells #[.string D2, .int .i64 Y2, .int .i64 R2] 23)) = W3x at HX3x Ad3x Aa3x Ab3x Ax3x ⊢
  rw [hbx] at Ax3x ⊢
  have hgex : w.heap.size ≤ bx := by rw [← hbx]; exact hle3
  clear hWW hbx
  refine (c4.out _).mono ?_
  rintro e w4 ⟨rfl, hb4⟩
  have HB4 := hidp (HX3x.out.trans (hb4.mono HX3x.out.size))
  have hle4 := HB4.out.size
  have Ad4 := hidp (Ad3x.out.below hb4 Ad3x.out.lt)
  have hltd := Ad4.out.lt
  have Aa4 := hidp (Aa3x.out.below hb4 Aa3x.out.lt)
  have hlta := Aa4.out.lt
  have Ab4 := hidp (Ab3x.out.below hb4 Ab3x.out.lt)
  have hltb := Ab4.out.lt
  have Ax4 := hidp (Ax3x.out.below hb4 Ax3x.out.lt)
  have hltx := Ax4.out.lt
  clear hb4
  obtain ⟨d0, d1, d2, df⟩ := arr3 Ad4.out
  clear df
  go_wp2_with fail
  clear d0 d1 d2
  have HX4z := hidp (HB4.out.alloc hle4 (.cells #[.string D2, .int .i64 Y2, .int .i64 R2] 23))
  have Ad4z := hidp (Ad4.out.alloc (.cells #[.string D2, .int .i64 Y2, .int .i64 R2] 23))
  have Aa4z := hidp (Aa4.out.alloc (.cells #[.string D2, .int .i64 Y2, .int .i64 R2] 23))
  have Ab4z := hidp (Ab4.out.alloc (.cells #[.string D2, .int .i64 Y2, .int .i64 R2] 23))
  have Ax4z := hidp (Ax4.out.alloc (.cells #[.string D2, .int .i64 Y2, .int .i64 R2] 23))
  have Az4z := hidp (Arr.new w4 23 [.string D2, .int .i64 Y2, .int .i64 R2])
  obtain ⟨bz, hbz⟩ : ∃ b, w4.heap.size = b := ⟨_, rfl⟩
  generalize hWW : (w4.alloc (.cells #[.string D2, .int .i64 Y2, .int .i64 R2] 23)) = W4z at HX4z Ad4z Aa4z Ab4z Ax4z Az4z ⊢
  rw [hbz] at Az4z ⊢
  have hgez : w.heap.size ≤ bz := by rw [← hbz]; exact hle4
  clear hWW hbz
  refine (c5.out _).mono ?_
  rintro e w5 ⟨rfl, hb5⟩
  have HB5 := hidp (HX4z.out.trans (hb5.mono HX4z.out.size))
  have hle5 := HB5.out.size
  have Ad5 := hidp (Ad4z.out.below hb5 Ad4z.out.lt)
  have hltd := Ad5.out.lt
  have Aa5 := hidp (Aa4z.out.below hb5 Aa4z.out.lt)
  have hlta := Aa5.out.lt
  have Ab5 := hidp (Ab4z.out.below hb5 Ab4z.out.lt)
  have hltb := Ab5.out.lt
  have Ax5 := hidp (Ax4z.out.below hb5 Ax4z.out.lt)
  have hltx := Ax5.out.lt
  have Az5 := hidp (Az4z.out.below hb5 Az4z.out.lt)
  have hltz := Az5.out.lt
  clear hb5
  obtain ⟨d0, d1, d2, df⟩ := arr3 Ad5.out
  clear df
  go_wp2_with fail
  clear d0 d1 d2
  have HX5p := hidp (HB5.out.alloc hle5 (.cells #[.string D3, .int .i64 Y3, .int .i64 R3] 23))
  have Ad5p := hidp (Ad5.out.alloc (.cells #[.string D3, .int .i64 Y3, .int .i64 R3] 23))
  have Aa5p := hidp (Aa5.out.alloc (.cells #[.string D3, .int .i64 Y3, .int .i64 R3] 23))
  have Ab5p := hidp (Ab5.out.alloc (.cells #[.string D3, .int .i64 Y3, .int .i64 R3] 23))
  have Ax5p := hidp (Ax5.out.alloc (.cells #[.string D3, .int .i64 Y3, .int .i64 R3] 23))
  have Az5p := hidp (Az5.out.alloc (.cells #[.string D3, .int .i64 Y3, .int .i64 R3] 23))
  have Ap5p := hidp (Arr.new w5 23 [.string D3, .int .i64 Y3, .int .i64 R3])
  obtain ⟨bp, hbp⟩ : ∃ b, w5.heap.size = b := ⟨_, rfl⟩
  generalize hWW : (w5.alloc (.cells #[.string D3, .int .i64 Y3, .int .i64 R3] 23)) = W5p at HX5p Ad5p Aa5p Ab5p Ax5p Az5p Ap5p ⊢
  rw [hbp] at Ap5p ⊢
  have hgep : w.heap.size ≤ bp := by rw [← hbp]; exact hle5
  clear hWW hbp
  refine (c6.out _).mono ?_
  rintro e w6 ⟨rfl, hb6⟩
  have HB6 := hidp (HX5p.out.trans (hb6.mono HX5p.out.size))
  have hle6 := HB6.out.size
  have Ad6 := hidp (Ad5p.out.below hb6 Ad5p.out.lt)
  have hltd := Ad6.out.lt
  have Aa6 := hidp (Aa5p.out.below hb6 Aa5p.out.lt)
  have hlta := Aa6.out.lt
  have Ab6 := hidp (Ab5p.out.below hb6 Ab5p.out.lt)
  have hltb := Ab6.out.lt
  have Ax6 := hidp (Ax5p.out.below hb6 Ax5p.out.lt)
  have hltx := Ax6.out.lt
  have Az6 := hidp (Az5p.out.below hb6 Az5p.out.lt)
  have hltz := Az6.out.lt
  have Ap6 := hidp (Ap5p.out.below hb6 Ap5p.out.lt)
  have hltp := Ap6.out.lt
  clear hb6
  go_wp2_with fail
  have HX6q := hidp (HB6.out.alloc hle6 (.cells #[.string D3, .int .i64 Y3, .int .i64 R3] 23))
  have Ad6q := hidp (Ad6.out.alloc (.cells #[.string D3, .int .i64 Y3, .int .i64 R3] 23))
  have Aa6q := hidp (Aa6.out.alloc (.cells #[.string D3, .int .i64 Y3, .int .i64 R3] 23))
  have Ab6q := hidp (Ab6.out.alloc (.cells #[.string D3, .int .i64 Y3, .int .i64 R3] 23))
  have Ax6q := hidp (Ax6.out.alloc (.cells #[.string D3, .int .i64 Y3, .int .i64 R3] 23))
  have Az6q := hidp (Az6.out.alloc (.cells #[.string D3, .int .i64 Y3, .int .i64 R3] 23))
  have Ap6q := hidp (Ap6.out.alloc (.cells #[.string D3, .int .i64 Y3, .int .i64 R3] 23))
  have Aq6q := hidp (Arr.new w6 23 [.string D3, .int .i64 Y3, .int .i64 R3])
  obtain ⟨bq, hbq⟩ : ∃ b, w6.heap.size = b := ⟨_, rfl⟩
  generalize hWW : (w6.alloc (.cells #[.string D3, .int .i64 Y3, .int .i64 R3] 23)) = W6q at HX6q Ad6q Aa6q Ab6q Ax6q Az6q Ap6q Aq6q ⊢
  rw [hbq] at Aq6q ⊢
  have hgeq : w.heap.size ≤ bq := by rw [← hbq]; exact hle6
  clear hWW hbq
  refine (c0.out _).mono ?_
  rintro e w7 ⟨rfl, hb7⟩
  have HB7 := hidp (HX6q.out.trans (hb7.mono HX6q.out.size))
  have hle7 := HB7.out.size
  have Ad7 := hidp (Ad6q.out.below hb7 Ad6q.out.lt)
  have hltd := Ad7.out.lt
  have Aa7 := hidp (Aa6q.out.below hb7 Aa6q.out.lt)
  have hlta := Aa7.out.lt
  have Ab7 := hidp (Ab6q.out.below hb7 Ab6q.out.lt)
  have hltb := Ab7.out.lt
  have Ax7 := hidp (Ax6q.out.below hb7 Ax6q.out.lt)
  have hltx := Ax7.out.lt
  have Az7 := hidp (Az6q.out.below hb7 Az6q.out.lt)
  have hltz := Az7.out.lt
  have Ap7 := hidp (Ap6q.out.below hb7 Ap6q.out.lt)
  have hltp := Ap7.out.lt
  have Aq7 := hidp (Aq6q.out.below hb7 Aq6q.out.lt)
  have hltq := Aq7.out.lt
  clear hb7
  obtain ⟨qa0, qa1, qa2, qaf⟩ := arr3 Aa7.out
  clear qaf
  obtain ⟨qb0, qb1, qb2, qbf⟩ := arr3 Ab7.out
  clear qbf
  obtain ⟨qx0, qx1, qx2, qxf⟩ := arr3 Ax7.out
  clear qxf
  obtain ⟨qz0, qz1, qz2, qzf⟩ := arr3 Az7.out
  clear qzf
  obtain ⟨qp0, qp1, qp2, qpf⟩ := arr3 Ap7.out
  clear qpf
  obtain ⟨qq0, qq1, qq2, qqf⟩ := arr3 Aq7.out
  clear qqf
  go_wp2_with fail
  go_ret
  exact ⟨rfl, HB7.out⟩

theorem walk_storePuts (w : World) (s : ByteArray) (y r : Int) (hy : (Lit.int .i64 y).wf = true) (hr : (Lit.int .i64 r).wf = true) (t : ByteArray) (ht : t.size ≤ 140737488351232) (n : Int) (hn : (Lit.int .i64 n).wf = true) :
    Calls Try.prog 3 #[.agg #[.string s, .int .i64 y, .int .i64 r], .string t, .int .i64 n] w fun e w' => e = .returned (.bool true) ∧ Below w.heap.size w w' := by
  by_cases h18 : s.size ≤ 262144
  · obtain ⟨D1, Y1, R1, E1, a1, a2⟩ : ∃ (D1 : ByteArray) (Y1 R1 E1 : Int), (∀ W, Calls Try.prog 7 #[.agg #[.string s, .int .i64 y, .int .i64 r], .string t] W fun e w' => e = .returned (.tuple #[.agg #[.string D1, .int .i64 Y1, .int .i64 R1], .int .i64 E1]) ∧ Below W.heap.size W w') ∧ (∀ W, Calls Try.prog 8 #[.agg #[.string s, .int .i64 y, .int .i64 r], .string t] W fun e w' => e = .returned (.tuple #[.agg #[.string D1, .int .i64 Y1, .int .i64 R1], .int .i64 E1]) ∧ Below W.heap.size W w') := by
      by_cases h8 : t.size ≤ 8192
      · obtain ⟨D, Y, R, E, b1, b2⟩ := adds_both s y r (entR t) (by have := entR_size h8; omega)
        exact ⟨D, Y, R, E, fun W => pute_add W s y r t h8 D Y R E b1, fun W => rpute_add W s y r t h8 D Y R E b2⟩
      · exact ⟨s, y, r, 7, fun W => pute_no W s y r t (by omega) h8 ht, fun W => rpute_no W s y r t (by omega) h8 ht⟩
    obtain ⟨D2, Y2, R2, E2, a3, a4⟩ : ∃ (D2 : ByteArray) (Y2 R2 E2 : Int), (∀ W, Calls Try.prog 9 #[.agg #[.string s, .int .i64 y, .int .i64 r], .int .i64 n] W fun e w' => e = .returned (.tuple #[.agg #[.string D2, .int .i64 Y2, .int .i64 R2], .int .i64 E2]) ∧ Below W.heap.size W w') ∧ (∀ W, Calls Try.prog 10 #[.agg #[.string s, .int .i64 y, .int .i64 r], .int .i64 n] W fun e w' => e = .returned (.tuple #[.agg #[.string D2, .int .i64 Y2, .int .i64 R2], .int .i64 E2]) ∧ Below W.heap.size W w') := by
      by_cases h8 : n < 0 ∨ 1048576 < n
      · exact ⟨s, y, r, 1, fun W => putc_no W s y r n (by omega) h8, fun W => rputc_no W s y r n (by omega) h8⟩
      · obtain ⟨m, rfl⟩ : ∃ m : Nat, n = m := ⟨n.toNat, by omega⟩
        have hm : m ≤ 1048576 := by omega
        obtain ⟨D, Y, R, E, b1, b2⟩ := adds_both s y r (cntR m) (by have := cntR_size hm; omega)
        exact ⟨D, Y, R, E, fun W => putc_add W s y r _ m hm rfl D Y R E b1, fun W => rputc_add W s y r _ m hm rfl D Y R E b2⟩
    obtain ⟨D3, Y3, R3, E3, a5, a6⟩ : ∃ (D3 : ByteArray) (Y3 R3 E3 : Int), (∀ W, Calls Try.prog 11 #[.agg #[.string s, .int .i64 y, .int .i64 r]] W fun e w' => e = .returned (.tuple #[.agg #[.string D3, .int .i64 Y3, .int .i64 R3], .int .i64 E3]) ∧ Below W.heap.size W w') ∧ (∀ W, Calls Try.prog 12 #[.agg #[.string s, .int .i64 y, .int .i64 r]] W fun e w' => e = .returned (.tuple #[.agg #[.string D3, .int .i64 Y3, .int .i64 R3], .int .i64 E3]) ∧ Below W.heap.size W w') := by
      by_cases h : okD s y r
      · obtain ⟨⟨es, c, e0⟩, hR⟩ : ∃ R, ld (rdT s.data.toList) = R := ⟨_, rfl⟩
        by_cases he : e0 = 0
        · subst he
          exact ⟨_, _, _, _, fun W => comp_ok W s y r h es c hR, fun W => rcomp_ok W s y r h es c hR⟩
        · exact ⟨_, _, _, _, fun W => comp_bad W s y r h es c e0 hR he, fun W => rcomp_bad W s y r h es c e0 hR he⟩
      · exact ⟨_, _, _, _, fun W => comp_no W s y r h, fun W => rcomp_no W s y r h⟩
    exact puts_walk w s y r t n h18 _ _ _ _ _ _ _ _ _ _ _ _ (hidp a1) (hidp a2) (hidp a3) (hidp a4) (hidp a5) (hidp a6)
  · have c0 := hidp lives10_any
    have hd : decide ((262144 : Int) < (s.size : Int)) = true := by simp; omega
    go_enter Try.func3, Try.ntmps3
    go_wp2_with fail
    refine (c0.out _).mono ?_
    rintro e w1 ⟨rfl, hb1⟩
    have HB1 := hidp (((Below.refl _ w).alloc (Nat.le_refl _) (.cells #[.string s, .int .i64 y, .int .i64 r] 23)).trans (hb1.mono (by simp))); clear hb1
    go_wp2_with fail
    go_ret
    exact ⟨rfl, HB1.out⟩

set_option maxHeartbeats 16000000 in
theorem loads_walk (w : World) (x : ByteArray) (s : ByteArray) (y r : Int) (hx : x.size ≤ 262144) (hs : s.size ≤ 262144) (D1 : ByteArray) (Y1 R1 C1 E1 C2 E2 : Int) (es1 es2 : List ByteArray) (h1 : es1.length ≤ 140737488351232) (h2 : es2.length ≤ 140737488351232)
    (c1 : Hid (∀ W, Calls Try.prog 13 #[.string x] W fun e w' => ∃ v, e = .returned (.tuple #[.agg #[v, .int .i64 C1], .int .i64 E1]) ∧ OwnV w' W.heap.size 9 v (strV es1) ∧ Below W.heap.size W w'))
    (c2 : Hid (∀ W, Calls Try.prog 14 #[.string x] W fun e w' => ∃ v, e = .returned (.tuple #[.agg #[v, .int .i64 C1], .int .i64 E1]) ∧ OwnV w' W.heap.size 9 v (strV es1) ∧ Below W.heap.size W w'))
    (c3 : Hid (∀ W, Calls Try.prog 15 #[.agg #[.string s, .int .i64 y, .int .i64 r]] W fun e w' => ∃ v, e = .returned (.tuple #[.agg #[.string D1, .int .i64 Y1, .int .i64 R1], .agg #[v, .int .i64 C2], .int .i64 E2]) ∧ OwnV w' W.heap.size 9 v (strV es2) ∧ Below W.heap.size W w'))
    (c4 : Hid (∀ W, Calls Try.prog 16 #[.agg #[.string s, .int .i64 y, .int .i64 r]] W fun e w' => ∃ v, e = .returned (.tuple #[.agg #[.string D1, .int .i64 Y1, .int .i64 R1], .agg #[v, .int .i64 C2], .int .i64 E2]) ∧ OwnV w' W.heap.size 9 v (strV es2) ∧ Below W.heap.size W w')) :
    Calls Try.prog 4 #[.string x, .agg #[.string s, .int .i64 y, .int .i64 r]] w fun e w' => e = .returned (.bool true) ∧ Below w.heap.size w w' := by
  have c0 := hidp lives10_any
  have hd1 : decide ((262144 : Int) < (x.size : Int)) = false := by simp; omega
  have hd : decide ((262144 : Int) < (s.size : Int)) = false := by simp; omega
  have q1 := fun W => eq_disk W D1 Y1 R1
  have qE1 : (E1 == E1) = true := by simp
  have qE2 : (E2 == E2) = true := by simp
  obtain ⟨l1, hl1⟩ : ∃ q, es1.length = q := ⟨_, rfl⟩
  obtain ⟨l2, hl2⟩ : ∃ q, es2.length = q := ⟨_, rfl⟩
  have HL1 := hidp hl1; have HL2 := hidp hl2; have H1 := hidp h1; have H2 := hidp h2
  clear hl1 hl2 h1 h2
  go_enter Try.func4, Try.ntmps4
  go_wp2_with fail
  have HX0d := hidp ((Below.refl w.heap.size w).alloc (Nat.le_refl _) (.cells #[.string s, .int .i64 y, .int .i64 r] 23))
  have Ad0d := hidp (Arr.new w 23 [.string s, .int .i64 y, .int .i64 r])
  obtain ⟨bd, hbd⟩ : ∃ b, w.heap.size = b := ⟨_, rfl⟩
  generalize hWW : (w.alloc (.cells #[.string s, .int .i64 y, .int .i64 r] 23)) = W0d at HX0d Ad0d ⊢
  rw [hbd] at Ad0d ⊢
  have hged : w.heap.size ≤ bd := by omega
  clear hWW hbd
  refine (c1.out _).mono ?_
  rintro e w1 ⟨vx, rfl, hv1, hb1⟩
  have HB1 := hidp (HX0d.out.trans (hb1.mono HX0d.out.size))
  have hle1 := HB1.out.size
  have Ad1 := hidp (Ad0d.out.below hb1 Ad0d.out.lt)
  have hltd := Ad1.out.lt
  have Ox1 := hidp hv1
  clear hb1 hv1
  obtain ⟨ax, cx, hex, -⟩ := Ox1.out.formS
  rw [HL1.out] at hex
  subst hex
  go_wp2_with fail
  have HX1a := hidp (HB1.out.alloc hle1 (.cells #[.slice ax l1 cx, .int .i64 C1] 33))
  have Ad1a := hidp (Ad1.out.alloc (.cells #[.slice ax l1 cx, .int .i64 C1] 33))
  have Ox1a := hidp (Ox1.out.alloc (.cells #[.slice ax l1 cx, .int .i64 C1] 33))
  have Aa1a := hidp (Arr.new w1 33 [.slice ax l1 cx, .int .i64 C1])
  obtain ⟨ba, hba⟩ : ∃ b, w1.heap.size = b := ⟨_, rfl⟩
  generalize hWW : (w1.alloc (.cells #[.slice ax l1 cx, .int .i64 C1] 33)) = W1a at HX1a Ad1a Ox1a Aa1a ⊢
  rw [hba] at Aa1a ⊢
  have hgea : w.heap.size ≤ ba := by rw [← hba]; exact hle1
  clear hWW hba
  refine (c2.out _).mono ?_
  rintro e w2 ⟨vz, rfl, hv2, hb2⟩
  have HB2 := hidp (HX1a.out.trans (hb2.mono HX1a.out.size))
  have hle2 := HB2.out.size
  have Ad2 := hidp (Ad1a.out.below hb2 Ad1a.out.lt)
  have hltd := Ad2.out.lt
  have Aa2 := hidp (Aa1a.out.below hb2 Aa1a.out.lt)
  have hlta := Aa2.out.lt
  have Ox2 := hidp (Ox1a.out.kept hb2 (Nat.le_refl _))
  have Oz2 := hidp hv2
  clear hb2 hv2
  obtain ⟨az, cz, hez, -⟩ := Oz2.out.formS
  rw [HL1.out] at hez
  subst hez
  obtain ⟨d0, d1, d2, df⟩ := arr3 Ad2.out
  clear df
  go_wp2_with fail
  clear d0 d1 d2
  have HX2b := hidp (HB2.out.alloc hle2 (.cells #[.slice az l1 cz, .int .i64 C1] 33))
  have Ad2b := hidp (Ad2.out.alloc (.cells #[.slice az l1 cz, .int .i64 C1] 33))
  have Aa2b := hidp (Aa2.out.alloc (.cells #[.slice az l1 cz, .int .i64 C1] 33))
  have Ox2b := hidp (Ox2.out.alloc (.cells #[.slice az l1 cz, .int .i64 C1] 33))
  have Oz2b := hidp (Oz2.out.alloc (.cells #[.slice az l1 cz, .int .i64 C1] 33))
  have Ab2b := hidp (Arr.new w2 33 [.slice az l1 cz, .int .i64 C1])
  obtain ⟨bb, hbb⟩ : ∃ b, w2.heap.size = b := ⟨_, rfl⟩
  generalize hWW : (w2.alloc (.cells #[.slice az l1 cz, .int .i64 C1] 33)) = W2b at HX2b Ad2b Aa2b Ox2b Oz2b Ab2b ⊢
  rw [hbb] at Ab2b ⊢
  have hgeb : w.heap.size ≤ bb := by rw [← hbb]; exact hle2
  clear hWW hbb
  refine (c3.out _).mono ?_
  rintro e w3 ⟨vu, rfl, hv3, hb3⟩
  have HB3 := hidp (HX2b.out.trans (hb3.mono HX2b.out.size))
  have hle3 := HB3.out.size
  have Ad3 := hidp (Ad2b.out.below hb3 Ad2b.out.lt)
  have hltd := Ad3.out.lt
  have Aa3 := hidp (Aa2b.out.below hb3 Aa2b.out.lt)
  have hlta := Aa3.out.lt
  have Ab3 := hidp (Ab2b.out.below hb3 Ab2b.out.lt)
  have hltb := Ab3.out.lt
  have Ox3 := hidp (Ox2b.out.kept hb3 (Nat.le_refl _))
  have Oz3 := hidp (Oz2b.out.kept hb3 (Nat.le_refl _))
  have Ou3 := hidp hv3
  clear hb3 hv3
  obtain ⟨au, cu, heu, -⟩ := Ou3.out.formS
  rw [HL2.out] at heu
  subst heu
  obtain ⟨d0, d1, d2, df⟩ := arr3 Ad3.out
  clear df
  go_wp2_with fail
  clear d0 d1 d2
  have HX3e := hidp ((HB3.out.alloc hle3 (.cells #[.string D1, .int .i64 Y1, .int .i64 R1] 23)).alloc ((HB3.out.alloc hle3 (.cells #[.string D1, .int .i64 Y1, .int .i64 R1] 23)).size) (.cells #[.slice au l2 cu, .int .i64 C2] 33))
  have Ad3e := hidp ((Ad3.out.alloc (.cells #[.string D1, .int .i64 Y1, .int .i64 R1] 23)).alloc (.cells #[.slice au l2 cu, .int .i64 C2] 33))
  have Aa3e := hidp ((Aa3.out.alloc (.cells #[.string D1, .int .i64 Y1, .int .i64 R1] 23)).alloc (.cells #[.slice au l2 cu, .int .i64 C2] 33))
  have Ab3e := hidp ((Ab3.out.alloc (.cells #[.string D1, .int .i64 Y1, .int .i64 R1] 23)).alloc (.cells #[.slice au l2 cu, .int .i64 C2] 33))
  have Ox3e := hidp ((Ox3.out.alloc (.cells #[.string D1, .int .i64 Y1, .int .i64 R1] 23)).alloc (.cells #[.slice au l2 cu, .int .i64 C2] 33))
  have Oz3e := hidp ((Oz3.out.alloc (.cells #[.string D1, .int .i64 Y1, .int .i64 R1] 23)).alloc (.cells #[.slice au l2 cu, .int .i64 C2] 33))
  have Ou3e := hidp ((Ou3.out.alloc (.cells #[.string D1, .int .i64 Y1, .int .i64 R1] 23)).alloc (.cells #[.slice au l2 cu, .int .i64 C2] 33))
  have Ae3e := hidp ((Arr.new w3 23 [.string D1, .int .i64 Y1, .int .i64 R1]).alloc (.cells #[.slice au l2 cu, .int .i64 C2] 33))
  have Ap3e := hidp (show Arr _ (w3.heap.size + 1) 33 [.slice au l2 cu, .int .i64 C2] from by
    have h := Arr.new (w3.alloc (.cells #[.string D1, .int .i64 Y1, .int .i64 R1] 23)) 33 [.slice au l2 cu, .int .i64 C2]
    rw [heap_size_alloc] at h
    exact h)
  obtain ⟨be, hbe⟩ : ∃ b, w3.heap.size = b := ⟨_, rfl⟩
  generalize hWW : ((w3.alloc (.cells #[.string D1, .int .i64 Y1, .int .i64 R1] 23)).alloc (.cells #[.slice au l2 cu, .int .i64 C2] 33)) = W3e at HX3e Ad3e Aa3e Ab3e Ox3e Oz3e Ou3e Ae3e Ap3e ⊢
  rw [hbe] at Ae3e Ap3e ⊢
  have hgee : w.heap.size ≤ be := by rw [← hbe]; exact hle3
  clear hWW hbe
  refine (c4.out _).mono ?_
  rintro e w4 ⟨vv, rfl, hv4, hb4⟩
  have HB4 := hidp (HX3e.out.trans (hb4.mono HX3e.out.size))
  have hle4 := HB4.out.size
  have Ad4 := hidp (Ad3e.out.below hb4 Ad3e.out.lt)
  have hltd := Ad4.out.lt
  have Aa4 := hidp (Aa3e.out.below hb4 Aa3e.out.lt)
  have hlta := Aa4.out.lt
  have Ab4 := hidp (Ab3e.out.below hb4 Ab3e.out.lt)
  have hltb := Ab4.out.lt
  have Ae4 := hidp (Ae3e.out.below hb4 Ae3e.out.lt)
  have hlte := Ae4.out.lt
  have Ap4 := hidp (Ap3e.out.below hb4 Ap3e.out.lt)
  have hltp := Ap4.out.lt
  have Ox4 := hidp (Ox3e.out.kept hb4 (Nat.le_refl _))
  have Oz4 := hidp (Oz3e.out.kept hb4 (Nat.le_refl _))
  have Ou4 := hidp (Ou3e.out.kept hb4 (Nat.le_refl _))
  have Ov4 := hidp hv4
  clear hb4 hv4
  obtain ⟨av, cv, hev, -⟩ := Ov4.out.formS
  rw [HL2.out] at hev
  subst hev
  go_wp2_with fail
  have HX4f := hidp ((HB4.out.alloc hle4 (.cells #[.string D1, .int .i64 Y1, .int .i64 R1] 23)).alloc ((HB4.out.alloc hle4 (.cells #[.string D1, .int .i64 Y1, .int .i64 R1] 23)).size) (.cells #[.slice av l2 cv, .int .i64 C2] 33))
  have Ad4f := hidp ((Ad4.out.alloc (.cells #[.string D1, .int .i64 Y1, .int .i64 R1] 23)).alloc (.cells #[.slice av l2 cv, .int .i64 C2] 33))
  have Aa4f := hidp ((Aa4.out.alloc (.cells #[.string D1, .int .i64 Y1, .int .i64 R1] 23)).alloc (.cells #[.slice av l2 cv, .int .i64 C2] 33))
  have Ab4f := hidp ((Ab4.out.alloc (.cells #[.string D1, .int .i64 Y1, .int .i64 R1] 23)).alloc (.cells #[.slice av l2 cv, .int .i64 C2] 33))
  have Ae4f := hidp ((Ae4.out.alloc (.cells #[.string D1, .int .i64 Y1, .int .i64 R1] 23)).alloc (.cells #[.slice av l2 cv, .int .i64 C2] 33))
  have Ap4f := hidp ((Ap4.out.alloc (.cells #[.string D1, .int .i64 Y1, .int .i64 R1] 23)).alloc (.cells #[.slice av l2 cv, .int .i64 C2] 33))
  have Ox4f := hidp ((Ox4.out.alloc (.cells #[.string D1, .int .i64 Y1, .int .i64 R1] 23)).alloc (.cells #[.slice av l2 cv, .int .i64 C2] 33))
  have Oz4f := hidp ((Oz4.out.alloc (.cells #[.string D1, .int .i64 Y1, .int .i64 R1] 23)).alloc (.cells #[.slice av l2 cv, .int .i64 C2] 33))
  have Ou4f := hidp ((Ou4.out.alloc (.cells #[.string D1, .int .i64 Y1, .int .i64 R1] 23)).alloc (.cells #[.slice av l2 cv, .int .i64 C2] 33))
  have Ov4f := hidp ((Ov4.out.alloc (.cells #[.string D1, .int .i64 Y1, .int .i64 R1] 23)).alloc (.cells #[.slice av l2 cv, .int .i64 C2] 33))
  have Af4f := hidp ((Arr.new w4 23 [.string D1, .int .i64 Y1, .int .i64 R1]).alloc (.cells #[.slice av l2 cv, .int .i64 C2] 33))
  have Aq4f := hidp (show Arr _ (w4.heap.size + 1) 33 [.slice av l2 cv, .int .i64 C2] from by
    have h := Arr.new (w4.alloc (.cells #[.string D1, .int .i64 Y1, .int .i64 R1] 23)) 33 [.slice av l2 cv, .int .i64 C2]
    rw [heap_size_alloc] at h
    exact h)
  obtain ⟨bf, hbf⟩ : ∃ b, w4.heap.size = b := ⟨_, rfl⟩
  generalize hWW : ((w4.alloc (.cells #[.string D1, .int .i64 Y1, .int .i64 R1] 23)).alloc (.cells #[.slice av l2 cv, .int .i64 C2] 33)) = W4f at HX4f Ad4f Aa4f Ab4f Ae4f Ap4f Ox4f Oz4f Ou4f Ov4f Af4f Aq4f ⊢
  rw [hbf] at Af4f Aq4f ⊢
  have hgef : w.heap.size ≤ bf := by rw [← hbf]; exact hle4
  clear hWW hbf
  refine (c0.out _).mono ?_
  rintro e w5 ⟨rfl, hb5⟩
  have HB5 := hidp (HX4f.out.trans (hb5.mono HX4f.out.size))
  have hle5 := HB5.out.size
  have Ad5 := hidp (Ad4f.out.below hb5 Ad4f.out.lt)
  have hltd := Ad5.out.lt
  have Aa5 := hidp (Aa4f.out.below hb5 Aa4f.out.lt)
  have hlta := Aa5.out.lt
  have Ab5 := hidp (Ab4f.out.below hb5 Ab4f.out.lt)
  have hltb := Ab5.out.lt
  have Ae5 := hidp (Ae4f.out.below hb5 Ae4f.out.lt)
  have hlte := Ae5.out.lt
  have Ap5 := hidp (Ap4f.out.below hb5 Ap4f.out.lt)
  have hltp := Ap5.out.lt
  have Af5 := hidp (Af4f.out.below hb5 Af4f.out.lt)
  have hltf := Af5.out.lt
  have Aq5 := hidp (Aq4f.out.below hb5 Aq4f.out.lt)
  have hltq := Aq5.out.lt
  have Ox5 := hidp (Ox4f.out.kept hb5 (Nat.le_refl _))
  have Oz5 := hidp (Oz4f.out.kept hb5 (Nat.le_refl _))
  have Ou5 := hidp (Ou4f.out.kept hb5 (Nat.le_refl _))
  have Ov5 := hidp (Ov4f.out.kept hb5 (Nat.le_refl _))
  clear hb5
  obtain ⟨pa0, pa1, paf⟩ := arr2 Aa5.out
  clear paf
  obtain ⟨pb0, pb1, pbf⟩ := arr2 Ab5.out
  clear pbf
  go_wp2_with fail
  clear pa0 pa1 pb0 pb1
  have HS1 := hidp (rsame10_any w5 _ _ _ _ _ _ es1 C1 (OwnV.strs Ox5.out) (OwnV.strs Oz5.out) H1.out)
  refine (HS1.out).mono ?_
  rintro e w6 ⟨rfl, hb6⟩
  have HB6 := hidp (HB5.out.trans (hb6.mono HB5.out.size))
  have hle6 := HB6.out.size
  have Ad6 := hidp (Ad5.out.below hb6 Ad5.out.lt)
  have hltd := Ad6.out.lt
  have Aa6 := hidp (Aa5.out.below hb6 Aa5.out.lt)
  have hlta := Aa6.out.lt
  have Ab6 := hidp (Ab5.out.below hb6 Ab5.out.lt)
  have hltb := Ab6.out.lt
  have Ae6 := hidp (Ae5.out.below hb6 Ae5.out.lt)
  have hlte := Ae6.out.lt
  have Ap6 := hidp (Ap5.out.below hb6 Ap5.out.lt)
  have hltp := Ap6.out.lt
  have Af6 := hidp (Af5.out.below hb6 Af5.out.lt)
  have hltf := Af6.out.lt
  have Aq6 := hidp (Aq5.out.below hb6 Aq5.out.lt)
  have hltq := Aq6.out.lt
  have Ox6 := hidp (Ox5.out.kept hb6 (Nat.le_refl _))
  have Oz6 := hidp (Oz5.out.kept hb6 (Nat.le_refl _))
  have Ou6 := hidp (Ou5.out.kept hb6 (Nat.le_refl _))
  have Ov6 := hidp (Ov5.out.kept hb6 (Nat.le_refl _))
  clear hb6
  obtain ⟨pe0, pe1, pe2, pef⟩ := arr3 Ae6.out
  clear pef
  obtain ⟨pf0, pf1, pf2, pff⟩ := arr3 Af6.out
  clear pff
  obtain ⟨pp0, pp1, ppf⟩ := arr2 Ap6.out
  clear ppf
  obtain ⟨pq0, pq1, pqf⟩ := arr2 Aq6.out
  clear pqf
  go_wp2_with fail
  clear pe0 pe1 pe2 pf0 pf1 pf2 pp0 pp1 pq0 pq1
  have HS2 := hidp (rsame10_any w6 _ _ _ _ _ _ es2 C2 (OwnV.strs Ou6.out) (OwnV.strs Ov6.out) H2.out)
  refine (HS2.out).mono ?_
  rintro e w7 ⟨rfl, hb7⟩
  have HB7 := hidp (HB6.out.trans (hb7.mono HB6.out.size))
  have hle7 := HB7.out.size
  have Ad7 := hidp (Ad6.out.below hb7 Ad6.out.lt)
  have hltd := Ad7.out.lt
  have Aa7 := hidp (Aa6.out.below hb7 Aa6.out.lt)
  have hlta := Aa7.out.lt
  have Ab7 := hidp (Ab6.out.below hb7 Ab6.out.lt)
  have hltb := Ab7.out.lt
  have Ae7 := hidp (Ae6.out.below hb7 Ae6.out.lt)
  have hlte := Ae7.out.lt
  have Ap7 := hidp (Ap6.out.below hb7 Ap6.out.lt)
  have hltp := Ap7.out.lt
  have Af7 := hidp (Af6.out.below hb7 Af6.out.lt)
  have hltf := Af7.out.lt
  have Aq7 := hidp (Aq6.out.below hb7 Aq6.out.lt)
  have hltq := Aq7.out.lt
  have Ox7 := hidp (Ox6.out.kept hb7 (Nat.le_refl _))
  have Oz7 := hidp (Oz6.out.kept hb7 (Nat.le_refl _))
  have Ou7 := hidp (Ou6.out.kept hb7 (Nat.le_refl _))
  have Ov7 := hidp (Ov6.out.kept hb7 (Nat.le_refl _))
  clear hb7
  go_wp2_with fail
  go_ret
  exact ⟨rfl, HB7.out⟩

theorem walk_storeLoads (w : World) (x : ByteArray) (hxs : x.size ≤ 140737488351232) (s : ByteArray) (y r : Int) (hy : (Lit.int .i64 y).wf = true) (hr : (Lit.int .i64 r).wf = true) :
    Calls Try.prog 4 #[.string x, .agg #[.string s, .int .i64 y, .int .i64 r]] w fun e w' => e = .returned (.bool true) ∧ Below w.heap.size w w' := by
  by_cases hx : x.size ≤ 262144
  · by_cases h18 : s.size ≤ 262144
    · have hln : (ld (rdT x.data.toList)).1.length ≤ 140737488351232 := by
        have h1 := (ld_bd (rdT x.data.toList)).1
        have h2 := rcs_len x; have h3 := rcs_count x
        omega
      by_cases h : okD s y r
      · obtain ⟨⟨es, c, e0⟩, hR⟩ : ∃ R, ld (rdT s.data.toList) = R := ⟨_, rfl⟩
        by_cases he : e0 = 0
        · subst he
          have hes : es.length ≤ 140737488351232 := by
            have h1 := (ld_bd (rdT s.data.toList)).1
            rw [hR] at h1
            have h2 := rcs_len s; have h3 := rcs_count s
            simp only at h1; omega
          exact loads_walk w x s y r hx h18 _ _ _ _ _ _ _ _ es hln hes (hidp fun W => load_any W x (by omega)) (hidp fun W => rload_any W x (by omega)) (hidp fun W => rst_ok W s y r h es c hR) (hidp fun W => rrst_ok W s y r h es c hR)
        · exact loads_walk w x s y r hx h18 _ _ _ _ _ 0 _ _ [] hln (by simp) (hidp fun W => load_any W x (by omega)) (hidp fun W => rload_any W x (by omega)) (hidp fun W => (rst_bad W s y r h es c e0 hR he).mono fun e w' ⟨h1, h2⟩ => ⟨_, h1, OwnV.nil _ _ _, h2⟩) (hidp fun W => (rrst_bad W s y r h es c e0 hR he).mono fun e w' ⟨h1, h2⟩ => ⟨_, h1, OwnV.nil _ _ _, h2⟩)
      · exact loads_walk w x s y r hx h18 _ _ _ _ _ 0 _ _ [] hln (by simp) (hidp fun W => load_any W x (by omega)) (hidp fun W => rload_any W x (by omega)) (hidp fun W => (rst_no W s y r h).mono fun e w' ⟨h1, h2⟩ => ⟨_, h1, OwnV.nil _ _ _, h2⟩) (hidp fun W => (rrst_no W s y r h).mono fun e w' ⟨h1, h2⟩ => ⟨_, h1, OwnV.nil _ _ _, h2⟩)
    · have c0 := hidp lives10_any
      have hd1 : decide ((262144 : Int) < (x.size : Int)) = false := by simp; omega
      have hd : decide ((262144 : Int) < (s.size : Int)) = true := by simp; omega
      go_enter Try.func4, Try.ntmps4
      go_wp2_with fail
      refine (c0.out _).mono ?_
      rintro e w1 ⟨rfl, hb1⟩
      have HB1 := hidp (((Below.refl _ w).alloc (Nat.le_refl _) (.cells #[.string s, .int .i64 y, .int .i64 r] 23)).trans (hb1.mono (by simp))); clear hb1
      go_wp2_with fail
      go_ret
      exact ⟨rfl, HB1.out⟩
  · have c0 := hidp lives10_any
    have hd1 : decide ((262144 : Int) < (x.size : Int)) = true := by simp; omega
    go_enter Try.func4, Try.ntmps4
    go_wp2_with fail
    refine (c0.out _).mono ?_
    rintro e w1 ⟨rfl, hb1⟩
    have HB1 := hidp (((Below.refl _ w).alloc (Nat.le_refl _) (.cells #[.string s, .int .i64 y, .int .i64 r] 23)).trans (hb1.mono (by simp))); clear hb1
    go_wp2_with fail
    go_ret
    exact ⟨rfl, HB1.out⟩
end Go.Proofs.Ytglfdenlgglccaa
