/-
  The walks of DiskFails and DiskWrites.
-/
import Derived.Test.YtibipoecbcjcmaaDskE
import Derived.Test.YtibipoecbcjcmaaDskR
namespace Go.Proofs.Ytibipoecbcjcmaa
set_option maxRecDepth 100000
set_option linter.unusedVariables false
set_option linter.unusedSimpArgs false
open Go.RowKit

set_option maxHeartbeats 8000000 in
theorem fails_walk (w : World) (s : ByteArray) (y r k b : Int) (D : ByteArray) (Y R E : Int)
    (c1 : Hid (∀ W, Calls Try.prog 28 #[.agg #[.string s, .int .i64 y, .int .i64 r], .int .i64 k, .int .u8 b] W fun e w' => e = .returned (.tuple #[.agg #[.string D, .int .i64 Y, .int .i64 R], .int .i64 E]) ∧ Below W.heap.size W w'))
    (c2 : Hid (∀ W, Calls Try.prog 29 #[.agg #[.string s, .int .i64 y, .int .i64 r], .int .i64 k, .int .u8 b] W fun e w' => e = .returned (.tuple #[.agg #[.string D, .int .i64 Y, .int .i64 R], .int .i64 E]) ∧ Below W.heap.size W w')) :
    Calls Try.prog 8 #[.agg #[.string s, .int .i64 y, .int .i64 r], .int .i64 k, .int .u8 b] w fun e w' => e = .returned (.bool true) ∧ Below w.heap.size w w' := by
  have c0 := hidp lives8_any
  have q1 := fun W => eq_disk W D Y R
  have qE : (E == E) = true := by simp
  go_enter Try.func8, Try.ntmps8
  go_wp2_with fail
  have HX0 := hidp ((Below.refl w.heap.size w).alloc (Nat.le_refl _) (.cells #[.string s, .int .i64 y, .int .i64 r] 32))
  have Gd0 := hidp (Arr.new w 32 [.string s, .int .i64 y, .int .i64 r])
  generalize hW0 : (w.alloc (.cells #[.string s, .int .i64 y, .int .i64 r] 32)) = W0 at HX0 Gd0 ⊢
  clear hW0
  refine (c1.out _).mono ?_
  rintro e w1 ⟨rfl, hb1⟩
  have HB1 := hidp (HX0.out.trans (hb1.mono HX0.out.size))
  have hle1 := HB1.out.size
  have Hd1 := hidp (Gd0.out.below hb1 Gd0.out.lt)
  have hltd := Hd1.out.lt
  clear hb1
  obtain ⟨x0, x1, x2, xf⟩ := arr3 Hd1.out
  clear xf
  go_wp2_with fail
  clear x0 x1 x2
  have HX1 := hidp (HB1.out.alloc hle1 (.cells #[.string D, .int .i64 Y, .int .i64 R] 32))
  have Ga1 := hidp (Arr.new w1 32 [.string D, .int .i64 Y, .int .i64 R])
  generalize hW1 : (w1.alloc (.cells #[.string D, .int .i64 Y, .int .i64 R] 32)) = W1 at HX1 Ga1 ⊢
  clear hW1
  refine (c2.out _).mono ?_
  rintro e w2 ⟨rfl, hb2⟩
  have HB2 := hidp (HX1.out.trans (hb2.mono HX1.out.size))
  have hle2 := HB2.out.size
  have Ha2 := hidp (Ga1.out.below hb2 Ga1.out.lt)
  have hlta := Ha2.out.lt
  clear hb2
  go_wp2_with fail
  have HX2 := hidp (HB2.out.alloc hle2 (.cells #[.string D, .int .i64 Y, .int .i64 R] 32))
  have Ga2 := hidp (Ha2.out.alloc (.cells #[.string D, .int .i64 Y, .int .i64 R] 32))
  have Gb2 := hidp (Arr.new w2 32 [.string D, .int .i64 Y, .int .i64 R])
  generalize hW2 : (w2.alloc (.cells #[.string D, .int .i64 Y, .int .i64 R] 32)) = W2 at HX2 Ga2 Gb2 ⊢
  clear hW2
  refine (c0.out _).mono ?_
  rintro e w3 ⟨rfl, hb3⟩
  have HB3 := hidp (HX2.out.trans (hb3.mono HX2.out.size))
  have Ha3 := hidp (Ga2.out.below hb3 Ga2.out.lt)
  have Hb3 := hidp (Gb2.out.below hb3 Gb2.out.lt)
  clear hb3
  obtain ⟨x0, x1, x2, xf⟩ := arr3 Ha3.out
  obtain ⟨y0, y1, y2, yf⟩ := arr3 Hb3.out
  clear xf yf
  go_wp2_with fail
  go_ret
  exact ⟨rfl, HB3.out⟩
theorem walk_diskFails (w : World) (s : ByteArray) (y r : Int) (hy : (Lit.int .i64 y).wf = true) (hr : (Lit.int .i64 r).wf = true) (k : Int) (hk : (Lit.int .i64 k).wf = true) (b : Int) (hb : (Lit.int .u8 b).wf = true) :
    Calls Try.prog 8 #[.agg #[.string s, .int .i64 y, .int .i64 r], .int .i64 k, .int .u8 b] w fun e w' => e = .returned (.bool true) ∧ Below w.heap.size w w' := by
  by_cases h : okD s y r
  · obtain ⟨n, rfl⟩ : ∃ n : Nat, y = n := ⟨y.toNat, by have := h.1; omega⟩
    have hbb : 0 ≤ b ∧ b ≤ 255 := by simpa [Lit.wf, IntKind.min, IntKind.max, IntKind.signed, IntKind.bits] using hb
    obtain ⟨c, rfl⟩ : ∃ c : UInt8, b = c.toNat := ⟨UInt8.ofNat b.toNat, by rw [u8n _ (by omega)]; omega⟩
    exact fails_walk w s n r k c.toNat _ _ _ _ (hidp fun W => fail_ok W s n r k c h) (hidp fun W => rfail_ok W s n r k c h)
  · exact fails_walk w s y r k b _ _ _ _ (hidp fun W => fail_no W s y r k b h) (hidp fun W => rfail_no W s y r k b h)

set_option maxHeartbeats 16000000 in
theorem writes_walk (w : World) (s : ByteArray) (y r : Int) (t : ByteArray) (room : Int) (D1 D2 D3 D4 : ByteArray) (Y1 R1 E1 Y2 R2 E2 Y3 R3 E3 Y4 R4 E4 E0 : Int)
    (c1 : Hid (∀ W, Calls Try.prog 17 #[.agg #[.string s, .int .i64 y, .int .i64 r], .string t] W fun e w' => e = .returned (.tuple #[.agg #[.string D1, .int .i64 Y1, .int .i64 R1], .int .i64 E1]) ∧ Below W.heap.size W w'))
    (c2 : Hid (∀ W, Calls Try.prog 18 #[.agg #[.string s, .int .i64 y, .int .i64 r], .string t] W fun e w' => e = .returned (.tuple #[.agg #[.string D1, .int .i64 Y1, .int .i64 R1], .int .i64 E1]) ∧ Below W.heap.size W w'))
    (c3 : Hid (∀ W, Calls Try.prog 19 #[.agg #[.string s, .int .i64 y, .int .i64 r]] W fun e w' => e = .returned (.tuple #[.agg #[.string D2, .int .i64 Y2, .int .i64 R2], .int .i64 E2]) ∧ Below W.heap.size W w'))
    (c4 : Hid (∀ W, Calls Try.prog 20 #[.agg #[.string s, .int .i64 y, .int .i64 r]] W fun e w' => e = .returned (.tuple #[.agg #[.string D2, .int .i64 Y2, .int .i64 R2], .int .i64 E2]) ∧ Below W.heap.size W w'))
    (c5 : Hid (∀ W, Calls Try.prog 21 #[.agg #[.string s, .int .i64 y, .int .i64 r], .string t] W fun e w' => e = .returned (.tuple #[.agg #[.string D3, .int .i64 Y3, .int .i64 R3], .int .i64 E3]) ∧ Below W.heap.size W w'))
    (c6 : Hid (∀ W, Calls Try.prog 22 #[.agg #[.string s, .int .i64 y, .int .i64 r], .string t] W fun e w' => e = .returned (.tuple #[.agg #[.string D3, .int .i64 Y3, .int .i64 R3], .int .i64 E3]) ∧ Below W.heap.size W w'))
    (c7 : Hid (∀ W, Calls Try.prog 23 #[.int .i64 room] W fun e w' => e = .returned (.tuple #[.agg #[.string D4, .int .i64 Y4, .int .i64 R4], .int .i64 E4]) ∧ Below W.heap.size W w'))
    (c8 : Hid (∀ W, Calls Try.prog 24 #[.int .i64 room] W fun e w' => e = .returned (.tuple #[.agg #[.string D4, .int .i64 Y4, .int .i64 R4], .int .i64 E4]) ∧ Below W.heap.size W w'))
    (k1 : Hid (∀ W, Calls Try.prog 26 #[.agg #[.string s, .int .i64 y, .int .i64 r]] W fun e w' => e = .returned (.int .i64 E0) ∧ Below W.heap.size W w'))
    (k2 : Hid (∀ W, Calls Try.prog 27 #[.agg #[.string s, .int .i64 y, .int .i64 r]] W fun e w' => e = .returned (.int .i64 E0) ∧ Below W.heap.size W w')) :
    Calls Try.prog 7 #[.agg #[.string s, .int .i64 y, .int .i64 r], .string t, .int .i64 room] w fun e w' => e = .returned (.bool true) ∧ Below w.heap.size w w' := by
  have c0 := hidp lives8_any
  go_enter Try.func7, Try.ntmps7
  go_wp2_with fail
  have HX0 := hidp ((Below.refl w.heap.size w).alloc (Nat.le_refl _) (.cells #[.string s, .int .i64 y, .int .i64 r] 32))
  have Gd0 := hidp (Arr.new w 32 [.string s, .int .i64 y, .int .i64 r])
  generalize hW0 : (w.alloc (.cells #[.string s, .int .i64 y, .int .i64 r] 32)) = W0 at HX0 Gd0 ⊢
  clear hW0
  refine (c1.out _).mono ?_
  rintro e w1 ⟨rfl, hb1⟩
  have HB1 := hidp (HX0.out.trans (hb1.mono HX0.out.size))
  have hle1 := HB1.out.size
  have Hd1 := hidp (Gd0.out.below hb1 Gd0.out.lt)
  clear hb1
  have hltd1 := Hd1.out.lt
  obtain ⟨x0, x1, x2, xf⟩ := arr3 Hd1.out
  clear xf
  go_wp2_with fail
  clear x0 x1 x2 hltd1
  have HX1 := hidp (HB1.out.alloc hle1 (.cells #[.string D1, .int .i64 Y1, .int .i64 R1] 32))
  have Gd1 := hidp (Hd1.out.alloc (.cells #[.string D1, .int .i64 Y1, .int .i64 R1] 32))
  have Gv11 := hidp (Arr.new w1 32 [.string D1, .int .i64 Y1, .int .i64 R1])
  generalize hW1 : (w1.alloc (.cells #[.string D1, .int .i64 Y1, .int .i64 R1] 32)) = W1 at HX1 Gd1 Gv11 ⊢
  clear hW1 Gd0 Hd1 HX0 HB1
  refine (c2.out _).mono ?_
  rintro e w2 ⟨rfl, hb2⟩
  have HB2 := hidp (HX1.out.trans (hb2.mono HX1.out.size))
  have hle2 := HB2.out.size
  have Hd2 := hidp (Gd1.out.below hb2 Gd1.out.lt)
  have Hv12 := hidp (Gv11.out.below hb2 Gv11.out.lt)
  clear hb2
  have hltd2 := Hd2.out.lt
  obtain ⟨x0, x1, x2, xf⟩ := arr3 Hd2.out
  clear xf
  go_wp2_with fail
  clear x0 x1 x2 hltd2
  have HX2 := hidp (HB2.out.alloc hle2 (.cells #[.string D1, .int .i64 Y1, .int .i64 R1] 32))
  have Gd2 := hidp (Hd2.out.alloc (.cells #[.string D1, .int .i64 Y1, .int .i64 R1] 32))
  have Gv12 := hidp (Hv12.out.alloc (.cells #[.string D1, .int .i64 Y1, .int .i64 R1] 32))
  have Gv22 := hidp (Arr.new w2 32 [.string D1, .int .i64 Y1, .int .i64 R1])
  generalize hW2 : (w2.alloc (.cells #[.string D1, .int .i64 Y1, .int .i64 R1] 32)) = W2 at HX2 Gd2 Gv12 Gv22 ⊢
  clear hW2 Gd1 Hd2 Gv11 Hv12 HX1 HB2
  refine (c3.out _).mono ?_
  rintro e w3 ⟨rfl, hb3⟩
  have HB3 := hidp (HX2.out.trans (hb3.mono HX2.out.size))
  have hle3 := HB3.out.size
  have Hd3 := hidp (Gd2.out.below hb3 Gd2.out.lt)
  have Hv13 := hidp (Gv12.out.below hb3 Gv12.out.lt)
  have Hv23 := hidp (Gv22.out.below hb3 Gv22.out.lt)
  clear hb3
  have hltd3 := Hd3.out.lt
  obtain ⟨x0, x1, x2, xf⟩ := arr3 Hd3.out
  clear xf
  go_wp2_with fail
  clear x0 x1 x2 hltd3
  have HX3 := hidp (HB3.out.alloc hle3 (.cells #[.string D2, .int .i64 Y2, .int .i64 R2] 32))
  have Gd3 := hidp (Hd3.out.alloc (.cells #[.string D2, .int .i64 Y2, .int .i64 R2] 32))
  have Gv13 := hidp (Hv13.out.alloc (.cells #[.string D2, .int .i64 Y2, .int .i64 R2] 32))
  have Gv23 := hidp (Hv23.out.alloc (.cells #[.string D2, .int .i64 Y2, .int .i64 R2] 32))
  have Gv33 := hidp (Arr.new w3 32 [.string D2, .int .i64 Y2, .int .i64 R2])
  generalize hW3 : (w3.alloc (.cells #[.string D2, .int .i64 Y2, .int .i64 R2] 32)) = W3 at HX3 Gd3 Gv13 Gv23 Gv33 ⊢
  clear hW3 Gd2 Hd3 Gv12 Hv13 Gv22 Hv23 HX2 HB3
  refine (c4.out _).mono ?_
  rintro e w4 ⟨rfl, hb4⟩
  have HB4 := hidp (HX3.out.trans (hb4.mono HX3.out.size))
  have hle4 := HB4.out.size
  have Hd4 := hidp (Gd3.out.below hb4 Gd3.out.lt)
  have Hv14 := hidp (Gv13.out.below hb4 Gv13.out.lt)
  have Hv24 := hidp (Gv23.out.below hb4 Gv23.out.lt)
  have Hv34 := hidp (Gv33.out.below hb4 Gv33.out.lt)
  clear hb4
  have hltd4 := Hd4.out.lt
  obtain ⟨x0, x1, x2, xf⟩ := arr3 Hd4.out
  clear xf
  go_wp2_with fail
  clear x0 x1 x2 hltd4
  have HX4 := hidp (HB4.out.alloc hle4 (.cells #[.string D2, .int .i64 Y2, .int .i64 R2] 32))
  have Gd4 := hidp (Hd4.out.alloc (.cells #[.string D2, .int .i64 Y2, .int .i64 R2] 32))
  have Gv14 := hidp (Hv14.out.alloc (.cells #[.string D2, .int .i64 Y2, .int .i64 R2] 32))
  have Gv24 := hidp (Hv24.out.alloc (.cells #[.string D2, .int .i64 Y2, .int .i64 R2] 32))
  have Gv34 := hidp (Hv34.out.alloc (.cells #[.string D2, .int .i64 Y2, .int .i64 R2] 32))
  have Gv44 := hidp (Arr.new w4 32 [.string D2, .int .i64 Y2, .int .i64 R2])
  generalize hW4 : (w4.alloc (.cells #[.string D2, .int .i64 Y2, .int .i64 R2] 32)) = W4 at HX4 Gd4 Gv14 Gv24 Gv34 Gv44 ⊢
  clear hW4 Gd3 Hd4 Gv13 Hv14 Gv23 Hv24 Gv33 Hv34 HX3 HB4
  refine (c5.out _).mono ?_
  rintro e w5 ⟨rfl, hb5⟩
  have HB5 := hidp (HX4.out.trans (hb5.mono HX4.out.size))
  have hle5 := HB5.out.size
  have Hd5 := hidp (Gd4.out.below hb5 Gd4.out.lt)
  have Hv15 := hidp (Gv14.out.below hb5 Gv14.out.lt)
  have Hv25 := hidp (Gv24.out.below hb5 Gv24.out.lt)
  have Hv35 := hidp (Gv34.out.below hb5 Gv34.out.lt)
  have Hv45 := hidp (Gv44.out.below hb5 Gv44.out.lt)
  clear hb5
  have hltd5 := Hd5.out.lt
  obtain ⟨x0, x1, x2, xf⟩ := arr3 Hd5.out
  clear xf
  go_wp2_with fail
  clear x0 x1 x2 hltd5
  have HX5 := hidp (HB5.out.alloc hle5 (.cells #[.string D3, .int .i64 Y3, .int .i64 R3] 32))
  have Gd5 := hidp (Hd5.out.alloc (.cells #[.string D3, .int .i64 Y3, .int .i64 R3] 32))
  have Gv15 := hidp (Hv15.out.alloc (.cells #[.string D3, .int .i64 Y3, .int .i64 R3] 32))
  have Gv25 := hidp (Hv25.out.alloc (.cells #[.string D3, .int .i64 Y3, .int .i64 R3] 32))
  have Gv35 := hidp (Hv35.out.alloc (.cells #[.string D3, .int .i64 Y3, .int .i64 R3] 32))
  have Gv45 := hidp (Hv45.out.alloc (.cells #[.string D3, .int .i64 Y3, .int .i64 R3] 32))
  have Gv55 := hidp (Arr.new w5 32 [.string D3, .int .i64 Y3, .int .i64 R3])
  generalize hW5 : (w5.alloc (.cells #[.string D3, .int .i64 Y3, .int .i64 R3] 32)) = W5 at HX5 Gd5 Gv15 Gv25 Gv35 Gv45 Gv55 ⊢
  clear hW5 Gd4 Hd5 Gv14 Hv15 Gv24 Hv25 Gv34 Hv35 Gv44 Hv45 HX4 HB5
  refine (c6.out _).mono ?_
  rintro e w6 ⟨rfl, hb6⟩
  have HB6 := hidp (HX5.out.trans (hb6.mono HX5.out.size))
  have hle6 := HB6.out.size
  have Hd6 := hidp (Gd5.out.below hb6 Gd5.out.lt)
  have Hv16 := hidp (Gv15.out.below hb6 Gv15.out.lt)
  have Hv26 := hidp (Gv25.out.below hb6 Gv25.out.lt)
  have Hv36 := hidp (Gv35.out.below hb6 Gv35.out.lt)
  have Hv46 := hidp (Gv45.out.below hb6 Gv45.out.lt)
  have Hv56 := hidp (Gv55.out.below hb6 Gv55.out.lt)
  clear hb6
  have hltd6 := Hd6.out.lt
  obtain ⟨x0, x1, x2, xf⟩ := arr3 Hd6.out
  clear xf
  go_wp2_with fail
  clear x0 x1 x2 hltd6
  have HX6 := hidp (HB6.out.alloc hle6 (.cells #[.string D3, .int .i64 Y3, .int .i64 R3] 32))
  have Gd6 := hidp (Hd6.out.alloc (.cells #[.string D3, .int .i64 Y3, .int .i64 R3] 32))
  have Gv16 := hidp (Hv16.out.alloc (.cells #[.string D3, .int .i64 Y3, .int .i64 R3] 32))
  have Gv26 := hidp (Hv26.out.alloc (.cells #[.string D3, .int .i64 Y3, .int .i64 R3] 32))
  have Gv36 := hidp (Hv36.out.alloc (.cells #[.string D3, .int .i64 Y3, .int .i64 R3] 32))
  have Gv46 := hidp (Hv46.out.alloc (.cells #[.string D3, .int .i64 Y3, .int .i64 R3] 32))
  have Gv56 := hidp (Hv56.out.alloc (.cells #[.string D3, .int .i64 Y3, .int .i64 R3] 32))
  have Gv66 := hidp (Arr.new w6 32 [.string D3, .int .i64 Y3, .int .i64 R3])
  generalize hW6 : (w6.alloc (.cells #[.string D3, .int .i64 Y3, .int .i64 R3] 32)) = W6 at HX6 Gd6 Gv16 Gv26 Gv36 Gv46 Gv56 Gv66 ⊢
  clear hW6 Gd5 Hd6 Gv15 Hv16 Gv25 Hv26 Gv35 Hv36 Gv45 Hv46 Gv55 Hv56 HX5 HB6
  refine (c7.out _).mono ?_
  rintro e w7 ⟨rfl, hb7⟩
  have HB7 := hidp (HX6.out.trans (hb7.mono HX6.out.size))
  have hle7 := HB7.out.size
  have Hd7 := hidp (Gd6.out.below hb7 Gd6.out.lt)
  have Hv17 := hidp (Gv16.out.below hb7 Gv16.out.lt)
  have Hv27 := hidp (Gv26.out.below hb7 Gv26.out.lt)
  have Hv37 := hidp (Gv36.out.below hb7 Gv36.out.lt)
  have Hv47 := hidp (Gv46.out.below hb7 Gv46.out.lt)
  have Hv57 := hidp (Gv56.out.below hb7 Gv56.out.lt)
  have Hv67 := hidp (Gv66.out.below hb7 Gv66.out.lt)
  clear hb7
  have hltd7 := Hd7.out.lt
  obtain ⟨x0, x1, x2, xf⟩ := arr3 Hd7.out
  clear xf
  go_wp2_with fail
  clear x0 x1 x2 hltd7
  have HX7 := hidp (HB7.out.alloc hle7 (.cells #[.string D4, .int .i64 Y4, .int .i64 R4] 32))
  have Gd7 := hidp (Hd7.out.alloc (.cells #[.string D4, .int .i64 Y4, .int .i64 R4] 32))
  have Gv17 := hidp (Hv17.out.alloc (.cells #[.string D4, .int .i64 Y4, .int .i64 R4] 32))
  have Gv27 := hidp (Hv27.out.alloc (.cells #[.string D4, .int .i64 Y4, .int .i64 R4] 32))
  have Gv37 := hidp (Hv37.out.alloc (.cells #[.string D4, .int .i64 Y4, .int .i64 R4] 32))
  have Gv47 := hidp (Hv47.out.alloc (.cells #[.string D4, .int .i64 Y4, .int .i64 R4] 32))
  have Gv57 := hidp (Hv57.out.alloc (.cells #[.string D4, .int .i64 Y4, .int .i64 R4] 32))
  have Gv67 := hidp (Hv67.out.alloc (.cells #[.string D4, .int .i64 Y4, .int .i64 R4] 32))
  have Gv77 := hidp (Arr.new w7 32 [.string D4, .int .i64 Y4, .int .i64 R4])
  generalize hW7 : (w7.alloc (.cells #[.string D4, .int .i64 Y4, .int .i64 R4] 32)) = W7 at HX7 Gd7 Gv17 Gv27 Gv37 Gv47 Gv57 Gv67 Gv77 ⊢
  clear hW7 Gd6 Hd7 Gv16 Hv17 Gv26 Hv27 Gv36 Hv37 Gv46 Hv47 Gv56 Hv57 Gv66 Hv67 HX6 HB7
  refine (c8.out _).mono ?_
  rintro e w8 ⟨rfl, hb8⟩
  have HB8 := hidp (HX7.out.trans (hb8.mono HX7.out.size))
  have hle8 := HB8.out.size
  have Hd8 := hidp (Gd7.out.below hb8 Gd7.out.lt)
  have Hv18 := hidp (Gv17.out.below hb8 Gv17.out.lt)
  have Hv28 := hidp (Gv27.out.below hb8 Gv27.out.lt)
  have Hv38 := hidp (Gv37.out.below hb8 Gv37.out.lt)
  have Hv48 := hidp (Gv47.out.below hb8 Gv47.out.lt)
  have Hv58 := hidp (Gv57.out.below hb8 Gv57.out.lt)
  have Hv68 := hidp (Gv67.out.below hb8 Gv67.out.lt)
  have Hv78 := hidp (Gv77.out.below hb8 Gv77.out.lt)
  clear hb8
  have hltd8 := Hd8.out.lt
  obtain ⟨x0, x1, x2, xf⟩ := arr3 Hd8.out
  clear xf
  go_wp2_with fail
  clear x0 x1 x2 hltd8
  have HX8 := hidp (HB8.out.alloc hle8 (.cells #[.string D4, .int .i64 Y4, .int .i64 R4] 32))
  have Gd8 := hidp (Hd8.out.alloc (.cells #[.string D4, .int .i64 Y4, .int .i64 R4] 32))
  have Gv18 := hidp (Hv18.out.alloc (.cells #[.string D4, .int .i64 Y4, .int .i64 R4] 32))
  have Gv28 := hidp (Hv28.out.alloc (.cells #[.string D4, .int .i64 Y4, .int .i64 R4] 32))
  have Gv38 := hidp (Hv38.out.alloc (.cells #[.string D4, .int .i64 Y4, .int .i64 R4] 32))
  have Gv48 := hidp (Hv48.out.alloc (.cells #[.string D4, .int .i64 Y4, .int .i64 R4] 32))
  have Gv58 := hidp (Hv58.out.alloc (.cells #[.string D4, .int .i64 Y4, .int .i64 R4] 32))
  have Gv68 := hidp (Hv68.out.alloc (.cells #[.string D4, .int .i64 Y4, .int .i64 R4] 32))
  have Gv78 := hidp (Hv78.out.alloc (.cells #[.string D4, .int .i64 Y4, .int .i64 R4] 32))
  have Gv88 := hidp (Arr.new w8 32 [.string D4, .int .i64 Y4, .int .i64 R4])
  generalize hW8 : (w8.alloc (.cells #[.string D4, .int .i64 Y4, .int .i64 R4] 32)) = W8 at HX8 Gd8 Gv18 Gv28 Gv38 Gv48 Gv58 Gv68 Gv78 Gv88 ⊢
  clear hW8 Gd7 Hd8 Gv17 Hv18 Gv27 Hv28 Gv37 Hv38 Gv47 Hv48 Gv57 Hv58 Gv67 Hv68 Gv77 Hv78 HX7 HB8
  have hsz8 := HX8.out.size
  have hinf : (Try.prog.info? 32).map (·.size) = some 3 := by kernel_rfl
  have hu := Try.underlying32
  have rd := hidp (show ∀ W, Cls W8.heap.size W8 W → W.rangeAt (w.heap.size) 0 [.string s, .int .i64 y, .int .i64 r] from fun W h => h.range Gd8.out.range Gd8.out.lt)
  have rv1 := hidp (show ∀ W, Cls W8.heap.size W8 W → W.rangeAt (w1.heap.size) 0 [.string D1, .int .i64 Y1, .int .i64 R1] from fun W h => h.range Gv18.out.range Gv18.out.lt)
  have rv2 := hidp (show ∀ W, Cls W8.heap.size W8 W → W.rangeAt (w2.heap.size) 0 [.string D1, .int .i64 Y1, .int .i64 R1] from fun W h => h.range Gv28.out.range Gv28.out.lt)
  have rv3 := hidp (show ∀ W, Cls W8.heap.size W8 W → W.rangeAt (w3.heap.size) 0 [.string D2, .int .i64 Y2, .int .i64 R2] from fun W h => h.range Gv38.out.range Gv38.out.lt)
  have rv4 := hidp (show ∀ W, Cls W8.heap.size W8 W → W.rangeAt (w4.heap.size) 0 [.string D2, .int .i64 Y2, .int .i64 R2] from fun W h => h.range Gv48.out.range Gv48.out.lt)
  have rv5 := hidp (show ∀ W, Cls W8.heap.size W8 W → W.rangeAt (w5.heap.size) 0 [.string D3, .int .i64 Y3, .int .i64 R3] from fun W h => h.range Gv58.out.range Gv58.out.lt)
  have rv6 := hidp (show ∀ W, Cls W8.heap.size W8 W → W.rangeAt (w6.heap.size) 0 [.string D3, .int .i64 Y3, .int .i64 R3] from fun W h => h.range Gv68.out.range Gv68.out.lt)
  have rv7 := hidp (show ∀ W, Cls W8.heap.size W8 W → W.rangeAt (w7.heap.size) 0 [.string D4, .int .i64 Y4, .int .i64 R4] from fun W h => h.range Gv78.out.range Gv78.out.lt)
  have rv8 := hidp (show ∀ W, Cls W8.heap.size W8 W → W.rangeAt (w8.heap.size) 0 [.string D4, .int .i64 Y4, .int .i64 R4] from fun W h => h.range Gv88.out.range Gv88.out.lt)
  have z0 := hidp (show ∀ W, Cls W8.heap.size W8 W → Calls Try.prog 25 #[] W fun e w' => e = .returned (.bool true) ∧ Cls W8.heap.size W8 w' from fun W h => (c0.out W).mono fun e w' ⟨h1, h2⟩ => ⟨h1, h.step (Nat.le_refl _) h2⟩)
  have z1 := hidp (show ∀ W, Cls W8.heap.size W8 W → Calls Try.prog 26 #[.agg #[.string s, .int .i64 y, .int .i64 r]] W fun e w' => e = .returned (.int .i64 E0) ∧ Cls W8.heap.size W8 w' from fun W h => (k1.out W).mono fun e w' ⟨h1, h2⟩ => ⟨h1, h.step (Nat.le_refl _) h2⟩)
  have z2 := hidp (show ∀ W, Cls W8.heap.size W8 W → Calls Try.prog 27 #[.agg #[.string s, .int .i64 y, .int .i64 r]] W fun e w' => e = .returned (.int .i64 E0) ∧ Cls W8.heap.size W8 w' from fun W h => (k2.out W).mono fun e w' ⟨h1, h2⟩ => ⟨h1, h.step (Nat.le_refl _) h2⟩)
  have q1 := fun W => eq_disk W D1 Y1 R1
  have e1 : (E1 == E1) = true := by simp
  have q2 := fun W => eq_disk W D2 Y2 R2
  have e2 : (E2 == E2) = true := by simp
  have q3 := fun W => eq_disk W D3 Y3 R3
  have e3 : (E3 == E3) = true := by simp
  have q4 := fun W => eq_disk W D4 Y4 R4
  have e4 : (E4 == E4) = true := by simp
  have e0 : (E0 == E0) = true := by simp
  refine wp_region_quiet (C := Cls W8.heap.size W8) (by kernel_rfl) (by kernel_rfl) (Cls.start _ _) ?_
  simp only []
  repeat (first
    | (refine q_call ?_ 25 _ ?_ z0.out ?_
       · rfl
       · intro w; go_simp; done
       simp only [Act.put, List.setIfInBounds_toArray, List.set_cons_zero, List.set_cons_succ])
    | (refine q_call ?_ 26 _ ?_ z1.out ?_
       · rfl
       · intro w; go_simp; done
       simp only [Act.put, List.setIfInBounds_toArray, List.set_cons_zero, List.set_cons_succ])
    | (refine q_call ?_ 27 _ ?_ z2.out ?_
       · rfl
       · intro w; go_simp; done
       simp only [Act.put, List.setIfInBounds_toArray, List.set_cons_zero, List.set_cons_succ])
    | (refine q_row ?_ 32 _ rfl (w.heap.size) rfl [.string s, .int .i64 y, .int .i64 r] _ rd.out hu rfl hinf ?_
       · rfl
       simp only [Act.put, List.setIfInBounds_toArray, List.set_cons_zero, List.set_cons_succ])
    | (refine q_row ?_ 32 _ rfl (w1.heap.size) rfl [.string D1, .int .i64 Y1, .int .i64 R1] _ rv1.out hu rfl hinf ?_
       · rfl
       simp only [Act.put, List.setIfInBounds_toArray, List.set_cons_zero, List.set_cons_succ])
    | (refine q_row ?_ 32 _ rfl (w2.heap.size) rfl [.string D1, .int .i64 Y1, .int .i64 R1] _ rv2.out hu rfl hinf ?_
       · rfl
       simp only [Act.put, List.setIfInBounds_toArray, List.set_cons_zero, List.set_cons_succ])
    | (refine q_row ?_ 32 _ rfl (w3.heap.size) rfl [.string D2, .int .i64 Y2, .int .i64 R2] _ rv3.out hu rfl hinf ?_
       · rfl
       simp only [Act.put, List.setIfInBounds_toArray, List.set_cons_zero, List.set_cons_succ])
    | (refine q_row ?_ 32 _ rfl (w4.heap.size) rfl [.string D2, .int .i64 Y2, .int .i64 R2] _ rv4.out hu rfl hinf ?_
       · rfl
       simp only [Act.put, List.setIfInBounds_toArray, List.set_cons_zero, List.set_cons_succ])
    | (refine q_row ?_ 32 _ rfl (w5.heap.size) rfl [.string D3, .int .i64 Y3, .int .i64 R3] _ rv5.out hu rfl hinf ?_
       · rfl
       simp only [Act.put, List.setIfInBounds_toArray, List.set_cons_zero, List.set_cons_succ])
    | (refine q_row ?_ 32 _ rfl (w6.heap.size) rfl [.string D3, .int .i64 Y3, .int .i64 R3] _ rv6.out hu rfl hinf ?_
       · rfl
       simp only [Act.put, List.setIfInBounds_toArray, List.set_cons_zero, List.set_cons_succ])
    | (refine q_row ?_ 32 _ rfl (w7.heap.size) rfl [.string D4, .int .i64 Y4, .int .i64 R4] _ rv7.out hu rfl hinf ?_
       · rfl
       simp only [Act.put, List.setIfInBounds_toArray, List.set_cons_zero, List.set_cons_succ])
    | (refine q_row ?_ 32 _ rfl (w8.heap.size) rfl [.string D4, .int .i64 Y4, .int .i64 R4] _ rv8.out hu rfl hinf ?_
       · rfl
       simp only [Act.put, List.setIfInBounds_toArray, List.set_cons_zero, List.set_cons_succ])
    | (apply q_val
       · rfl
       · intro w hw; go_simp; first | done | with_reducible rfl | rfl
       simp only [Act.put, List.setIfInBounds_toArray, List.set_cons_zero, List.set_cons_succ]))
  refine wpQuiet_nil ?_
  intro w9 hC
  go_wp2_with fail
  go_ret
  exact ⟨rfl, HX8.out.trans (Below.mono hC hsz8)⟩
theorem write_both (s : ByteArray) (y r : Int) (t : ByteArray) : ∃ D Y R E, (∀ W, Calls Try.prog 17 #[.agg #[.string s, .int .i64 y, .int .i64 r], .string t] W fun e w' => e = .returned (.tuple #[.agg #[.string D, .int .i64 Y, .int .i64 R], .int .i64 E]) ∧ Below W.heap.size W w') ∧
    (∀ W, Calls Try.prog 18 #[.agg #[.string s, .int .i64 y, .int .i64 r], .string t] W fun e w' => e = .returned (.tuple #[.agg #[.string D, .int .i64 Y, .int .i64 R], .int .i64 E]) ∧ Below W.heap.size W w') := by
  by_cases h : okD s y r
  · by_cases ht : t.size ≤ r - s.size
    · exact ⟨_, _, _, _, fun W => write_ok W s y r t h ht, fun W => rwrite_ok W s y r t h ht⟩
    · exact ⟨_, _, _, _, fun W => write_full W s y r t h (by omega), fun W => rwrite_full W s y r t h (by omega)⟩
  · exact ⟨_, _, _, _, fun W => write_no W s y r t h, fun W => rwrite_no W s y r t h⟩
theorem sync_both (s : ByteArray) (y r : Int) : ∃ D Y R E, (∀ W, Calls Try.prog 19 #[.agg #[.string s, .int .i64 y, .int .i64 r]] W fun e w' => e = .returned (.tuple #[.agg #[.string D, .int .i64 Y, .int .i64 R], .int .i64 E]) ∧ Below W.heap.size W w') ∧
    (∀ W, Calls Try.prog 20 #[.agg #[.string s, .int .i64 y, .int .i64 r]] W fun e w' => e = .returned (.tuple #[.agg #[.string D, .int .i64 Y, .int .i64 R], .int .i64 E]) ∧ Below W.heap.size W w') := by
  by_cases h : okD s y r
  · exact ⟨_, _, _, _, fun W => sync_ok W s y r h, fun W => rsync_ok W s y r h⟩
  · exact ⟨_, _, _, _, fun W => sync_no W s y r h, fun W => rsync_no W s y r h⟩
theorem swap_both (s : ByteArray) (y r : Int) (t : ByteArray) : ∃ D Y R E, (∀ W, Calls Try.prog 21 #[.agg #[.string s, .int .i64 y, .int .i64 r], .string t] W fun e w' => e = .returned (.tuple #[.agg #[.string D, .int .i64 Y, .int .i64 R], .int .i64 E]) ∧ Below W.heap.size W w') ∧
    (∀ W, Calls Try.prog 22 #[.agg #[.string s, .int .i64 y, .int .i64 r], .string t] W fun e w' => e = .returned (.tuple #[.agg #[.string D, .int .i64 Y, .int .i64 R], .int .i64 E]) ∧ Below W.heap.size W w') := by
  by_cases h : okD s y r
  · by_cases ht : t.size ≤ r
    · exact ⟨_, _, _, _, fun W => swap_ok W s y r t h ht, fun W => rswap_ok W s y r t h ht⟩
    · exact ⟨_, _, _, _, fun W => swap_full W s y r t h (by omega), fun W => rswap_full W s y r t h (by omega)⟩
  · exact ⟨_, _, _, _, fun W => swap_no W s y r t h, fun W => rswap_no W s y r t h⟩
theorem new_both (r : Int) : ∃ D Y R E, (∀ W, Calls Try.prog 23 #[.int .i64 r] W fun e w' => e = .returned (.tuple #[.agg #[.string D, .int .i64 Y, .int .i64 R], .int .i64 E]) ∧ Below W.heap.size W w') ∧
    (∀ W, Calls Try.prog 24 #[.int .i64 r] W fun e w' => e = .returned (.tuple #[.agg #[.string D, .int .i64 Y, .int .i64 R], .int .i64 E]) ∧ Below W.heap.size W w') := by
  by_cases h : 0 ≤ r ∧ r ≤ 1048576
  · exact ⟨_, _, _, _, fun W => new_ok W r h.1 h.2, fun W => rnew_ok W r h.1 h.2⟩
  · exact ⟨_, _, _, _, fun W => new_no W r (by omega), fun W => rnew_no W r (by omega)⟩
theorem check_both (s : ByteArray) (y r : Int) : ∃ E, (∀ W, Calls Try.prog 26 #[.agg #[.string s, .int .i64 y, .int .i64 r]] W fun e w' => e = .returned (.int .i64 E) ∧ Below W.heap.size W w') ∧
    (∀ W, Calls Try.prog 27 #[.agg #[.string s, .int .i64 y, .int .i64 r]] W fun e w' => e = .returned (.int .i64 E) ∧ Below W.heap.size W w') := by
  by_cases h : okD s y r
  · exact ⟨_, fun W => check_ok W s y r h, fun W => rcheck_ok W s y r h⟩
  · exact ⟨_, fun W => check_no W s y r h, fun W => rcheck_no W s y r h⟩
theorem walk_diskWrites (w : World) (s : ByteArray) (y r : Int) (hy : (Lit.int .i64 y).wf = true) (hr : (Lit.int .i64 r).wf = true) (t : ByteArray) (ht : t.size ≤ 140737488351232) (room : Int) (hroom : (Lit.int .i64 room).wf = true) :
    Calls Try.prog 7 #[.agg #[.string s, .int .i64 y, .int .i64 r], .string t, .int .i64 room] w fun e w' => e = .returned (.bool true) ∧ Below w.heap.size w w' := by
  obtain ⟨D1, Y1, R1, E1, a1, b1⟩ := write_both s y r t
  obtain ⟨D2, Y2, R2, E2, a2, b2⟩ := sync_both s y r
  obtain ⟨D3, Y3, R3, E3, a3, b3⟩ := swap_both s y r t
  obtain ⟨D4, Y4, R4, E4, a4, b4⟩ := new_both room
  obtain ⟨E0, a0, b0⟩ := check_both s y r
  exact writes_walk w s y r t room D1 D2 D3 D4 Y1 R1 E1 Y2 R2 E2 Y3 R3 E3 Y4 R4 E4 E0 a1 b1 a2 b2 a3 b3 a4 b4 a0 b0
end Go.Proofs.Ytibipoecbcjcmaa
