
/-
  disk: two disks compared; lives.
-/
import Derived.Test.YtibipoecbcjcmabDskD
namespace Go.Proofs.Ytibipoecbcjcmab
set_option maxRecDepth 100000
set_option linter.unusedVariables false
set_option linter.unusedSimpArgs false
open Go.RowKit

theorem eqin_disk (W : World) (s : ByteArray) (y r : Int) :
    (Op.equalIn 10000 25 (.agg #[.string s, .int .i64 y, .int .i64 r]) (.agg #[.string s, .int .i64 y, .int .i64 r])).run Try.prog W = .ok true W := by
  have ht : Try.prog.underlying 25 = some (.struct (Try.prog.fieldsOf 25)) := by kernel_rfl
  have hp : Try.prog.stoodInHeld 25 = false := by kernel_rfl
  have hu := Try.underlying25
  have hus := Try.underlying9
  have hui := Try.underlying3
  rw [run_equalIn_agg W 9999 _ _ _ ht hp]
  unfold Program.fieldsOf
  rw [hu]
  go_simp
theorem eq_disk (W : World) (s : ByteArray) (y r : Int) :
    (binOp .eql 25 (.agg #[.string s, .int .i64 y, .int .i64 r]) (.agg #[.string s, .int .i64 y, .int .i64 r])).run Try.prog W = .ok (.bool true) W := by
  rw [run_eql_struct, eqin_disk]; rfl
theorem neq_disk (W : World) (s : ByteArray) (y r : Int) :
    (binOp .neq 25 (.agg #[.string s, .int .i64 y, .int .i64 r]) (.agg #[.string s, .int .i64 y, .int .i64 r])).run Try.prog W = .ok (.bool false) W := by
  rw [run_neq_struct, eqin_disk]; rfl
theorem arr3_set {w : World} {b T : Nat} {x0 x1 x2 : Value} (h : Arr w b T [x0, x1, x2]) (y0 y1 y2 : Value) : Arr (((w.setCell ⟨b, 0, none⟩ y0).setCell ⟨b, 1, none⟩ y1).setCell ⟨b, 2, none⟩ y2) b T [y0, y1, y2] :=
  ((h.set 0 y0).set 1 y1).set 2 y2
instance (s : ByteArray) (y r : Int) : Decidable (okD s y r) := by unfold okD; infer_instance

set_option maxHeartbeats 8000000 in
theorem lives8_any (w : World) : Calls Try.prog 5 #[] w fun e w' => e = .returned (.bool true) ∧ Below w.heap.size w w' := by
  have c1 := hidp (show ∀ W, Calls Try.prog 6 #[.int .i64 6] W fun e w' => e = .returned (.tuple #[.agg #[.string ⟨#[]⟩, .int .i64 0, .int .i64 6], .int .i64 0]) ∧ Below W.heap.size W w' from fun W => new_ok W 6 (by omega) (by omega))
  have c2 := hidp (show ∀ W, Calls Try.prog 7 #[.agg #[.string ⟨#[]⟩, .int .i64 0, .int .i64 6], .string ⟨#[97, 98]⟩] W fun e w' => e = .returned (.tuple #[.agg #[.string ⟨#[97, 98]⟩, .int .i64 0, .int .i64 6], .int .i64 0]) ∧ Below W.heap.size W w' from fun W => write_ok W ⟨#[]⟩ 0 6 ⟨#[97, 98]⟩ (by decide) (by decide))
  have c3 := hidp (show ∀ W, Calls Try.prog 8 #[.agg #[.string ⟨#[97, 98]⟩, .int .i64 0, .int .i64 6]] W fun e w' => e = .returned (.tuple #[.agg #[.string ⟨#[97, 98]⟩, .int .i64 2, .int .i64 6], .int .i64 0]) ∧ Below W.heap.size W w' from fun W => sync_ok W ⟨#[97, 98]⟩ 0 6 (by decide))
  have c4 := hidp (show ∀ W, Calls Try.prog 7 #[.agg #[.string ⟨#[97, 98]⟩, .int .i64 2, .int .i64 6], .string ⟨#[99, 100, 101]⟩] W fun e w' => e = .returned (.tuple #[.agg #[.string ⟨#[97, 98, 99, 100, 101]⟩, .int .i64 2, .int .i64 6], .int .i64 0]) ∧ Below W.heap.size W w' from fun W => write_ok W ⟨#[97, 98]⟩ 2 6 ⟨#[99, 100, 101]⟩ (by decide) (by decide))
  have c5 := hidp (show ∀ W, Calls Try.prog 7 #[.agg #[.string ⟨#[97, 98, 99, 100, 101]⟩, .int .i64 2, .int .i64 6], .string ⟨#[102, 103]⟩] W fun e w' => e = .returned (.tuple #[.agg #[.string ⟨#[97, 98, 99, 100, 101]⟩, .int .i64 2, .int .i64 6], .int .i64 8]) ∧ Below W.heap.size W w' from fun W => write_full W ⟨#[97, 98, 99, 100, 101]⟩ 2 6 ⟨#[102, 103]⟩ (by decide) (by decide))
  have c6 := hidp (show ∀ W, Calls Try.prog 9 #[.agg #[.string ⟨#[97, 98, 99, 100, 101]⟩, .int .i64 2, .int .i64 6], .int .i64 2, .int .u8 1] W fun e w' => e = .returned (.tuple #[.agg #[.string ⟨#[97, 98, 99, 101]⟩, .int .i64 4, .int .i64 6], .int .i64 0]) ∧ Below W.heap.size W w' from fun W => fail_ok W ⟨#[97, 98, 99, 100, 101]⟩ 2 6 2 1 (by decide))
  have c7 := hidp (show ∀ W, Calls Try.prog 10 #[.agg #[.string ⟨#[97, 98, 99, 100, 101]⟩, .int .i64 2, .int .i64 6], .string ⟨#[120, 121, 122]⟩] W fun e w' => e = .returned (.tuple #[.agg #[.string ⟨#[120, 121, 122]⟩, .int .i64 3, .int .i64 6], .int .i64 0]) ∧ Below W.heap.size W w' from fun W => swap_ok W ⟨#[97, 98, 99, 100, 101]⟩ 2 6 ⟨#[120, 121, 122]⟩ (by decide) (by decide))
  have c8 := hidp (show ∀ W, Calls Try.prog 6 #[.int .i64 (-1)] W fun e w' => e = .returned (.tuple #[.agg #[.string ⟨#[]⟩, .int .i64 0, .int .i64 0], .int .i64 1]) ∧ Below W.heap.size W w' from fun W => new_no W (-1) (by omega))
  have c9 := hidp (show ∀ W, Calls Try.prog 14 #[.agg #[.string ⟨#[]⟩, .int .i64 1, .int .i64 0]] W fun e w' => e = .returned (.int .i64 2) ∧ Below W.heap.size W w' from fun W => check_no W ⟨#[]⟩ 1 0 (by decide))
  have q1 := fun W => eq_disk W ⟨#[97, 98, 99, 100, 101]⟩ 2 6
  have q2 := fun W => eq_disk W ⟨#[97, 98, 99, 101]⟩ 4 6
  have q3 := fun W => eq_disk W ⟨#[120, 121, 122]⟩ 3 6
  go_enter Try.func5, Try.ntmps5
  go_wp2_with fail
  refine (c1.out _).mono ?_
  rintro e w1 ⟨rfl, hb1⟩
  have HB1 := hidp hb1
  have hle1 := hb1.size
  clear hb1
  go_wp2_with fail
  have HX1 := hidp (HB1.out.alloc hle1 (.cells #[.string ⟨#[]⟩, .int .i64 0, .int .i64 6] 25))
  have Ga1 := hidp (Arr.new w1 25 [.string ⟨#[]⟩, .int .i64 0, .int .i64 6])
  generalize hW1 : (w1.alloc (.cells #[.string ⟨#[]⟩, .int .i64 0, .int .i64 6] 25)) = W1 at HX1 Ga1 ⊢
  clear hW1
  refine (c2.out _).mono ?_
  rintro e w2 ⟨rfl, hb2⟩
  have HB2 := hidp (HX1.out.trans (hb2.mono HX1.out.size))
  have hle2 := HB2.out.size
  have Ha2 := hidp (Ga1.out.below hb2 Ga1.out.lt)
  have hlta2 := Ha2.out.lt
  clear hb2
  obtain ⟨x0, x1, x2, xf⟩ := arr3 Ha2.out
  have f0 := xf 0; have f1 := xf 1; have f2 := xf 2
  clear xf
  go_wp2_with fail
  clear x0 x1 x2 f0 f1 f2
  have Ga2 := hidp (arr3_set Ha2.out (.string ⟨#[97, 98]⟩) (.int .i64 0) (.int .i64 6))
  have HX2 := hidp (((HB2.out.setCell (p := ⟨w1.heap.size, 0, none⟩) hle1 (.string ⟨#[97, 98]⟩)).setCell (p := ⟨w1.heap.size, 1, none⟩) hle1 (.int .i64 0)).setCell (p := ⟨w1.heap.size, 2, none⟩) hle1 (.int .i64 6))
  generalize hW2 : (((w2.setCell ⟨w1.heap.size, 0, none⟩ (.string ⟨#[97, 98]⟩)).setCell ⟨w1.heap.size, 1, none⟩ (.int .i64 0)).setCell ⟨w1.heap.size, 2, none⟩ (.int .i64 6)) = W2 at Ga2 HX2 ⊢
  clear hW2
  refine (c3.out _).mono ?_
  rintro e w3 ⟨rfl, hb3⟩
  have HB3 := hidp (HX2.out.trans (hb3.mono HX2.out.size))
  have hle3 := HB3.out.size
  have Ha3 := hidp (Ga2.out.below hb3 Ga2.out.lt)
  have hlta3 := Ha3.out.lt
  clear hb3
  obtain ⟨x0, x1, x2, xf⟩ := arr3 Ha3.out
  have f0 := xf 0; have f1 := xf 1; have f2 := xf 2
  clear xf
  go_wp2_with fail
  clear x0 x1 x2 f0 f1 f2
  have Ga3 := hidp (arr3_set Ha3.out (.string ⟨#[97, 98]⟩) (.int .i64 2) (.int .i64 6))
  have HX3 := hidp (((HB3.out.setCell (p := ⟨w1.heap.size, 0, none⟩) hle1 (.string ⟨#[97, 98]⟩)).setCell (p := ⟨w1.heap.size, 1, none⟩) hle1 (.int .i64 2)).setCell (p := ⟨w1.heap.size, 2, none⟩) hle1 (.int .i64 6))
  generalize hW3 : (((w3.setCell ⟨w1.heap.size, 0, none⟩ (.string ⟨#[97, 98]⟩)).setCell ⟨w1.heap.size, 1, none⟩ (.int .i64 2)).setCell ⟨w1.heap.size, 2, none⟩ (.int .i64 6)) = W3 at Ga3 HX3 ⊢
  clear hW3
  refine (c4.out _).mono ?_
  rintro e w4 ⟨rfl, hb4⟩
  have HB4 := hidp (HX3.out.trans (hb4.mono HX3.out.size))
  have hle4 := HB4.out.size
  have Ha4 := hidp (Ga3.out.below hb4 Ga3.out.lt)
  have hlta4 := Ha4.out.lt
  clear hb4
  obtain ⟨x0, x1, x2, xf⟩ := arr3 Ha4.out
  have f0 := xf 0; have f1 := xf 1; have f2 := xf 2
  clear xf
  go_wp2_with fail
  clear x0 x1 x2 f0 f1 f2
  have Ga4 := hidp (arr3_set Ha4.out (.string ⟨#[97, 98, 99, 100, 101]⟩) (.int .i64 2) (.int .i64 6))
  have HX4 := hidp (((HB4.out.setCell (p := ⟨w1.heap.size, 0, none⟩) hle1 (.string ⟨#[97, 98, 99, 100, 101]⟩)).setCell (p := ⟨w1.heap.size, 1, none⟩) hle1 (.int .i64 2)).setCell (p := ⟨w1.heap.size, 2, none⟩) hle1 (.int .i64 6))
  generalize hW4 : (((w4.setCell ⟨w1.heap.size, 0, none⟩ (.string ⟨#[97, 98, 99, 100, 101]⟩)).setCell ⟨w1.heap.size, 1, none⟩ (.int .i64 2)).setCell ⟨w1.heap.size, 2, none⟩ (.int .i64 6)) = W4 at Ga4 HX4 ⊢
  clear hW4
  refine (c5.out _).mono ?_
  rintro e w5 ⟨rfl, hb5⟩
  have HB5 := hidp (HX4.out.trans (hb5.mono HX4.out.size))
  have hle5 := HB5.out.size
  have Ha5 := hidp (Ga4.out.below hb5 Ga4.out.lt)
  have hlta5 := Ha5.out.lt
  clear hb5
  obtain ⟨x0, x1, x2, xf⟩ := arr3 Ha5.out
  have f0 := xf 0; have f1 := xf 1; have f2 := xf 2
  clear xf
  go_wp2_with fail
  clear x0 x1 x2 f0 f1 f2
  have HX5 := hidp (HB5.out.alloc hle5 (.cells #[.string ⟨#[97, 98, 99, 100, 101]⟩, .int .i64 2, .int .i64 6] 25))
  have Ga5 := hidp (Ha5.out.alloc (.cells #[.string ⟨#[97, 98, 99, 100, 101]⟩, .int .i64 2, .int .i64 6] 25))
  have Ge5 := hidp (Arr.new w5 25 [.string ⟨#[97, 98, 99, 100, 101]⟩, .int .i64 2, .int .i64 6])
  generalize hW5 : (w5.alloc (.cells #[.string ⟨#[97, 98, 99, 100, 101]⟩, .int .i64 2, .int .i64 6] 25)) = W5 at HX5 Ga5 Ge5 ⊢
  clear hW5
  refine (c6.out _).mono ?_
  rintro e w6 ⟨rfl, hb6⟩
  have HB6 := hidp (HX5.out.trans (hb6.mono HX5.out.size))
  have hle6 := HB6.out.size
  have Ha6 := hidp (Ga5.out.below hb6 Ga5.out.lt)
  have hlta6 := Ha6.out.lt
  have He6 := hidp (Ge5.out.below hb6 Ge5.out.lt)
  have hlte6 := He6.out.lt
  clear hb6
  obtain ⟨x0, x1, x2, xf⟩ := arr3 Ha6.out
  have f0 := xf 0; have f1 := xf 1; have f2 := xf 2
  clear xf
  go_wp2_with fail
  clear x0 x1 x2 f0 f1 f2
  have HX6 := hidp (HB6.out.alloc hle6 (.cells #[.string ⟨#[97, 98, 99, 101]⟩, .int .i64 4, .int .i64 6] 25))
  have Ga6 := hidp (Ha6.out.alloc (.cells #[.string ⟨#[97, 98, 99, 101]⟩, .int .i64 4, .int .i64 6] 25))
  have Ge6 := hidp (He6.out.alloc (.cells #[.string ⟨#[97, 98, 99, 101]⟩, .int .i64 4, .int .i64 6] 25))
  have Gf6 := hidp (Arr.new w6 25 [.string ⟨#[97, 98, 99, 101]⟩, .int .i64 4, .int .i64 6])
  generalize hW6 : (w6.alloc (.cells #[.string ⟨#[97, 98, 99, 101]⟩, .int .i64 4, .int .i64 6] 25)) = W6 at HX6 Ga6 Ge6 Gf6 ⊢
  clear hW6
  refine (c7.out _).mono ?_
  rintro e w7 ⟨rfl, hb7⟩
  have HB7 := hidp (HX6.out.trans (hb7.mono HX6.out.size))
  have hle7 := HB7.out.size
  have Ha7 := hidp (Ga6.out.below hb7 Ga6.out.lt)
  have hlta7 := Ha7.out.lt
  have He7 := hidp (Ge6.out.below hb7 Ge6.out.lt)
  have hlte7 := He7.out.lt
  have Hf7 := hidp (Gf6.out.below hb7 Gf6.out.lt)
  have hltf7 := Hf7.out.lt
  clear hb7
  obtain ⟨x0, x1, x2, xf⟩ := arr3 Ha7.out
  have f0 := xf 0; have f1 := xf 1; have f2 := xf 2
  clear xf
  go_wp2_with fail
  clear x0 x1 x2 f0 f1 f2
  have HX7 := hidp (HB7.out.alloc hle7 (.cells #[.string ⟨#[120, 121, 122]⟩, .int .i64 3, .int .i64 6] 25))
  have Ga7 := hidp (Ha7.out.alloc (.cells #[.string ⟨#[120, 121, 122]⟩, .int .i64 3, .int .i64 6] 25))
  have Ge7 := hidp (He7.out.alloc (.cells #[.string ⟨#[120, 121, 122]⟩, .int .i64 3, .int .i64 6] 25))
  have Gf7 := hidp (Hf7.out.alloc (.cells #[.string ⟨#[120, 121, 122]⟩, .int .i64 3, .int .i64 6] 25))
  have Gg7 := hidp (Arr.new w7 25 [.string ⟨#[120, 121, 122]⟩, .int .i64 3, .int .i64 6])
  generalize hW7 : (w7.alloc (.cells #[.string ⟨#[120, 121, 122]⟩, .int .i64 3, .int .i64 6] 25)) = W7 at HX7 Ga7 Ge7 Gf7 Gg7 ⊢
  clear hW7
  refine (c8.out _).mono ?_
  rintro e w8 ⟨rfl, hb8⟩
  have HB8 := hidp (HX7.out.trans (hb8.mono HX7.out.size))
  have hle8 := HB8.out.size
  have Ha8 := hidp (Ga7.out.below hb8 Ga7.out.lt)
  have hlta8 := Ha8.out.lt
  have He8 := hidp (Ge7.out.below hb8 Ge7.out.lt)
  have hlte8 := He8.out.lt
  have Hf8 := hidp (Gf7.out.below hb8 Gf7.out.lt)
  have hltf8 := Hf8.out.lt
  have Hg8 := hidp (Gg7.out.below hb8 Gg7.out.lt)
  have hltg8 := Hg8.out.lt
  clear hb8
  obtain ⟨x0, x1, x2, xf⟩ := arr3 Ha8.out
  have f0 := xf 0; have f1 := xf 1; have f2 := xf 2
  clear xf
  clear x0 x1 x2 f0 f1 f2
  obtain ⟨a0, a1, a2, af⟩ := arr3 Ha8.out
  clear af
  obtain ⟨e0, e1, e2, ef⟩ := arr3 He8.out
  clear ef
  obtain ⟨f0, f1, f2, ff⟩ := arr3 Hf8.out
  clear ff
  obtain ⟨g0, g1, g2, gf⟩ := arr3 Hg8.out
  clear gf
  go_wp2_with fail
  refine (c9.out _).mono ?_
  rintro e w9 ⟨rfl, hb9⟩
  go_wp2_with fail
  go_ret
  exact ⟨rfl, (HB8.out.alloc hle8 _).trans (hb9.mono (by simp; omega))⟩
end Go.Proofs.Ytibipoecbcjcmab
