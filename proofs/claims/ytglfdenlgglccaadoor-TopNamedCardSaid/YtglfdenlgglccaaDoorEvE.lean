
/-
  The laws on event: two events compared; the answers asked for first.
-/
import Derived.Test.YtglfdenlgglccaaDoorEvD
import Derived.Test.YtglfdenlgglccaaDoorIdI
import Derived.Test.YtglfdenlgglccaaDoorOcN
namespace Go.Proofs.YtglfdenlgglccaaDoor
set_option maxRecDepth 100000
set_option linter.unusedVariables false
set_option linter.unusedSimpArgs false
open Go.RowKit

theorem eqin_event (W : World) (r s : ByteArray) (k : Int) (y b : ByteArray) (n : Int) :
    (Op.equalIn 10000 24 (.agg #[.string r, .string s, .int .u8 k, .string y, .string b, .int .i64 n]) (.agg #[.string r, .string s, .int .u8 k, .string y, .string b, .int .i64 n])).run Tryd.prog W = .ok true W := by
  have ht : Tryd.prog.underlying 24 = some (.struct (Tryd.prog.fieldsOf 24)) := by kernel_rfl
  have hp : Tryd.prog.stoodInHeld 24 = false := by kernel_rfl
  have hu := Tryd.underlying24
  have hus := Tryd.underlying9
  have hui := Tryd.underlying2
  have huk := Tryd.underlying22
  rw [run_equalIn_agg W 9999 _ _ _ ht hp]
  unfold Program.fieldsOf
  rw [hu]
  go_simp
theorem eq_event (W : World) (r s : ByteArray) (k : Int) (y b : ByteArray) (n : Int) :
    (binOp .eql 24 (.agg #[.string r, .string s, .int .u8 k, .string y, .string b, .int .i64 n]) (.agg #[.string r, .string s, .int .u8 k, .string y, .string b, .int .i64 n])).run Tryd.prog W = .ok (.bool true) W := by
  rw [run_eql_struct, eqin_event]; rfl
theorem al_more {ss : List ByteArray} (h : okL ss) (c : UInt8) : al (mkS (encL ss) ++ ⟨#[c]⟩) = ([], 6) := by
  have e : mkS (encL ss) ++ ⟨#[c]⟩ = mkS (encL ss ++ [c]) := mkS_append _ [c]
  rw [e]
  have := gl_back ss h [c]
  unfold al
  rw [this]
  simp [mkS_size]
theorem evP_bad {s : ByteArray} (h : (al s).2 ≠ 0) : evP s = none := by unfold evP; rw [if_neg h]
theorem ev0_ok : evOk (⟨⟨#[33, 104, 97, 108, 108, 58, 48]⟩, ⟨#[64, 97, 110, 110, 58, 48]⟩, 6, ⟨#[]⟩, ⟨#[104, 105]⟩, 7⟩ : Ev) = true := by decide +kernel
theorem ev0_list : evL (⟨⟨#[33, 104, 97, 108, 108, 58, 48]⟩, ⟨#[64, 97, 110, 110, 58, 48]⟩, 6, ⟨#[]⟩, ⟨#[104, 105]⟩, 7⟩ : Ev) = [⟨#[33, 104, 97, 108, 108, 58, 48]⟩, ⟨#[64, 97, 110, 110, 58, 48]⟩, ⟨#[109, 101, 115, 115, 97, 103, 101]⟩, ⟨#[]⟩, ⟨#[104, 105]⟩, ⟨#[7]⟩] := by
  unfold evL
  rw [show mkS (encN (Int.toNat 7)) = ⟨#[7]⟩ from by rw [encN_lt (by decide)]; rfl]
  rfl
theorem ev0_bytes : evB (⟨⟨#[33, 104, 97, 108, 108, 58, 48]⟩, ⟨#[64, 97, 110, 110, 58, 48]⟩, 6, ⟨#[]⟩, ⟨#[104, 105]⟩, 7⟩ : Ev) = mkS (encL [⟨#[33, 104, 97, 108, 108, 58, 48]⟩, ⟨#[64, 97, 110, 110, 58, 48]⟩, ⟨#[109, 101, 115, 115, 97, 103, 101]⟩, ⟨#[]⟩, ⟨#[104, 105]⟩, ⟨#[7]⟩]) := by unfold evB; rw [ev0_ok, ev0_list]; rfl
theorem evz_no : evOk (⟨⟨#[]⟩, ⟨#[]⟩, 0, ⟨#[]⟩, ⟨#[]⟩, 0⟩ : Ev) = false := by decide +kernel
theorem evP_empty : evP ⟨#[]⟩ = none := by decide +kernel

set_option maxHeartbeats 16000000 in
theorem lives12_any (w : World) (hI : IT w) (hW : WT w) : Calls Tryd.prog 6 #[] w fun e w' => e = .returned (.bool true) ∧ Below w.heap.size w w' := by
  have h1 : evE (⟨⟨#[33, 104, 97, 108, 108, 58, 48]⟩, ⟨#[64, 97, 110, 110, 58, 48]⟩, 6, ⟨#[]⟩, ⟨#[104, 105]⟩, 7⟩ : Ev) = 0 := by unfold evE; rw [ev0_ok]; rfl
  have hLok := evL_ok ev0_ok
  have hP := evP_back ev0_ok
  have hB := ev0_bytes
  have hal := al_back _ hLok
  have hmore := al_more hLok 33
  rw [ev0_list] at hLok hal hmore
  rw [hB] at hP
  obtain ⟨X, hX⟩ : ∃ X, mkS (encL [⟨#[33, 104, 97, 108, 108, 58, 48]⟩, ⟨#[64, 97, 110, 110, 58, 48]⟩, ⟨#[109, 101, 115, 115, 97, 103, 101]⟩, ⟨#[]⟩, ⟨#[104, 105]⟩, ⟨#[7]⟩]) = X := ⟨_, rfl⟩
  have hXs : X.size ≤ 65536 := by
    rw [← hX, mkS_size]; unfold encL; have h1 := encTs_len _ hLok.2
    have h2 := encN_len64 ([⟨#[33, 104, 97, 108, 108, 58, 48]⟩, ⟨#[64, 97, 110, 110, 58, 48]⟩, ⟨#[109, 101, 115, 115, 97, 103, 101]⟩, ⟨#[]⟩, ⟨#[104, 105]⟩, ⟨#[7]⟩] : List ByteArray).length (by decide)
    simp only [List.length_append, List.length_cons, List.length_nil] at h1 h2 ⊢; omega
  rw [hX] at hP hB hal hmore
  have hs1 : (⟨#[33]⟩ : ByteArray).size = 1 := rfl
  have c1 := hidp (show ∀ W, IT W → WT W → Calls Tryd.prog 7 #[.agg #[.string ⟨#[33, 104, 97, 108, 108, 58, 48]⟩, .string ⟨#[64, 97, 110, 110, 58, 48]⟩, .int .u8 6, .string ⟨#[]⟩, .string ⟨#[104, 105]⟩, .int .i64 7]] W fun e w' => e = .returned (.tuple #[.string X, .int .i64 0]) ∧ Below W.heap.size W w' from fun W h h' => by
    have := evBytes_any W ⟨#[33, 104, 97, 108, 108, 58, 48]⟩ ⟨#[64, 97, 110, 110, 58, 48]⟩ 6 ⟨#[]⟩ ⟨#[104, 105]⟩ 7 (by omega) (by decide) (by decide) (by decide) (by decide) h h'
    rw [hB, h1] at this; exact this)
  have c2 := hidp (show ∀ W, Calls Tryd.prog 21 #[.string X] W fun e w' => ∃ v, e = .returned (.tuple #[v, .int .i64 0]) ∧ StrsAt w' v [⟨#[33, 104, 97, 108, 108, 58, 48]⟩, ⟨#[64, 97, 110, 110, 58, 48]⟩, ⟨#[109, 101, 115, 115, 97, 103, 101]⟩, ⟨#[]⟩, ⟨#[104, 105]⟩, ⟨#[7]⟩] ∧ Below W.heap.size W w' from fun W => by
    have := all_any W X (by omega)
    rw [hal] at this; exact this)
  have c3 := hidp (show ∀ W, IT W → WT W → Calls Tryd.prog 9 #[.string X] W fun e w' => e = .returned (.tuple #[.agg #[.string ⟨#[33, 104, 97, 108, 108, 58, 48]⟩, .string ⟨#[64, 97, 110, 110, 58, 48]⟩, .int .u8 6, .string ⟨#[]⟩, .string ⟨#[104, 105]⟩, .int .i64 7], .int .i64 0]) ∧ Below W.heap.size W w' from fun W h h' => by
    have := evParse_any W X (by omega) h h'
    rw [hP] at this; exact this)
  have hss : (X ++ ⟨#[33]⟩).size ≤ 65537 := by rw [ByteArray.size_append, hs1]; omega
  have c4 := hidp (show ∀ W, IT W → WT W → Calls Tryd.prog 9 #[.string (X ++ ⟨#[33]⟩)] W fun e w' => e = .returned (.tuple #[.agg #[.string ⟨#[]⟩, .string ⟨#[]⟩, .int .u8 0, .string ⟨#[]⟩, .string ⟨#[]⟩, .int .i64 0], .int .i64 6]) ∧ Below W.heap.size W w' from fun W h h' => by
    have := evParse_any W (X ++ ⟨#[33]⟩) (by omega) h h'
    rw [evP_bad (by rw [hmore]; decide)] at this; exact this)
  have c5 := hidp (show ∀ W, IT W → Calls Tryd.prog 11 #[.agg #[.string ⟨#[]⟩, .string ⟨#[]⟩, .int .u8 0, .string ⟨#[]⟩, .string ⟨#[]⟩, .int .i64 0]] W fun e w' => e = .returned (.int .i64 2) ∧ Below W.heap.size W w' from fun W h => by
    have := evCheck_any W ⟨#[]⟩ ⟨#[]⟩ 0 ⟨#[]⟩ ⟨#[]⟩ 0 (by omega) (by decide) (by decide) (by decide) (by decide) h
    rw [show evE (⟨⟨#[]⟩, ⟨#[]⟩, 0, ⟨#[]⟩, ⟨#[]⟩, 0⟩ : Ev) = 2 from by unfold evE; rw [evz_no]; rfl] at this; exact this)
  have c6 := hidp (fun W => state_any W 5 (by omega))
  have c7 := hidp (fun W => state_any W 6 (by omega))
  rw [show stB 5 = true from rfl] at c6
  rw [show stB 6 = false from rfl] at c7
  have c8 := hidp (show ∀ W, WT W → Calls Tryd.prog 15 #[.int .u8 8] W fun e w' => e = .returned (.string ⟨#[104, 97, 110, 100, 111, 118, 101, 114]⟩) ∧ w' = W from fun W h => word_any W 8 (by omega) h)
  have q1 := fun W => eq_event W ⟨#[33, 104, 97, 108, 108, 58, 48]⟩ ⟨#[64, 97, 110, 110, 58, 48]⟩ 6 ⟨#[]⟩ ⟨#[104, 105]⟩ 7
  have HI := hidp hI; have HW := hidp hW
  clear hI hW h1 hLok hP hB hal hmore hX
  go_enter Tryd.func6, Tryd.ntmps6
  go_wp2_with fail
  have HX0d := hidp ((Below.refl w.heap.size w).alloc (Nat.le_refl _) (.cells #[.string ⟨#[33, 104, 97, 108, 108, 58, 48]⟩, .string ⟨#[64, 97, 110, 110, 58, 48]⟩, .int .u8 6, .string ⟨#[]⟩, .string ⟨#[104, 105]⟩, .int .i64 7] 24))
  have Ad0d := hidp (Arr.new w 24 [.string ⟨#[33, 104, 97, 108, 108, 58, 48]⟩, .string ⟨#[64, 97, 110, 110, 58, 48]⟩, .int .u8 6, .string ⟨#[]⟩, .string ⟨#[104, 105]⟩, .int .i64 7])
  obtain ⟨bd, hbd⟩ : ∃ b, w.heap.size = b := ⟨_, rfl⟩
  generalize hWW : (w.alloc (.cells #[.string ⟨#[33, 104, 97, 108, 108, 58, 48]⟩, .string ⟨#[64, 97, 110, 110, 58, 48]⟩, .int .u8 6, .string ⟨#[]⟩, .string ⟨#[104, 105]⟩, .int .i64 7] 24)) = W0d at HX0d Ad0d ⊢
  rw [hbd] at Ad0d ⊢
  have hged : w.heap.size ≤ bd := by omega
  clear hWW hbd
  refine (c1.out _ (HI.out.below HX0d.out (Nat.le_refl _)) (HW.out.below HX0d.out (Nat.le_refl _))).mono ?_
  rintro e w1 ⟨rfl, hb1⟩
  have HB1 := hidp (HX0d.out.trans (hb1.mono HX0d.out.size))
  have hle1 := HB1.out.size
  have Ad1 := hidp (Ad0d.out.below hb1 Ad0d.out.lt)
  have hltd := Ad1.out.lt
  clear hb1
  go_wp2_with fail
  refine (c2.out _).mono ?_
  rintro e w2 ⟨vl, rfl, hsl, hb2⟩
  have HB2 := hidp (HB1.out.trans (hb2.mono HB1.out.size))
  have hle2 := HB2.out.size
  have Ad2 := hidp (Ad1.out.below hb2 Ad1.out.lt)
  have hltd := Ad2.out.lt
  clear hb2
  have HSL := hidp hsl; clear hsl
  obtain ⟨bb, off, cap, rfl⟩ := strs_form6 HSL.out rfl
  go_wp2_with fail
  refine (c3.out _ (HI.out.below HB2.out (Nat.le_refl _)) (HW.out.below HB2.out (Nat.le_refl _))).mono ?_
  rintro e w3 ⟨rfl, hb3⟩
  have HB3 := hidp (HB2.out.trans (hb3.mono HB2.out.size))
  have hle3 := HB3.out.size
  have Ad3 := hidp (Ad2.out.below hb3 Ad2.out.lt)
  have hltd := Ad3.out.lt
  have HSL := hidp (HSL.out.below hb3 (Nat.le_refl _))
  clear hb3
  go_wp2_with fail
  have HSA := hidp (HSL.out.below ((Below.refl w3.heap.size w3).alloc (Nat.le_refl _) (.cells #[.string ⟨#[33, 104, 97, 108, 108, 58, 48]⟩, .string ⟨#[64, 97, 110, 110, 58, 48]⟩, .int .u8 6, .string ⟨#[]⟩, .string ⟨#[104, 105]⟩, .int .i64 7] 24)) (Nat.le_refl _))
  have HX3x := hidp (HB3.out.alloc hle3 (.cells #[.string ⟨#[33, 104, 97, 108, 108, 58, 48]⟩, .string ⟨#[64, 97, 110, 110, 58, 48]⟩, .int .u8 6, .string ⟨#[]⟩, .string ⟨#[104, 105]⟩, .int .i64 7] 24))
  have Ad3x := hidp (Ad3.out.alloc (.cells #[.string ⟨#[33, 104, 97, 108, 108, 58, 48]⟩, .string ⟨#[64, 97, 110, 110, 58, 48]⟩, .int .u8 6, .string ⟨#[]⟩, .string ⟨#[104, 105]⟩, .int .i64 7] 24))
  have Ax3x := hidp (Arr.new w3 24 [.string ⟨#[33, 104, 97, 108, 108, 58, 48]⟩, .string ⟨#[64, 97, 110, 110, 58, 48]⟩, .int .u8 6, .string ⟨#[]⟩, .string ⟨#[104, 105]⟩, .int .i64 7])
  obtain ⟨bx, hbx⟩ : ∃ b, w3.heap.size = b := ⟨_, rfl⟩
  generalize hWW : (w3.alloc (.cells #[.string ⟨#[33, 104, 97, 108, 108, 58, 48]⟩, .string ⟨#[64, 97, 110, 110, 58, 48]⟩, .int .u8 6, .string ⟨#[]⟩, .string ⟨#[104, 105]⟩, .int .i64 7] 24)) = W3x at HSA HX3x Ad3x Ax3x ⊢
  rw [hbx] at Ax3x ⊢
  have hgex : w.heap.size ≤ bx := by rw [← hbx]; exact hle3
  clear hWW hbx
  have HSL := HSA; clear HSA
  refine (c4.out _ (HI.out.below HX3x.out (Nat.le_refl _)) (HW.out.below HX3x.out (Nat.le_refl _))).mono ?_
  rintro e w4 ⟨rfl, hb4⟩
  have HB4 := hidp (HX3x.out.trans (hb4.mono HX3x.out.size))
  have hle4 := HB4.out.size
  have Ad4 := hidp (Ad3x.out.below hb4 Ad3x.out.lt)
  have hltd := Ad4.out.lt
  have Ax4 := hidp (Ax3x.out.below hb4 Ax3x.out.lt)
  have hltx := Ax4.out.lt
  have HSL := hidp (HSL.out.below hb4 (Nat.le_refl _))
  clear hb4
  obtain ⟨s0, s1, s2, s3, s4, s5⟩ := strs6 HSL.out
  obtain ⟨d0, d1, d2, d3, d4, d5⟩ := arr6 Ad4.out
  obtain ⟨x0, x1, x2, x3, x4, x5⟩ := arr6 Ax4.out
  have hltx2 := World.block_lt_of_cell? _ _ x0; have hltd2 := World.block_lt_of_cell? _ _ d0; have hlts2 := World.block_lt_of_cell? _ _ s0
  simp only at hltx2 hltd2 hlts2
  go_wp2_with fail
  clear s0 s1 s2 s3 s4 s5 hltx2 hltd2 hlts2
  clear d0 d1 d2 d3 d4 d5
  clear x0 x1 x2 x3 x4 x5
  have HX4z := hidp (HB4.out.alloc hle4 (.cells #[.string ⟨#[]⟩, .string ⟨#[]⟩, .int .u8 0, .string ⟨#[]⟩, .string ⟨#[]⟩, .int .i64 0] 24))
  have Ad4z := hidp (Ad4.out.alloc (.cells #[.string ⟨#[]⟩, .string ⟨#[]⟩, .int .u8 0, .string ⟨#[]⟩, .string ⟨#[]⟩, .int .i64 0] 24))
  have Ax4z := hidp (Ax4.out.alloc (.cells #[.string ⟨#[]⟩, .string ⟨#[]⟩, .int .u8 0, .string ⟨#[]⟩, .string ⟨#[]⟩, .int .i64 0] 24))
  have Az4z := hidp (Arr.new w4 24 [.string ⟨#[]⟩, .string ⟨#[]⟩, .int .u8 0, .string ⟨#[]⟩, .string ⟨#[]⟩, .int .i64 0])
  obtain ⟨bz, hbz⟩ : ∃ b, w4.heap.size = b := ⟨_, rfl⟩
  generalize hWW : (w4.alloc (.cells #[.string ⟨#[]⟩, .string ⟨#[]⟩, .int .u8 0, .string ⟨#[]⟩, .string ⟨#[]⟩, .int .i64 0] 24)) = W4z at HX4z Ad4z Ax4z Az4z ⊢
  rw [hbz] at Az4z ⊢
  have hgez : w.heap.size ≤ bz := by rw [← hbz]; exact hle4
  clear hWW hbz
  refine (c5.out _ (HI.out.below HX4z.out (Nat.le_refl _))).mono ?_
  rintro e w5 ⟨rfl, hb5⟩
  have HB5 := hidp (HX4z.out.trans (hb5.mono HX4z.out.size))
  have hle5 := HB5.out.size
  have Ad5 := hidp (Ad4z.out.below hb5 Ad4z.out.lt)
  have hltd := Ad5.out.lt
  have Ax5 := hidp (Ax4z.out.below hb5 Ax4z.out.lt)
  have hltx := Ax5.out.lt
  have Az5 := hidp (Az4z.out.below hb5 Az4z.out.lt)
  have hltz := Az5.out.lt
  clear hb5
  go_wp2_with fail
  refine (c6.out _).mono ?_
  rintro e w6 ⟨rfl, rfl⟩
  go_wp2_with fail
  refine (c7.out _).mono ?_
  rintro e w7 ⟨rfl, rfl⟩
  go_wp2_with fail
  refine (c8.out _ (HW.out.below HB5.out (Nat.le_refl _))).mono ?_
  rintro e w8 ⟨rfl, rfl⟩
  go_wp2_with fail
  go_ret
  exact ⟨rfl, HB5.out⟩
end Go.Proofs.YtglfdenlgglccaaDoor
