/-
  Joined: IdF IdG IdH EvA EvB EvC AiN AiM.
-/
import Derived.Test.YtfenjincbhkodaaDoorTC
import Derived.Test.YtfenjincbhkodaaDoorTB
import Derived.Test.YtfenjincbhkodaaDoorTA
namespace Go.Proofs.YtfenjincbhkodaaDoor
set_option maxRecDepth 100000
set_option linter.unusedVariables false
set_option linter.unusedSimpArgs false
open Go.RowKit
end Go.Proofs.YtfenjincbhkodaaDoor

namespace Go.Proofs.YtfenjincbhkodaaDoor
set_option maxRecDepth 100000
set_option linter.unusedVariables false
set_option linter.unusedSimpArgs false
open Go.RowKit
end Go.Proofs.YtfenjincbhkodaaDoor

namespace Go.Proofs.YtfenjincbhkodaaDoor
set_option maxRecDepth 100000
set_option linter.unusedVariables false
set_option linter.unusedSimpArgs false
open Go.RowKit
end Go.Proofs.YtfenjincbhkodaaDoor

namespace Go.Proofs.YtfenjincbhkodaaDoor
set_option maxRecDepth 100000
set_option linter.unusedVariables false
set_option linter.unusedSimpArgs false
open Go.RowKit

/-- The table of the words. -/
def WT (w : World) : Prop := ∀ i, i < 9 → w.cell? ⟨1, i, none⟩ = some (.string (word i))
theorem WT.below {w w' : World} (h : WT w) {B : Nat} (hb : Below B w w') (hB : w.heap.size ≤ B) : WT w' := fun i hi => by
  have g1 := World.block_lt_of_cell? w _ (h i hi)
  exact (hb.cell (p := ⟨1, i, none⟩) (by simp only at g1 ⊢; omega)).trans (h i hi)

def kindB (k : Nat) : Bool := decide (1 ≤ k ∧ k ≤ 8)
theorem kindB_yes {k : Nat} (h : 1 ≤ k ∧ k ≤ 8) : kindB k = true := decide_eq_true h
theorem kindB_no {k : Nat} (h : ¬ (1 ≤ k ∧ k ≤ 8)) : kindB k = false := decide_eq_false h
set_option maxHeartbeats 4000000 in
theorem isKind_any (w : World) (k : Nat) (hk : k < 256) :
    Calls Tryd.prog 64 #[.int .u8 (k : Int)] w fun e w' => e = .returned (.bool (kindB k)) ∧ w' = w := by
  by_cases h0 : k = 0
  · have e0 : decide ((0 : Int) < (k : Int)) = false := by simp; omega
    have n0 : ¬ 0 < k := by omega
    have HF := hidp (kindB_no (k := k) (by omega))
    clear h0
    go_enter Tryd.func64, Tryd.ntmps64
    go_wp2
    go_ret
    exact ⟨by rw [HF.out]; rfl, rfl⟩
  · have e0 : decide ((0 : Int) < (k : Int)) = true := by simp; omega
    have n0 : 0 < k := by omega
    by_cases h9 : k < 9
    · have e1 : decide ((k : Int) < 9) = true := by simp; omega
      have n1 : (k : Int) < 9 := by omega
      have HF := hidp (kindB_yes (k := k) (by omega))
      clear h0 h9
      go_enter Tryd.func64, Tryd.ntmps64
      go_wp2
      go_ret
      exact ⟨by rw [HF.out]; rfl, rfl⟩
    · have e1 : decide ((k : Int) < 9) = false := by simp; omega
      have n1 : ¬ (k : Int) < 9 := by omega
      have HF := hidp (kindB_no (k := k) (by omega))
      clear h0 h9
      go_enter Tryd.func64, Tryd.ntmps64
      go_wp2
      go_ret
      exact ⟨by rw [HF.out]; rfl, rfl⟩
theorem word_out {k : Nat} (h : ¬ (1 ≤ k ∧ k ≤ 8)) : word k = ⟨#[]⟩ := by
  by_cases h0 : k = 0
  · subst h0; rfl
  · unfold word evWords; rw [List.getD_eq_getElem?_getD, List.getElem?_eq_none (by simp; omega)]; rfl
set_option maxHeartbeats 4000000 in
theorem word_any (w : World) (k : Nat) (hk : k < 256) (hW : WT w) :
    Calls Tryd.prog 109 #[.int .u8 (k : Int)] w fun e w' => e = .returned (.string (word k)) ∧ w' = w := by
  have C := hidp (fun W => isKind_any W k hk)
  by_cases h : 1 ≤ k ∧ k ≤ 8
  · rw [kindB_yes h] at C
    have m1 := hW k (by omega)
    have c0 : (0 : Int) ≤ (k : Int) := by omega
    have c1 : (k : Int) < 9 := by omega
    clear h hW
    go_enter Tryd.func109, Tryd.ntmps109
    go_wp2_with (go_at_call 64; (refine (C.out _).mono ?_); rintro e w' ⟨rfl, rfl⟩)
    go_ret
    exact ⟨rfl, rfl⟩
  · rw [kindB_no h] at C
    rw [word_out h]
    clear h hW
    go_enter Tryd.func109, Tryd.ntmps109
    go_wp2_with (go_at_call 64; (refine (C.out _).mono ?_); rintro e w' ⟨rfl, rfl⟩)
    go_ret
    exact ⟨rfl, rfl⟩
/-- A state kind. -/
def stB (k : Nat) : Bool := decide (1 ≤ k ∧ k ≤ 8) && decide (k ≠ 6) && decide (k ≠ 7)
set_option maxHeartbeats 4000000 in
theorem state_any (w : World) (k : Nat) (hk : k < 256) :
    Calls Tryd.prog 83 #[.int .u8 (k : Int)] w fun e w' => e = .returned (.bool (stB k)) ∧ w' = w := by
  have C := hidp (fun W => isKind_any W k hk)
  by_cases h : 1 ≤ k ∧ k ≤ 8
  · rw [kindB_yes h] at C
    by_cases h6 : k = 6
    · have e0 : ((k : Int) != 6) = false := by rw [h6]; rfl
      have HF := hidp (show stB k = false from by rw [h6]; rfl)
      clear h h6
      go_enter Tryd.func83, Tryd.ntmps83
      go_wp2_with (go_at_call 64; (refine (C.out _).mono ?_); rintro e w' ⟨rfl, rfl⟩)
      go_ret
      exact ⟨by rw [HF.out]; rfl, rfl⟩
    · have e0 : ((k : Int) != 6) = true := by simp; omega
      have n0 : ¬ k = 6 := h6
      by_cases h7 : k = 7
      · have e1 : ((k : Int) != 7) = false := by rw [h7]; rfl
        have HF := hidp (show stB k = false from by rw [h7]; rfl)
        clear h h6 h7
        go_enter Tryd.func83, Tryd.ntmps83
        go_wp2_with (go_at_call 64; (refine (C.out _).mono ?_); rintro e w' ⟨rfl, rfl⟩)
        go_ret
        exact ⟨by rw [HF.out]; rfl, rfl⟩
      · have e1 : ((k : Int) != 7) = true := by simp; omega
        have n1 : ¬ k = 7 := h7
        have HF := hidp (show stB k = true from by unfold stB; rw [decide_eq_true h, decide_eq_true h6, decide_eq_true h7]; rfl)
        clear h h6 h7
        go_enter Tryd.func83, Tryd.ntmps83
        go_wp2_with (go_at_call 64; (refine (C.out _).mono ?_); rintro e w' ⟨rfl, rfl⟩)
        go_ret
        exact ⟨by rw [HF.out]; rfl, rfl⟩
  · have HF := hidp (show stB k = false from by unfold stB; rw [decide_eq_false h]; rfl)
    rw [kindB_no h] at C
    clear h
    go_enter Tryd.func83, Tryd.ntmps83
    go_wp2_with (go_at_call 64; (refine (C.out _).mono ?_); rintro e w' ⟨rfl, rfl⟩)
    go_ret
    exact ⟨by rw [HF.out]; rfl, rfl⟩
end Go.Proofs.YtfenjincbhkodaaDoor

namespace Go.Proofs.YtfenjincbhkodaaDoor
set_option maxRecDepth 100000
set_option linter.unusedVariables false
set_option linter.unusedSimpArgs false
open Go.RowKit

theorem empty_facts {y : ByteArray} (h : y.size = 0) : y.toList = [] ∧ y.toList.isEmpty = true ∧ (y.toList == (⟨#[]⟩ : ByteArray).toList) = true := by
  have h1 : y.toList = [] := by rw [ByteArray.toList_eq]; exact List.eq_nil_of_length_eq_zero ((size_toList y).trans h)
  exact ⟨h1, by rw [h1]; rfl, by rw [h1, ByteArray.toList_eq]; rfl⟩
theorem full_facts {y : ByteArray} (h : ¬ y.size = 0) : ¬ y.toList = [] ∧ y.toList.isEmpty = false ∧ (y.toList == (⟨#[]⟩ : ByteArray).toList) = false := by
  have h1 : ¬ y.toList = [] := fun e => h (by rw [← size_toList, ← ByteArray.toList_eq, e]; rfl)
  refine ⟨h1, ?_, toList_no (fun e => h (by rw [e]; rfl))⟩
  cases hq : y.toList with
  | nil => exact absurd hq h1
  | cons a r => rfl

theorem arr6 {w : World} {b T : Nat} {x0 x1 x2 x3 x4 x5 : Value} (h : Arr w b T [x0, x1, x2, x3, x4, x5]) : w.cell? ⟨b, 0, none⟩ = some x0 ∧ w.cell? ⟨b, 1, none⟩ = some x1 ∧ w.cell? ⟨b, 2, none⟩ = some x2 ∧ w.cell? ⟨b, 3, none⟩ = some x3 ∧ w.cell? ⟨b, 4, none⟩ = some x4 ∧ w.cell? ⟨b, 5, none⟩ = some x5 :=
  ⟨h.cell 0 (by simp), h.cell 1 (by simp), h.cell 2 (by simp), h.cell 3 (by simp), h.cell 4 (by simp), h.cell 5 (by simp)⟩
set_option maxHeartbeats 4000000 in
theorem validKey_any (w : World) (r s : ByteArray) (k : Nat) (y b : ByteArray) (n : Int) (hk : k < 256) (hr : r.size ≤ 281474976710656) (hs : s.size ≤ 281474976710656) (hy : y.size ≤ 281474976710656) (hI : IT w) :
    Calls Tryd.prog 65 #[.agg #[.string r, .string s, .int .u8 (k : Int), .string y, .string b, .int .i64 n]] w fun e w' => e = .returned (.bool (keyOk k y)) ∧ Below w.heap.size w w' := by
  have HX := hidp ((Below.refl w.heap.size w).alloc (Nat.le_refl _) (.cells #[.string r, .string s, .int .u8 (k : Int), .string y, .string b, .int .i64 n] 59))
  have C := hidp (fun W (h : IT W) => user_any W y hy h)
  have HI := hidp hI; clear hI
  by_cases h2 : k = 2
  · have e0 : ((k : Int) != 2) = false := by rw [h2]; rfl
    cases hw : who 1 y with
    | none =>
      have HF := hidp (show keyOk k y = false from by unfold keyOk; rw [if_pos h2, hw]; rfl)
      rw [hw] at C
      unfold whoV at C
      clear h2 hw
      go_enter Tryd.func65, Tryd.ntmps65
      go_wp2_with (go_at_call 63; (refine (C.out _ (HI.out.below HX.out (Nat.le_refl _))).mono ?_); rintro e w1 ⟨rfl, hb1⟩; have HB1 := hidp (HX.out.trans (hb1.mono HX.out.size)); clear hb1)
      go_ret
      exact ⟨by rw [HF.out]; rfl, HB1.out⟩
    | some m =>
      have HF := hidp (show keyOk k y = true from by unfold keyOk; rw [if_pos h2, hw]; rfl)
      rw [hw] at C
      unfold whoV at C
      clear h2 hw
      go_enter Tryd.func65, Tryd.ntmps65
      go_wp2_with (go_at_call 63; (refine (C.out _ (HI.out.below HX.out (Nat.le_refl _))).mono ?_); rintro e w1 ⟨rfl, hb1⟩; have HB1 := hidp (HX.out.trans (hb1.mono HX.out.size)); clear hb1)
      go_ret
      exact ⟨by rw [HF.out]; rfl, HB1.out⟩
  · have e0 : ((k : Int) != 2) = true := by simp; omega
    have n0 : ¬ k = 2 := h2
    by_cases h0 : y.size = 0
    · obtain ⟨f1, f2, f3⟩ := empty_facts h0
      have HF := hidp (show keyOk k y = true from by unfold keyOk; rw [if_neg h2]; exact decide_eq_true h0)
      clear h2 h0
      go_enter Tryd.func65, Tryd.ntmps65
      go_wp2_with fail
      go_ret
      exact ⟨by rw [HF.out]; rfl, HX.out⟩
    · obtain ⟨f1, f2, f3⟩ := full_facts h0
      have HF := hidp (show keyOk k y = false from by unfold keyOk; rw [if_neg h2]; exact decide_eq_false h0)
      clear h2 h0
      go_enter Tryd.func65, Tryd.ntmps65
      go_wp2_with fail
      go_ret
      exact ⟨by rw [HF.out]; rfl, HX.out⟩

theorem whoV_form' (o : Option Nat) : ∃ a b, whoV o = .tuple #[.int .i64 a, .bool b] := by cases o with
  | none => exact ⟨_, _, rfl⟩
  | some n => exact ⟨_, _, rfl⟩
set_option maxHeartbeats 8000000 in
theorem evCheck_any (w : World) (r s : ByteArray) (k : Nat) (y b : ByteArray) (n : Int) (hk : k < 256) (hr : r.size ≤ 281474976710656) (hs : s.size ≤ 281474976710656) (hy : y.size ≤ 281474976710656) (hb : b.size ≤ 281474976710656) (hI : IT w) :
    Calls Tryd.prog 28 #[.agg #[.string r, .string s, .int .u8 (k : Int), .string y, .string b, .int .i64 n]] w fun e w' => e = .returned (.int .i64 (evE (⟨r, s, k, y, b, n⟩ : Ev))) ∧ Below w.heap.size w w' := by
  have c1 := hidp (fun W (h : IT W) => room_any W r hr h)
  have c2 := hidp (fun W (h : IT W) => user_any W s hs h)
  have c3 := hidp (fun W => isKind_any W k hk)
  have c4 := hidp (fun W (h : IT W) => validKey_any W r s k y b n hk hr hs hy h)
  have HI := hidp hI; clear hI
  obtain ⟨E, hE⟩ : ∃ E, evE (⟨r, s, k, y, b, n⟩ : Ev) = E := ⟨_, rfl⟩
  have HE := hidp hE
  rw [hE]
  clear hE
  unfold evE evOk at HE
  simp only at HE
  cases h1 : who 2 r with
  | none =>
    rw [h1] at c1 HE
    obtain ⟨a2, b2, h2⟩ := whoV_form' (who 1 s)
    rw [h2] at c2
    unfold whoV at c1
    have HF := hidp (show E = 2 from by have := HE.out; simp at this; exact this.symm)
    clear h1 h2 HE
    go_enter Tryd.func28, Tryd.ntmps28
    go_wp2_with fail
    have HX := hidp ((Below.refl w.heap.size w).alloc (Nat.le_refl _) (.cells #[.string r, .string s, .int .u8 (k : Int), .string y, .string b, .int .i64 n] 59)); have HA := hidp (Arr.new w 59 [.string r, .string s, .int .u8 (k : Int), .string y, .string b, .int .i64 n])
    obtain ⟨bd, hbd⟩ : ∃ b, w.heap.size = b := ⟨_, rfl⟩
    have hge : w.heap.size ≤ bd := by omega
    generalize hW : (w.alloc (.cells #[.string r, .string s, .int .u8 (k : Int), .string y, .string b, .int .i64 n] 59)) = W0 at HX HA ⊢
    rw [hbd] at HA ⊢
    rw [← hbd]
    clear hW
    refine (c1.out _ (HI.out.below HX.out (Nat.le_refl _))).mono ?_
    rintro e w1 ⟨rfl, hb1⟩
    have HB1 := hidp (HX.out.trans (hb1.mono HX.out.size)); have HA1 := hidp (HA.out.below hb1 HA.out.lt)
    clear hb1
    obtain ⟨x0, x1, x2, x3, x4, x5⟩ := arr6 HA1.out
    go_wp2_with fail
    clear x0 x1 x2 x3 x4 x5
    refine (c2.out _ (HI.out.below HB1.out (Nat.le_refl _))).mono ?_
    rintro e w2 ⟨rfl, hb2⟩
    have HB2 := hidp (HB1.out.trans (hb2.mono HB1.out.size)); have HA2 := hidp (HA1.out.below hb2 HA1.out.lt)
    clear hb2
    obtain ⟨x0, x1, x2, x3, x4, x5⟩ := arr6 HA2.out
    go_wp2_with fail
    go_ret
    exact ⟨by rw [HF.out]; rfl, HB2.out⟩
  | some m1 =>
    rw [h1] at c1 HE
    unfold whoV at c1
    clear h1
    cases h2 : who 1 s with
    | none =>
      rw [h2] at c2 HE
      unfold whoV at c2
      have HF := hidp (show E = 2 from by have := HE.out; simp at this; exact this.symm)
      clear h2 HE
      go_enter Tryd.func28, Tryd.ntmps28
      go_wp2_with fail
      have HX := hidp ((Below.refl w.heap.size w).alloc (Nat.le_refl _) (.cells #[.string r, .string s, .int .u8 (k : Int), .string y, .string b, .int .i64 n] 59)); have HA := hidp (Arr.new w 59 [.string r, .string s, .int .u8 (k : Int), .string y, .string b, .int .i64 n])
      obtain ⟨bd, hbd⟩ : ∃ b, w.heap.size = b := ⟨_, rfl⟩
      have hge : w.heap.size ≤ bd := by omega
      generalize hW : (w.alloc (.cells #[.string r, .string s, .int .u8 (k : Int), .string y, .string b, .int .i64 n] 59)) = W0 at HX HA ⊢
      rw [hbd] at HA ⊢
      rw [← hbd]
      clear hW
      refine (c1.out _ (HI.out.below HX.out (Nat.le_refl _))).mono ?_
      rintro e w1 ⟨rfl, hb1⟩
      have HB1 := hidp (HX.out.trans (hb1.mono HX.out.size)); have HA1 := hidp (HA.out.below hb1 HA.out.lt)
      clear hb1
      obtain ⟨x0, x1, x2, x3, x4, x5⟩ := arr6 HA1.out
      go_wp2_with fail
      clear x0 x1 x2 x3 x4 x5
      refine (c2.out _ (HI.out.below HB1.out (Nat.le_refl _))).mono ?_
      rintro e w2 ⟨rfl, hb2⟩
      have HB2 := hidp (HB1.out.trans (hb2.mono HB1.out.size)); have HA2 := hidp (HA1.out.below hb2 HA1.out.lt)
      clear hb2
      obtain ⟨x0, x1, x2, x3, x4, x5⟩ := arr6 HA2.out
      go_wp2_with fail
      go_ret
      exact ⟨by rw [HF.out]; rfl, HB2.out⟩
    | some m2 =>
      rw [h2] at c2 HE
      unfold whoV at c2
      clear h2
      by_cases h3 : 1 ≤ k ∧ k ≤ 8
      · rw [kindB_yes h3] at c3
        rw [decide_eq_true h3] at HE
        cases h4 : keyOk k y with
        | false =>
          rw [h4] at c4 HE
          have HF := hidp (show E = 2 from by have := HE.out; simp at this; exact this.symm)
          clear h3 h4 HE
          go_enter Tryd.func28, Tryd.ntmps28
          go_wp2_with fail
          have HX := hidp ((Below.refl w.heap.size w).alloc (Nat.le_refl _) (.cells #[.string r, .string s, .int .u8 (k : Int), .string y, .string b, .int .i64 n] 59)); have HA := hidp (Arr.new w 59 [.string r, .string s, .int .u8 (k : Int), .string y, .string b, .int .i64 n])
          obtain ⟨bd, hbd⟩ : ∃ b, w.heap.size = b := ⟨_, rfl⟩
          have hge : w.heap.size ≤ bd := by omega
          generalize hW : (w.alloc (.cells #[.string r, .string s, .int .u8 (k : Int), .string y, .string b, .int .i64 n] 59)) = W0 at HX HA ⊢
          rw [hbd] at HA ⊢
          rw [← hbd]
          clear hW
          refine (c1.out _ (HI.out.below HX.out (Nat.le_refl _))).mono ?_
          rintro e w1 ⟨rfl, hb1⟩
          have HB1 := hidp (HX.out.trans (hb1.mono HX.out.size)); have HA1 := hidp (HA.out.below hb1 HA.out.lt)
          clear hb1
          obtain ⟨x0, x1, x2, x3, x4, x5⟩ := arr6 HA1.out
          go_wp2_with fail
          clear x0 x1 x2 x3 x4 x5
          refine (c2.out _ (HI.out.below HB1.out (Nat.le_refl _))).mono ?_
          rintro e w2 ⟨rfl, hb2⟩
          have HB2 := hidp (HB1.out.trans (hb2.mono HB1.out.size)); have HA2 := hidp (HA1.out.below hb2 HA1.out.lt)
          clear hb2
          obtain ⟨x0, x1, x2, x3, x4, x5⟩ := arr6 HA2.out
          go_wp2_with (first
            | (go_at_call 64; (refine (c3.out _).mono ?_); rintro e w3 ⟨rfl, rfl⟩)
            | (go_at_call 65; (refine (c4.out _ (HI.out.below HB2.out (Nat.le_refl _))).mono ?_); rintro e w4 ⟨rfl, hb4⟩; have HB4 := hidp (HB2.out.trans (hb4.mono HB2.out.size)); have HA4 := hidp (HA2.out.below hb4 HA2.out.lt); clear hb4; clear x0 x1 x2 x3 x4 x5; obtain ⟨x0, x1, x2, x3, x4, x5⟩ := arr6 HA4.out))
          go_ret
          exact ⟨by rw [HF.out]; rfl, HB4.out⟩
        | true =>
          rw [h4] at c4 HE
          clear h4
          by_cases h5 : 512 < b.size
          · have e5 : decide ((512 : Int) < (b.size : Int)) = true := by simp; omega
            have n5 : (512 : Int) < (b.size : Int) := by omega
            rw [decide_eq_false (show ¬ b.size ≤ 512 from by omega)] at HE
            have HF := hidp (show E = 2 from by have := HE.out; simp at this; exact this.symm)
            clear h3 h5 HE
            go_enter Tryd.func28, Tryd.ntmps28
            go_wp2_with fail
            have HX := hidp ((Below.refl w.heap.size w).alloc (Nat.le_refl _) (.cells #[.string r, .string s, .int .u8 (k : Int), .string y, .string b, .int .i64 n] 59)); have HA := hidp (Arr.new w 59 [.string r, .string s, .int .u8 (k : Int), .string y, .string b, .int .i64 n])
            obtain ⟨bd, hbd⟩ : ∃ b, w.heap.size = b := ⟨_, rfl⟩
            have hge : w.heap.size ≤ bd := by omega
            generalize hW : (w.alloc (.cells #[.string r, .string s, .int .u8 (k : Int), .string y, .string b, .int .i64 n] 59)) = W0 at HX HA ⊢
            rw [hbd] at HA ⊢
            rw [← hbd]
            clear hW
            refine (c1.out _ (HI.out.below HX.out (Nat.le_refl _))).mono ?_
            rintro e w1 ⟨rfl, hb1⟩
            have HB1 := hidp (HX.out.trans (hb1.mono HX.out.size)); have HA1 := hidp (HA.out.below hb1 HA.out.lt)
            clear hb1
            obtain ⟨x0, x1, x2, x3, x4, x5⟩ := arr6 HA1.out
            go_wp2_with fail
            clear x0 x1 x2 x3 x4 x5
            refine (c2.out _ (HI.out.below HB1.out (Nat.le_refl _))).mono ?_
            rintro e w2 ⟨rfl, hb2⟩
            have HB2 := hidp (HB1.out.trans (hb2.mono HB1.out.size)); have HA2 := hidp (HA1.out.below hb2 HA1.out.lt)
            clear hb2
            obtain ⟨x0, x1, x2, x3, x4, x5⟩ := arr6 HA2.out
            go_wp2_with (first
              | (go_at_call 64; (refine (c3.out _).mono ?_); rintro e w3 ⟨rfl, rfl⟩)
              | (go_at_call 65; (refine (c4.out _ (HI.out.below HB2.out (Nat.le_refl _))).mono ?_); rintro e w4 ⟨rfl, hb4⟩; have HB4 := hidp (HB2.out.trans (hb4.mono HB2.out.size)); have HA4 := hidp (HA2.out.below hb4 HA2.out.lt); clear hb4; clear x0 x1 x2 x3 x4 x5; obtain ⟨x0, x1, x2, x3, x4, x5⟩ := arr6 HA4.out))
            go_ret
            exact ⟨by rw [HF.out]; rfl, HB4.out⟩
          · have e5 : decide ((512 : Int) < (b.size : Int)) = false := by simp; omega
            have n5 : ¬ (512 : Int) < (b.size : Int) := by omega
            rw [decide_eq_true (show b.size ≤ 512 from by omega)] at HE
            by_cases h6 : n < 0
            · have e6 : decide (n < 0) = true := by simp; omega
              rw [decide_eq_false (show ¬ (0 ≤ n ∧ n ≤ 1099511627776) from by omega)] at HE
              have HF := hidp (show E = 2 from by have := HE.out; simp at this; exact this.symm)
              clear h3 h5 HE
              go_enter Tryd.func28, Tryd.ntmps28
              go_wp2_with fail
              have HX := hidp ((Below.refl w.heap.size w).alloc (Nat.le_refl _) (.cells #[.string r, .string s, .int .u8 (k : Int), .string y, .string b, .int .i64 n] 59)); have HA := hidp (Arr.new w 59 [.string r, .string s, .int .u8 (k : Int), .string y, .string b, .int .i64 n])
              obtain ⟨bd, hbd⟩ : ∃ b, w.heap.size = b := ⟨_, rfl⟩
              have hge : w.heap.size ≤ bd := by omega
              generalize hW : (w.alloc (.cells #[.string r, .string s, .int .u8 (k : Int), .string y, .string b, .int .i64 n] 59)) = W0 at HX HA ⊢
              rw [hbd] at HA ⊢
              rw [← hbd]
              clear hW
              refine (c1.out _ (HI.out.below HX.out (Nat.le_refl _))).mono ?_
              rintro e w1 ⟨rfl, hb1⟩
              have HB1 := hidp (HX.out.trans (hb1.mono HX.out.size)); have HA1 := hidp (HA.out.below hb1 HA.out.lt)
              clear hb1
              obtain ⟨x0, x1, x2, x3, x4, x5⟩ := arr6 HA1.out
              go_wp2_with fail
              clear x0 x1 x2 x3 x4 x5
              refine (c2.out _ (HI.out.below HB1.out (Nat.le_refl _))).mono ?_
              rintro e w2 ⟨rfl, hb2⟩
              have HB2 := hidp (HB1.out.trans (hb2.mono HB1.out.size)); have HA2 := hidp (HA1.out.below hb2 HA1.out.lt)
              clear hb2
              obtain ⟨x0, x1, x2, x3, x4, x5⟩ := arr6 HA2.out
              go_wp2_with (first
                | (go_at_call 64; (refine (c3.out _).mono ?_); rintro e w3 ⟨rfl, rfl⟩)
                | (go_at_call 65; (refine (c4.out _ (HI.out.below HB2.out (Nat.le_refl _))).mono ?_); rintro e w4 ⟨rfl, hb4⟩; have HB4 := hidp (HB2.out.trans (hb4.mono HB2.out.size)); have HA4 := hidp (HA2.out.below hb4 HA2.out.lt); clear hb4; clear x0 x1 x2 x3 x4 x5; obtain ⟨x0, x1, x2, x3, x4, x5⟩ := arr6 HA4.out))
              go_ret
              exact ⟨by rw [HF.out]; rfl, HB4.out⟩
            · have e6 : decide (n < 0) = false := by simp; omega
              by_cases h7 : 1099511627776 < n
              · have e7 : decide (1099511627776 < n) = true := by simp; omega
                rw [decide_eq_false (show ¬ (0 ≤ n ∧ n ≤ 1099511627776) from by omega)] at HE
                have HF := hidp (show E = 2 from by have := HE.out; simp at this; exact this.symm)
                clear h3 h5 h6 HE
                go_enter Tryd.func28, Tryd.ntmps28
                go_wp2_with fail
                have HX := hidp ((Below.refl w.heap.size w).alloc (Nat.le_refl _) (.cells #[.string r, .string s, .int .u8 (k : Int), .string y, .string b, .int .i64 n] 59)); have HA := hidp (Arr.new w 59 [.string r, .string s, .int .u8 (k : Int), .string y, .string b, .int .i64 n])
                obtain ⟨bd, hbd⟩ : ∃ b, w.heap.size = b := ⟨_, rfl⟩
                have hge : w.heap.size ≤ bd := by omega
                generalize hW : (w.alloc (.cells #[.string r, .string s, .int .u8 (k : Int), .string y, .string b, .int .i64 n] 59)) = W0 at HX HA ⊢
                rw [hbd] at HA ⊢
                rw [← hbd]
                clear hW
                refine (c1.out _ (HI.out.below HX.out (Nat.le_refl _))).mono ?_
                rintro e w1 ⟨rfl, hb1⟩
                have HB1 := hidp (HX.out.trans (hb1.mono HX.out.size)); have HA1 := hidp (HA.out.below hb1 HA.out.lt)
                clear hb1
                obtain ⟨x0, x1, x2, x3, x4, x5⟩ := arr6 HA1.out
                go_wp2_with fail
                clear x0 x1 x2 x3 x4 x5
                refine (c2.out _ (HI.out.below HB1.out (Nat.le_refl _))).mono ?_
                rintro e w2 ⟨rfl, hb2⟩
                have HB2 := hidp (HB1.out.trans (hb2.mono HB1.out.size)); have HA2 := hidp (HA1.out.below hb2 HA1.out.lt)
                clear hb2
                obtain ⟨x0, x1, x2, x3, x4, x5⟩ := arr6 HA2.out
                go_wp2_with (first
                  | (go_at_call 64; (refine (c3.out _).mono ?_); rintro e w3 ⟨rfl, rfl⟩)
                  | (go_at_call 65; (refine (c4.out _ (HI.out.below HB2.out (Nat.le_refl _))).mono ?_); rintro e w4 ⟨rfl, hb4⟩; have HB4 := hidp (HB2.out.trans (hb4.mono HB2.out.size)); have HA4 := hidp (HA2.out.below hb4 HA2.out.lt); clear hb4; clear x0 x1 x2 x3 x4 x5; obtain ⟨x0, x1, x2, x3, x4, x5⟩ := arr6 HA4.out))
                go_ret
                exact ⟨by rw [HF.out]; rfl, HB4.out⟩
              · have e7 : decide (1099511627776 < n) = false := by simp; omega
                rw [decide_eq_true (show (0 ≤ n ∧ n ≤ 1099511627776) from by omega)] at HE
                have HF := hidp (show E = 0 from by have := HE.out; simp at this; exact this.symm)
                clear h3 h5 h6 HE
                go_enter Tryd.func28, Tryd.ntmps28
                go_wp2_with fail
                have HX := hidp ((Below.refl w.heap.size w).alloc (Nat.le_refl _) (.cells #[.string r, .string s, .int .u8 (k : Int), .string y, .string b, .int .i64 n] 59)); have HA := hidp (Arr.new w 59 [.string r, .string s, .int .u8 (k : Int), .string y, .string b, .int .i64 n])
                obtain ⟨bd, hbd⟩ : ∃ b, w.heap.size = b := ⟨_, rfl⟩
                have hge : w.heap.size ≤ bd := by omega
                generalize hW : (w.alloc (.cells #[.string r, .string s, .int .u8 (k : Int), .string y, .string b, .int .i64 n] 59)) = W0 at HX HA ⊢
                rw [hbd] at HA ⊢
                rw [← hbd]
                clear hW
                refine (c1.out _ (HI.out.below HX.out (Nat.le_refl _))).mono ?_
                rintro e w1 ⟨rfl, hb1⟩
                have HB1 := hidp (HX.out.trans (hb1.mono HX.out.size)); have HA1 := hidp (HA.out.below hb1 HA.out.lt)
                clear hb1
                obtain ⟨x0, x1, x2, x3, x4, x5⟩ := arr6 HA1.out
                go_wp2_with fail
                clear x0 x1 x2 x3 x4 x5
                refine (c2.out _ (HI.out.below HB1.out (Nat.le_refl _))).mono ?_
                rintro e w2 ⟨rfl, hb2⟩
                have HB2 := hidp (HB1.out.trans (hb2.mono HB1.out.size)); have HA2 := hidp (HA1.out.below hb2 HA1.out.lt)
                clear hb2
                obtain ⟨x0, x1, x2, x3, x4, x5⟩ := arr6 HA2.out
                go_wp2_with (first
                  | (go_at_call 64; (refine (c3.out _).mono ?_); rintro e w3 ⟨rfl, rfl⟩)
                  | (go_at_call 65; (refine (c4.out _ (HI.out.below HB2.out (Nat.le_refl _))).mono ?_); rintro e w4 ⟨rfl, hb4⟩; have HB4 := hidp (HB2.out.trans (hb4.mono HB2.out.size)); have HA4 := hidp (HA2.out.below hb4 HA2.out.lt); clear hb4; clear x0 x1 x2 x3 x4 x5; obtain ⟨x0, x1, x2, x3, x4, x5⟩ := arr6 HA4.out))
                go_ret
                exact ⟨by rw [HF.out]; rfl, HB4.out⟩
      · rw [kindB_no h3] at c3
        rw [decide_eq_false h3] at HE
        have HF := hidp (show E = 2 from by have := HE.out; simp at this; exact this.symm)
        clear h3 HE
        go_enter Tryd.func28, Tryd.ntmps28
        go_wp2_with fail
        have HX := hidp ((Below.refl w.heap.size w).alloc (Nat.le_refl _) (.cells #[.string r, .string s, .int .u8 (k : Int), .string y, .string b, .int .i64 n] 59)); have HA := hidp (Arr.new w 59 [.string r, .string s, .int .u8 (k : Int), .string y, .string b, .int .i64 n])
        obtain ⟨bd, hbd⟩ : ∃ b, w.heap.size = b := ⟨_, rfl⟩
        have hge : w.heap.size ≤ bd := by omega
        generalize hW : (w.alloc (.cells #[.string r, .string s, .int .u8 (k : Int), .string y, .string b, .int .i64 n] 59)) = W0 at HX HA ⊢
        rw [hbd] at HA ⊢
        rw [← hbd]
        clear hW
        refine (c1.out _ (HI.out.below HX.out (Nat.le_refl _))).mono ?_
        rintro e w1 ⟨rfl, hb1⟩
        have HB1 := hidp (HX.out.trans (hb1.mono HX.out.size)); have HA1 := hidp (HA.out.below hb1 HA.out.lt)
        clear hb1
        obtain ⟨x0, x1, x2, x3, x4, x5⟩ := arr6 HA1.out
        go_wp2_with fail
        clear x0 x1 x2 x3 x4 x5
        refine (c2.out _ (HI.out.below HB1.out (Nat.le_refl _))).mono ?_
        rintro e w2 ⟨rfl, hb2⟩
        have HB2 := hidp (HB1.out.trans (hb2.mono HB1.out.size)); have HA2 := hidp (HA1.out.below hb2 HA1.out.lt)
        clear hb2
        obtain ⟨x0, x1, x2, x3, x4, x5⟩ := arr6 HA2.out
        go_wp2_with (go_at_call 64; (refine (c3.out _).mono ?_); rintro e w3 ⟨rfl, rfl⟩)
        go_ret
        exact ⟨by rw [HF.out]; rfl, HB2.out⟩
end Go.Proofs.YtfenjincbhkodaaDoor

namespace Go.Proofs.YtfenjincbhkodaaDoor
set_option maxRecDepth 100000
set_option linter.unusedVariables false
set_option linter.unusedSimpArgs false
open Go.RowKit

theorem strsLit6 (w : World) (a b c d e f : ByteArray) (t : Nat) : StrsAt (w.alloc (.cells #[.string a, .string b, .string c, .string d, .string e, .string f] t)) (.slice (some ⟨w.heap.size, 0, none⟩) 6 6) [a, b, c, d, e, f] := by
  refine ⟨_, _, rfl, fun k hk => ⟨w.heap.size, 0, rfl, ?_⟩⟩
  have h : (w.alloc (.cells #[.string a, .string b, .string c, .string d, .string e, .string f] t)).heap[w.heap.size]? = some (.cells #[.string a, .string b, .string c, .string d, .string e, .string f] t) := heap_alloc_new w _
  match k, hk with
  | 0, _ => unfold World.cell?; dsimp only; rw [h]; rfl
  | 1, _ => unfold World.cell?; dsimp only; rw [h]; rfl
  | 2, _ => unfold World.cell?; dsimp only; rw [h]; rfl
  | 3, _ => unfold World.cell?; dsimp only; rw [h]; rfl
  | 4, _ => unfold World.cell?; dsimp only; rw [h]; rfl
  | 5, _ => unfold World.cell?; dsimp only; rw [h]; rfl

set_option maxHeartbeats 16000000 in
theorem evBytes_any (w : World) (r s : ByteArray) (k : Nat) (y b : ByteArray) (n : Int) (hk : k < 256) (hr : r.size ≤ 281474976710656) (hs : s.size ≤ 281474976710656) (hy : y.size ≤ 281474976710656) (hb : b.size ≤ 281474976710656) (hI : IT w) (hW : WT w) :
    Calls Tryd.prog 90 #[.agg #[.string r, .string s, .int .u8 (k : Int), .string y, .string b, .int .i64 n]] w fun e w' => e = .returned (.tuple #[.string (evB (⟨r, s, k, y, b, n⟩ : Ev)), .int .i64 (evE (⟨r, s, k, y, b, n⟩ : Ev))]) ∧ Below w.heap.size w w' := by
  have c1 := hidp (fun W (h : IT W) => evCheck_any W r s k y b n hk hr hs hy hb h)
  have HI := hidp hI; have HW := hidp hW; clear hI hW
  have HX := hidp ((Below.refl w.heap.size w).alloc (Nat.le_refl _) (.cells #[.string r, .string s, .int .u8 (k : Int), .string y, .string b, .int .i64 n] 59)); have HA := hidp (Arr.new w 59 [.string r, .string s, .int .u8 (k : Int), .string y, .string b, .int .i64 n])
  cases hok : evOk (⟨r, s, k, y, b, n⟩ : Ev) with
  | false =>
    have h1 : evE (⟨r, s, k, y, b, n⟩ : Ev) = 2 := by unfold evE; rw [hok]; rfl
    have h2 : evB (⟨r, s, k, y, b, n⟩ : Ev) = ⟨#[]⟩ := by unfold evB; rw [hok]; rfl
    rw [h1] at c1
    rw [h1, h2]
    clear h1 h2 hok
    go_enter Tryd.func90, Tryd.ntmps90
    go_wp2_with fail
    refine (c1.out _ (HI.out.below HX.out (Nat.le_refl _))).mono ?_
    rintro e w1 ⟨rfl, hb1⟩
    have HB1 := hidp (HX.out.trans (hb1.mono HX.out.size))
    clear hb1
    go_wp2_with fail
    go_ret2
    exact ⟨rfl, HB1.out⟩
  | true =>
    have h1 : evE (⟨r, s, k, y, b, n⟩ : Ev) = 0 := by unfold evE; rw [hok]; rfl
    have hLok := evL_ok hok
    obtain ⟨-, -, -, -, -, -, p7, p8⟩ := evOk_parts hok
    simp only at p7 p8
    have h2 : evB (⟨r, s, k, y, b, n⟩ : Ev) = mkS (encL (evL (⟨r, s, k, y, b, n⟩ : Ev))) := by unfold evB; rw [hok]; rfl
    obtain ⟨m, rfl⟩ : ∃ m : Nat, n = m := ⟨n.toNat, by omega⟩
    have hm : m ≤ 1099511627776 := by omega
    unfold evL at hLok h2
    simp only [Int.toNat_natCast] at hLok h2
    have cn := hidp (show ∀ W, Calls Tryd.prog 45 #[.int .u64 (m : Int)] W fun e w' => e = .returned (.tuple #[.string (mkS (encN m)), .int .i64 0]) ∧ Below W.heap.size W w' from fun W => by
      have := num_any W m (by omega)
      rw [numS_yes (by omega), numE_yes (by omega)] at this; exact this)
    obtain ⟨N, hN⟩ : ∃ N, mkS (encN m) = N := ⟨_, rfl⟩
    obtain ⟨K, hK⟩ : ∃ K, word k = K := ⟨_, rfl⟩
    have ck := hidp (fun W (h : WT W) => word_any W k hk h)
    rw [hN] at cn hLok h2
    rw [hK] at ck hLok h2
    have cl := hidp (show ∀ W v, StrsAt W v [r, s, K, y, b, N] → Calls Tryd.prog 46 #[v] W fun e w' => e = .returned (.tuple #[.string (mkS (encL [r, s, K, y, b, N])), .int .i64 0]) ∧ Below W.heap.size W w' from fun W v h => by
      have := list_any W v _ h (by simp) (fun z hz => by have := hLok.2 z hz; omega)
      rw [listS_yes hLok, listE_yes hLok] at this; exact this)
    rw [h1] at c1
    rw [h1, h2]
    obtain ⟨R, hR⟩ : ∃ R, mkS (encL [r, s, K, y, b, N]) = R := ⟨_, rfl⟩
    rw [hR] at cl ⊢
    have hw1 : IntKind.u64.wrap (m : Int) = (m : Int) := IntWalk.u64_in _ ⟨by omega, by omega⟩
    clear h1 h2 hok hN hK hLok p7 p8 hR
    go_enter Tryd.func90, Tryd.ntmps90
    go_wp2_with fail
    obtain ⟨bd, hbd⟩ : ∃ b, w.heap.size = b := ⟨_, rfl⟩
    generalize hW0 : (w.alloc (.cells #[.string r, .string s, .int .u8 (k : Int), .string y, .string b, .int .i64 (m : Int)] 59)) = W0 at HX HA ⊢
    rw [hbd] at HA ⊢
    rw [← hbd]
    clear hW0
    refine (c1.out _ (HI.out.below HX.out (Nat.le_refl _))).mono ?_
    rintro e w1 ⟨rfl, hb1⟩
    have HB1 := hidp (HX.out.trans (hb1.mono HX.out.size)); have HA1 := hidp (HA.out.below hb1 HA.out.lt)
    clear hb1
    obtain ⟨x0, x1, x2, x3, x4, x5⟩ := arr6 HA1.out
    go_wp2_with fail
    clear x0 x1 x2 x3 x4 x5
    refine (cn.out _).mono ?_
    rintro e w2 ⟨rfl, hb2⟩
    have HB2 := hidp (HB1.out.trans (hb2.mono HB1.out.size)); have HA2 := hidp (HA1.out.below hb2 HA1.out.lt)
    clear hb2
    go_wp2_with fail
    obtain ⟨U, hU⟩ : ∃ U, ({ w2 with drawn := w2.drawn + 1 } : World) = U := ⟨_, rfl⟩
    have bU : Below w2.heap.size w2 U := by rw [← hU]; exact (Below.refl _ _).drew
    have HBU := hidp (HB2.out.trans (bU.mono HB2.out.size)); have HAU := hidp (HA2.out.below bU HA2.out.lt)
    have HSU := hidp (show Arr U bd 59 [.string r, .string s, .int .u8 (k : Int), .string y, .string b, .int .i64 (m : Int)] ∧ WT U from ⟨HAU.out, HW.out.below HBU.out (Nat.le_refl _)⟩)
    clear bU
    have hPS : ∀ W W', (Arr W bd 59 [.string r, .string s, .int .u8 (k : Int), .string y, .string b, .int .i64 (m : Int)] ∧ WT W) → Below W.heap.size W W' → (Arr W' bd 59 [.string r, .string s, .int .u8 (k : Int), .string y, .string b, .int .i64 (m : Int)] ∧ WT W') := fun W W' h hb => ⟨h.1.below hb h.1.lt, h.2.below hb (Nat.le_refl _)⟩
    have HPS := hidp hPS; clear hPS
    refine wp_region_noPanic ?_
    refine wp_region_scr (S := fun W => Arr W bd 59 [.string r, .string s, .int .u8 (k : Int), .string y, .string b, .int .i64 (m : Int)] ∧ WT W) (.take 0 (.take 1 (.take 2 (.take 3 (.take 4 (.take 5 (.take 7 (.take 8 (.take 9 (.take 10 (.take 11 (.one 6 (.one 12 (.one 13 (.take 14 (.take 15 (.take 16 (.take 17 .done)))))))))))))))))) (by kernel_rfl) (by kernel_rfl) (fun _ _ _ _ _ h => h) (by simp [Scr.depth]) (by kernel_rfl) (by rw [hU]; exact HSU.out) ?_
    simp only [hU]
    clear hU
    apply s_val
    case ho => rfl
    case hw => rfl
    case hv => intro w hw; obtain ⟨x0, x1, x2, x3, x4, x5⟩ := arr6 hw.1; go_simp; first | done | with_reducible rfl | rfl
    simp only [Act.put, List.getElem_toArray, List.getElem_cons_zero, List.getElem_cons_succ, List.setIfInBounds_toArray, List.set_cons_zero, List.set_cons_succ]
    apply s_val
    case ho => rfl
    case hw => rfl
    case hv => intro w hw; obtain ⟨x0, x1, x2, x3, x4, x5⟩ := arr6 hw.1; go_simp; first | done | with_reducible rfl | rfl
    simp only [Act.put, List.getElem_toArray, List.getElem_cons_zero, List.getElem_cons_succ, List.setIfInBounds_toArray, List.set_cons_zero, List.set_cons_succ]
    apply s_val
    case ho => rfl
    case hw => rfl
    case hv => intro w hw; obtain ⟨x0, x1, x2, x3, x4, x5⟩ := arr6 hw.1; go_simp; first | done | with_reducible rfl | rfl
    simp only [Act.put, List.getElem_toArray, List.getElem_cons_zero, List.getElem_cons_succ, List.setIfInBounds_toArray, List.set_cons_zero, List.set_cons_succ]
    apply s_val
    case ho => rfl
    case hw => rfl
    case hv => intro w hw; obtain ⟨x0, x1, x2, x3, x4, x5⟩ := arr6 hw.1; go_simp; first | done | with_reducible rfl | rfl
    simp only [Act.put, List.getElem_toArray, List.getElem_cons_zero, List.getElem_cons_succ, List.setIfInBounds_toArray, List.set_cons_zero, List.set_cons_succ]
    apply s_val
    case ho => rfl
    case hw => rfl
    case hv => intro w hw; obtain ⟨x0, x1, x2, x3, x4, x5⟩ := arr6 hw.1; go_simp; first | done | with_reducible rfl | rfl
    simp only [Act.put, List.getElem_toArray, List.getElem_cons_zero, List.getElem_cons_succ, List.setIfInBounds_toArray, List.set_cons_zero, List.set_cons_succ]
    apply s_val
    case ho => rfl
    case hw => rfl
    case hv => intro w hw; obtain ⟨x0, x1, x2, x3, x4, x5⟩ := arr6 hw.1; go_simp; first | done | with_reducible rfl | rfl
    simp only [Act.put, List.getElem_toArray, List.getElem_cons_zero, List.getElem_cons_succ, List.setIfInBounds_toArray, List.set_cons_zero, List.set_cons_succ]
    apply s_val
    case ho => rfl
    case hw => rfl
    case hv => intro w hw; obtain ⟨x0, x1, x2, x3, x4, x5⟩ := arr6 hw.1; go_simp; first | done | with_reducible rfl | rfl
    simp only [Act.put, List.getElem_toArray, List.getElem_cons_zero, List.getElem_cons_succ, List.setIfInBounds_toArray, List.set_cons_zero, List.set_cons_succ]
    apply s_val
    case ho => rfl
    case hw => rfl
    case hv => intro w hw; obtain ⟨x0, x1, x2, x3, x4, x5⟩ := arr6 hw.1; go_simp; first | done | with_reducible rfl | rfl
    simp only [Act.put, List.getElem_toArray, List.getElem_cons_zero, List.getElem_cons_succ, List.setIfInBounds_toArray, List.set_cons_zero, List.set_cons_succ]
    apply s_val
    case ho => rfl
    case hw => rfl
    case hv => intro w hw; obtain ⟨x0, x1, x2, x3, x4, x5⟩ := arr6 hw.1; go_simp; first | done | with_reducible rfl | rfl
    simp only [Act.put, List.getElem_toArray, List.getElem_cons_zero, List.getElem_cons_succ, List.setIfInBounds_toArray, List.set_cons_zero, List.set_cons_succ]
    apply s_val
    case ho => rfl
    case hw => rfl
    case hv => intro w hw; obtain ⟨x0, x1, x2, x3, x4, x5⟩ := arr6 hw.1; go_simp; first | done | with_reducible rfl | rfl
    simp only [Act.put, List.getElem_toArray, List.getElem_cons_zero, List.getElem_cons_succ, List.setIfInBounds_toArray, List.set_cons_zero, List.set_cons_succ]
    apply s_val
    case ho => rfl
    case hw => rfl
    case hv => intro w hw; obtain ⟨x0, x1, x2, x3, x4, x5⟩ := arr6 hw.1; go_simp; first | done | with_reducible rfl | rfl
    simp only [Act.put, List.getElem_toArray, List.getElem_cons_zero, List.getElem_cons_succ, List.setIfInBounds_toArray, List.set_cons_zero, List.set_cons_succ]
    apply o_call (v := .string K) (f := 109) (args := #[.int .u8 (k : Int)]) (R := fun W => W = U) (hc := ck.out _ HSU.out.2)
    case ho => rfl
    case hw => rfl
    case hop => go_simp; done
    rintro w' rfl
    refine ⟨HSU.out, ?_⟩
    simp only [Act.put, List.getElem_toArray, List.getElem_cons_zero, List.getElem_cons_succ, List.setIfInBounds_toArray, List.set_cons_zero, List.set_cons_succ]
    have HB3 := hidp ((Below.refl w'.heap.size w').alloc (Nat.le_refl _) (.cells #[.string r, .string s, .string K, .string y, .string b, .string N] 9))
    have HS3 := hidp (HPS.out _ _ HSU.out HB3.out)
    have HT3 := hidp (strsLit6 w' r s K y b N 9)
    have hbk := hidp (HBU.out.trans (HB3.out.mono HBU.out.size))
    apply o_make (W := w'.alloc (.cells #[.string r, .string s, .string K, .string y, .string b, .string N] 9)) (v := .slice (some ⟨w'.heap.size, 0, none⟩) 6 6) (hS := HS3.out)
    case ho => rfl
    case hw => rfl
    case hop => go_simp; done
    simp only [Act.put, List.getElem_toArray, List.getElem_cons_zero, List.getElem_cons_succ, List.setIfInBounds_toArray, List.set_cons_zero, List.set_cons_succ]
    apply o_call (v := .tuple #[.string R, .int .i64 0]) (f := 46) (args := #[.slice (some ⟨w'.heap.size, 0, none⟩) 6 6]) (hc := cl.out _ _ HT3.out)
    case ho => rfl
    case hw => rfl
    case hop => go_simp; done
    intro w4 hb4
    have HS4 := hidp (HPS.out _ _ HS3.out hb4)
    have HB4 := hidp (hbk.out.trans (hb4.mono hbk.out.size))
    refine ⟨HS4.out, ?_⟩
    simp only [Act.put, List.getElem_toArray, List.getElem_cons_zero, List.getElem_cons_succ, List.setIfInBounds_toArray, List.set_cons_zero, List.set_cons_succ]
    apply s_val
    case ho => rfl
    case hw => rfl
    case hv => intro w hw; obtain ⟨x0, x1, x2, x3, x4, x5⟩ := arr6 hw.1; go_simp; first | done | with_reducible rfl | rfl
    simp only [Act.put, List.getElem_toArray, List.getElem_cons_zero, List.getElem_cons_succ, List.setIfInBounds_toArray, List.set_cons_zero, List.set_cons_succ]
    apply s_val
    case ho => rfl
    case hw => rfl
    case hv => intro w hw; obtain ⟨x0, x1, x2, x3, x4, x5⟩ := arr6 hw.1; go_simp; first | done | with_reducible rfl | rfl
    simp only [Act.put, List.getElem_toArray, List.getElem_cons_zero, List.getElem_cons_succ, List.setIfInBounds_toArray, List.set_cons_zero, List.set_cons_succ]
    apply s_val
    case ho => rfl
    case hw => rfl
    case hv => intro w hw; obtain ⟨x0, x1, x2, x3, x4, x5⟩ := arr6 hw.1; go_simp; first | done | with_reducible rfl | rfl
    simp only [Act.put, List.getElem_toArray, List.getElem_cons_zero, List.getElem_cons_succ, List.setIfInBounds_toArray, List.set_cons_zero, List.set_cons_succ]
    apply s_val
    case ho => rfl
    case hw => rfl
    case hv => intro w hw; obtain ⟨x0, x1, x2, x3, x4, x5⟩ := arr6 hw.1; go_simp; first | done | with_reducible rfl | rfl
    simp only [Act.put, List.getElem_toArray, List.getElem_cons_zero, List.getElem_cons_succ, List.setIfInBounds_toArray, List.set_cons_zero, List.set_cons_succ]
    refine NoPanic.normal ?_
    go_wp2_with fail
    go_ret2
    exact ⟨rfl, HB4.out⟩
end Go.Proofs.YtfenjincbhkodaaDoor

namespace Go.Proofs.YtfenjincbhkodaaDoor.Ai
set_option maxRecDepth 100000
set_option linter.unusedVariables false
set_option linter.unusedSimpArgs false
open Go.RowKit
end Go.Proofs.YtfenjincbhkodaaDoor.Ai

namespace Go.Proofs.YtfenjincbhkodaaDoor.Ai
set_option maxRecDepth 100000
set_option linter.unusedVariables false
set_option linter.unusedSimpArgs false
open Go.RowKit
end Go.Proofs.YtfenjincbhkodaaDoor.Ai
