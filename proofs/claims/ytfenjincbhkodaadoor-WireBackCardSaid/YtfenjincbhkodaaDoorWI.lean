/-
  Joined: IdF IdG IdH EvA EvB EvC AiN AiM.
-/
import Derived.Test.YtfenjincbhkodaaDoorWC
import Derived.Test.YtfenjincbhkodaaDoorWB
import Derived.Test.YtfenjincbhkodaaDoorWA
namespace Go.Proofs.YtfenjincbhkodaaDoor
set_option maxRecDepth 100000
set_option linter.unusedVariables false
set_option linter.unusedSimpArgs false
open Go.RowKit
end Go.Proofs.YtfenjincbhkodaaDoor

namespace Go.Proofs.YtfenjincbhkodaaDoor
set_option maxRecDepth 100000
set_option linter.unusedVariables false
set_option linter.unusedSimpArgs false
open Go.RowKit
end Go.Proofs.YtfenjincbhkodaaDoor

namespace Go.Proofs.YtfenjincbhkodaaDoor
set_option maxRecDepth 100000
set_option linter.unusedVariables false
set_option linter.unusedSimpArgs false
open Go.RowKit
end Go.Proofs.YtfenjincbhkodaaDoor

namespace Go.Proofs.YtfenjincbhkodaaDoor
set_option maxRecDepth 100000
set_option linter.unusedVariables false
set_option linter.unusedSimpArgs false
open Go.RowKit

/-- The table of the words. -/
def WT (w : World) : Prop := ∀ i, i < 9 → w.cell? ⟨1, i, none⟩ = some (.string (word i))
theorem WT.below {w w' : World} (h : WT w) {B : Nat} (hb : Below B w w') (hB : w.heap.size ≤ B) : WT w' := fun i hi => by
  have g1 := World.block_lt_of_cell? w _ (h i hi)
  exact (hb.cell (p := ⟨1, i, none⟩) (by simp only at g1 ⊢; omega)).trans (h i hi)

def kindB (k : Nat) : Bool := decide (1 ≤ k ∧ k ≤ 8)
theorem kindB_yes {k : Nat} (h : 1 ≤ k ∧ k ≤ 8) : kindB k = true := decide_eq_true h
theorem kindB_no {k : Nat} (h : ¬ (1 ≤ k ∧ k ≤ 8)) : kindB k = false := decide_eq_false h
set_option maxHeartbeats 4000000 in
theorem isKind_any (w : World) (k : Nat) (hk : k < 256) :
    Calls Tryd.prog 64 #[.int .u8 (k : Int)] w fun e w' => e = .returned (.bool (kindB k)) ∧ w' = w := by
  by_cases h0 : k = 0
  · have e0 : decide ((0 : Int) < (k : Int)) = false := by simp; omega
    have n0 : ¬ 0 < k := by omega
    have HF := hidp (kindB_no (k := k) (by omega))
    clear h0
    go_enter Tryd.func64, Tryd.ntmps64
    go_wp2
    go_ret
    exact ⟨by rw [HF.out]; rfl, rfl⟩
  · have e0 : decide ((0 : Int) < (k : Int)) = true := by simp; omega
    have n0 : 0 < k := by omega
    by_cases h9 : k < 9
    · have e1 : decide ((k : Int) < 9) = true := by simp; omega
      have n1 : (k : Int) < 9 := by omega
      have HF := hidp (kindB_yes (k := k) (by omega))
      clear h0 h9
      go_enter Tryd.func64, Tryd.ntmps64
      go_wp2
      go_ret
      exact ⟨by rw [HF.out]; rfl, rfl⟩
    · have e1 : decide ((k : Int) < 9) = false := by simp; omega
      have n1 : ¬ (k : Int) < 9 := by omega
      have HF := hidp (kindB_no (k := k) (by omega))
      clear h0 h9
      go_enter Tryd.func64, Tryd.ntmps64
      go_wp2
      go_ret
      exact ⟨by rw [HF.out]; rfl, rfl⟩
theorem kindOf_eq {t : ByteArray} {k : Nat} (h1 : 1 ≤ k) (h2 : k ≤ 8) (h : word k = t) : kindOf t = k := by rw [← h]; exact kindOf_word h1 h2
theorem kindOf_none {t : ByteArray} (h : ∀ k, 1 ≤ k → k ≤ 8 → word k ≠ t) : kindOf t = 0 := by
  by_cases h0 : kindOf t = 0
  · exact h0
  · obtain ⟨h1, h2⟩ := word_kindOf (t := t) (by omega)
    exact absurd h1 (h _ (by omega) h2)
set_option maxHeartbeats 4000000 in
theorem kindOf_any (w : World) (t : ByteArray) (hW : WT w) :
    Calls Tryd.prog 101 #[.string t] w fun e w' => e = .returned (.int .u8 (kindOf t : Nat)) ∧ w' = w := by
  have HW := hidp hW; clear hW
  obtain ⟨K, hK⟩ : ∃ K, kindOf t = K := ⟨_, rfl⟩
  rw [hK]
  have HK := hidp hK; clear hK
  go_enter Tryd.func101, Tryd.ntmps101
  go_wp2
  go_loop [3] (fun t3 => ∃ k : Nat, t3 = .int .u8 (k : Int) ∧ 1 ≤ k ∧ k ≤ 9 ∧ ∀ j, 1 ≤ j → j < k → word j ≠ t) (fun t3 => 9 - (intOf t3).toNat)
  case atStart => exact ⟨1, rfl, by omega, by omega, fun j h1 h2 => by omega⟩
  case round =>
    obtain ⟨k, rfl, h1, h9, hall⟩ := hrel
    have HALL := hidp hall; clear hall
    by_cases hl : k < 9
    · have e0 : decide ((k : Int) < 9) = true := by simp; omega
      have n0 : (k : Int) < 9 := by omega
      have c0 : (0 : Int) ≤ (k : Int) := by omega
      have m1 := HW.out k hl
      by_cases hw : word k = t
      · have HF := hidp (HK.out.symm.trans (kindOf_eq h1 (by omega) hw))
        rw [hw] at m1
        clear hw
        go_wp2
        go_ret
        exact ⟨by rw [HF.out]; rfl, rfl⟩
      · have hq := toList_no hw
        obtain ⟨X, hX⟩ : ∃ X, word k = X := ⟨_, rfl⟩
        have HX := hidp hX
        rw [hX] at m1 hq
        have HN := hidp hw
        clear hw hX
        have hw1 : IntKind.u8.wrap ((k : Int) + 1) = (k : Int) + 1 := by unfold IntKind.wrap; simp [IntKind.bits, IntKind.signed]; omega
        go_wp2
        refine ⟨⟨k + 1, by go_num, by omega, by omega, fun j g1 g2 => ?_⟩, by simp [intOf]; omega⟩
        by_cases hjk : j = k
        · subst hjk; exact HN.out
        · exact HALL.out j g1 (by omega)
    · have e0 : decide ((k : Int) < 9) = false := by simp; omega
      have n0 : ¬ (k : Int) < 9 := by omega
      have HF := hidp (HK.out.symm.trans (kindOf_none fun j g1 g2 => HALL.out j g1 (by omega)))
      go_wp2
      go_ret
      exact ⟨by rw [HF.out]; rfl, rfl⟩
end Go.Proofs.YtfenjincbhkodaaDoor

namespace Go.Proofs.YtfenjincbhkodaaDoor
set_option maxRecDepth 100000
set_option linter.unusedVariables false
set_option linter.unusedSimpArgs false
open Go.RowKit

theorem empty_facts {y : ByteArray} (h : y.size = 0) : y.toList = [] ∧ y.toList.isEmpty = true ∧ (y.toList == (⟨#[]⟩ : ByteArray).toList) = true := by
  have h1 : y.toList = [] := by rw [ByteArray.toList_eq]; exact List.eq_nil_of_length_eq_zero ((size_toList y).trans h)
  exact ⟨h1, by rw [h1]; rfl, by rw [h1, ByteArray.toList_eq]; rfl⟩
theorem full_facts {y : ByteArray} (h : ¬ y.size = 0) : ¬ y.toList = [] ∧ y.toList.isEmpty = false ∧ (y.toList == (⟨#[]⟩ : ByteArray).toList) = false := by
  have h1 : ¬ y.toList = [] := fun e => h (by rw [← size_toList, ← ByteArray.toList_eq, e]; rfl)
  refine ⟨h1, ?_, toList_no (fun e => h (by rw [e]; rfl))⟩
  cases hq : y.toList with
  | nil => exact absurd hq h1
  | cons a r => rfl

theorem arr6 {w : World} {b T : Nat} {x0 x1 x2 x3 x4 x5 : Value} (h : Arr w b T [x0, x1, x2, x3, x4, x5]) : w.cell? ⟨b, 0, none⟩ = some x0 ∧ w.cell? ⟨b, 1, none⟩ = some x1 ∧ w.cell? ⟨b, 2, none⟩ = some x2 ∧ w.cell? ⟨b, 3, none⟩ = some x3 ∧ w.cell? ⟨b, 4, none⟩ = some x4 ∧ w.cell? ⟨b, 5, none⟩ = some x5 :=
  ⟨h.cell 0 (by simp), h.cell 1 (by simp), h.cell 2 (by simp), h.cell 3 (by simp), h.cell 4 (by simp), h.cell 5 (by simp)⟩
set_option maxHeartbeats 4000000 in
theorem validKey_any (w : World) (r s : ByteArray) (k : Nat) (y b : ByteArray) (n : Int) (hk : k < 256) (hr : r.size ≤ 281474976710656) (hs : s.size ≤ 281474976710656) (hy : y.size ≤ 281474976710656) (hI : IT w) :
    Calls Tryd.prog 65 #[.agg #[.string r, .string s, .int .u8 (k : Int), .string y, .string b, .int .i64 n]] w fun e w' => e = .returned (.bool (keyOk k y)) ∧ Below w.heap.size w w' := by
  have HX := hidp ((Below.refl w.heap.size w).alloc (Nat.le_refl _) (.cells #[.string r, .string s, .int .u8 (k : Int), .string y, .string b, .int .i64 n] 59))
  have C := hidp (fun W (h : IT W) => user_any W y hy h)
  have HI := hidp hI; clear hI
  by_cases h2 : k = 2
  · have e0 : ((k : Int) != 2) = false := by rw [h2]; rfl
    cases hw : who 1 y with
    | none =>
      have HF := hidp (show keyOk k y = false from by unfold keyOk; rw [if_pos h2, hw]; rfl)
      rw [hw] at C
      unfold whoV at C
      clear h2 hw
      go_enter Tryd.func65, Tryd.ntmps65
      go_wp2_with (go_at_call 63; (refine (C.out _ (HI.out.below HX.out (Nat.le_refl _))).mono ?_); rintro e w1 ⟨rfl, hb1⟩; have HB1 := hidp (HX.out.trans (hb1.mono HX.out.size)); clear hb1)
      go_ret
      exact ⟨by rw [HF.out]; rfl, HB1.out⟩
    | some m =>
      have HF := hidp (show keyOk k y = true from by unfold keyOk; rw [if_pos h2, hw]; rfl)
      rw [hw] at C
      unfold whoV at C
      clear h2 hw
      go_enter Tryd.func65, Tryd.ntmps65
      go_wp2_with (go_at_call 63; (refine (C.out _ (HI.out.below HX.out (Nat.le_refl _))).mono ?_); rintro e w1 ⟨rfl, hb1⟩; have HB1 := hidp (HX.out.trans (hb1.mono HX.out.size)); clear hb1)
      go_ret
      exact ⟨by rw [HF.out]; rfl, HB1.out⟩
  · have e0 : ((k : Int) != 2) = true := by simp; omega
    have n0 : ¬ k = 2 := h2
    by_cases h0 : y.size = 0
    · obtain ⟨f1, f2, f3⟩ := empty_facts h0
      have HF := hidp (show keyOk k y = true from by unfold keyOk; rw [if_neg h2]; exact decide_eq_true h0)
      clear h2 h0
      go_enter Tryd.func65, Tryd.ntmps65
      go_wp2_with fail
      go_ret
      exact ⟨by rw [HF.out]; rfl, HX.out⟩
    · obtain ⟨f1, f2, f3⟩ := full_facts h0
      have HF := hidp (show keyOk k y = false from by unfold keyOk; rw [if_neg h2]; exact decide_eq_false h0)
      clear h2 h0
      go_enter Tryd.func65, Tryd.ntmps65
      go_wp2_with fail
      go_ret
      exact ⟨by rw [HF.out]; rfl, HX.out⟩

theorem whoV_form' (o : Option Nat) : ∃ a b, whoV o = .tuple #[.int .i64 a, .bool b] := by cases o with
  | none => exact ⟨_, _, rfl⟩
  | some n => exact ⟨_, _, rfl⟩
set_option maxHeartbeats 8000000 in
theorem evCheck_any (w : World) (r s : ByteArray) (k : Nat) (y b : ByteArray) (n : Int) (hk : k < 256) (hr : r.size ≤ 281474976710656) (hs : s.size ≤ 281474976710656) (hy : y.size ≤ 281474976710656) (hb : b.size ≤ 281474976710656) (hI : IT w) :
    Calls Tryd.prog 28 #[.agg #[.string r, .string s, .int .u8 (k : Int), .string y, .string b, .int .i64 n]] w fun e w' => e = .returned (.int .i64 (evE (⟨r, s, k, y, b, n⟩ : Ev))) ∧ Below w.heap.size w w' := by
  have c1 := hidp (fun W (h : IT W) => room_any W r hr h)
  have c2 := hidp (fun W (h : IT W) => user_any W s hs h)
  have c3 := hidp (fun W => isKind_any W k hk)
  have c4 := hidp (fun W (h : IT W) => validKey_any W r s k y b n hk hr hs hy h)
  have HI := hidp hI; clear hI
  obtain ⟨E, hE⟩ : ∃ E, evE (⟨r, s, k, y, b, n⟩ : Ev) = E := ⟨_, rfl⟩
  have HE := hidp hE
  rw [hE]
  clear hE
  unfold evE evOk at HE
  simp only at HE
  cases h1 : who 2 r with
  | none =>
    rw [h1] at c1 HE
    obtain ⟨a2, b2, h2⟩ := whoV_form' (who 1 s)
    rw [h2] at c2
    unfold whoV at c1
    have HF := hidp (show E = 2 from by have := HE.out; simp at this; exact this.symm)
    clear h1 h2 HE
    go_enter Tryd.func28, Tryd.ntmps28
    go_wp2_with fail
    have HX := hidp ((Below.refl w.heap.size w).alloc (Nat.le_refl _) (.cells #[.string r, .string s, .int .u8 (k : Int), .string y, .string b, .int .i64 n] 59)); have HA := hidp (Arr.new w 59 [.string r, .string s, .int .u8 (k : Int), .string y, .string b, .int .i64 n])
    obtain ⟨bd, hbd⟩ : ∃ b, w.heap.size = b := ⟨_, rfl⟩
    have hge : w.heap.size ≤ bd := by omega
    generalize hW : (w.alloc (.cells #[.string r, .string s, .int .u8 (k : Int), .string y, .string b, .int .i64 n] 59)) = W0 at HX HA ⊢
    rw [hbd] at HA ⊢
    rw [← hbd]
    clear hW
    refine (c1.out _ (HI.out.below HX.out (Nat.le_refl _))).mono ?_
    rintro e w1 ⟨rfl, hb1⟩
    have HB1 := hidp (HX.out.trans (hb1.mono HX.out.size)); have HA1 := hidp (HA.out.below hb1 HA.out.lt)
    clear hb1
    obtain ⟨x0, x1, x2, x3, x4, x5⟩ := arr6 HA1.out
    go_wp2_with fail
    clear x0 x1 x2 x3 x4 x5
    refine (c2.out _ (HI.out.below HB1.out (Nat.le_refl _))).mono ?_
    rintro e w2 ⟨rfl, hb2⟩
    have HB2 := hidp (HB1.out.trans (hb2.mono HB1.out.size)); have HA2 := hidp (HA1.out.below hb2 HA1.out.lt)
    clear hb2
    obtain ⟨x0, x1, x2, x3, x4, x5⟩ := arr6 HA2.out
    go_wp2_with fail
    go_ret
    exact ⟨by rw [HF.out]; rfl, HB2.out⟩
  | some m1 =>
    rw [h1] at c1 HE
    unfold whoV at c1
    clear h1
    cases h2 : who 1 s with
    | none =>
      rw [h2] at c2 HE
      unfold whoV at c2
      have HF := hidp (show E = 2 from by have := HE.out; simp at this; exact this.symm)
      clear h2 HE
      go_enter Tryd.func28, Tryd.ntmps28
      go_wp2_with fail
      have HX := hidp ((Below.refl w.heap.size w).alloc (Nat.le_refl _) (.cells #[.string r, .string s, .int .u8 (k : Int), .string y, .string b, .int .i64 n] 59)); have HA := hidp (Arr.new w 59 [.string r, .string s, .int .u8 (k : Int), .string y, .string b, .int .i64 n])
      obtain ⟨bd, hbd⟩ : ∃ b, w.heap.size = b := ⟨_, rfl⟩
      have hge : w.heap.size ≤ bd := by omega
      generalize hW : (w.alloc (.cells #[.string r, .string s, .int .u8 (k : Int), .string y, .string b, .int .i64 n] 59)) = W0 at HX HA ⊢
      rw [hbd] at HA ⊢
      rw [← hbd]
      clear hW
      refine (c1.out _ (HI.out.below HX.out (Nat.le_refl _))).mono ?_
      rintro e w1 ⟨rfl, hb1⟩
      have HB1 := hidp (HX.out.trans (hb1.mono HX.out.size)); have HA1 := hidp (HA.out.below hb1 HA.out.lt)
      clear hb1
      obtain ⟨x0, x1, x2, x3, x4, x5⟩ := arr6 HA1.out
      go_wp2_with fail
      clear x0 x1 x2 x3 x4 x5
      refine (c2.out _ (HI.out.below HB1.out (Nat.le_refl _))).mono ?_
      rintro e w2 ⟨rfl, hb2⟩
      have HB2 := hidp (HB1.out.trans (hb2.mono HB1.out.size)); have HA2 := hidp (HA1.out.below hb2 HA1.out.lt)
      clear hb2
      obtain ⟨x0, x1, x2, x3, x4, x5⟩ := arr6 HA2.out
      go_wp2_with fail
      go_ret
      exact ⟨by rw [HF.out]; rfl, HB2.out⟩
    | some m2 =>
      rw [h2] at c2 HE
      unfold whoV at c2
      clear h2
      by_cases h3 : 1 ≤ k ∧ k ≤ 8
      · rw [kindB_yes h3] at c3
        rw [decide_eq_true h3] at HE
        cases h4 : keyOk k y with
        | false =>
          rw [h4] at c4 HE
          have HF := hidp (show E = 2 from by have := HE.out; simp at this; exact this.symm)
          clear h3 h4 HE
          go_enter Tryd.func28, Tryd.ntmps28
          go_wp2_with fail
          have HX := hidp ((Below.refl w.heap.size w).alloc (Nat.le_refl _) (.cells #[.string r, .string s, .int .u8 (k : Int), .string y, .string b, .int .i64 n] 59)); have HA := hidp (Arr.new w 59 [.string r, .string s, .int .u8 (k : Int), .string y, .string b, .int .i64 n])
          obtain ⟨bd, hbd⟩ : ∃ b, w.heap.size = b := ⟨_, rfl⟩
          have hge : w.heap.size ≤ bd := by omega
          generalize hW : (w.alloc (.cells #[.string r, .string s, .int .u8 (k : Int), .string y, .string b, .int .i64 n] 59)) = W0 at HX HA ⊢
          rw [hbd] at HA ⊢
          rw [← hbd]
          clear hW
          refine (c1.out _ (HI.out.below HX.out (Nat.le_refl _))).mono ?_
          rintro e w1 ⟨rfl, hb1⟩
          have HB1 := hidp (HX.out.trans (hb1.mono HX.out.size)); have HA1 := hidp (HA.out.below hb1 HA.out.lt)
          clear hb1
          obtain ⟨x0, x1, x2, x3, x4, x5⟩ := arr6 HA1.out
          go_wp2_with fail
          clear x0 x1 x2 x3 x4 x5
          refine (c2.out _ (HI.out.below HB1.out (Nat.le_refl _))).mono ?_
          rintro e w2 ⟨rfl, hb2⟩
          have HB2 := hidp (HB1.out.trans (hb2.mono HB1.out.size)); have HA2 := hidp (HA1.out.below hb2 HA1.out.lt)
          clear hb2
          obtain ⟨x0, x1, x2, x3, x4, x5⟩ := arr6 HA2.out
          go_wp2_with (first
            | (go_at_call 64; (refine (c3.out _).mono ?_); rintro e w3 ⟨rfl, rfl⟩)
            | (go_at_call 65; (refine (c4.out _ (HI.out.below HB2.out (Nat.le_refl _))).mono ?_); rintro e w4 ⟨rfl, hb4⟩; have HB4 := hidp (HB2.out.trans (hb4.mono HB2.out.size)); have HA4 := hidp (HA2.out.below hb4 HA2.out.lt); clear hb4; clear x0 x1 x2 x3 x4 x5; obtain ⟨x0, x1, x2, x3, x4, x5⟩ := arr6 HA4.out))
          go_ret
          exact ⟨by rw [HF.out]; rfl, HB4.out⟩
        | true =>
          rw [h4] at c4 HE
          clear h4
          by_cases h5 : 512 < b.size
          · have e5 : decide ((512 : Int) < (b.size : Int)) = true := by simp; omega
            have n5 : (512 : Int) < (b.size : Int) := by omega
            rw [decide_eq_false (show ¬ b.size ≤ 512 from by omega)] at HE
            have HF := hidp (show E = 2 from by have := HE.out; simp at this; exact this.symm)
            clear h3 h5 HE
            go_enter Tryd.func28, Tryd.ntmps28
            go_wp2_with fail
            have HX := hidp ((Below.refl w.heap.size w).alloc (Nat.le_refl _) (.cells #[.string r, .string s, .int .u8 (k : Int), .string y, .string b, .int .i64 n] 59)); have HA := hidp (Arr.new w 59 [.string r, .string s, .int .u8 (k : Int), .string y, .string b, .int .i64 n])
            obtain ⟨bd, hbd⟩ : ∃ b, w.heap.size = b := ⟨_, rfl⟩
            have hge : w.heap.size ≤ bd := by omega
            generalize hW : (w.alloc (.cells #[.string r, .string s, .int .u8 (k : Int), .string y, .string b, .int .i64 n] 59)) = W0 at HX HA ⊢
            rw [hbd] at HA ⊢
            rw [← hbd]
            clear hW
            refine (c1.out _ (HI.out.below HX.out (Nat.le_refl _))).mono ?_
            rintro e w1 ⟨rfl, hb1⟩
            have HB1 := hidp (HX.out.trans (hb1.mono HX.out.size)); have HA1 := hidp (HA.out.below hb1 HA.out.lt)
            clear hb1
            obtain ⟨x0, x1, x2, x3, x4, x5⟩ := arr6 HA1.out
            go_wp2_with fail
            clear x0 x1 x2 x3 x4 x5
            refine (c2.out _ (HI.out.below HB1.out (Nat.le_refl _))).mono ?_
            rintro e w2 ⟨rfl, hb2⟩
            have HB2 := hidp (HB1.out.trans (hb2.mono HB1.out.size)); have HA2 := hidp (HA1.out.below hb2 HA1.out.lt)
            clear hb2
            obtain ⟨x0, x1, x2, x3, x4, x5⟩ := arr6 HA2.out
            go_wp2_with (first
              | (go_at_call 64; (refine (c3.out _).mono ?_); rintro e w3 ⟨rfl, rfl⟩)
              | (go_at_call 65; (refine (c4.out _ (HI.out.below HB2.out (Nat.le_refl _))).mono ?_); rintro e w4 ⟨rfl, hb4⟩; have HB4 := hidp (HB2.out.trans (hb4.mono HB2.out.size)); have HA4 := hidp (HA2.out.below hb4 HA2.out.lt); clear hb4; clear x0 x1 x2 x3 x4 x5; obtain ⟨x0, x1, x2, x3, x4, x5⟩ := arr6 HA4.out))
            go_ret
            exact ⟨by rw [HF.out]; rfl, HB4.out⟩
          · have e5 : decide ((512 : Int) < (b.size : Int)) = false := by simp; omega
            have n5 : ¬ (512 : Int) < (b.size : Int) := by omega
            rw [decide_eq_true (show b.size ≤ 512 from by omega)] at HE
            by_cases h6 : n < 0
            · have e6 : decide (n < 0) = true := by simp; omega
              rw [decide_eq_false (show ¬ (0 ≤ n ∧ n ≤ 1099511627776) from by omega)] at HE
              have HF := hidp (show E = 2 from by have := HE.out; simp at this; exact this.symm)
              clear h3 h5 HE
              go_enter Tryd.func28, Tryd.ntmps28
              go_wp2_with fail
              have HX := hidp ((Below.refl w.heap.size w).alloc (Nat.le_refl _) (.cells #[.string r, .string s, .int .u8 (k : Int), .string y, .string b, .int .i64 n] 59)); have HA := hidp (Arr.new w 59 [.string r, .string s, .int .u8 (k : Int), .string y, .string b, .int .i64 n])
              obtain ⟨bd, hbd⟩ : ∃ b, w.heap.size = b := ⟨_, rfl⟩
              have hge : w.heap.size ≤ bd := by omega
              generalize hW : (w.alloc (.cells #[.string r, .string s, .int .u8 (k : Int), .string y, .string b, .int .i64 n] 59)) = W0 at HX HA ⊢
              rw [hbd] at HA ⊢
              rw [← hbd]
              clear hW
              refine (c1.out _ (HI.out.below HX.out (Nat.le_refl _))).mono ?_
              rintro e w1 ⟨rfl, hb1⟩
              have HB1 := hidp (HX.out.trans (hb1.mono HX.out.size)); have HA1 := hidp (HA.out.below hb1 HA.out.lt)
              clear hb1
              obtain ⟨x0, x1, x2, x3, x4, x5⟩ := arr6 HA1.out
              go_wp2_with fail
              clear x0 x1 x2 x3 x4 x5
              refine (c2.out _ (HI.out.below HB1.out (Nat.le_refl _))).mono ?_
              rintro e w2 ⟨rfl, hb2⟩
              have HB2 := hidp (HB1.out.trans (hb2.mono HB1.out.size)); have HA2 := hidp (HA1.out.below hb2 HA1.out.lt)
              clear hb2
              obtain ⟨x0, x1, x2, x3, x4, x5⟩ := arr6 HA2.out
              go_wp2_with (first
                | (go_at_call 64; (refine (c3.out _).mono ?_); rintro e w3 ⟨rfl, rfl⟩)
                | (go_at_call 65; (refine (c4.out _ (HI.out.below HB2.out (Nat.le_refl _))).mono ?_); rintro e w4 ⟨rfl, hb4⟩; have HB4 := hidp (HB2.out.trans (hb4.mono HB2.out.size)); have HA4 := hidp (HA2.out.below hb4 HA2.out.lt); clear hb4; clear x0 x1 x2 x3 x4 x5; obtain ⟨x0, x1, x2, x3, x4, x5⟩ := arr6 HA4.out))
              go_ret
              exact ⟨by rw [HF.out]; rfl, HB4.out⟩
            · have e6 : decide (n < 0) = false := by simp; omega
              by_cases h7 : 1099511627776 < n
              · have e7 : decide (1099511627776 < n) = true := by simp; omega
                rw [decide_eq_false (show ¬ (0 ≤ n ∧ n ≤ 1099511627776) from by omega)] at HE
                have HF := hidp (show E = 2 from by have := HE.out; simp at this; exact this.symm)
                clear h3 h5 h6 HE
                go_enter Tryd.func28, Tryd.ntmps28
                go_wp2_with fail
                have HX := hidp ((Below.refl w.heap.size w).alloc (Nat.le_refl _) (.cells #[.string r, .string s, .int .u8 (k : Int), .string y, .string b, .int .i64 n] 59)); have HA := hidp (Arr.new w 59 [.string r, .string s, .int .u8 (k : Int), .string y, .string b, .int .i64 n])
                obtain ⟨bd, hbd⟩ : ∃ b, w.heap.size = b := ⟨_, rfl⟩
                have hge : w.heap.size ≤ bd := by omega
                generalize hW : (w.alloc (.cells #[.string r, .string s, .int .u8 (k : Int), .string y, .string b, .int .i64 n] 59)) = W0 at HX HA ⊢
                rw [hbd] at HA ⊢
                rw [← hbd]
                clear hW
                refine (c1.out _ (HI.out.below HX.out (Nat.le_refl _))).mono ?_
                rintro e w1 ⟨rfl, hb1⟩
                have HB1 := hidp (HX.out.trans (hb1.mono HX.out.size)); have HA1 := hidp (HA.out.below hb1 HA.out.lt)
                clear hb1
                obtain ⟨x0, x1, x2, x3, x4, x5⟩ := arr6 HA1.out
                go_wp2_with fail
                clear x0 x1 x2 x3 x4 x5
                refine (c2.out _ (HI.out.below HB1.out (Nat.le_refl _))).mono ?_
                rintro e w2 ⟨rfl, hb2⟩
                have HB2 := hidp (HB1.out.trans (hb2.mono HB1.out.size)); have HA2 := hidp (HA1.out.below hb2 HA1.out.lt)
                clear hb2
                obtain ⟨x0, x1, x2, x3, x4, x5⟩ := arr6 HA2.out
                go_wp2_with (first
                  | (go_at_call 64; (refine (c3.out _).mono ?_); rintro e w3 ⟨rfl, rfl⟩)
                  | (go_at_call 65; (refine (c4.out _ (HI.out.below HB2.out (Nat.le_refl _))).mono ?_); rintro e w4 ⟨rfl, hb4⟩; have HB4 := hidp (HB2.out.trans (hb4.mono HB2.out.size)); have HA4 := hidp (HA2.out.below hb4 HA2.out.lt); clear hb4; clear x0 x1 x2 x3 x4 x5; obtain ⟨x0, x1, x2, x3, x4, x5⟩ := arr6 HA4.out))
                go_ret
                exact ⟨by rw [HF.out]; rfl, HB4.out⟩
              · have e7 : decide (1099511627776 < n) = false := by simp; omega
                rw [decide_eq_true (show (0 ≤ n ∧ n ≤ 1099511627776) from by omega)] at HE
                have HF := hidp (show E = 0 from by have := HE.out; simp at this; exact this.symm)
                clear h3 h5 h6 HE
                go_enter Tryd.func28, Tryd.ntmps28
                go_wp2_with fail
                have HX := hidp ((Below.refl w.heap.size w).alloc (Nat.le_refl _) (.cells #[.string r, .string s, .int .u8 (k : Int), .string y, .string b, .int .i64 n] 59)); have HA := hidp (Arr.new w 59 [.string r, .string s, .int .u8 (k : Int), .string y, .string b, .int .i64 n])
                obtain ⟨bd, hbd⟩ : ∃ b, w.heap.size = b := ⟨_, rfl⟩
                have hge : w.heap.size ≤ bd := by omega
                generalize hW : (w.alloc (.cells #[.string r, .string s, .int .u8 (k : Int), .string y, .string b, .int .i64 n] 59)) = W0 at HX HA ⊢
                rw [hbd] at HA ⊢
                rw [← hbd]
                clear hW
                refine (c1.out _ (HI.out.below HX.out (Nat.le_refl _))).mono ?_
                rintro e w1 ⟨rfl, hb1⟩
                have HB1 := hidp (HX.out.trans (hb1.mono HX.out.size)); have HA1 := hidp (HA.out.below hb1 HA.out.lt)
                clear hb1
                obtain ⟨x0, x1, x2, x3, x4, x5⟩ := arr6 HA1.out
                go_wp2_with fail
                clear x0 x1 x2 x3 x4 x5
                refine (c2.out _ (HI.out.below HB1.out (Nat.le_refl _))).mono ?_
                rintro e w2 ⟨rfl, hb2⟩
                have HB2 := hidp (HB1.out.trans (hb2.mono HB1.out.size)); have HA2 := hidp (HA1.out.below hb2 HA1.out.lt)
                clear hb2
                obtain ⟨x0, x1, x2, x3, x4, x5⟩ := arr6 HA2.out
                go_wp2_with (first
                  | (go_at_call 64; (refine (c3.out _).mono ?_); rintro e w3 ⟨rfl, rfl⟩)
                  | (go_at_call 65; (refine (c4.out _ (HI.out.below HB2.out (Nat.le_refl _))).mono ?_); rintro e w4 ⟨rfl, hb4⟩; have HB4 := hidp (HB2.out.trans (hb4.mono HB2.out.size)); have HA4 := hidp (HA2.out.below hb4 HA2.out.lt); clear hb4; clear x0 x1 x2 x3 x4 x5; obtain ⟨x0, x1, x2, x3, x4, x5⟩ := arr6 HA4.out))
                go_ret
                exact ⟨by rw [HF.out]; rfl, HB4.out⟩
      · rw [kindB_no h3] at c3
        rw [decide_eq_false h3] at HE
        have HF := hidp (show E = 2 from by have := HE.out; simp at this; exact this.symm)
        clear h3 HE
        go_enter Tryd.func28, Tryd.ntmps28
        go_wp2_with fail
        have HX := hidp ((Below.refl w.heap.size w).alloc (Nat.le_refl _) (.cells #[.string r, .string s, .int .u8 (k : Int), .string y, .string b, .int .i64 n] 59)); have HA := hidp (Arr.new w 59 [.string r, .string s, .int .u8 (k : Int), .string y, .string b, .int .i64 n])
        obtain ⟨bd, hbd⟩ : ∃ b, w.heap.size = b := ⟨_, rfl⟩
        have hge : w.heap.size ≤ bd := by omega
        generalize hW : (w.alloc (.cells #[.string r, .string s, .int .u8 (k : Int), .string y, .string b, .int .i64 n] 59)) = W0 at HX HA ⊢
        rw [hbd] at HA ⊢
        rw [← hbd]
        clear hW
        refine (c1.out _ (HI.out.below HX.out (Nat.le_refl _))).mono ?_
        rintro e w1 ⟨rfl, hb1⟩
        have HB1 := hidp (HX.out.trans (hb1.mono HX.out.size)); have HA1 := hidp (HA.out.below hb1 HA.out.lt)
        clear hb1
        obtain ⟨x0, x1, x2, x3, x4, x5⟩ := arr6 HA1.out
        go_wp2_with fail
        clear x0 x1 x2 x3 x4 x5
        refine (c2.out _ (HI.out.below HB1.out (Nat.le_refl _))).mono ?_
        rintro e w2 ⟨rfl, hb2⟩
        have HB2 := hidp (HB1.out.trans (hb2.mono HB1.out.size)); have HA2 := hidp (HA1.out.below hb2 HA1.out.lt)
        clear hb2
        obtain ⟨x0, x1, x2, x3, x4, x5⟩ := arr6 HA2.out
        go_wp2_with (go_at_call 64; (refine (c3.out _).mono ?_); rintro e w3 ⟨rfl, rfl⟩)
        go_ret
        exact ⟨by rw [HF.out]; rfl, HB2.out⟩
end Go.Proofs.YtfenjincbhkodaaDoor

namespace Go.Proofs.YtfenjincbhkodaaDoor
set_option maxRecDepth 100000
set_option linter.unusedVariables false
set_option linter.unusedSimpArgs false
open Go.RowKit
end Go.Proofs.YtfenjincbhkodaaDoor

namespace Go.Proofs.YtfenjincbhkodaaDoor.Ai
set_option maxRecDepth 100000
set_option linter.unusedVariables false
set_option linter.unusedSimpArgs false
open Go.RowKit

/-- The number that a whole text is, and the error. -/
def nmE (s : ByteArray) : Int := if (gn s.data.toList).2.2 ≠ 0 then ((gn s.data.toList).2.2 : Int) else if (gn s.data.toList).2.1 < s.size then 6 else 0
def nmV (s : ByteArray) : Nat := if nmE s = 0 then (gn s.data.toList).1 else 0
def inE (s : ByteArray) (m : Nat) : Int := if nmE s = 0 then (if m < nmV s then 1 else 0) else nmE s
def inV (s : ByteArray) (m : Nat) : Nat := if inE s m = 0 then nmV s else 0

set_option maxHeartbeats 4000000 in
theorem allNumW_any (w : World) (s : ByteArray) (hs : s.size ≤ 281474976710656) :
    Calls Tryd.prog 76 #[.string s] w fun e w' => e = .returned (.tuple #[.int .u64 (nmV s), .int .i64 (nmE s)]) ∧ w = w' := by
  have cg := hidp (fun W => getNum_any W s hs)
  have hb := gn_bd s.data.toList
  obtain ⟨⟨n, j, c⟩, hr⟩ : ∃ r, gn s.data.toList = r := ⟨_, rfl⟩
  have dE : nmE s = if c ≠ 0 then (c : Int) else if j < s.size then 6 else 0 := by unfold nmE; rw [hr]
  have dV : nmV s = if nmE s = 0 then n else 0 := by unfold nmV; rw [hr]
  rw [hr] at cg hb
  clear hr
  simp only [tup3] at cg hb
  by_cases h0 : c = 0
  · subst h0
    by_cases hj : j < s.size
    · have e1 : decide ((j : Int) < (s.size : Int)) = true := by simp; omega
      have g1 : decide (j < s.size) = true := decide_eq_true hj
      have HE := hidp (show nmE s = 6 from by rw [dE, if_neg (by simp), if_pos hj])
      have HV := hidp (show nmV s = 0 from by rw [dV, HE.out]; rfl)
      clear dE dV hj hb
      go_enter Tryd.func76, Tryd.ntmps76
      go_wp2_with (go_at_call 99; refine (cg.out _).mono ?_; rintro e w' ⟨rfl, rfl⟩)
      go_ret2
      exact ⟨by rw [HE.out, HV.out]; rfl, rfl⟩
    · have e1 : decide ((j : Int) < (s.size : Int)) = false := by simp; omega
      have g1 : decide (j < s.size) = false := decide_eq_false hj
      have HE := hidp (show nmE s = 0 from by rw [dE, if_neg (by simp), if_neg hj])
      have HV := hidp (show nmV s = n from by rw [dV, HE.out]; rfl)
      clear dE dV hj hb
      go_enter Tryd.func76, Tryd.ntmps76
      go_wp2_with (go_at_call 99; refine (cg.out _).mono ?_; rintro e w' ⟨rfl, rfl⟩)
      go_ret2
      exact ⟨by rw [HE.out, HV.out]; rfl, rfl⟩
  · have e0 : ((c : Int) != 0) = true := by simp; omega
    have n0 : ¬ (c : Int) = 0 := by omega
    have HE := hidp (show nmE s = c from by rw [dE, if_pos h0])
    have HV := hidp (show nmV s = 0 from by rw [dV, HE.out, if_neg (by omega)])
    clear dE dV hb h0
    go_enter Tryd.func76, Tryd.ntmps76
    go_wp2_with (go_at_call 99; refine (cg.out _).mono ?_; rintro e w' ⟨rfl, rfl⟩)
    go_ret2
    exact ⟨by rw [HE.out, HV.out]; rfl, rfl⟩

theorem allNum_any (w : World) (s : ByteArray) (hs : s.size ≤ 281474976710656) :
    Calls Tryd.prog 76 #[.string s] w fun e w' => e = .returned (.tuple #[.int .u64 (nmV s), .int .i64 (nmE s)]) ∧ Below w.heap.size w w' :=
  (allNumW_any w s hs).mono fun e w' h => ⟨h.1, h.2 ▸ Below.refl _ _⟩
set_option maxHeartbeats 4000000 in
theorem allInt_any (w : World) (s : ByteArray) (m : Nat) (hm : m ≤ 1048576) (hs : s.size ≤ 281474976710656) :
    Calls Tryd.prog 47 #[.string s, .int .i64 (m : Int)] w fun e w' => e = .returned (.tuple #[.int .i64 (inV s m), .int .i64 (inE s m)]) ∧ Below w.heap.size w w' := by
  have cg := hidp (fun W => allNum_any W s hs)
  have dE : inE s m = if nmE s = 0 then (if m < nmV s then 1 else 0) else nmE s := rfl
  have dV : inV s m = if inE s m = 0 then nmV s else 0 := rfl
  have hV : nmV s ≤ 281474976710656 := by
    have hb := gn_bd s.data.toList
    unfold nmV; split <;> omega
  obtain ⟨E, hE⟩ : ∃ E, nmE s = E := ⟨_, rfl⟩
  obtain ⟨n, hn⟩ : ∃ n, nmV s = n := ⟨_, rfl⟩
  rw [hE, hn] at cg dE
  rw [hn] at dV hV
  clear hE hn
  have w1 : IntKind.u64.wrap (m : Int) = (m : Int) := by unfold IntKind.wrap; simp [IntKind.bits, IntKind.signed]; omega
  have w2 : IntKind.i64.wrap (n : Int) = (n : Int) := by unfold IntKind.wrap; simp [IntKind.bits, IntKind.signed]; omega
  have e2 : decide ((m : Int) < 0) = false := by simp
  by_cases h0 : E = 0
  · subst h0
    by_cases hj : m < n
    · have e1 : decide ((n : Int) > (m : Int)) = true := by simp; omega
      have n1 : (m : Int) < (n : Int) := by omega
      have g1 : decide (m < n) = true := decide_eq_true hj
      have HE := hidp (show inE s m = 1 from by rw [dE, if_pos rfl, if_pos hj])
      have HV := hidp (show inV s m = 0 from by rw [dV, HE.out]; rfl)
      clear dE dV hj
      go_enter Tryd.func47, Tryd.ntmps47
      go_wp2_with (go_at_call 76; refine (cg.out _).mono ?_; rintro e w' ⟨rfl, hb⟩)
      go_ret2
      exact ⟨by rw [HE.out, HV.out]; rfl, hb⟩
    · have e1 : decide ((n : Int) > (m : Int)) = false := by simp; omega
      have n1 : ¬ (m : Int) < (n : Int) := by omega
      have g1 : decide (m < n) = false := decide_eq_false hj
      have HE := hidp (show inE s m = 0 from by rw [dE, if_pos rfl, if_neg hj])
      have HV := hidp (show inV s m = n from by rw [dV, HE.out]; rfl)
      clear dE dV hj
      go_enter Tryd.func47, Tryd.ntmps47
      go_wp2_with (go_at_call 76; refine (cg.out _).mono ?_; rintro e w' ⟨rfl, hb⟩)
      go_ret2
      exact ⟨by rw [HE.out, HV.out]; rfl, hb⟩
  · have e0 : (E != 0) = true := by simpa using h0
    have HE := hidp (show inE s m = E from by rw [dE, if_neg h0])
    have HV := hidp (show inV s m = 0 from by rw [dV, HE.out, if_neg h0])
    clear dE dV
    go_enter Tryd.func47, Tryd.ntmps47
    go_wp2_with (go_at_call 76; refine (cg.out _).mono ?_; rintro e w' ⟨rfl, hb⟩)
    go_ret2
    exact ⟨by rw [HE.out, HV.out]; rfl, hb⟩
end Go.Proofs.YtfenjincbhkodaaDoor.Ai

namespace Go.Proofs.YtfenjincbhkodaaDoor.Ai
set_option maxRecDepth 100000
set_option linter.unusedVariables false
set_option linter.unusedSimpArgs false
open Go.RowKit

theorem nm_some {s : ByteArray} {n : Nat} (h : numOf s = some n) : nmE s = 0 ∧ nmV s = n := by
  unfold numOf at h
  split at h
  · rename_i hh
    have e : nmE s = 0 := by unfold nmE; rw [if_neg (by simp [hh.1]), if_neg (by omega)]
    refine ⟨e, ?_⟩
    unfold nmV; rw [if_pos e]; simpa using h
  · cases h
theorem nm_none {s : ByteArray} (h : numOf s = none) : nmE s ≠ 0 := by
  have hb := gn_bd s.data.toList
  have hz := size_toList s
  unfold numOf at h
  split at h
  · cases h
  · rename_i hh
    unfold nmE
    by_cases h0 : (gn s.data.toList).2.2 = 0
    · rw [if_neg (by simp [h0]), if_pos (by have : ¬ (gn s.data.toList).2.1 = s.size := fun g => hh ⟨h0, g⟩; omega)]; decide
    · rw [if_pos h0]; omega
end Go.Proofs.YtfenjincbhkodaaDoor.Ai
