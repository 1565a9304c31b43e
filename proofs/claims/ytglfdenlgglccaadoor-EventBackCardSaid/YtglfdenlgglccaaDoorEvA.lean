
/-
  event: kinds and words; the document's.
-/
import Derived.Test.YtglfdenlgglccaaDoorEvM
import Derived.Test.YtglfdenlgglccaaDoorIdE
import Derived.Test.YtglfdenlgglccaaDoorIdH
namespace Go.Proofs.YtglfdenlgglccaaDoor
set_option maxRecDepth 100000
set_option linter.unusedVariables false
set_option linter.unusedSimpArgs false
open Go.RowKit

/-- The table of the words. -/
def WT (w : World) : Prop := ∀ i, i < 9 → w.cell? ⟨0, i, none⟩ = some (.string (word i))
theorem WT.below {w w' : World} (h : WT w) {B : Nat} (hb : Below B w w') (hB : w.heap.size ≤ B) : WT w' := fun i hi => by
  have g1 := World.block_lt_of_cell? w _ (h i hi)
  exact (hb.cell (p := ⟨0, i, none⟩) (by simp only at g1 ⊢; omega)).trans (h i hi)

def kindB (k : Nat) : Bool := decide (1 ≤ k ∧ k ≤ 8)
theorem kindB_yes {k : Nat} (h : 1 ≤ k ∧ k ≤ 8) : kindB k = true := decide_eq_true h
theorem kindB_no {k : Nat} (h : ¬ (1 ≤ k ∧ k ≤ 8)) : kindB k = false := decide_eq_false h
set_option maxHeartbeats 4000000 in
theorem isKind_any (w : World) (k : Nat) (hk : k < 256) :
    Calls Tryd.prog 31 #[.int .u8 (k : Int)] w fun e w' => e = .returned (.bool (kindB k)) ∧ w' = w := by
  by_cases h0 : k = 0
  · have e0 : decide ((0 : Int) < (k : Int)) = false := by simp; omega
    have n0 : ¬ 0 < k := by omega
    have HF := hidp (kindB_no (k := k) (by omega))
    clear h0
    go_enter Tryd.func31, Tryd.ntmps31
    go_wp2
    go_ret
    exact ⟨by rw [HF.out]; rfl, rfl⟩
  · have e0 : decide ((0 : Int) < (k : Int)) = true := by simp; omega
    have n0 : 0 < k := by omega
    by_cases h9 : k < 9
    · have e1 : decide ((k : Int) < 9) = true := by simp; omega
      have n1 : (k : Int) < 9 := by omega
      have HF := hidp (kindB_yes (k := k) (by omega))
      clear h0 h9
      go_enter Tryd.func31, Tryd.ntmps31
      go_wp2
      go_ret
      exact ⟨by rw [HF.out]; rfl, rfl⟩
    · have e1 : decide ((k : Int) < 9) = false := by simp; omega
      have n1 : ¬ (k : Int) < 9 := by omega
      have HF := hidp (kindB_no (k := k) (by omega))
      clear h0 h9
      go_enter Tryd.func31, Tryd.ntmps31
      go_wp2
      go_ret
      exact ⟨by rw [HF.out]; rfl, rfl⟩
theorem word_out {k : Nat} (h : ¬ (1 ≤ k ∧ k ≤ 8)) : word k = ⟨#[]⟩ := by
  by_cases h0 : k = 0
  · subst h0; rfl
  · unfold word evWords; rw [List.getD_eq_getElem?_getD, List.getElem?_eq_none (by simp; omega)]; rfl
set_option maxHeartbeats 4000000 in
theorem word_any (w : World) (k : Nat) (hk : k < 256) (hW : WT w) :
    Calls Tryd.prog 15 #[.int .u8 (k : Int)] w fun e w' => e = .returned (.string (word k)) ∧ w' = w := by
  have C := hidp (fun W => isKind_any W k hk)
  by_cases h : 1 ≤ k ∧ k ≤ 8
  · rw [kindB_yes h] at C
    have m1 := hW k (by omega)
    have c0 : (0 : Int) ≤ (k : Int) := by omega
    have c1 : (k : Int) < 9 := by omega
    clear h hW
    go_enter Tryd.func15, Tryd.ntmps15
    go_wp2_with (go_at_call 31; (refine (C.out _).mono ?_); rintro e w' ⟨rfl, rfl⟩)
    go_ret
    exact ⟨rfl, rfl⟩
  · rw [kindB_no h] at C
    rw [word_out h]
    clear h hW
    go_enter Tryd.func15, Tryd.ntmps15
    go_wp2_with (go_at_call 31; (refine (C.out _).mono ?_); rintro e w' ⟨rfl, rfl⟩)
    go_ret
    exact ⟨rfl, rfl⟩
/-- A state kind. -/
def stB (k : Nat) : Bool := decide (1 ≤ k ∧ k ≤ 8) && decide (k ≠ 6) && decide (k ≠ 7)
set_option maxHeartbeats 4000000 in
theorem state_any (w : World) (k : Nat) (hk : k < 256) :
    Calls Tryd.prog 13 #[.int .u8 (k : Int)] w fun e w' => e = .returned (.bool (stB k)) ∧ w' = w := by
  have C := hidp (fun W => isKind_any W k hk)
  by_cases h : 1 ≤ k ∧ k ≤ 8
  · rw [kindB_yes h] at C
    by_cases h6 : k = 6
    · have e0 : ((k : Int) != 6) = false := by rw [h6]; rfl
      have HF := hidp (show stB k = false from by rw [h6]; rfl)
      clear h h6
      go_enter Tryd.func13, Tryd.ntmps13
      go_wp2_with (go_at_call 31; (refine (C.out _).mono ?_); rintro e w' ⟨rfl, rfl⟩)
      go_ret
      exact ⟨by rw [HF.out]; rfl, rfl⟩
    · have e0 : ((k : Int) != 6) = true := by simp; omega
      have n0 : ¬ k = 6 := h6
      by_cases h7 : k = 7
      · have e1 : ((k : Int) != 7) = false := by rw [h7]; rfl
        have HF := hidp (show stB k = false from by rw [h7]; rfl)
        clear h h6 h7
        go_enter Tryd.func13, Tryd.ntmps13
        go_wp2_with (go_at_call 31; (refine (C.out _).mono ?_); rintro e w' ⟨rfl, rfl⟩)
        go_ret
        exact ⟨by rw [HF.out]; rfl, rfl⟩
      · have e1 : ((k : Int) != 7) = true := by simp; omega
        have n1 : ¬ k = 7 := h7
        have HF := hidp (show stB k = true from by unfold stB; rw [decide_eq_true h, decide_eq_true h6, decide_eq_true h7]; rfl)
        clear h h6 h7
        go_enter Tryd.func13, Tryd.ntmps13
        go_wp2_with (go_at_call 31; (refine (C.out _).mono ?_); rintro e w' ⟨rfl, rfl⟩)
        go_ret
        exact ⟨by rw [HF.out]; rfl, rfl⟩
  · have HF := hidp (show stB k = false from by unfold stB; rw [decide_eq_false h]; rfl)
    rw [kindB_no h] at C
    clear h
    go_enter Tryd.func13, Tryd.ntmps13
    go_wp2_with (go_at_call 31; (refine (C.out _).mono ?_); rintro e w' ⟨rfl, rfl⟩)
    go_ret
    exact ⟨by rw [HF.out]; rfl, rfl⟩
theorem kindOf_eq {t : ByteArray} {k : Nat} (h1 : 1 ≤ k) (h2 : k ≤ 8) (h : word k = t) : kindOf t = k := by rw [← h]; exact kindOf_word h1 h2
theorem kindOf_none {t : ByteArray} (h : ∀ k, 1 ≤ k → k ≤ 8 → word k ≠ t) : kindOf t = 0 := by
  by_cases h0 : kindOf t = 0
  · exact h0
  · obtain ⟨h1, h2⟩ := word_kindOf (t := t) (by omega)
    exact absurd h1 (h _ (by omega) h2)
set_option maxHeartbeats 4000000 in
theorem kindOf_any (w : World) (t : ByteArray) (hW : WT w) :
    Calls Tryd.prog 27 #[.string t] w fun e w' => e = .returned (.int .u8 (kindOf t : Nat)) ∧ w' = w := by
  have HW := hidp hW; clear hW
  obtain ⟨K, hK⟩ : ∃ K, kindOf t = K := ⟨_, rfl⟩
  rw [hK]
  have HK := hidp hK; clear hK
  go_enter Tryd.func27, Tryd.ntmps27
  go_wp2
  go_loop [3] (fun t3 => ∃ k : Nat, t3 = .int .u8 (k : Int) ∧ 1 ≤ k ∧ k ≤ 9 ∧ ∀ j, 1 ≤ j → j < k → word j ≠ t) (fun t3 => 9 - (intOf t3).toNat)
  case atStart => exact ⟨1, rfl, by omega, by omega, fun j h1 h2 => by omega⟩
  case round =>
    obtain ⟨k, rfl, h1, h9, hall⟩ := hrel
    have HALL := hidp hall; clear hall
    by_cases hl : k < 9
    · have e0 : decide ((k : Int) < 9) = true := by simp; omega
      have n0 : (k : Int) < 9 := by omega
      have c0 : (0 : Int) ≤ (k : Int) := by omega
      have m1 := HW.out k hl
      by_cases hw : word k = t
      · have HF := hidp (HK.out.symm.trans (kindOf_eq h1 (by omega) hw))
        rw [hw] at m1
        clear hw
        go_wp2
        go_ret
        exact ⟨by rw [HF.out]; rfl, rfl⟩
      · have hq := toList_no hw
        obtain ⟨X, hX⟩ : ∃ X, word k = X := ⟨_, rfl⟩
        have HX := hidp hX
        rw [hX] at m1 hq
        have HN := hidp hw
        clear hw hX
        have hw1 : IntKind.u8.wrap ((k : Int) + 1) = (k : Int) + 1 := by unfold IntKind.wrap; simp [IntKind.bits, IntKind.signed]; omega
        go_wp2
        refine ⟨⟨k + 1, by go_num, by omega, by omega, fun j g1 g2 => ?_⟩, by simp [intOf]; omega⟩
        by_cases hjk : j = k
        · subst hjk; exact HN.out
        · exact HALL.out j g1 (by omega)
    · have e0 : decide ((k : Int) < 9) = false := by simp; omega
      have n0 : ¬ (k : Int) < 9 := by omega
      have HF := hidp (HK.out.symm.trans (kindOf_none fun j g1 g2 => HALL.out j g1 (by omega)))
      go_wp2
      go_ret
      exact ⟨by rw [HF.out]; rfl, rfl⟩
end Go.Proofs.YtglfdenlgglccaaDoor
