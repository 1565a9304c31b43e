
/-
  ident and the document's: names, and texts of identifiers.
-/
import Derived.Test.YtglfdenlgglccaaDoorRows
import Derived.Test.YtglfdenlgglccaaDoorIdM
import Derived.Test.YtglfdenlgglccaaDoorIdLib
import Derived.Test.YtglfdenlgglccaaDoorBaC
import Derived.Test.YtglfdenlgglccaaDoorOctL
import Derived.IntWalk
import Derived.BigQuiet
namespace Go.Proofs.YtglfdenlgglccaaDoor
set_option maxRecDepth 100000
set_option linter.unusedVariables false
set_option linter.unusedSimpArgs false
open Go.RowKit

theorem arr3 {w : World} {b T : Nat} {x0 x1 x2 : Value} (h : Arr w b T [x0, x1, x2]) : w.cell? ⟨b, 0, none⟩ = some x0 ∧ w.cell? ⟨b, 1, none⟩ = some x1 ∧ w.cell? ⟨b, 2, none⟩ = some x2 ∧ ∀ i, w.frozen? ⟨b, i, none⟩ = false :=
  ⟨h.cell 0 (by simp), h.cell 1 (by simp), h.cell 2 (by simp), h.frozen⟩

set_option maxHeartbeats 4000000 in
theorem inName_any (w : World) (b : Nat) (hb : b < 256) :
    Calls Tryd.prog 67 #[.int .u8 (b : Int)] w fun e w' => e = .returned (.bool (nameN b)) ∧ w' = w := by
  by_cases h0 : b ≤ 44
  · have e0 : decide ((97 : Int) ≤ (b : Int)) = false := by simp; omega
    have e1 : decide ((b : Int) ≤ 122) = true := by simp; omega
    have e2 : decide ((48 : Int) ≤ (b : Int)) = false := by simp; omega
    have e3 : decide ((b : Int) ≤ 57) = true := by simp; omega
    have e4 : ((b : Int) == 95) = false := by simp; omega
    have e5 : ((b : Int) == 45) = false := by simp; omega
    have hn : nameN b = false := by unfold nameN; simp; omega
    have HN := hidp hn; clear hn
    go_enter Tryd.func67, Tryd.ntmps67
    go_wp2
    go_ret
    exact ⟨by rw [HN.out]; rfl, rfl⟩
  · skip
    by_cases h1 : b ≤ 45
    · have e0 : decide ((97 : Int) ≤ (b : Int)) = false := by simp; omega
      have e1 : decide ((b : Int) ≤ 122) = true := by simp; omega
      have e2 : decide ((48 : Int) ≤ (b : Int)) = false := by simp; omega
      have e3 : decide ((b : Int) ≤ 57) = true := by simp; omega
      have e4 : ((b : Int) == 95) = false := by simp; omega
      have e5 : ((b : Int) == 45) = true := by simp; omega
      have hn : nameN b = true := by unfold nameN; simp; omega
      have HN := hidp hn; clear hn
      go_enter Tryd.func67, Tryd.ntmps67
      go_wp2
      go_ret
      exact ⟨by rw [HN.out]; rfl, rfl⟩
    · skip
      by_cases h2 : b ≤ 47
      · have e0 : decide ((97 : Int) ≤ (b : Int)) = false := by simp; omega
        have e1 : decide ((b : Int) ≤ 122) = true := by simp; omega
        have e2 : decide ((48 : Int) ≤ (b : Int)) = false := by simp; omega
        have e3 : decide ((b : Int) ≤ 57) = true := by simp; omega
        have e4 : ((b : Int) == 95) = false := by simp; omega
        have e5 : ((b : Int) == 45) = false := by simp; omega
        have hn : nameN b = false := by unfold nameN; simp; omega
        have HN := hidp hn; clear hn
        go_enter Tryd.func67, Tryd.ntmps67
        go_wp2
        go_ret
        exact ⟨by rw [HN.out]; rfl, rfl⟩
      · skip
        by_cases h3 : b ≤ 57
        · have e0 : decide ((97 : Int) ≤ (b : Int)) = false := by simp; omega
          have e1 : decide ((b : Int) ≤ 122) = true := by simp; omega
          have e2 : decide ((48 : Int) ≤ (b : Int)) = true := by simp; omega
          have e3 : decide ((b : Int) ≤ 57) = true := by simp; omega
          have e4 : ((b : Int) == 95) = false := by simp; omega
          have e5 : ((b : Int) == 45) = false := by simp; omega
          have hn : nameN b = true := by unfold nameN; simp; omega
          have HN := hidp hn; clear hn
          go_enter Tryd.func67, Tryd.ntmps67
          go_wp2
          go_ret
          exact ⟨by rw [HN.out]; rfl, rfl⟩
        · skip
          by_cases h4 : b ≤ 94
          · have e0 : decide ((97 : Int) ≤ (b : Int)) = false := by simp; omega
            have e1 : decide ((b : Int) ≤ 122) = true := by simp; omega
            have e2 : decide ((48 : Int) ≤ (b : Int)) = true := by simp; omega
            have e3 : decide ((b : Int) ≤ 57) = false := by simp; omega
            have e4 : ((b : Int) == 95) = false := by simp; omega
            have e5 : ((b : Int) == 45) = false := by simp; omega
            have hn : nameN b = false := by unfold nameN; simp; omega
            have HN := hidp hn; clear hn
            go_enter Tryd.func67, Tryd.ntmps67
            go_wp2
            go_ret
            exact ⟨by rw [HN.out]; rfl, rfl⟩
          · skip
            by_cases h5 : b ≤ 95
            · have e0 : decide ((97 : Int) ≤ (b : Int)) = false := by simp; omega
              have e1 : decide ((b : Int) ≤ 122) = true := by simp; omega
              have e2 : decide ((48 : Int) ≤ (b : Int)) = true := by simp; omega
              have e3 : decide ((b : Int) ≤ 57) = false := by simp; omega
              have e4 : ((b : Int) == 95) = true := by simp; omega
              have e5 : ((b : Int) == 45) = false := by simp; omega
              have hn : nameN b = true := by unfold nameN; simp; omega
              have HN := hidp hn; clear hn
              go_enter Tryd.func67, Tryd.ntmps67
              go_wp2
              go_ret
              exact ⟨by rw [HN.out]; rfl, rfl⟩
            · skip
              by_cases h6 : b ≤ 96
              · have e0 : decide ((97 : Int) ≤ (b : Int)) = false := by simp; omega
                have e1 : decide ((b : Int) ≤ 122) = true := by simp; omega
                have e2 : decide ((48 : Int) ≤ (b : Int)) = true := by simp; omega
                have e3 : decide ((b : Int) ≤ 57) = false := by simp; omega
                have e4 : ((b : Int) == 95) = false := by simp; omega
                have e5 : ((b : Int) == 45) = false := by simp; omega
                have hn : nameN b = false := by unfold nameN; simp; omega
                have HN := hidp hn; clear hn
                go_enter Tryd.func67, Tryd.ntmps67
                go_wp2
                go_ret
                exact ⟨by rw [HN.out]; rfl, rfl⟩
              · skip
                by_cases h7 : b ≤ 122
                · have e0 : decide ((97 : Int) ≤ (b : Int)) = true := by simp; omega
                  have e1 : decide ((b : Int) ≤ 122) = true := by simp; omega
                  have e2 : decide ((48 : Int) ≤ (b : Int)) = true := by simp; omega
                  have e3 : decide ((b : Int) ≤ 57) = false := by simp; omega
                  have e4 : ((b : Int) == 95) = false := by simp; omega
                  have e5 : ((b : Int) == 45) = false := by simp; omega
                  have hn : nameN b = true := by unfold nameN; simp; omega
                  have HN := hidp hn; clear hn
                  go_enter Tryd.func67, Tryd.ntmps67
                  go_wp2
                  go_ret
                  exact ⟨by rw [HN.out]; rfl, rfl⟩
                · skip
                  have e0 : decide ((97 : Int) ≤ (b : Int)) = true := by simp; omega
                  have e1 : decide ((b : Int) ≤ 122) = false := by simp; omega
                  have e2 : decide ((48 : Int) ≤ (b : Int)) = true := by simp; omega
                  have e3 : decide ((b : Int) ≤ 57) = false := by simp; omega
                  have e4 : ((b : Int) == 95) = false := by simp; omega
                  have e5 : ((b : Int) == 45) = false := by simp; omega
                  have hn : nameN b = false := by unfold nameN; simp; omega
                  have HN := hidp hn; clear hn
                  go_enter Tryd.func67, Tryd.ntmps67
                  go_wp2
                  go_ret
                  exact ⟨by rw [HN.out]; rfl, rfl⟩

set_option maxHeartbeats 4000000 in
theorem letter_any (w : World) (b : Nat) (hb : b < 256) :
    Calls Tryd.prog 84 #[.int .u8 (b : Int)] w fun e w' => e = .returned (.bool (nameN b)) ∧ w' = w := by
  by_cases h0 : b ≤ 44
  · have e0 : decide ((97 : Int) ≤ (b : Int)) = false := by simp; omega
    have e1 : decide ((b : Int) ≤ 122) = true := by simp; omega
    have e2 : decide ((48 : Int) ≤ (b : Int)) = false := by simp; omega
    have e3 : decide ((b : Int) ≤ 57) = true := by simp; omega
    have e4 : ((b : Int) == 95) = false := by simp; omega
    have e5 : ((b : Int) == 45) = false := by simp; omega
    have hn : nameN b = false := by unfold nameN; simp; omega
    have HN := hidp hn; clear hn
    go_enter Tryd.func84, Tryd.ntmps84
    go_wp2
    go_ret
    exact ⟨by rw [HN.out]; rfl, rfl⟩
  · skip
    by_cases h1 : b ≤ 45
    · have e0 : decide ((97 : Int) ≤ (b : Int)) = false := by simp; omega
      have e1 : decide ((b : Int) ≤ 122) = true := by simp; omega
      have e2 : decide ((48 : Int) ≤ (b : Int)) = false := by simp; omega
      have e3 : decide ((b : Int) ≤ 57) = true := by simp; omega
      have e4 : ((b : Int) == 95) = false := by simp; omega
      have e5 : ((b : Int) == 45) = true := by simp; omega
      have hn : nameN b = true := by unfold nameN; simp; omega
      have HN := hidp hn; clear hn
      go_enter Tryd.func84, Tryd.ntmps84
      go_wp2
      go_ret
      exact ⟨by rw [HN.out]; rfl, rfl⟩
    · skip
      by_cases h2 : b ≤ 47
      · have e0 : decide ((97 : Int) ≤ (b : Int)) = false := by simp; omega
        have e1 : decide ((b : Int) ≤ 122) = true := by simp; omega
        have e2 : decide ((48 : Int) ≤ (b : Int)) = false := by simp; omega
        have e3 : decide ((b : Int) ≤ 57) = true := by simp; omega
        have e4 : ((b : Int) == 95) = false := by simp; omega
        have e5 : ((b : Int) == 45) = false := by simp; omega
        have hn : nameN b = false := by unfold nameN; simp; omega
        have HN := hidp hn; clear hn
        go_enter Tryd.func84, Tryd.ntmps84
        go_wp2
        go_ret
        exact ⟨by rw [HN.out]; rfl, rfl⟩
      · skip
        by_cases h3 : b ≤ 57
        · have e0 : decide ((97 : Int) ≤ (b : Int)) = false := by simp; omega
          have e1 : decide ((b : Int) ≤ 122) = true := by simp; omega
          have e2 : decide ((48 : Int) ≤ (b : Int)) = true := by simp; omega
          have e3 : decide ((b : Int) ≤ 57) = true := by simp; omega
          have e4 : ((b : Int) == 95) = false := by simp; omega
          have e5 : ((b : Int) == 45) = false := by simp; omega
          have hn : nameN b = true := by unfold nameN; simp; omega
          have HN := hidp hn; clear hn
          go_enter Tryd.func84, Tryd.ntmps84
          go_wp2
          go_ret
          exact ⟨by rw [HN.out]; rfl, rfl⟩
        · skip
          by_cases h4 : b ≤ 94
          · have e0 : decide ((97 : Int) ≤ (b : Int)) = false := by simp; omega
            have e1 : decide ((b : Int) ≤ 122) = true := by simp; omega
            have e2 : decide ((48 : Int) ≤ (b : Int)) = true := by simp; omega
            have e3 : decide ((b : Int) ≤ 57) = false := by simp; omega
            have e4 : ((b : Int) == 95) = false := by simp; omega
            have e5 : ((b : Int) == 45) = false := by simp; omega
            have hn : nameN b = false := by unfold nameN; simp; omega
            have HN := hidp hn; clear hn
            go_enter Tryd.func84, Tryd.ntmps84
            go_wp2
            go_ret
            exact ⟨by rw [HN.out]; rfl, rfl⟩
          · skip
            by_cases h5 : b ≤ 95
            · have e0 : decide ((97 : Int) ≤ (b : Int)) = false := by simp; omega
              have e1 : decide ((b : Int) ≤ 122) = true := by simp; omega
              have e2 : decide ((48 : Int) ≤ (b : Int)) = true := by simp; omega
              have e3 : decide ((b : Int) ≤ 57) = false := by simp; omega
              have e4 : ((b : Int) == 95) = true := by simp; omega
              have e5 : ((b : Int) == 45) = false := by simp; omega
              have hn : nameN b = true := by unfold nameN; simp; omega
              have HN := hidp hn; clear hn
              go_enter Tryd.func84, Tryd.ntmps84
              go_wp2
              go_ret
              exact ⟨by rw [HN.out]; rfl, rfl⟩
            · skip
              by_cases h6 : b ≤ 96
              · have e0 : decide ((97 : Int) ≤ (b : Int)) = false := by simp; omega
                have e1 : decide ((b : Int) ≤ 122) = true := by simp; omega
                have e2 : decide ((48 : Int) ≤ (b : Int)) = true := by simp; omega
                have e3 : decide ((b : Int) ≤ 57) = false := by simp; omega
                have e4 : ((b : Int) == 95) = false := by simp; omega
                have e5 : ((b : Int) == 45) = false := by simp; omega
                have hn : nameN b = false := by unfold nameN; simp; omega
                have HN := hidp hn; clear hn
                go_enter Tryd.func84, Tryd.ntmps84
                go_wp2
                go_ret
                exact ⟨by rw [HN.out]; rfl, rfl⟩
              · skip
                by_cases h7 : b ≤ 122
                · have e0 : decide ((97 : Int) ≤ (b : Int)) = true := by simp; omega
                  have e1 : decide ((b : Int) ≤ 122) = true := by simp; omega
                  have e2 : decide ((48 : Int) ≤ (b : Int)) = true := by simp; omega
                  have e3 : decide ((b : Int) ≤ 57) = false := by simp; omega
                  have e4 : ((b : Int) == 95) = false := by simp; omega
                  have e5 : ((b : Int) == 45) = false := by simp; omega
                  have hn : nameN b = true := by unfold nameN; simp; omega
                  have HN := hidp hn; clear hn
                  go_enter Tryd.func84, Tryd.ntmps84
                  go_wp2
                  go_ret
                  exact ⟨by rw [HN.out]; rfl, rfl⟩
                · skip
                  have e0 : decide ((97 : Int) ≤ (b : Int)) = true := by simp; omega
                  have e1 : decide ((b : Int) ≤ 122) = false := by simp; omega
                  have e2 : decide ((48 : Int) ≤ (b : Int)) = true := by simp; omega
                  have e3 : decide ((b : Int) ≤ 57) = false := by simp; omega
                  have e4 : ((b : Int) == 95) = false := by simp; omega
                  have e5 : ((b : Int) == 45) = false := by simp; omega
                  have hn : nameN b = false := by unfold nameN; simp; omega
                  have HN := hidp hn; clear hn
                  go_enter Tryd.func84, Tryd.ntmps84
                  go_wp2
                  go_ret
                  exact ⟨by rw [HN.out]; rfl, rfl⟩
end Go.Proofs.YtglfdenlgglccaaDoor
