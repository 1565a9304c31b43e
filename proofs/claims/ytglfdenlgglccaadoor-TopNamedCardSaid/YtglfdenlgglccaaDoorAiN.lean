
/-
  octet: AllNum and AllInt.
-/
import Derived.Test.YtglfdenlgglccaaDoorOctQ
namespace Go.Proofs.YtglfdenlgglccaaDoor.Ai
set_option maxRecDepth 100000
set_option linter.unusedVariables false
set_option linter.unusedSimpArgs false
open Go.RowKit

/-- The number that a whole text is, and the error. -/
def nmE (s : ByteArray) : Int := if (gn s.data.toList).2.2 ≠ 0 then ((gn s.data.toList).2.2 : Int) else if (gn s.data.toList).2.1 < s.size then 6 else 0
def nmV (s : ByteArray) : Nat := if nmE s = 0 then (gn s.data.toList).1 else 0
def inE (s : ByteArray) (m : Nat) : Int := if nmE s = 0 then (if m < nmV s then 1 else 0) else nmE s
def inV (s : ByteArray) (m : Nat) : Nat := if inE s m = 0 then nmV s else 0

set_option maxHeartbeats 4000000 in
theorem allNumW_any (w : World) (s : ByteArray) (hs : s.size ≤ 281474976710656) :
    Calls Tryd.prog 26 #[.string s] w fun e w' => e = .returned (.tuple #[.int .u64 (nmV s), .int .i64 (nmE s)]) ∧ w = w' := by
  have cg := hidp (fun W => getNum_any W s hs)
  have hb := gn_bd s.data.toList
  obtain ⟨⟨n, j, c⟩, hr⟩ : ∃ r, gn s.data.toList = r := ⟨_, rfl⟩
  have dE : nmE s = if c ≠ 0 then (c : Int) else if j < s.size then 6 else 0 := by unfold nmE; rw [hr]
  have dV : nmV s = if nmE s = 0 then n else 0 := by unfold nmV; rw [hr]
  rw [hr] at cg hb
  clear hr
  simp only [tup3] at cg hb
  by_cases h0 : c = 0
  · subst h0
    by_cases hj : j < s.size
    · have e1 : decide ((j : Int) < (s.size : Int)) = true := by simp; omega
      have g1 : decide (j < s.size) = true := decide_eq_true hj
      have HE := hidp (show nmE s = 6 from by rw [dE, if_neg (by simp), if_pos hj])
      have HV := hidp (show nmV s = 0 from by rw [dV, HE.out]; rfl)
      clear dE dV hj hb
      go_enter Tryd.func26, Tryd.ntmps26
      go_wp2_with (go_at_call 46; refine (cg.out _).mono ?_; rintro e w' ⟨rfl, rfl⟩)
      go_ret2
      exact ⟨by rw [HE.out, HV.out]; rfl, rfl⟩
    · have e1 : decide ((j : Int) < (s.size : Int)) = false := by simp; omega
      have g1 : decide (j < s.size) = false := decide_eq_false hj
      have HE := hidp (show nmE s = 0 from by rw [dE, if_neg (by simp), if_neg hj])
      have HV := hidp (show nmV s = n from by rw [dV, HE.out]; rfl)
      clear dE dV hj hb
      go_enter Tryd.func26, Tryd.ntmps26
      go_wp2_with (go_at_call 46; refine (cg.out _).mono ?_; rintro e w' ⟨rfl, rfl⟩)
      go_ret2
      exact ⟨by rw [HE.out, HV.out]; rfl, rfl⟩
  · have e0 : ((c : Int) != 0) = true := by simp; omega
    have n0 : ¬ (c : Int) = 0 := by omega
    have HE := hidp (show nmE s = c from by rw [dE, if_pos h0])
    have HV := hidp (show nmV s = 0 from by rw [dV, HE.out, if_neg (by omega)])
    clear dE dV hb h0
    go_enter Tryd.func26, Tryd.ntmps26
    go_wp2_with (go_at_call 46; refine (cg.out _).mono ?_; rintro e w' ⟨rfl, rfl⟩)
    go_ret2
    exact ⟨by rw [HE.out, HV.out]; rfl, rfl⟩

theorem allNum_any (w : World) (s : ByteArray) (hs : s.size ≤ 281474976710656) :
    Calls Tryd.prog 26 #[.string s] w fun e w' => e = .returned (.tuple #[.int .u64 (nmV s), .int .i64 (nmE s)]) ∧ Below w.heap.size w w' :=
  (allNumW_any w s hs).mono fun e w' h => ⟨h.1, h.2 ▸ Below.refl _ _⟩
end Go.Proofs.YtglfdenlgglccaaDoor.Ai
