
/-
  octet: AllNum and AllInt.
-/
import Derived.Test.YtbgooppmhgaicabOctQ
namespace Go.Proofs.Ytbgooppmhgaicab.Ai
set_option maxRecDepth 100000
set_option linter.unusedVariables false
set_option linter.unusedSimpArgs false
open Go.RowKit

/-- The number that a whole text is, and the error. -/
def nmE (s : ByteArray) : Int := if (gn s.data.toList).2.2 ≠ 0 then ((gn s.data.toList).2.2 : Int) else if (gn s.data.toList).2.1 < s.size then 6 else 0
def nmV (s : ByteArray) : Nat := if nmE s = 0 then (gn s.data.toList).1 else 0
def inE (s : ByteArray) (m : Nat) : Int := if nmE s = 0 then (if m < nmV s then 1 else 0) else nmE s
def inV (s : ByteArray) (m : Nat) : Nat := if inE s m = 0 then nmV s else 0

set_option maxHeartbeats 4000000 in
theorem allNumW_any (w : World) (s : ByteArray) (hs : s.size ≤ 281474976710656) :
    Calls Try.prog 45 #[.string s] w fun e w' => e = .returned (.tuple #[.int .u64 (nmV s), .int .i64 (nmE s)]) ∧ w = w' := by
  have cg := hidp (fun W => getNum_any W s hs)
  have hb := gn_bd s.data.toList
  obtain ⟨⟨n, j, c⟩, hr⟩ : ∃ r, gn s.data.toList = r := ⟨_, rfl⟩
  have dE : nmE s = if c ≠ 0 then (c : Int) else if j < s.size then 6 else 0 := by unfold nmE; rw [hr]
  have dV : nmV s = if nmE s = 0 then n else 0 := by unfold nmV; rw [hr]
  rw [hr] at cg hb
  clear hr
  simp only [tup3] at cg hb
  by_cases h0 : c = 0
  · subst h0
    by_cases hj : j < s.size
    · have e1 : decide ((j : Int) < (s.size : Int)) = true := by simp; omega
      have g1 : decide (j < s.size) = true := decide_eq_true hj
      have HE := hidp (show nmE s = 6 from by rw [dE, if_neg (by simp), if_pos hj])
      have HV := hidp (show nmV s = 0 from by rw [dV, HE.out]; rfl)
      clear dE dV hj hb
      go_enter Try.func45, Try.ntmps45
      go_wp2_with (go_at_call 43; refine (cg.out _).mono ?_; rintro e w' ⟨rfl, rfl⟩)
      go_ret2
      exact ⟨by rw [HE.out, HV.out]; rfl, rfl⟩
    · have e1 : decide ((j : Int) < (s.size : Int)) = false := by simp; omega
      have g1 : decide (j < s.size) = false := decide_eq_false hj
      have HE := hidp (show nmE s = 0 from by rw [dE, if_neg (by simp), if_neg hj])
      have HV := hidp (show nmV s = n from by rw [dV, HE.out]; rfl)
      clear dE dV hj hb
      go_enter Try.func45, Try.ntmps45
      go_wp2_with (go_at_call 43; refine (cg.out _).mono ?_; rintro e w' ⟨rfl, rfl⟩)
      go_ret2
      exact ⟨by rw [HE.out, HV.out]; rfl, rfl⟩
  · have e0 : ((c : Int) != 0) = true := by simp; omega
    have n0 : ¬ (c : Int) = 0 := by omega
    have HE := hidp (show nmE s = c from by rw [dE, if_pos h0])
    have HV := hidp (show nmV s = 0 from by rw [dV, HE.out, if_neg (by omega)])
    clear dE dV hb h0
    go_enter Try.func45, Try.ntmps45
    go_wp2_with (go_at_call 43; refine (cg.out _).mono ?_; rintro e w' ⟨rfl, rfl⟩)
    go_ret2
    exact ⟨by rw [HE.out, HV.out]; rfl, rfl⟩

theorem allNum_any (w : World) (s : ByteArray) (hs : s.size ≤ 281474976710656) :
    Calls Try.prog 45 #[.string s] w fun e w' => e = .returned (.tuple #[.int .u64 (nmV s), .int .i64 (nmE s)]) ∧ Below w.heap.size w w' :=
  (allNumW_any w s hs).mono fun e w' h => ⟨h.1, h.2 ▸ Below.refl _ _⟩
set_option maxHeartbeats 4000000 in
theorem allInt_any (w : World) (s : ByteArray) (m : Nat) (hm : m ≤ 1048576) (hs : s.size ≤ 281474976710656) :
    Calls Try.prog 35 #[.string s, .int .i64 (m : Int)] w fun e w' => e = .returned (.tuple #[.int .i64 (inV s m), .int .i64 (inE s m)]) ∧ Below w.heap.size w w' := by
  have cg := hidp (fun W => allNum_any W s hs)
  have dE : inE s m = if nmE s = 0 then (if m < nmV s then 1 else 0) else nmE s := rfl
  have dV : inV s m = if inE s m = 0 then nmV s else 0 := rfl
  have hV : nmV s ≤ 281474976710656 := by
    have hb := gn_bd s.data.toList
    unfold nmV; split <;> omega
  obtain ⟨E, hE⟩ : ∃ E, nmE s = E := ⟨_, rfl⟩
  obtain ⟨n, hn⟩ : ∃ n, nmV s = n := ⟨_, rfl⟩
  rw [hE, hn] at cg dE
  rw [hn] at dV hV
  clear hE hn
  have w1 : IntKind.u64.wrap (m : Int) = (m : Int) := by unfold IntKind.wrap; simp [IntKind.bits, IntKind.signed]; omega
  have w2 : IntKind.i64.wrap (n : Int) = (n : Int) := by unfold IntKind.wrap; simp [IntKind.bits, IntKind.signed]; omega
  have e2 : decide ((m : Int) < 0) = false := by simp
  by_cases h0 : E = 0
  · subst h0
    by_cases hj : m < n
    · have e1 : decide ((n : Int) > (m : Int)) = true := by simp; omega
      have n1 : (m : Int) < (n : Int) := by omega
      have g1 : decide (m < n) = true := decide_eq_true hj
      have HE := hidp (show inE s m = 1 from by rw [dE, if_pos rfl, if_pos hj])
      have HV := hidp (show inV s m = 0 from by rw [dV, HE.out]; rfl)
      clear dE dV hj
      go_enter Try.func35, Try.ntmps35
      go_wp2_with (go_at_call 45; refine (cg.out _).mono ?_; rintro e w' ⟨rfl, hb⟩)
      go_ret2
      exact ⟨by rw [HE.out, HV.out]; rfl, hb⟩
    · have e1 : decide ((n : Int) > (m : Int)) = false := by simp; omega
      have n1 : ¬ (m : Int) < (n : Int) := by omega
      have g1 : decide (m < n) = false := decide_eq_false hj
      have HE := hidp (show inE s m = 0 from by rw [dE, if_pos rfl, if_neg hj])
      have HV := hidp (show inV s m = n from by rw [dV, HE.out]; rfl)
      clear dE dV hj
      go_enter Try.func35, Try.ntmps35
      go_wp2_with (go_at_call 45; refine (cg.out _).mono ?_; rintro e w' ⟨rfl, hb⟩)
      go_ret2
      exact ⟨by rw [HE.out, HV.out]; rfl, hb⟩
  · have e0 : (E != 0) = true := by simpa using h0
    have HE := hidp (show inE s m = E from by rw [dE, if_neg h0])
    have HV := hidp (show inV s m = 0 from by rw [dV, HE.out, if_neg h0])
    clear dE dV
    go_enter Try.func35, Try.ntmps35
    go_wp2_with (go_at_call 45; refine (cg.out _).mono ?_; rintro e w' ⟨rfl, hb⟩)
    go_ret2
    exact ⟨by rw [HE.out, HV.out]; rfl, hb⟩
end Go.Proofs.Ytbgooppmhgaicab.Ai
