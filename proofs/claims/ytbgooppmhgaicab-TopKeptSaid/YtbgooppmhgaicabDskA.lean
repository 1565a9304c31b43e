
/-
  disk: Check, New, owned, joined.
-/
import Derived.Test.YtbgooppmhgaicabRows
import Derived.Test.YtbgooppmhgaicabBaB
import Derived.Test.YtbgooppmhgaicabBld
import Derived.IntWalk
namespace Go.Proofs.Ytbgooppmhgaicab
set_option maxRecDepth 100000
set_option linter.unusedVariables false
set_option linter.unusedSimpArgs false
open Go.RowKit

/-- A disk's value. -/
def dv (s : ByteArray) (y r : Int) : Value := .agg #[.string s, .int .i64 y, .int .i64 r]
theorem dv_eq (s : ByteArray) (y r : Int) : dv s y r = .agg #[.string s, .int .i64 y, .int .i64 r] := rfl
/-- A valid disk. -/
def okD (s : ByteArray) (y r : Int) : Prop := 0 ≤ y ∧ y ≤ s.size ∧ (s.size : Int) ≤ r ∧ r ≤ 1048576

set_option maxHeartbeats 4000000 in
theorem check_ok (w : World) (s : ByteArray) (y r : Int) (h : okD s y r) :
    Calls Try.prog 19 #[.agg #[.string s, .int .i64 y, .int .i64 r]] w fun e w' => e = .returned (.int .i64 0) ∧ Below w.heap.size w w' := by
  obtain ⟨h1, h2, h3, h4⟩ := h
  have e1 : decide (y < 0) = false := by simp; omega
  have e2 : decide ((s.size : Int) < y) = false := by simp; omega
  have e3 : decide (r < (s.size : Int)) = false := by simp; omega
  have e4 : decide (1048576 < r) = false := by simp; omega
  go_enter Try.func19, Try.ntmps19
  go_wp2
  go_ret
  exact ⟨rfl, (Below.refl _ _).alloc (Nat.le_refl _) _⟩
set_option maxHeartbeats 4000000 in
theorem check_no (w : World) (s : ByteArray) (y r : Int) (h : ¬ okD s y r) :
    Calls Try.prog 19 #[.agg #[.string s, .int .i64 y, .int .i64 r]] w fun e w' => e = .returned (.int .i64 2) ∧ Below w.heap.size w w' := by
  unfold okD at h
  by_cases h1 : y < 0
  · have e1 : decide (y < 0) = true := by simpa using h1
    clear h
    go_enter Try.func19, Try.ntmps19
    go_wp2
    go_ret
    exact ⟨rfl, (Below.refl _ _).alloc (Nat.le_refl _) _⟩
  · have e1 : decide (y < 0) = false := by simpa using h1
    by_cases h2 : (s.size : Int) < y
    · have e2 : decide ((s.size : Int) < y) = true := by simpa using h2
      clear h
      go_enter Try.func19, Try.ntmps19
      go_wp2
      go_ret
      exact ⟨rfl, (Below.refl _ _).alloc (Nat.le_refl _) _⟩
    · have e2 : decide ((s.size : Int) < y) = false := by simpa using h2
      by_cases h3 : r < (s.size : Int)
      · have e3 : decide (r < (s.size : Int)) = true := by simpa using h3
        clear h
        go_enter Try.func19, Try.ntmps19
        go_wp2
        go_ret
        exact ⟨rfl, (Below.refl _ _).alloc (Nat.le_refl _) _⟩
      · have e3 : decide (r < (s.size : Int)) = false := by simpa using h3
        have e4 : decide (1048576 < r) = true := by simp; omega
        clear h
        go_enter Try.func19, Try.ntmps19
        go_wp2
        go_ret
        exact ⟨rfl, (Below.refl _ _).alloc (Nat.le_refl _) _⟩

set_option maxHeartbeats 4000000 in
theorem new_no (w : World) (r : Int) (h : r < 0 ∨ 1048576 < r) :
    Calls Try.prog 5 #[.int .i64 r] w fun e w' => e = .returned (.tuple #[.agg #[.string ⟨#[]⟩, .int .i64 0, .int .i64 0], .int .i64 1]) ∧ Below w.heap.size w w' := by
  by_cases h1 : r < 0
  · have e1 : decide (r < 0) = true := by simpa using h1
    clear h
    go_enter Try.func5, Try.ntmps5
    go_wp2
    exact bodyPost_ret (v := .tuple #[.agg #[.string ⟨#[]⟩, .int .i64 0, .int .i64 0], .int .i64 1]) (by simp [results, Try.results5, go_sem]) rfl ⟨rfl, (Below.refl _ _).alloc (Nat.le_refl _) _⟩
  · have e1 : decide (r < 0) = false := by simpa using h1
    have e2 : decide (1048576 < r) = true := by simp; omega
    clear h
    go_enter Try.func5, Try.ntmps5
    go_wp2
    exact bodyPost_ret (v := .tuple #[.agg #[.string ⟨#[]⟩, .int .i64 0, .int .i64 0], .int .i64 1]) (by simp [results, Try.results5, go_sem]) rfl ⟨rfl, (Below.refl _ _).alloc (Nat.le_refl _) _⟩
set_option maxHeartbeats 4000000 in
theorem new_ok (w : World) (r : Int) (h0 : 0 ≤ r) (h1 : r ≤ 1048576) :
    Calls Try.prog 5 #[.int .i64 r] w fun e w' => e = .returned (.tuple #[.agg #[.string ⟨#[]⟩, .int .i64 0, .int .i64 r], .int .i64 0]) ∧ Below w.heap.size w w' := by
  have e1 : decide (r < 0) = false := by simp; omega
  have e2 : decide (1048576 < r) = false := by simp; omega
  go_enter Try.func5, Try.ntmps5
  go_wp2
  exact bodyPost_ret (v := .tuple #[.agg #[.string ⟨#[]⟩, .int .i64 0, .int .i64 r], .int .i64 0]) (by simp [results, Try.results5, go_sem]) rfl ⟨rfl, (Below.refl _ _).alloc (Nat.le_refl _) _⟩

theorem clone_any (s : ByteArray) (w : World) (hlim : s.size ≤ 281474976710656) :
    Calls Try.prog 29 #[.string s] w fun e w' => e = .returned (.string s) ∧ Below w.heap.size w w' := by
  go_enter Try.func29, Try.ntmps29
  go_wp2_with (go_at_call 38; refine (clone_in _ _ hlim).mono ?_; rintro e w1 ⟨rfl, hb1⟩)
  go_ret
  exact ⟨rfl, hb1⟩
end Go.Proofs.Ytbgooppmhgaicab
