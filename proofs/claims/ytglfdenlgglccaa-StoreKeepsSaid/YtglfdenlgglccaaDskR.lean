
/-
  disk: the document's Check, New, Write, Sync, Swap, Fail.
-/
import Derived.Test.YtglfdenlgglccaaDskD
import Derived.Deep.QuietTactic
namespace Go.Proofs.Ytglfdenlgglccaa
set_option maxRecDepth 100000
set_option linter.unusedVariables false
set_option linter.unusedSimpArgs false
open Go.RowKit

set_option maxHeartbeats 4000000 in
theorem rcheck_ok (w : World) (s : ByteArray) (y r : Int) (h : okD s y r) :
    Calls Try.prog 50 #[.agg #[.string s, .int .i64 y, .int .i64 r]] w fun e w' => e = .returned (.int .i64 0) ∧ Below w.heap.size w w' := by
  obtain ⟨h1, h2, h3, h4⟩ := h
  have e1 : decide (y < 0) = false := by simp; omega
  have e2 : decide ((s.size : Int) < y) = false := by simp; omega
  have e3 : decide (r < (s.size : Int)) = false := by simp; omega
  have e4 : decide (1048576 < r) = false := by simp; omega
  go_enter Try.func50, Try.ntmps50
  go_wp2
  go_ret
  exact ⟨rfl, (Below.refl _ _).alloc (Nat.le_refl _) _⟩
set_option maxHeartbeats 4000000 in
theorem rcheck_no (w : World) (s : ByteArray) (y r : Int) (h : ¬ okD s y r) :
    Calls Try.prog 50 #[.agg #[.string s, .int .i64 y, .int .i64 r]] w fun e w' => e = .returned (.int .i64 2) ∧ Below w.heap.size w w' := by
  unfold okD at h
  by_cases h1 : y < 0
  · have e1 : decide (y < 0) = true := by simpa using h1
    clear h
    go_enter Try.func50, Try.ntmps50
    go_wp2
    go_ret
    exact ⟨rfl, (Below.refl _ _).alloc (Nat.le_refl _) _⟩
  · have e1 : decide (y < 0) = false := by simpa using h1
    by_cases h2 : (s.size : Int) < y
    · have e2 : decide ((s.size : Int) < y) = true := by simpa using h2
      clear h
      go_enter Try.func50, Try.ntmps50
      go_wp2
      go_ret
      exact ⟨rfl, (Below.refl _ _).alloc (Nat.le_refl _) _⟩
    · have e2 : decide ((s.size : Int) < y) = false := by simpa using h2
      by_cases h3 : r < (s.size : Int)
      · have e3 : decide (r < (s.size : Int)) = true := by simpa using h3
        clear h
        go_enter Try.func50, Try.ntmps50
        go_wp2
        go_ret
        exact ⟨rfl, (Below.refl _ _).alloc (Nat.le_refl _) _⟩
      · have e3 : decide (r < (s.size : Int)) = false := by simpa using h3
        have e4 : decide (1048576 < r) = true := by simp; omega
        clear h
        go_enter Try.func50, Try.ntmps50
        go_wp2
        go_ret
        exact ⟨rfl, (Below.refl _ _).alloc (Nat.le_refl _) _⟩
set_option maxHeartbeats 4000000 in
theorem rwrite_no (w : World) (s : ByteArray) (y r : Int) (t : ByteArray) (h : ¬ okD s y r) :
    Calls Try.prog 51 #[.agg #[.string s, .int .i64 y, .int .i64 r], .string t] w fun e w' => e = .returned (.tuple #[.agg #[.string ⟨#[]⟩, .int .i64 0, .int .i64 0], .int .i64 2]) ∧ Below w.heap.size w w' := by
  have c1 := hidp (fun W => rcheck_no W s y r h)
  go_enter Try.func51, Try.ntmps51
  go_wp2_with fail
  refine (c1.out _).mono ?_
  rintro e w1 ⟨rfl, hb1⟩
  obtain ⟨hA, hR, hB⟩ := after2 [.string s, .int .i64 y, .int .i64 r] [.string ⟨#[]⟩, .int .i64 0, .int .i64 0] _ _ hb1
  have HA := hidp hA; have HR := hidp hR; have HB := hidp hB
  clear hb1 hA hR hB
  obtain ⟨a0, a1, a2, af⟩ := arr3 HA.out
  obtain ⟨r0, r1, r2, rf⟩ := arr3 HR.out
  have f0 := af 0; have f1 := af 1; have f2 := af 2
  have g0 := rf 0; have g1 := rf 1; have g2 := rf 2
  clear af rf
  go_wp2_with fail
  refine bodyPost_ret (v := .tuple #[.agg #[.string ⟨#[]⟩, .int .i64 0, .int .i64 0], .int .i64 2]) (by simp [results, Try.results51, go_sem, r0, r1, r2]) rfl ⟨rfl, ?_⟩
  repeat (refine Below.setCell ?_ (by simp) _)
  exact HB.out
set_option maxHeartbeats 4000000 in
theorem rwrite_full (w : World) (s : ByteArray) (y r : Int) (t : ByteArray) (h : okD s y r) (ht : r - s.size < t.size) :
    Calls Try.prog 51 #[.agg #[.string s, .int .i64 y, .int .i64 r], .string t] w fun e w' => e = .returned (.tuple #[.agg #[.string s, .int .i64 y, .int .i64 r], .int .i64 8]) ∧ Below w.heap.size w w' := by
  have c1 := hidp (fun W => rcheck_ok W s y r h)
  have hsz := okD_nat h
  obtain ⟨h1, h2, h3, h4⟩ := h
  have hd : decide (r - (s.size : Int) < (t.size : Int)) = true := by simpa using ht
  have k1 : 0 ≤ r := by omega
  clear ht
  go_enter Try.func51, Try.ntmps51
  go_wp2_with fail
  refine (c1.out _).mono ?_
  rintro e w1 ⟨rfl, hb1⟩
  obtain ⟨hA, hR, hB⟩ := after2 [.string s, .int .i64 y, .int .i64 r] [.string ⟨#[]⟩, .int .i64 0, .int .i64 0] _ _ hb1
  have HA := hidp hA; have HR := hidp hR; have HB := hidp hB
  clear hb1 hA hR hB
  obtain ⟨a0, a1, a2, af⟩ := arr3 HA.out
  obtain ⟨r0, r1, r2, rf⟩ := arr3 HR.out
  have g0 := rf 0; have g1 := rf 1; have g2 := rf 2
  clear af rf
  go_wp2_with fail
  refine bodyPost_ret (v := .tuple #[.agg #[.string s, .int .i64 y, .int .i64 r], .int .i64 8]) (by simp [results, Try.results51, go_sem, r0, r1, r2]) rfl ⟨rfl, ?_⟩
  repeat (refine Below.setCell ?_ (by simp) _)
  exact HB.out
set_option maxHeartbeats 4000000 in
theorem rwrite_ok (w : World) (s : ByteArray) (y r : Int) (t : ByteArray) (h : okD s y r) (ht : t.size ≤ r - s.size) :
    Calls Try.prog 51 #[.agg #[.string s, .int .i64 y, .int .i64 r], .string t] w fun e w' => e = .returned (.tuple #[.agg #[.string (s ++ t), .int .i64 y, .int .i64 r], .int .i64 0]) ∧ Below w.heap.size w w' := by
  have c1 := hidp (fun W => rcheck_ok W s y r h)
  have hsz := okD_nat h
  obtain ⟨h1, h2, h3, h4⟩ := h
  have hd : decide (r - (s.size : Int) < (t.size : Int)) = false := by simp; omega
  have hts : t.size ≤ 1048576 := by omega
  have k1 : 0 ≤ r := by omega
  go_enter Try.func51, Try.ntmps51
  go_wp2_with fail
  refine (c1.out _).mono ?_
  rintro e w1 ⟨rfl, hb1⟩
  obtain ⟨hA, hR, hB⟩ := after2 [.string s, .int .i64 y, .int .i64 r] [.string ⟨#[]⟩, .int .i64 0, .int .i64 0] _ _ hb1
  have HA := hidp hA; have HR := hidp hR; have HB := hidp hB
  clear hb1 hA hR hB
  obtain ⟨a0, a1, a2, af⟩ := arr3 HA.out
  obtain ⟨r0, r1, r2, rf⟩ := arr3 HR.out
  have f0 := af 0; have f1 := af 1; have f2 := af 2
  have g0 := rf 0; have g1 := rf 1; have g2 := rf 2
  clear af rf
  go_wp2_with fail
  refine bodyPost_ret (v := .tuple #[.agg #[.string (s ++ t), .int .i64 y, .int .i64 r], .int .i64 0]) (by simp [results, Try.results51, go_sem, r0, r1, r2]) rfl ⟨rfl, ?_⟩
  repeat (refine Below.setCell ?_ (by simp) _)
  exact HB.out
theorem rminK (W : World) (ts : Array TypeId) (k : Int) (n y : Nat) (h : y ≤ n) : (Builtin.min_ ts 3 #[.int .i64 k, .int .i64 ((n : Int) - (y : Int))]).run Try.prog W = .ok (.int .i64 (min k ((n : Int) - (y : Int)))) W := by
  go_simp
  first | done | (congr 2; first | done | omega | (split <;> omega))
theorem rmax0 (W : World) (ts : Array TypeId) (k : Int) (n y : Nat) (h : y ≤ n) : (Builtin.max_ ts 3 #[.int .i64 0, .int .i64 (min k ((n : Int) - (y : Int)))]).run Try.prog W = .ok (.int .i64 ((keepN n y k : Nat) : Int)) W := by
  have e : ((keepN n y k : Nat) : Int) = max 0 (min k ((n : Int) - (y : Int))) := by unfold keepN; omega
  rw [e]
  generalize min k ((n : Int) - (y : Int)) = m
  go_simp
  first | done | (congr 2; first | done | omega | (split <;> omega))
end Go.Proofs.Ytglfdenlgglccaa
