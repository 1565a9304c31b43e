
/-
  The document's List; GetText of both.
-/
import Derived.Test.YtbgooppmhgaicabOctF
namespace Go.Proofs.Ytbgooppmhgaicab
set_option linter.unusedVariables false
set_option linter.unusedSimpArgs false
set_option maxRecDepth 100000
open Go.RowKit

/-- What is read is small. -/
theorem gnAux_bd (k i acc : Nat) (l : List UInt8) : (gnAux k i acc l).1 ≤ 281474976710656 ∧ (gnAux k i acc l).2.1 ≤ i + k ∧ (gnAux k i acc l).2.1 ≤ i + l.length ∧ (gnAux k i acc l).2.2 ≤ 6 := by
  induction k generalizing i acc l with
  | zero => simp [gnAux]
  | succ k ih =>
    cases l with
    | nil => simp [gnAux]
    | cons b r =>
      rw [gnAux]
      split
      · obtain ⟨h1, h2, h3, h4⟩ := ih (i + 1) (acc + b.toNat % 128 * 128 ^ i) r
        refine ⟨h1, by omega, by simp; omega, h4⟩
      · split
        · simp
        · rename_i h; refine ⟨by simp only; omega, by simp only; omega, by simp, by simp⟩
theorem gn_bd (l : List UInt8) : (gn l).1 ≤ 281474976710656 ∧ (gn l).2.1 ≤ 7 ∧ (gn l).2.1 ≤ l.length ∧ (gn l).2.2 ≤ 6 := by
  have := gnAux_bd 7 0 0 l; simpa [gn] using this

/-- The text that bytes begin with: the text, its size, the error. -/
def gt (s : ByteArray) : ByteArray × Nat × Nat :=
  let r := gn s.data.toList
  if r.2.2 ≠ 0 then (ByteArray.empty, 0, r.2.2) else if 8192 < r.1 then (ByteArray.empty, 0, 7) else if s.size < r.2.1 + r.1 then (ByteArray.empty, 0, 5) else (s.extract r.2.1 (r.2.1 + r.1), r.2.1 + r.1, 0)
def tupT (r : ByteArray × Nat × Nat) : Value := .tuple #[.string r.1, .int .i64 r.2.1, .int .i64 r.2.2]

theorem errB {e : Nat} (h : e ≠ 0) : (((e : Nat) : Int) != 0) = true := by simp; omega
theorem errB0 {e : Nat} (h : e = 0) : (((e : Nat) : Int) != 0) = false := by simp; omega

set_option maxHeartbeats 1000000 in
set_option maxRecDepth 20000 in
theorem getText_any (w : World) (s : ByteArray) (hs : s.size ≤ 281474976710656) :
    Calls Try.prog 46 #[.string s] w fun e w' => e = .returned (tupT (gt s)) ∧ Below w.heap.size w w' := by
  have hG := getNum_any w s hs
  have hbd := gn_bd s.data.toList
  unfold gt
  obtain ⟨⟨n, k, e⟩, hr⟩ : ∃ r, r = gn s.data.toList := ⟨_, rfl⟩
  rw [← hr] at hG hbd ⊢
  clear hr
  obtain ⟨h1, h2, h3, h4⟩ := hbd
  have h3 : k ≤ s.size := by simpa using h3
  simp only [tup3] at hG h1 h2 h4 ⊢
  have HG := hidp hG; clear hG
  by_cases he : e = 0
  · have heb := errB0 he
    by_cases h8 : 8192 < n
    · rw [if_neg (by simpa using he), if_pos h8]
      have H0 := hidp he; clear he
      go_enter Try.func46, Try.ntmps46
      go_wp2_with (go_at_call 43; (refine HG.out.mono ?_); rintro e1 w1 ⟨rfl, rfl⟩)
      go_ret3
      exact ⟨rfl, Below.refl _ _⟩
    · by_cases hsz : s.size < k + n
      · rw [if_neg (by simpa using he), if_neg h8, if_pos hsz]
        have H0 := hidp he; clear he
        go_enter Try.func46, Try.ntmps46
        go_wp2_with (go_at_call 43; (refine HG.out.mono ?_); rintro e1 w1 ⟨rfl, rfl⟩)
        go_ret3
        exact ⟨rfl, Below.refl _ _⟩
      · rw [if_neg (by simpa using he), if_neg h8, if_neg hsz]
        have H0 := hidp he; clear he
        have hcl := hidp fun w => clone (s.extract k (k + n)) w (by simp; omega)
        have hx : ((k : Int) + (n : Int)).toNat = k + n := by omega
        go_enter Try.func46, Try.ntmps46
        go_wp2_with (first | (go_at_call 43; (refine HG.out.mono ?_); rintro e1 w1 ⟨rfl, rfl⟩) | (go_at_call 29; (refine (hcl.out _).mono ?_); rintro e2 w2 ⟨rfl, hb2⟩))
        go_ret3
        exact ⟨rfl, hb2⟩
  · have heb := errB he
    rw [if_pos he]
    have H0 := hidp he; clear he
    go_enter Try.func46, Try.ntmps46
    go_wp2_with (go_at_call 43; (refine HG.out.mono ?_); rintro e1 w1 ⟨rfl, rfl⟩)
    go_ret3
    exact ⟨rfl, Below.refl _ _⟩

end Go.Proofs.Ytbgooppmhgaicab
