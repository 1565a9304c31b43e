/-
  sha.digit, palaverref02.digit: what a hexadecimal digit stands for.
-/
import Derived.Test.YtcjehpojckdfnaaDoorShaG
namespace Go.Proofs.YtcjehpojckdfnaaDoor
set_option linter.unusedVariables false
set_option linter.unusedSimpArgs false
open Go.RowKit

/-- 16: no digit. -/
def dig (c : UInt8) : Nat := if 48 ≤ c.toNat ∧ c.toNat ≤ 57 then c.toNat - 48 else if 97 ≤ c.toNat ∧ c.toNat ≤ 102 then c.toNat - 87 else 16
theorem dig_n (c : UInt8) (n : Nat) (hn : c.toNat = n) : dig c = if 48 ≤ n ∧ n ≤ 57 then n - 48 else if 97 ≤ n ∧ n ≤ 102 then n - 87 else 16 := by rw [← hn]; rfl
theorem dig_any (w : World) (c : UInt8) :
    Calls Tryd.prog 56 #[.int .u8 c.toNat] w fun e w' => e = .returned (.tuple #[.int .u8 ((if dig c < 16 then dig c else 0 : Nat) : Int), .bool (decide (dig c < 16))]) ∧ Below w.heap.size w w' := by
  have hc := c.toNat_lt
  obtain ⟨n, hn⟩ : ∃ n, c.toNat = n := ⟨_, rfl⟩
  have hd := dig_n c n hn
  rw [hn] at hc
  rw [hn]
  have hb := Below.refl w.heap.size w
  have HD : (48 ≤ n ∧ n ≤ 57 ∧ dig c = n - 48) ∨ (97 ≤ n ∧ n ≤ 102 ∧ dig c = n - 87) ∨ (dig c = 16 ∧ (n < 48 ∨ (57 < n ∧ n < 97) ∨ 102 < n)) := by
    rw [hd]
    split
    · omega
    · split <;> omega
  clear hd
  rcases HD with ⟨h1, h2, h3⟩ | ⟨h1, h2, h3⟩ | ⟨h3, h4 | ⟨h4, h5⟩ | h4⟩
  · rw [h3, show (if n - 48 < 16 then n - 48 else 0) = n - 48 from if_pos (by omega), show decide (n - 48 < 16) = true from by simp; omega]
    go_enter Tryd.func56, Tryd.ntmps56
    go_wp2
    all_goals first | (exfalso; omega) | skip
    go_ret2
    exact ⟨by rw [show ((n - 48 : Nat) : Int) = (n : Int) - 48 from by omega]; rfl, hb⟩
  · rw [h3, show (if n - 87 < 16 then n - 87 else 0) = n - 87 from if_pos (by omega), show decide (n - 87 < 16) = true from by simp; omega]
    go_enter Tryd.func56, Tryd.ntmps56
    go_wp2
    all_goals first | (exfalso; omega) | skip
    go_ret2
    exact ⟨by rw [show ((n - 87 : Nat) : Int) = (n : Int) - 97 + 10 from by omega]; rfl, hb⟩
  all_goals
    rw [h3]
    go_enter Tryd.func56, Tryd.ntmps56
    go_wp2
    all_goals first | (exfalso; omega) | skip
    go_ret2
    exact ⟨rfl, hb⟩
theorem rdig_any (w : World) (c : UInt8) :
    Calls Tryd.prog 57 #[.int .u8 c.toNat] w fun e w' => e = .returned (.int .u8 (dig c : Int)) ∧ Below w.heap.size w w' := by
  have hc := c.toNat_lt
  obtain ⟨n, hn⟩ : ∃ n, c.toNat = n := ⟨_, rfl⟩
  have hd := dig_n c n hn
  rw [hn] at hc
  rw [hn]
  have hb := Below.refl w.heap.size w
  have HD : (48 ≤ n ∧ n ≤ 57 ∧ dig c = n - 48) ∨ (97 ≤ n ∧ n ≤ 102 ∧ dig c = n - 87) ∨ (dig c = 16 ∧ (n < 48 ∨ (57 < n ∧ n < 97) ∨ 102 < n)) := by
    rw [hd]
    split
    · omega
    · split <;> omega
  clear hd
  rcases HD with ⟨h1, h2, h3⟩ | ⟨h1, h2, h3⟩ | ⟨h3, h4 | ⟨h4, h5⟩ | h4⟩
  all_goals
    rw [h3]
    go_enter Tryd.func57, Tryd.ntmps57
    go_wp2
    all_goals first | (exfalso; omega) | skip
    go_ret
    first
    | exact ⟨rfl, hb⟩
    | exact ⟨by rw [show ((n - 48 : Nat) : Int) = (n : Int) - 48 from by omega]; rfl, hb⟩
    | exact ⟨by rw [show ((n - 87 : Nat) : Int) = (n : Int) - 97 + 10 from by omega]; rfl, hb⟩
end Go.Proofs.YtcjehpojckdfnaaDoor
