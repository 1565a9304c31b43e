
/-
  crc.Sum, of both sides.
-/
import Derived.Test.YtbgooppmhgaicabRows
import Derived.Test.YtbgooppmhgaicabCrcM
import Derived.WalkSpells
import Derived.WalkLawsBesides
import Derived.Handy
namespace Go.Proofs.Ytbgooppmhgaicab
set_option linter.unusedVariables false
set_option linter.unusedSimpArgs false
open Go.RowKit

theorem xor32 (a b : Nat) (ha : a < 4294967296) (hb : b < 4294967296) : bits .xor .u32 (a : Int) (b : Int) = ((a ^^^ b : Nat) : Int) := Go.u32_xor_nat a b ha hb
theorem fst_xor (x b : Nat) (hx : x < 4294967296) (hb : b < 256) : bits .xor .u32 (x : Int) ((b : Int) * 16777216) = ((x ^^^ b * 16777216 : Nat) : Int) := by
  rw [← xor32 x (b * 16777216) hx (by omega)]; simp
theorem take_snocC (s : ByteArray) (k : Nat) (h : k < s.size) : s.data.toList.take (k + 1) = s.data.toList.take k ++ [s[k]'h] := by
  rw [List.take_succ_eq_append_getElem (by simpa using h)]; rfl

theorem stp_int (z : Nat) (hz : z < 4294967296) : bits .xor .u32 ((z : Int) * 2 % 4294967296) ((z : Int) / 2147483648 * 79764919) = ((stp z : Nat) : Int) := by
  unfold stp
  rw [← xor32 (2 * z % 4294967296) (z / 2147483648 * 79764919) (Nat.mod_lt _ (by omega)) (by omega)]
  simp [Int.mul_comm]
theorem stp_hi (z : Nat) (hz : z < 4294967296) (h : 2147483648 ≤ z) : bits .xor .u32 ((z : Int) * 2 % 4294967296) 79764919 = ((stp z : Nat) : Int) := by
  rw [← stp_int z hz]; congr 1; omega
theorem stp_lo (z : Nat) (h : z < 2147483648) : (z : Int) * 2 % 4294967296 = ((stp z : Nat) : Int) := by
  rw [stp_low h]; omega

set_option maxHeartbeats 4000000 in
theorem crc_any (w : World) (s : ByteArray) (hs : s.size ≤ maxLen) :
    Calls Try.prog 49 #[.string s] w fun e w' => e = .returned (.int .u32 (sumL s.data.toList : Nat)) ∧ w = w' := by
  unfold maxLen at hs
  go_enter Try.func49, Try.ntmps49
  go_wp2
  go_loop [3, 8] (fun t3 t8 => ∃ k : Nat, k ≤ s.size ∧ t8 = .int .i64 k ∧ t3 = .int .u32 (sumL (s.data.toList.take k) : Nat)) (fun _ t8 => s.size - (intOf t8).toNat)
  case atStart => exact ⟨0, Nat.zero_le _, rfl, by rw [List.take_zero]; unfold sumL crc; rfl⟩
  case round =>
    obtain ⟨k, hk, rfl, rfl⟩ := hrel
    have hx := sumL_lt (s.data.toList.take k)
    by_cases hlt : k < s.size
    · have hn := hidp (show sumL (s.data.toList.take (k + 1)) = it 8 (sumL (s.data.toList.take k) ^^^ (s[k]'hlt).toNat * 16777216) from by rw [take_snocC s k hlt, sumL_snoc]; rfl)
      have hb := (s[k]'hlt).toNat_lt
      have hf := fst_xor _ _ hx hb
      have hy := xor_lt hx (show (s[k]'hlt).toNat * 16777216 < 4294967296 by omega)
      generalize hY : sumL (s.data.toList.take k) ^^^ (s[k]'hlt).toNat * 16777216 = Y at hy hf hn
      have HX := hidp hY; clear hY
      go_wp2
      go_loop [3, 18] (fun t3 t18 => ∃ j : Nat, j ≤ 8 ∧ t18 = .int .i64 j ∧ t3 = .int .u32 (it j Y : Nat)) (fun _ t18 => 8 - (intOf t18).toNat)
      case atStart => exact ⟨0, Nat.zero_le _, rfl, by unfold it; rfl⟩
      case round =>
        obtain ⟨j, hj, rfl, rfl⟩ := hrel
        have hz := it_lt j hy
        have hsn := hidp (it_snoc j Y)
        generalize hZ : it j Y = Z at hz hsn ⊢
        have HZ := hidp hZ; clear hZ
        by_cases hlt8 : j < 8
        · have hst := stp_int Z hz
          go_wp2
          refine ⟨⟨j + 1, by omega, by go_num, ?_⟩, by simp [intOf]; omega⟩
          rw [hsn.out]
        · obtain rfl : j = 8 := by omega
          go_wp2
          go_round
          case rel => exact ⟨k + 1, by omega, by go_num, by rw [hn.out, HZ.out]⟩
          case measure => simp [intOf]; omega
    · go_wp2
      go_ret
      exact ⟨by rw [List.take_of_length_le (by simp; omega)]; rfl, rfl⟩

end Go.Proofs.Ytbgooppmhgaicab
