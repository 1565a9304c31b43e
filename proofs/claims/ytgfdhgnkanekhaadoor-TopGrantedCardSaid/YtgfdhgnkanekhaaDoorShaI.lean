
/-
  sha.Hex.
-/
import Derived.Test.YtgfdhgnkanekhaaDoorShaH
namespace Go.Proofs.YtgfdhgnkanekhaaDoor
set_option linter.unusedVariables false
set_option linter.unusedSimpArgs false
open Go.RowKit

def hexD : List UInt8 := [48, 49, 50, 51, 52, 53, 54, 55, 56, 57, 97, 98, 99, 100, 101, 102]
def hexc (n : Nat) : UInt8 := hexD.getD n 0
def hexL (l : List UInt8) : List UInt8 := l.flatMap fun b => [hexc (b.toNat / 16), hexc (b.toNat % 16)]
theorem hexlit (k : Nat) (h : k < (ByteArray.mk #[48, 49, 50, 51, 52, 53, 54, 55, 56, 57, 97, 98, 99, 100, 101, 102]).size) : (ByteArray.mk #[48, 49, 50, 51, 52, 53, 54, 55, 56, 57, 97, 98, 99, 100, 101, 102])[k]'h = hexc k := by
  have h16 : k < 16 := h
  rcases (by omega : k = 0 ∨ k = 1 ∨ k = 2 ∨ k = 3 ∨ k = 4 ∨ k = 5 ∨ k = 6 ∨ k = 7 ∨ k = 8 ∨ k = 9 ∨ k = 10 ∨ k = 11 ∨ k = 12 ∨ k = 13 ∨ k = 14 ∨ k = 15) with rfl | rfl | rfl | rfl | rfl | rfl | rfl | rfl | rfl | rfl | rfl | rfl | rfl | rfl | rfl | rfl <;> rfl
/-- 'h[i]' of a checksum by value. -/
theorem index_hash (xs : Array Value) (i : Nat) (z : Int) (hi : i < 32) (hx : xs[i]? = some (.int .u8 z)) (W : World) : (Instr.index 26 (.agg xs) (.int .i64 (i : Int))).run Tryd.prog W = .ok (.int .u8 z) W := by
  obtain ⟨i0, hi0, hz0, hz1, hz2⟩ := info_parts info5
  have hu : Tryd.prog.underlying 26 = some (.array 32 5) := by kernel_rfl
  have h1 : (0 : Int) ≤ (i : Int) ∧ (i : Int) < ((32 : Nat) : Int) := by omega
  simp [Instr.index, run_underlying hu, asIntOf, part, sizeOf, typeInfo, hi0, hz1, hz2, hx, hi, go_sem]
/-- The first i bytes' digits, noughts behind. -/
def hexP (l : List UInt8) (i : Nat) : List UInt8 := hexL (l.take i) ++ List.replicate (64 - 2 * i) 0
theorem hexL_len (l : List UInt8) : (hexL l).length = 2 * l.length := by
  induction l with
  | nil => rfl
  | cons a l ih => unfold hexL at *; simp only [List.flatMap_cons, List.length_append, ih, List.length_cons, List.length_nil]; omega
theorem hexP_len (l : List UInt8) (i : Nat) (hl : l.length = 32) (hi : i ≤ 32) : (hexP l i).length = 64 := by
  unfold hexP; rw [List.length_append, hexL_len, List.length_replicate, List.length_take, hl]; omega
theorem hexL_app (a b : List UInt8) : hexL (a ++ b) = hexL a ++ hexL b := by unfold hexL; rw [List.flatMap_append]
theorem hexP_set (l : List UInt8) (i : Nat) (b : UInt8) (hl : l.length = 32) (hi : i < 32) (hb : l[i]? = some b) :
    ((hexP l i).set (2 * i) (hexc (b.toNat / 16))).set (2 * i + 1) (hexc (b.toNat % 16)) = hexP l (i + 1) := by
  have h1 : (hexL (l.take i)).length = 2 * i := by rw [hexL_len, List.length_take, hl]; omega
  unfold hexP
  rw [List.take_add_one, hb, hexL_app, show 64 - 2 * i = (62 - 2 * i) + 1 + 1 from by omega, show 64 - 2 * (i + 1) = 62 - 2 * i from by omega, List.replicate_succ, List.replicate_succ]
  rw [List.set_append_right _ _ (by omega), h1, Nat.sub_self, List.set_cons_zero, List.set_append_right _ _ (by omega), h1, show 2 * i + 1 - 2 * i = 1 from by omega, List.set_cons_succ, List.set_cons_zero, List.append_assoc]
  rfl
theorem hexP_all (l : List UInt8) (hl : l.length = 32) : hexP l 32 = hexL l := by unfold hexP; rw [List.take_of_length_le (by omega)]; simp
end Go.Proofs.YtgfdhgnkanekhaaDoor
