
/-
  palaverref02.Sum: plain mathematics.
-/
import Derived.Test.YtgfdhgnkanekhaaDoorShaP
namespace Go.Proofs.YtgfdhgnkanekhaaDoor
set_option linter.unusedVariables false
set_option linter.unusedSimpArgs false
open Go.RowKit

theorem fillL_len (l : List UInt8) : (fillL l).length = 64 * (l.length / 64 + if 55 < l.length % 64 then 2 else 1) := by
  unfold fillL padn
  simp only [List.length_append, List.length_cons, List.length_replicate, len8_len]
  split <;> omega
theorem blk_fill (l : List UInt8) (i : Nat) (h : i ≤ l.length / 64) : blk (fillL l) i = blk l i := by
  induction i with
  | zero => rw [blk_zero, blk_zero]
  | succ i ih =>
    rw [blk_succ, blk_succ, ih (by omega)]
    congr 1
    unfold fillL
    rw [List.drop_append_of_le_length (by omega), List.take_append_of_le_length (by simp; omega)]
theorem sha_fill (l : List UInt8) : blk (fillL l) ((fillL l).length / 64) = shaS l := by
  have hl := fillL_len l
  have hd : (l.drop (64 * (l.length / 64))).length = l.length % 64 := by simp; omega
  have hL8 := len8_len l.length
  have hfd : (fillL l).drop (64 * (l.length / 64)) = l.drop (64 * (l.length / 64)) ++ 128 :: (List.replicate (padn l.length) 0 ++ len8 l.length) := by
    unfold fillL; rw [List.drop_append_of_le_length (by omega)]
  by_cases h : 55 < l.length % 64
  · rw [shaS_long l (by rw [hd]; exact h), hl, if_pos h, Nat.mul_div_cancel_left _ (by omega)]
    show blk _ (l.length / 64 + 1 + 1) = _
    rw [blk_succ, blk_succ, blk_fill l _ (Nat.le_refl _)]
    have hp : padn l.length = (63 - l.length % 64) + 56 := by unfold padn; omega
    congr 1
    · congr 1
      rw [hfd]
      unfold ended
      rw [hd]
      generalize l.drop (64 * (l.length / 64)) = r at hd ⊢
      rw [hp, ← List.replicate_append_replicate]
      rw [show r ++ 128 :: (List.replicate (63 - l.length % 64) 0 ++ List.replicate 56 0 ++ len8 l.length) = (r ++ 128 :: List.replicate (63 - l.length % 64) 0) ++ (List.replicate 56 0 ++ len8 l.length) from by simp]
      rw [List.take_append_of_le_length (by simp; omega), List.take_of_length_le (by simp; omega)]
    · rw [show 64 * (l.length / 64 + 1) = 64 * (l.length / 64) + 64 from by omega, ← List.drop_drop, hfd]
      generalize l.drop (64 * (l.length / 64)) = r at hd ⊢
      rw [hp, ← List.replicate_append_replicate]
      rw [show r ++ 128 :: (List.replicate (63 - l.length % 64) 0 ++ List.replicate 56 0 ++ len8 l.length) = (r ++ 128 :: List.replicate (63 - l.length % 64) 0) ++ (List.replicate 56 0 ++ len8 l.length) from by simp]
      rw [List.drop_append_of_le_length (by simp; omega), List.drop_eq_nil_of_le (by simp; omega), List.nil_append, List.take_of_length_le (by simp [hL8])]
      unfold sized
      rfl
  · rw [shaS_short l (by rw [hd]; exact h), hl, if_neg h, Nat.mul_div_cancel_left _ (by omega), blk_succ, blk_fill l _ (Nat.le_refl _)]
    have hp : padn l.length = 55 - l.length % 64 := by unfold padn; omega
    congr 1
    rw [hfd]
    unfold ended sized
    rw [hd]
    generalize l.drop (64 * (l.length / 64)) = r at hd ⊢
    rw [hp, List.take_of_length_le (by simp [hL8]; omega)]
    rw [show 63 - l.length % 64 = (55 - l.length % 64) + 8 from by omega, ← List.replicate_append_replicate]
    rw [show r ++ 128 :: (List.replicate (55 - l.length % 64) 0 ++ List.replicate 8 0) = (r ++ 128 :: List.replicate (55 - l.length % 64) 0) ++ List.replicate 8 0 from by simp]
    rw [List.take_append_of_le_length (by simp; omega), List.take_of_length_le (by simp; omega)]
    simp
theorem t1_eq (e f g h k w : Nat) (a b c d : Nat) : ((h : Int) + ((bs1 e : Nat) : Int) + ((chf e f g : Nat) : Int) + (k : Int) + (w : Int)) % 4294967296 = ((t1f ⟨a, b, c, d, e, f, g, h⟩ k w : Nat) : Int) := by
  simp only [t1f, add32]; omega
theorem t2_eq (a b c d e f g h : Nat) : (((bs0 a : Nat) : Int) + ((maj a b c : Nat) : Int)) % 4294967296 = ((t2f ⟨a, b, c, d, e, f, g, h⟩ : Nat) : Int) := by
  simp only [t2f, add32]; omega
/-- What the loops leave alone. -/
def RS (w : World) (g kb : Nat) (F : List UInt8) (v : S8) (wr : World) : Prop :=
  Arr wr (w.heap.size + 1) 117 (u32s v.list) ∧ Arr wr kb 124 (u32s kk) ∧ Arr wr w.heap.size 26 (u8s z32) ∧ AtB wr ⟨g, 0, none⟩ F ∧ g < wr.heap.size ∧ w.heap.size + 1 < g ∧ w.heap.size + 1 < kb ∧ Below w.heap.size w wr
theorem RS.below {w : World} {g kb : Nat} {F : List UInt8} {v : S8} {wr wr' : World} (h : RS w g kb F v wr) (hb : Below wr.heap.size wr wr') : RS w g kb F v wr' := by
  obtain ⟨h1, h2, h3, h4, h5, h6, h7, h8⟩ := h
  exact ⟨h1.below hb h1.lt, h2.below hb h2.lt, h3.below hb h3.lt, h4.below hb h5, Nat.lt_of_lt_of_le h5 hb.size, h6, h7, h8.trans (hb.mono h8.size)⟩
theorem RS.drewN {w : World} {g kb : Nat} {F : List UInt8} {v : S8} {wr : World} (h : RS w g kb F v wr) (n : Nat) : RS w g kb F v (wr.drewN n) := h.below (below_drewN (Below.refl _ _) n)
theorem RS.row {w : World} {g kb : Nat} {F : List UInt8} {v : S8} {wr : World} (h : RS w g kb F v wr) {x t : Nat} {xs : List Value} (hx : Arr wr x t xs) (h0 : x ≠ w.heap.size) (h1 : x ≠ w.heap.size + 1) (h2 : x ≠ kb) (h3 : x ≠ g) (hw : w.heap.size ≤ x) (ys : Array Value) : RS w g kb F v (wr.setRow x ys) := by
  obtain ⟨a1, a2, a3, a4, a5, a6, a7, a8⟩ := h
  refine ⟨a1.row_other x (Ne.symm h1) ys, a2.row_other x (Ne.symm h2) ys, a3.row_other x (Ne.symm h0) ys, fun i hi => ?_, by simpa using a5, a6, a7, below_setRow a8 hw ys⟩
  rw [← a4 i hi]
  exact World.cell?_of_block (setRow_other wr x g ys (Ne.symm h3))
/-- A step of the rounds' own row. -/
theorem stp_row (a b c d e f g h k w : Nat) : #[Value.int .u32 ((((t1f ⟨a, b, c, d, e, f, g, h⟩ k w : Nat) : Int) + ((t2f ⟨a, b, c, d, e, f, g, h⟩ : Nat) : Int)) % 4294967296), .int .u32 (a : Int), .int .u32 (b : Int), .int .u32 (c : Int),
    .int .u32 (((d : Int) + ((t1f ⟨a, b, c, d, e, f, g, h⟩ k w : Nat) : Int)) % 4294967296), .int .u32 (e : Int), .int .u32 (f : Int), .int .u32 (g : Int)] = (u32s (stp ⟨a, b, c, d, e, f, g, h⟩ k w).list).toArray := by
  rw [mod_add32, mod_add32]; rfl
end Go.Proofs.YtgfdhgnkanekhaaDoor
