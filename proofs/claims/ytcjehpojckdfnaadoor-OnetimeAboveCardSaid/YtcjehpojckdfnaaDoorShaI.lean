/-
  sha.Hex.
-/
import Derived.Test.YtcjehpojckdfnaaDoorShaH
namespace Go.Proofs.YtcjehpojckdfnaaDoor
set_option linter.unusedVariables false
set_option linter.unusedSimpArgs false
open Go.RowKit

def hexD : List UInt8 := [48, 49, 50, 51, 52, 53, 54, 55, 56, 57, 97, 98, 99, 100, 101, 102]
def hexc (n : Nat) : UInt8 := hexD.getD n 0
def hexL (l : List UInt8) : List UInt8 := l.flatMap fun b => [hexc (b.toNat / 16), hexc (b.toNat % 16)]
theorem hexlit (k : Nat) (h : k < (ByteArray.mk #[48, 49, 50, 51, 52, 53, 54, 55, 56, 57, 97, 98, 99, 100, 101, 102]).size) : (ByteArray.mk #[48, 49, 50, 51, 52, 53, 54, 55, 56, 57, 97, 98, 99, 100, 101, 102])[k]'h = hexc k := by
  have h16 : k < 16 := h
  rcases (by omega : k = 0 ∨ k = 1 ∨ k = 2 ∨ k = 3 ∨ k = 4 ∨ k = 5 ∨ k = 6 ∨ k = 7 ∨ k = 8 ∨ k = 9 ∨ k = 10 ∨ k = 11 ∨ k = 12 ∨ k = 13 ∨ k = 14 ∨ k = 15) with rfl | rfl | rfl | rfl | rfl | rfl | rfl | rfl | rfl | rfl | rfl | rfl | rfl | rfl | rfl | rfl <;> rfl
/-- 'h[i]' of a checksum by value. -/
theorem index_hash (xs : Array Value) (i : Nat) (z : Int) (hi : i < 32) (hx : xs[i]? = some (.int .u8 z)) (W : World) : (Instr.index 24 (.agg xs) (.int .i64 (i : Int))).run Tryd.prog W = .ok (.int .u8 z) W := by
  obtain ⟨i0, hi0, hz0, hz1, hz2⟩ := info_parts info5
  have hu : Tryd.prog.underlying 24 = some (.array 32 5) := by kernel_rfl
  have h1 : (0 : Int) ≤ (i : Int) ∧ (i : Int) < ((32 : Nat) : Int) := by omega
  simp [Instr.index, run_underlying hu, asIntOf, part, sizeOf, typeInfo, hi0, hz1, hz2, hx, hi, go_sem]
/-- The first i bytes' digits, noughts behind. -/
def hexP (l : List UInt8) (i : Nat) : List UInt8 := hexL (l.take i) ++ List.replicate (64 - 2 * i) 0
theorem hexL_len (l : List UInt8) : (hexL l).length = 2 * l.length := by
  induction l with
  | nil => rfl
  | cons a l ih => unfold hexL at *; simp only [List.flatMap_cons, List.length_append, ih, List.length_cons, List.length_nil]; omega
theorem hexP_len (l : List UInt8) (i : Nat) (hl : l.length = 32) (hi : i ≤ 32) : (hexP l i).length = 64 := by
  unfold hexP; rw [List.length_append, hexL_len, List.length_replicate, List.length_take, hl]; omega
theorem hexL_app (a b : List UInt8) : hexL (a ++ b) = hexL a ++ hexL b := by unfold hexL; rw [List.flatMap_append]
theorem hexP_set (l : List UInt8) (i : Nat) (b : UInt8) (hl : l.length = 32) (hi : i < 32) (hb : l[i]? = some b) :
    ((hexP l i).set (2 * i) (hexc (b.toNat / 16))).set (2 * i + 1) (hexc (b.toNat % 16)) = hexP l (i + 1) := by
  have h1 : (hexL (l.take i)).length = 2 * i := by rw [hexL_len, List.length_take, hl]; omega
  unfold hexP
  rw [List.take_add_one, hb, hexL_app, show 64 - 2 * i = (62 - 2 * i) + 1 + 1 from by omega, show 64 - 2 * (i + 1) = 62 - 2 * i from by omega, List.replicate_succ, List.replicate_succ]
  rw [List.set_append_right _ _ (by omega), h1, Nat.sub_self, List.set_cons_zero, List.set_append_right _ _ (by omega), h1, show 2 * i + 1 - 2 * i = 1 from by omega, List.set_cons_succ, List.set_cons_zero, List.append_assoc]
  rfl
theorem hexP_all (l : List UInt8) (hl : l.length = 32) : hexP l 32 = hexL l := by unfold hexP; rw [List.take_of_length_le (by omega)]; simp
set_option maxRecDepth 100000 in
set_option maxHeartbeats 8000000 in
theorem hex_any (w : World) (l : List UInt8) (hl : l.length = 32) :
    Calls Tryd.prog 24 #[.agg (u8s l).toArray] w fun e w' => e = .returned (.string (mkS (hexL l))) ∧ Below w.heap.size w w' := by
  obtain ⟨xs, hxs⟩ : ∃ xs, (u8s l).toArray = xs := ⟨_, rfl⟩
  have hl32 := hidp (show xs.size = 32 from by rw [← hxs]; simp [u8s, hl])
  have HI := hidp (show (Tryd.prog.info? 24).map (·.size) = some xs.size from by
    rw [show (Tryd.prog.info? 24).map (·.size) = some 32 from by kernel_rfl, hl32.out])
  have hld : ∀ O, ((w.alloc (.cells xs 24)).alloc O).heap[w.heap.size]? = some (.cells xs 24 (0, 0)) := by
    intro O
    rw [← hxs]
    exact (Arr.new w 24 (u8s l)).alloc O
  rw [hxs]
  have HXS := hidp hxs; have HLD := hidp hld
  clear hxs hld
  go_enter Tryd.func24, Tryd.ntmps24
  go_wp2_with (refine wpList_load_row rfl 24 (.tmp 1) rfl w.heap.size rfl 24 xs (0, 0) _ (HLD.out _) Tryd.underlying24 rfl HI.out ?_)
  conv in (Obj.cells _ 62) => change Obj.cells (u8s z64).toArray 62
  have hb0 : Below w.heap.size w ((w.alloc (.cells xs 24)).alloc (.cells (u8s z64).toArray 62)) := ((Below.refl _ w).alloc (Nat.le_refl _) _).alloc (by simp) _
  have ha0 : Arr ((w.alloc (.cells xs 24)).alloc (.cells (u8s z64).toArray 62)) (w.heap.size + 1) 62 (u8s z64) := by
    have h := Arr.new (w.alloc (.cells xs 24)) 62 (u8s z64)
    rw [heap_size_alloc] at h; exact h
  have h0 : hexP l 0 = z64 := rfl
  obtain ⟨W0, hW0⟩ : ∃ W, (w.alloc (.cells xs 24)).alloc (.cells (u8s z64).toArray 62) = W := ⟨_, rfl⟩
  rw [hW0] at hb0 ha0 ⊢
  have HB0 := hidp hb0; have HA0 := hidp ha0; have HW0 := hidp hW0; have H0 := hidp h0
  clear hb0 ha0 hW0 h0
  go_loopw [7] (fun t7 wr => ∃ i : Nat, t7 = .int .i64 (i : Int) ∧ i ≤ 32 ∧ Arr wr (w.heap.size + 1) 62 (u8s (hexP l i)) ∧ Below w.heap.size w wr) (fun t7 _ => 32 - (intOf t7).toNat)
  case atStart => exact ⟨0, rfl, by omega, by rw [H0.out]; exact HA0.out, HB0.out⟩
  case round =>
    obtain ⟨i, rfl, hi32, hA, hbw⟩ := hrel
    have HA := hidp hA; have HBW := hidp hbw
    clear hA hbw
    by_cases hi : i < 32
    · obtain ⟨b, hb⟩ : ∃ b : UInt8, l[i]? = some b := ⟨l[i]'(by omega), List.getElem?_eq_getElem _⟩
      have hxi : xs[i]? = some (.int .u8 (b.toNat : Int)) := by rw [← HXS.out]; simp [u8s, hb]
      have hbl := b.toNat_lt
      have hix := index_hash xs i _ hi hxi wr
      clear hxi
      have hc1 := HA.out.cell (2 * i) (by rw [u8s_length, hexP_len _ _ hl hi32]; omega)
      have hf1 := HA.out.frozen (2 * i)
      have HB := hidp hb
      clear hb
      have hc2 := HA.out.cell (2 * i + 1) (by rw [u8s_length, hexP_len _ _ hl hi32]; omega)
      have hf2 := HA.out.frozen (2 * i + 1)
      go_wp2_with fail
      rw [hexlit, hexlit]
      have hset := (HA.out.set (2 * i) (.int .u8 ((hexc (b.toNat / 16)).toNat : Int))).set (2 * i + 1) (.int .u8 ((hexc (b.toNat % 16)).toNat : Int))
      rw [u8s_set, u8s_set, hexP_set l i b hl hi HB.out] at hset
      exact ⟨⟨i + 1, by simp, by omega, hset, (HBW.out.setCell (by simp) _).setCell (by simp) _⟩, by simp [intOf]; omega⟩
    · have hie : i = 32 := by omega
      subst hie
      have hA := HA.out
      rw [hexP_all l hl] at hA
      have hl64 : (hexL l).length = 64 := by rw [hexL_len, hl]
      have hstr : (convert 59 9 (.slice (some ⟨w.heap.size + 1, 0, none⟩) 64 64)).run Tryd.prog wr = .ok (.string (mkS (hexL l))) wr := by
        have h := run_str_at (P := Tryd.prog) (src := 59) (e := 5) (dst := 9) Tryd.underlying59 Tryd.underlying5 Tryd.underlying9 (w.heap.size + 1) 0 64 (hexL l) (w := wr) (by
          intro i hi
          rw [hl64] at hi
          rw [show (⟨w.heap.size + 1, 0, none⟩ : Addr).off + i = i from Nat.zero_add _]
          rw [hA.cell i (by rw [u8s_length, hl64]; omega)]
          simp [u8s, List.getD_eq_getElem?_getD, hl64, hi])
        rw [hl64] at h
        exact h
      clear hA
      go_wp2_with fail
      go_ret
      exact ⟨rfl, HBW.out⟩
end Go.Proofs.YtcjehpojckdfnaaDoor
