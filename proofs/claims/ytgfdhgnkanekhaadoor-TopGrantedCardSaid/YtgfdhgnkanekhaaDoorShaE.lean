
/-
  sha.Sum.
-/
import Derived.Test.YtgfdhgnkanekhaaDoorShaD
import Derived.Lib.BufferWrite
namespace Go.Proofs.YtgfdhgnkanekhaaDoor
set_option linter.unusedVariables false
set_option linter.unusedSimpArgs false
open Go.RowKit

/-- The state behind the first i blocks; the last blocks. -/
def blk (l : List UInt8) : Nat → S8
  | 0 => init8
  | i + 1 => comp (blk l i) ((l.drop (64 * i)).take 64)
def len8 (n : Nat) : List UInt8 := [UInt8.ofNat (n * 8 / 2 ^ 56), UInt8.ofNat (n * 8 / 2 ^ 48), UInt8.ofNat (n * 8 / 2 ^ 40), UInt8.ofNat (n * 8 / 2 ^ 32), UInt8.ofNat (n * 8 / 2 ^ 24), UInt8.ofNat (n * 8 / 2 ^ 16), UInt8.ofNat (n * 8 / 2 ^ 8), UInt8.ofNat (n * 8)]
/-- The rest, the byte 80, noughts up to 64 places. -/
def ended (r : List UInt8) : List UInt8 := r ++ 128 :: List.replicate (63 - r.length) 0
/-- A block whose last eight bytes are the length. -/
def sized (b : List UInt8) (n : Nat) : List UInt8 := b.take 56 ++ len8 n
def shaS (l : List UInt8) : S8 :=
  let q := l.length / 64
  let r := l.drop (64 * q)
  if 55 < r.length then comp (comp (blk l q) (ended r)) (sized (List.replicate 64 0) l.length) else comp (blk l q) (sized (ended r) l.length)
def shaL (l : List UInt8) : List UInt8 := joinL (shaS l)
theorem blk_ok (l : List UInt8) (i : Nat) : (blk l i).ok := by cases i; exact init8_ok; exact comp_ok _ _
theorem ended_len (r : List UInt8) (h : r.length < 64) : (ended r).length = 64 := by simp [ended]; omega
theorem len8_len (n : Nat) : (len8 n).length = 8 := rfl
theorem sized_len (b : List UInt8) (n : Nat) (h : b.length = 64) : (sized b n).length = 64 := by simp [sized, len8_len, h]
theorem shaS_ok (l : List UInt8) : (shaS l).ok := by
  unfold shaS; simp only; split <;> exact comp_ok _ _
theorem len8_get (n j : Nat) (h : j < 8) : ((len8 n).getD j 0).toNat = n * 8 / 2 ^ (8 * (7 - j)) % 256 := by
  rcases (by omega : j = 0 ∨ j = 1 ∨ j = 2 ∨ j = 3 ∨ j = 4 ∨ j = 5 ∨ j = 6 ∨ j = 7) with rfl | rfl | rfl | rfl | rfl | rfl | rfl | rfl <;> simp [len8, UInt8.toNat_ofNat']
theorem blk_zero (l : List UInt8) : blk l 0 = init8 := rfl
theorem blk_succ (l : List UInt8) (i : Nat) : blk l (i + 1) = comp (blk l i) ((l.drop (64 * i)).take 64) := rfl
theorem shaS_long (l : List UInt8) (h : 55 < (l.drop (64 * (l.length / 64))).length) : shaS l = comp (comp (blk l (l.length / 64)) (ended (l.drop (64 * (l.length / 64))))) (sized (List.replicate 64 0) l.length) := if_pos h
theorem shaS_short (l : List UInt8) (h : ¬ 55 < (l.drop (64 * (l.length / 64))).length) : shaS l = comp (blk l (l.length / 64)) (sized (ended (l.drop (64 * (l.length / 64)))) l.length) := if_neg h
attribute [irreducible] blk shaS len8

/-- 'copy(dst, s)' of a text that is longer than the row: as much as goes in. -/
theorem run_copy_long {P : Program} (w : World) (dT sT ty elem : TypeId) (g dLen dCap : Nat) (s : ByteArray) (cur : Array Value) (t : TypeId)
    (hu : P.underlying dT = some (.slice elem)) (hs : (P.info? elem).map (·.size) = some 1) (hg : w.heap[g]? = some (.cells cur t (0, 0))) (hle : dLen ≤ s.size) (hfit : cur.size = dLen) :
    (Builtin.copy_ #[dT, sT] ty #[.slice (some ⟨g, 0, none⟩) dLen dCap, .string s]).run P w =
      .ok (goInt dLen) (w.setRow g (Lib.byteCells (s.data.toList.take dLen)).toArray) := by
  have hlen : (Lib.byteCells (s.data.toList.take dLen)).length = dLen := by rw [Lib.byteCells_length]; simp; omega
  have hst := run_storeCells_at P g 0 t (Lib.byteCells (s.data.toList.take dLen)) 0 cur w hg (by rw [hlen]; omega) (Lib.byteCells_one _)
  have hmin : Nat.min s.size dLen = dLen := Nat.min_eq_right hle
  have htk : List.take dLen (List.map (fun b : UInt8 => Value.int IntKind.u8 (b.toNat : Int)) s.data.toList) = Lib.byteCells (s.data.toList.take dLen) := by
    unfold Lib.byteCells; rw [List.map_take]
  rw [hlen] at hst
  have hdr : cur.toList.drop (0 + dLen) = [] := by apply List.drop_eq_nil_of_le; simp; omega
  simp only [Nat.add_zero, hdr, List.append_nil, List.take_zero, List.nil_append] at hst
  cases hq : P.info? elem with
  | none => simp [hq] at hs
  | some i =>
    simp [Builtin.copy_, run_underlying hu, Builtin.lenOf, Builtin.firstCells, sizeOf, typeInfo, hq, hmin]
    rw [htk, hst]
    simp [Result.andThen]

def z32 : List UInt8 := List.replicate 32 0
def z64 : List UInt8 := List.replicate 64 0
theorem z32_eq : z32 = List.replicate 32 0 := rfl
theorem z32_len : z32.length = 32 := rfl
theorem z64_eq : z64 = List.replicate 64 0 := rfl
theorem z64_len : z64.length = 64 := rfl
theorem z64_size : (Tryd.prog.info? 118).map (·.size) = some (u8s z64).toArray.size := by kernel_rfl
theorem u8s_one (l : List UInt8) : (u8s l).toArray.all (·.oneCell') = true := by simp [u8s, Value.oneCell']
theorem copied_row (r : List UInt8) (n : Nat) (hn : n = r.length) (h : n ≤ 64) : (((u8s z64).toArray.toList.take 0 ++ Lib.byteCells r ++ (u8s z64).toArray.toList.drop (0 + n)) : List Value) = u8s (r ++ List.replicate (64 - r.length) 0) := by
  subst hn
  have e : (u8s (List.replicate 64 0)).drop r.length = u8s (List.replicate (64 - r.length) 0) := by unfold u8s; rw [← List.map_drop, List.drop_replicate]
  show ((u8s z64).take 0 ++ u8s r) ++ (u8s z64).drop (0 + r.length) = u8s (r ++ _)
  rw [Nat.zero_add, z64_eq, e, List.take_zero, List.nil_append]
  unfold u8s
  rw [List.map_append]
def strSize : Value → Nat
  | .string s => s.size
  | _ => 0
theorem slice64all (bb : Nat) (W : World) : (Instr.sliceAt 118 (.pointer (some ⟨bb, 0, none⟩)) none none none).run Tryd.prog W = .ok (.slice (some ⟨bb, 0, none⟩) 64 64) W := by
  have hal : Tryd.prog.arrayLen 118 = 64 := by kernel_rfl
  have hel : Tryd.prog.elem 118 = 5 := by kernel_rfl
  have hu : Tryd.prog.underlying 118 = some (.array (Tryd.prog.arrayLen 118) (Tryd.prog.elem 118)) := by kernel_rfl
  have hs := run_sliceAt_array_all (P := Tryd.prog) W 118 ⟨bb, 0, none⟩ hu
  obtain ⟨i0, hi, hz0, hz1, hz2⟩ := info_parts info5
  have hsz : (sizeOf 5).run Tryd.prog W = .ok 1 W := by simp [sizeOf, typeInfo, hi, hz1]
  rw [hs, hal, hel, hsz]
  simp only [Result.andThen, slicedAt]
  rw [if_neg (by omega)]
  simp [Addr.add]
theorem below_grown {B : Nat} {a w w' : World} {b : Nat} (h : Below B a w) (hg : w.grownBy w' (some b)) (hB : B ≤ w.heap.size) (hb : B ≤ b) : Below B a w' := h.grown hg hB (fun k e => by cases e; exact hb)
theorem ended_set (r : List UInt8) (h : r.length < 64) : (r ++ List.replicate (64 - r.length) 0).set r.length 128 = ended r := by
  unfold ended
  rw [List.set_append_right _ _ (Nat.le_refl _), Nat.sub_self, show 64 - r.length = (63 - r.length) + 1 from by omega, List.replicate_succ, List.set_cons_zero]
def sizedAt (b : List UInt8) (n i : Nat) : List UInt8 := b.take (64 - i) ++ (len8 n).drop (8 - i)
theorem sizedAt_zero (b : List UInt8) (n : Nat) (h : b.length = 64) : sizedAt b n 0 = b := by
  unfold sizedAt; rw [List.take_of_length_le (by omega), List.drop_eq_nil_of_le (by rw [len8_len]; omega)]; simp
theorem sizedAt_eight (b : List UInt8) (n : Nat) : sizedAt b n 8 = sized b n := by unfold sizedAt sized; simp
theorem sizedAt_len (b : List UInt8) (n i : Nat) (h : b.length = 64) (hi : i ≤ 8) : (sizedAt b n i).length = 64 := by unfold sizedAt; simp [len8_len, h]; omega
theorem sizedAt_set (b : List UInt8) (n i : Nat) (h : b.length = 64) (hi : i < 8) : (sizedAt b n i).set (63 - i) ((len8 n).getD (7 - i) 0) = sizedAt b n (i + 1) := by
  apply List.ext_getElem?
  intro k
  have hL := sizedAt_len b n i h (by omega)
  have hl8 := len8_len n
  rw [List.getElem?_set]
  by_cases hk : 63 - i = k
  · rw [if_pos hk, if_pos (by omega)]
    subst hk
    unfold sizedAt
    rw [List.getElem?_append_right (by simp; omega), List.getElem?_drop, List.length_take, h, show 8 - (i + 1) + (63 - i - min (64 - (i + 1)) 64) = 7 - i from by omega, List.getD_eq_getElem?_getD, List.getElem?_eq_getElem (by omega)]
    rfl
  · rw [if_neg hk]
    unfold sizedAt
    by_cases hlt : k < 63 - i
    · rw [List.getElem?_append_left (by simp; omega), List.getElem?_append_left (by simp; omega), List.getElem?_take, List.getElem?_take, if_pos (by omega), if_pos (by omega)]
    · rw [List.getElem?_append_right (by simp; omega), List.getElem?_append_right (by simp; omega), List.getElem?_drop, List.getElem?_drop, List.length_take, List.length_take, h]
      congr 1
      omega
theorem drop_small {l : List UInt8} {i : Nat} {r : List UInt8} (h : r = l.drop (64 * i)) (hi : 64 * i ≤ l.length) (hr : r.length < 64) : i = l.length / 64 := by
  have := congrArg List.length h; simp at this; omega

end Go.Proofs.YtgfdhgnkanekhaaDoor
