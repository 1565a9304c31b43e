/-
  Joined: ShaI ShaJ ShaK ShaL ShaN ShaO ShaP ShaQ ShaQ2 ShaR ShaS ShaT ShaV ShaW ShaU ShaX.
-/
import Derived.Test.YtokakgjcegmabaaGreatDoorUD
import Derived.Lib.ConvBytes
import Derived.ArgAppend
import Derived.Deep.RegionHeld3
namespace Go.Proofs.YtokakgjcegmabaaGreatDoor
set_option linter.unusedVariables false
set_option linter.unusedSimpArgs false
open Go.RowKit
end Go.Proofs.YtokakgjcegmabaaGreatDoor

namespace Go.Proofs.YtokakgjcegmabaaGreatDoor
set_option linter.unusedVariables false
set_option linter.unusedSimpArgs false
open Go.RowKit

/-- The bytes that 64 digits are. -/
def unL (l : List UInt8) : List UInt8 := (List.range 32).map fun i => UInt8.ofNat (16 * digH (l.getD (2 * i) 0) + digH (l.getD (2 * i + 1) 0))
/-- The first i bytes, noughts behind. -/
def unP (l : List UInt8) (i : Nat) : List UInt8 := (unL l).take i ++ List.replicate (32 - i) 0
theorem hash_size {l : List UInt8} (h : l.length = 32) : (Tryz.prog.info? 58).map (·.size) = some (u8s l).toArray.size := by
  rw [show (Tryz.prog.info? 58).map (·.size) = some 32 from by kernel_rfl]; simp [u8s_length, h]
/-- Behind i rounds. -/
def UH (w : World) (l : List UInt8) (t14 : Value) (wr : World) : Prop :=
  ∃ i : Nat, t14 = .int .i64 (i : Int) ∧ i ≤ 32 ∧ Arr wr (w.heap.size + 1) 58 (u8s (unP l i)) ∧ Arr wr w.heap.size 58 (u8s z32) ∧ (∀ j, j < 2 * i → digH (l.getD j 0) < 16) ∧ Below w.heap.size w wr
end Go.Proofs.YtokakgjcegmabaaGreatDoor

namespace Go.Proofs.YtokakgjcegmabaaGreatDoor
set_option linter.unusedVariables false
set_option linter.unusedSimpArgs false
open Go.RowKit
end Go.Proofs.YtokakgjcegmabaaGreatDoor

namespace Go.Proofs.YtokakgjcegmabaaGreatDoor
set_option linter.unusedVariables false
set_option linter.unusedSimpArgs false
open Go.RowKit

end Go.Proofs.YtokakgjcegmabaaGreatDoor

namespace Go.Proofs.YtokakgjcegmabaaGreatDoor
set_option linter.unusedVariables false
set_option linter.unusedSimpArgs false
open Go.RowKit

end Go.Proofs.YtokakgjcegmabaaGreatDoor

namespace Go.Proofs.YtokakgjcegmabaaGreatDoor
set_option linter.unusedVariables false
set_option linter.unusedSimpArgs false
open Go.RowKit
end Go.Proofs.YtokakgjcegmabaaGreatDoor

namespace Go.Proofs.YtokakgjcegmabaaGreatDoor
set_option linter.unusedVariables false
set_option linter.unusedSimpArgs false
open Go.RowKit

/-- A row of bytes of the call's own, whose places are not frozen: made by append, or by a conversion. -/
def OwnB (w : World) (B e : Nat) (v : Value) (l : List UInt8) : Prop :=
  ∃ g cap cur fz, v = .slice (some ⟨g, 0, none⟩) l.length cap ∧ B ≤ g ∧ w.heap[g]? = some (.cells cur e fz) ∧ (fz = (0, 0) ∨ cap ≤ fz.1) ∧ l.length ≤ cap ∧ cap ≤ maxLen ∧ cur.size = cap ∧ cur.toList.take l.length = bv l
end Go.Proofs.YtokakgjcegmabaaGreatDoor

namespace Go.Proofs.YtokakgjcegmabaaGreatDoor
set_option linter.unusedVariables false
set_option linter.unusedSimpArgs false
open Go.RowKit

/-- What the loops leave alone. -/
def RS (w : World) (g kb : Nat) (F : List UInt8) (v : S8) (wr : World) : Prop :=
  Arr wr (w.heap.size + 1) 234 (u32s v.list) ∧ Arr wr kb 247 (u32s kk) ∧ Arr wr w.heap.size 58 (u8s z32) ∧ AtB wr ⟨g, 0, none⟩ F ∧ g < wr.heap.size ∧ w.heap.size + 1 < g ∧ w.heap.size + 1 < kb ∧ Below w.heap.size w wr
end Go.Proofs.YtokakgjcegmabaaGreatDoor

namespace Go.Proofs.YtokakgjcegmabaaGreatDoor
set_option linter.unusedVariables false
set_option linter.unusedSimpArgs false
open Go.RowKit
end Go.Proofs.YtokakgjcegmabaaGreatDoor

namespace Go.Proofs.YtokakgjcegmabaaGreatDoor
set_option linter.unusedVariables false
set_option linter.unusedSimpArgs false
open Go.RowKit

/-- As RS, whatever stands in the row of the values. -/
def RT (w : World) (g kb : Nat) (F : List UInt8) (vs : List Nat) (wr : World) : Prop :=
  Arr wr (w.heap.size + 1) 234 (u32s vs) ∧ Arr wr kb 247 (u32s kk) ∧ Arr wr w.heap.size 58 (u8s z32) ∧ AtB wr ⟨g, 0, none⟩ F ∧ g < wr.heap.size ∧ w.heap.size + 1 < g ∧ w.heap.size + 1 < kb ∧ Below w.heap.size w wr
end Go.Proofs.YtokakgjcegmabaaGreatDoor

namespace Go.Proofs.YtokakgjcegmabaaGreatDoor
set_option linter.unusedVariables false
set_option linter.unusedSimpArgs false
open Go.RowKit

/-- The words, reckoned one behind the other. -/
def schedF (l : List UInt8) : Nat → List Nat → List Nat
  | 0, ws => ws
  | n + 1, ws => schedF l n (ws ++ [if ws.length < 16 then firstW l ws.length else nextW ws ws.length])
theorem schedF_eq (l : List UInt8) (n t : Nat) : schedF l n (sched l t) = sched l (t + n) := by
  induction n generalizing t with
  | zero => rfl
  | succ n ih =>
    have h : sched l (t + 1) = sched l t ++ [if t < 16 then firstW l t else nextW (sched l t) t] := by
      by_cases h : t < 16
      · rw [if_pos h, sched_first l t h]
      · rw [if_neg h, sched_next l t h]
    rw [schedF, sched_len, ← h, ih, show t + 1 + n = t + (n + 1) from by omega]
def roundsF : List Nat → List Nat → S8 → S8
  | k :: ks, w :: ws, s => roundsF ks ws (stp s k w)
  | _, _, s => s
theorem roundsF_eq (ws : List Nat) (hw : ws.length = 64) (n t : Nat) (h : t + n = 64) (s : S8) : roundsF (kk.drop t) (ws.drop t) (rounds8 ws t s) = rounds8 ws 64 s := by
  induction n generalizing t with
  | zero =>
    obtain rfl : t = 64 := by omega
    rw [List.drop_eq_nil_of_le (show kk.length ≤ 64 by rw [show kk.length = 64 from by kernel_rfl]; omega)]
    rfl
  | succ n ih =>
    have hk : kk.length = 64 := by kernel_rfl
    rw [List.drop_eq_getElem_cons (show t < kk.length by omega), List.drop_eq_getElem_cons (show t < ws.length by omega), roundsF]
    have e : stp (rounds8 ws t s) kk[t] ws[t] = rounds8 ws (t + 1) s := by
      rw [rounds8_succ]
      congr 1 <;> simp [List.getD_eq_getElem?_getD, hk, hw, show t < 64 from by omega]
    rw [e, ih (t + 1) (by omega)]
def compF (v : S8) (l : List UInt8) : S8 :=
  let r := roundsF kk (schedF l 64 []) v
  ⟨add32 v.a r.a, add32 v.b r.b, add32 v.c r.c, add32 v.d r.d, add32 v.e r.e, add32 v.f r.f, add32 v.g r.g, add32 v.h r.h⟩
theorem compF_eq (v : S8) (l : List UInt8) : comp v l = compF v l := by
  have h1 : schedF l 64 [] = sched l 64 := by have := schedF_eq l 64 0; rw [sched_zero] at this; simpa using this
  have h2 := roundsF_eq (sched l 64) (sched_len l 64) 64 0 rfl v
  rw [rounds8_zero] at h2
  simp only [List.drop_zero] at h2
  unfold comp compF
  rw [h1, h2]
end Go.Proofs.YtokakgjcegmabaaGreatDoor

namespace Go.Proofs.YtokakgjcegmabaaGreatDoor
set_option linter.unusedVariables false
set_option linter.unusedSimpArgs false
open Go.RowKit
end Go.Proofs.YtokakgjcegmabaaGreatDoor

namespace Go.Proofs.YtokakgjcegmabaaGreatDoor
set_option linter.unusedVariables false
set_option linter.unusedSimpArgs false
open Go.RowKit

theorem eqin_hash (W : World) (a b : List UInt8) (ha : a.length = 32) (hb : b.length = 32) :
    (Op.equalIn 10000 58 (.agg (u8s a).toArray) (.agg (u8s b).toArray)).run Tryz.prog W = .ok (decide (a = b)) W := by
  obtain ⟨i0, hi, hz0, hz1, hz2⟩ := info_parts info5
  have hu : Tryz.prog.underlying 58 = some (.array 32 5) := by kernel_rfl
  have hu8 : Tryz.prog.underlying 5 = some (.int .u8) := Tryz.underlying5
  have hsz : ∀ W, (sizeOf 5).run Tryz.prog W = .ok 1 W := by intro W; simp [sizeOf, typeInfo, hi, hz1]
  have hpart : ∀ (l : List UInt8) (i : Nat) (W : World), l.length = 32 → i < 32 → (part 5 (u8s l).toArray (i * 1)).run Tryz.prog W = .ok (.int .u8 ((l.getD i 0).toNat : Int)) W := by
    intro l i W hl hlt
    simp [part, sizeOf, typeInfo, hi, hz0, hz1, hz2, hl, hlt, u8s, List.getD_eq_getElem?_getD]
  have hdec : decide (a = b) = (List.range' 0 32).all (fun i => a.getD i 0 == b.getD i 0) := by
    rw [Bool.eq_iff_iff, decide_eq_true_iff, List.all_eq_true]
    constructor
    · rintro rfl i _; simp
    · intro h
      apply List.ext_getElem (by omega)
      intro i h1 h2
      have := h i (by simp [List.mem_range']; omega)
      simpa [List.getD_eq_getElem?_getD, h1, h2] using this
  rw [hdec]
  unfold Op.equalIn
  simp only [Sem.run_bind, run_underlying hu, Result.andThen_ok, hsz]
  rw [Std.Legacy.Range.forIn_eq_forIn_range']
  have hall : ∀ i ∈ List.range' 0 32, i < 32 := by intro i h; simp [List.mem_range'] at h; omega
  show ((Sem.run Tryz.prog (forIn (List.range' 0 32) _ _) W).andThen _) = _
  generalize List.range' 0 32 = is at hall ⊢
  induction is generalizing W with
  | nil => simp
  | cons i is ih =>
    have hi32 := hall i (by simp)
    have ih := ih W (fun j hj => hall j (by simp [hj]))
    simp only [List.forIn_cons, Sem.run_bind, hpart a i _ ha hi32, hpart b i _ hb hi32, Result.andThen_ok, run_equalIn_int _ _ _ _ _ _ _ hu8, Sem.run_ite, List.all_cons]
    have hbeq : (((a.getD i 0).toNat : Int) == ((b.getD i 0).toNat : Int)) = (a.getD i 0 == b.getD i 0) := by
      rw [Bool.eq_iff_iff, beq_iff_eq, beq_iff_eq, ← UInt8.toNat_inj]; omega
    rw [hbeq]
    cases a.getD i 0 == b.getD i 0
    · simp
    · simpa using ih
theorem neq_hash (W : World) (a b : List UInt8) (ha : a.length = 32) (hb : b.length = 32) :
    (binOp .neq 58 (.agg (u8s a).toArray) (.agg (u8s b).toArray)).run Tryz.prog W = .ok (.bool (!decide (a = b))) W := by
  rw [run_neq_struct, eqin_hash W a b ha hb]; rfl
end Go.Proofs.YtokakgjcegmabaaGreatDoor

namespace Go.Proofs.YtokakgjcegmabaaGreatDoor
set_option linter.unusedVariables false
set_option linter.unusedSimpArgs false
open Go.RowKit

section
variable {P : Program} {ops : Array Oper} {C : World → Prop} {Q : Act → Prop} {a : Act} {o : Oper} {rest : List Oper}
end
theorem Cls.kt {N : Nat} {W w : World} (h : Cls N W w) (hK : KT W) (hN : 2 < N) : KT w := hK.below h hN
end Go.Proofs.YtokakgjcegmabaaGreatDoor

namespace Go.Proofs.YtokakgjcegmabaaGreatDoor
set_option linter.unusedVariables false
set_option linter.unusedSimpArgs false
open Go.RowKit
end Go.Proofs.YtokakgjcegmabaaGreatDoor

namespace Go.Proofs.YtokakgjcegmabaaGreatDoor
set_option linter.unusedVariables false
set_option linter.unusedSimpArgs false
open Go.RowKit
end Go.Proofs.YtokakgjcegmabaaGreatDoor
