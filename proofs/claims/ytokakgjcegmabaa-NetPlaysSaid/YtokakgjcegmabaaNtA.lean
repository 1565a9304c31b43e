/-
  net: a network in memory; what its calls leave.
-/
import Derived.Test.YtokakgjcegmabaaSl
import Derived.Test.YtokakgjcegmabaaNtLib
namespace Go.Proofs.Ytokakgjcegmabaa.Nt
set_option maxRecDepth 100000
set_option linter.unusedVariables false
set_option linter.unusedSimpArgs false
open Go.RowKit
open List (getElem_toArray getElem_cons_zero getElem_cons_succ setIfInBounds_toArray set_cons_zero set_cons_succ)

/-- All that was there stands, but for the block b and one more. -/
structure G2 (b : Nat) (g : Option Nat) (w W : World) : Prop where
  os : W.os = w.os
  tape : W.tape = w.tape
  output : W.output = w.output
  size : w.heap.size ≤ W.heap.size
  block : ∀ k, k < w.heap.size → k ≠ b → some k ≠ g → W.heap[k]? = w.heap[k]?
theorem G2.refl (b : Nat) (g : Option Nat) (w : World) : G2 b g w w := ⟨rfl, rfl, rfl, Nat.le_refl _, fun _ _ _ _ => rfl⟩
theorem G2.of_below {b : Nat} {g : Option Nat} {w W : World} (h : Below w.heap.size w W) : G2 b g w W := ⟨h.os, h.tape, h.output, h.size, fun k hk _ _ => h.block k hk⟩
theorem G2.of_grown {b : Nat} {g : Option Nat} {w W : World} (h : w.grownBy W g) : G2 b g w W := ⟨h.os, h.tape, h.output, h.size, fun k hk _ hg => h.block k hk hg⟩
theorem G2.of_stp {b : Nat} {g : Option Nat} {w W : World} (h : Rt.Stp b w W) : G2 b g w W :=
  ⟨(h.below 0 (Nat.zero_le _)).os, (h.below 0 (Nat.zero_le _)).tape, (h.below 0 (Nat.zero_le _)).output, by rw [h.size]; exact Nat.le_refl _, fun k _ hk _ => h.other k hk⟩
theorem G2.trans {b : Nat} {g : Option Nat} {w U W : World} (h : G2 b g w U) (k : G2 b g U W) : G2 b g w W :=
  ⟨k.os.trans h.os, k.tape.trans h.tape, k.output.trans h.output, Nat.le_trans h.size k.size, fun j hj h1 h2 => (k.block j (Nat.lt_of_lt_of_le hj h.size) h1 h2).trans (h.block j hj h1 h2)⟩
/-- The slice's own block is the old one, or new. -/
def Nr (w : World) (v v' : Value) : Prop := ∀ g, v'.ownBlock = some g → v.ownBlock = some g ∨ w.heap.size ≤ g
theorem Nr.refl (w : World) (v : Value) : Nr w v v := fun _ h => .inl h
theorem G2.step {b : Nat} {v v' : Value} {w U W : World} (h : G2 b v.ownBlock w U) (n : Nr w v v') (k : G2 b v'.ownBlock U W) : G2 b v.ownBlock w W :=
  ⟨k.os.trans h.os, k.tape.trans h.tape, k.output.trans h.output, Nat.le_trans h.size k.size, fun j hj h1 h2 => (k.block j (Nat.lt_of_lt_of_le hj h.size) h1 (fun e => (n j e.symm).elim (fun e => h2 e.symm) (fun e => by omega))).trans (h.block j hj h1 h2)⟩
theorem Nr.step {w U : World} {v v' v'' : Value} (h : Nr w v v') (hs : w.heap.size ≤ U.heap.size) (k : Nr U v' v'') : Nr w v v'' := fun g hg => (k g hg).elim (fun e => h g e) (fun e => .inr (Nat.le_trans hs e))
theorem G2.arr {b : Nat} {g : Option Nat} {w W : World} (h : G2 b g w W) {c t : Nat} {xs : List Value} (ha : Arr w c t xs) (h1 : c ≠ b) (h2 : some c ≠ g) : Arr W c t xs := (h.block c ha.lt h1 h2).trans ha
theorem G2.below {b : Nat} {g : Option Nat} {w W : World} (h : G2 b g w W) {N : Nat} (hN : N ≤ w.heap.size) (hb : N ≤ b) (hg : ∀ x, g = some x → N ≤ x) : Below N w W :=
  ⟨h.os, h.tape, h.output, h.size, fun k hk => h.block k (by omega) (by omega) (fun e => by have := hg k e.symm; omega)⟩
theorem G2.fin {b : Nat} {g : Option Nat} {w U W : World} (h : G2 b g w U) (k : Below w.heap.size U W) : G2 b g w W :=
  ⟨k.os.trans h.os, k.tape.trans h.tape, k.output.trans h.output, Nat.le_trans h.size k.size, fun j hj h1 h2 => (k.block j hj).trans (h.block j hj h1 h2)⟩
def nR (v : Value) (m n : Int) : List Value := [v, .int .i64 m, .int .i64 n]
/-- A network in memory: its texts, its room, and how many were lost. -/
structure NetAt (w : World) (b B : Nat) (v : Value) (L : List ByteArray) (m n : Int) : Prop where
  arr : Arr w b 80 (nR v m n)
  own : OwnV w B 9 v (strV L)
theorem NetAt.to {w W : World} {b B : Nat} {v : Value} {L : List ByteArray} {m n : Int} (h : NetAt w b B v L m n) (hb : Below w.heap.size w W) : NetAt W b B v L m n := ⟨h.arr.below hb h.arr.lt, Sl.own_to h.own hb⟩
theorem NetAt.ne {w : World} {b B : Nat} {v : Value} {L : List ByteArray} {m n : Int} (h : NetAt w b B v L m n) : some b ≠ v.ownBlock := fun e => not_row_cells h.arr (by decide) h.own e
theorem naSS : Mm.NA Try.prog 28 := ⟨_, Try.underlying28, rfl⟩
theorem naS : Mm.NA Try.prog 9 := ⟨_, Try.underlying9, rfl⟩
theorem naI : Mm.NA Try.prog 3 := ⟨_, Try.underlying3, rfl⟩
set_option maxHeartbeats 4000000 in
theorem known_any (w : World) (b : Nat) : Calls Try.prog 36 #[.pointer (some ⟨b, 0, none⟩)] w fun e w' => e = .returned (.pointer (some ⟨b, 0, none⟩)) ∧ w = w' := by
  go_enter Try.func36, Try.ntmps36
  go_wp2
  go_ret
  exact ⟨rfl, rfl⟩
set_option maxHeartbeats 4000000 in
theorem full_any (w : World) (b B : Nat) (v : Value) (L : List ByteArray) (m n : Int) (h : NetAt w b B v L m n) : Calls Try.prog 37 #[.pointer (some ⟨b, 0, none⟩)] w fun e w' => e = .returned (.bool (decide (m ≤ (L.length : Int)))) ∧ Below w.heap.size w w' := by
  obtain ⟨a, c, hv⟩ := Sl.own_form h.own
  rw [strV_length] at hv
  have c0 := h.arr.cell 0 (by simp [nR]); have c1 := h.arr.cell 1 (by simp [nR]); have c2 := h.arr.cell 2 (by simp [nR])
  simp only [nR, List.getElem_cons_zero, List.getElem_cons_succ] at c0 c1 c2
  subst hv
  have e1 : decide ((L.length : Int) ≥ m) = decide (m ≤ (L.length : Int)) := rfl
  go_enter Try.func37, Try.ntmps37
  go_wp2_with fail
  go_region
  all_goals (go_wp2; go_ret; exact ⟨rfl, by first | exact Below.refl _ _ | exact (Below.refl _ _).drew⟩)
end Go.Proofs.Ytokakgjcegmabaa.Nt
