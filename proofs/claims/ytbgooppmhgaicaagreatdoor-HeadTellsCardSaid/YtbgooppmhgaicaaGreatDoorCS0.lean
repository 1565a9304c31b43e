/-
  Joined: KyNF EnPF.
-/
import Derived.Test.YtbgooppmhgaicaaGreatDoorCK
import Derived.Test.YtbgooppmhgaicaaGreatDoorCE
namespace Go.Proofs.YtbgooppmhgaicaaGreatDoor
set_option maxRecDepth 100000
set_option linter.unusedVariables false
set_option linter.unusedSimpArgs false
def blkF (l : List UInt8) : Nat → S8
  | 0 => init8
  | i + 1 => compF (blkF l i) ((l.drop (64 * i)).take 64)
theorem blkF_eq (l : List UInt8) (i : Nat) : blk l i = blkF l i := by
  induction i with
  | zero => rw [blk_zero]; rfl
  | succ i ih => rw [blk_succ, ih, compF_eq]; rfl
def shaSF (l : List UInt8) : S8 :=
  if 55 < (l.drop (64 * (l.length / 64))).length then compF (compF (blkF l (l.length / 64)) (ended (l.drop (64 * (l.length / 64))))) (sized (List.replicate 64 0) l.length) else compF (blkF l (l.length / 64)) (sized (ended (l.drop (64 * (l.length / 64)))) l.length)
def shaF (l : List UInt8) : List UInt8 := joinL (shaSF l)
theorem shaF_eq (l : List UInt8) : shaL l = shaF l := by
  unfold shaL shaF shaSF
  by_cases h : 55 < (l.drop (64 * (l.length / 64))).length
  · rw [shaS_long l h, if_pos h, compF_eq, compF_eq, blkF_eq]
  · rw [shaS_short l h, if_neg h, compF_eq, blkF_eq]
def midF (l : List UInt8) : List UInt8 := (shaF l).take 16
theorem midF_eq (l : List UInt8) : midL l = midF l := by unfold midL midF; rw [shaF_eq]
def walkF (x : List UInt8) : Nat → List UInt8
  | 0 => x
  | k + 1 => midF (2 :: walkF x k)
theorem walkF_eq (x : List UInt8) (k : Nat) : walkL x k = walkF x k := by
  induction k with
  | zero => rfl
  | succ k ih => rw [walkL, ih, midF_eq]; rfl
def chF (seed : List UInt8) (j : Nat) : List UInt8 := walkF (midF (3 :: UInt8.ofNat j :: seed)) 3
theorem pubF_eq (seed : List UInt8) : pubL seed = shaF (4 :: (List.range 68).flatMap (chF seed)) := by
  unfold pubL catL
  rw [shaF_eq]
  have e : (fun j => walkL (startL seed j) 3) = chF seed := by
    funext j
    unfold startL chF
    rw [walkF_eq, midF_eq]
  rw [e]
end Go.Proofs.YtbgooppmhgaicaaGreatDoor

namespace Go.Proofs.YtbgooppmhgaicaaGreatDoor.En
set_option maxRecDepth 100000
set_option linter.unusedVariables false
set_option linter.unusedSimpArgs false
open Go.RowKit

/-- The 16 bytes of a number. -/
def h (n : Nat) : List UInt8 := (List.range 16).map fun i => UInt8.ofNat (n / 256 ^ (15 - i))
/-- A chain's steps, one behind the other. -/
def sts : List UInt8 → List (List UInt8) → Prop
  | _, [] => True
  | x, y :: l => midF x = y ∧ sts (2 :: y) l
def lst : List UInt8 → List (List UInt8) → List UInt8
  | y, [] => y
  | _, a :: l => lst a l
theorem sts_key : ∀ (l : List (List UInt8)) (y : List UInt8) (k : Nat) (z : List UInt8), walkF z k = y → sts (2 :: y) l → walkF z (k + l.length) = lst y l
  | [], y, k, z, hz, _ => hz
  | a :: l, y, k, z, hz, hs => by
    have h1 : walkF z (k + 1) = a := by show midF (2 :: walkF z k) = a; rw [hz]; exact hs.1
    have := sts_key l a (k + 1) z h1 hs.2
    rw [List.length_cons, show k + (l.length + 1) = k + 1 + l.length from by omega]
    exact this
theorem sts_walk (l : List (List UInt8)) (x y : List UInt8) (hs : sts x (y :: l)) : walkF (midF x) l.length = lst y l := by
  have := sts_key l y 0 (midF x) hs.1 hs.2
  rwa [Nat.zero_add] at this
theorem seedP0 : seedL [115] 0 = h 0x669c0d41a1ef701c6dfa7045f441ac4d := by unfold seedL; rw [midF_eq]; decide +kernel
theorem seedP1 : seedL [115] 1 = h 0x98756a8b53a4508fc97cf95dec621e59 := by unfold seedL; rw [midF_eq]; decide +kernel
end Go.Proofs.YtbgooppmhgaicaaGreatDoor.En
