
/-
  JournalKeeps: the walk.
-/
import Derived.Test.YtbgooppmhgaicabJrnG
namespace Go.Proofs.Ytbgooppmhgaicab
set_option maxRecDepth 100000
set_option linter.unusedVariables false
set_option linter.unusedSimpArgs false
open Go.RowKit

theorem read_cat (W : World) (al : List ByteArray) (A : ByteArray) (N : Nat) (hA : mkS (cat al) = A) (hN : (cat al).length = N) (h8 : ∀ t ∈ al, t.size ≤ 8192) (hs : N ≤ 1048576) :
    Calls Try.prog 13 #[.string A] W fun e w' => ∃ v, e = .returned (.tuple #[v, .int .i64 ((N : Nat) : Int)]) ∧ OwnV w' W.heap.size 9 v (strV al) ∧ Below W.heap.size W w' := by
  have h := read_any W A (by rw [← hA, mkS_size, hN]; omega)
  unfold rdN at h
  rw [← hA, mkS_data, rdT_whole al h8, hN] at h
  rw [← hA]
  exact h
/-- What holds at a round's head. -/
def JkI (w : World) (bd : Nat) (room : Int) (len : Nat) (t7 t8 t46 : Value) (wr : World) : Prop := ∃ (i n : Nat) (al : List ByteArray) (va : Option Addr) (vc : Nat), t46 = .int .i64 i ∧ i ≤ len ∧ t7 = .slice va al.length vc ∧ t8 = .int .i64 n ∧ n ≤ al.length ∧ (∀ t ∈ al, t.size ≤ 8192) ∧ ((cat al).length : Int) ≤ room ∧
  OwnV wr w.heap.size 9 (.slice va al.length vc) (strV al) ∧ Arr wr bd 26 [.string (mkS (cat al)), .int .i64 (((cat (al.take n)).length : Nat) : Int), .int .i64 room] ∧ Below w.heap.size w wr
end Go.Proofs.Ytbgooppmhgaicab
