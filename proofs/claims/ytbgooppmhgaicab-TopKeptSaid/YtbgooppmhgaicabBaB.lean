
/-
  Rows of bytes that may be written.
-/
import Derived.Test.YtbgooppmhgaicabRows
import Derived.Test.YtbgooppmhgaicabBaA
import Derived.Lib.ConvBytes
import Derived.IntWalk
namespace Go.Proofs.Ytbgooppmhgaicab
set_option maxRecDepth 100000
set_option linter.unusedVariables false
set_option linter.unusedSimpArgs false
open Go.RowKit

theorem info5 : (Try.prog.info? 5).map (fun i => (i.zero, i.size, i.bytes)) = some (some (.int .u8 0), 1, 1) := by kernel_rfl
/-- A row of bytes that may be written. -/
def MutB (w : World) (b : Nat) (l : List UInt8) : Prop := b < w.heap.size ∧ ∀ i, i < l.length → w.cell? ⟨b, i, none⟩ = some (.int .u8 (l.getD i 0).toNat) ∧ w.frozen? ⟨b, i, none⟩ = false
theorem MutB.set {w : World} {b : Nat} {l : List UInt8} (h : MutB w b l) (j : Nat) (c : UInt8) (hj : j < l.length) : MutB (w.setCell ⟨b, j, none⟩ (.int .u8 c.toNat)) b (l.set j c) := by
  refine ⟨by simp [World.setCell]; exact h.1, fun i hi => ?_⟩
  rw [List.length_set] at hi
  obtain ⟨h1, h2⟩ := h.2 i hi
  refine ⟨?_, by rw [World.frozen?_setCell]; exact h2⟩
  by_cases hij : j = i
  · subst hij
    rw [World.cell?_setCell_same _ _ _ h1]; simp [List.getD_eq_getElem?_getD, hi]
  · rw [World.cell?_setCell_other _ _ _ _ (by intro e; exact hij (congrArg Addr.off e)), h1]
    simp [List.getD_eq_getElem?_getD, List.getElem?_set_ne hij]
theorem bytes_mut (w : World) (s : ByteArray) : MutB (Lib.bytesWorld w 5 s) w.heap.size s.data.toList := by
  refine ⟨by rw [Lib.bytesWorld_size]; omega, fun i hi => ⟨Lib.bytesWorld_cell w _ s i (by simpa using hi), ?_⟩⟩
  have h := Lib.bytesWorld_at_new w 5 s
  have hge := grownCap_ge w s.size 0 5
  have hi' : i < s.size := by simpa using hi
  unfold World.frozen?
  dsimp only
  rw [h]
  simp [Lib.bytesCells]
  first | done | omega
theorem bytes_below (w : World) (s : ByteArray) : Below w.heap.size w (Lib.bytesWorld w 5 s) :=
  ⟨rfl, rfl, rfl, by rw [Lib.bytesWorld_size]; exact Nat.le_succ _, fun k hk => Lib.bytesWorld_at_old w 5 s k hk⟩

theorem str_mut (W : World) (b cap : Nat) (l : List UInt8) (h : MutB W b l) :
    (convert 50 9 (.slice (some ⟨b, 0, none⟩) l.length cap)).run Try.prog W = .ok (.string (mkS l)) W :=
  run_str_at (P := Try.prog) (src := 50) (e := 5) (dst := 9) Try.underlying50 Try.underlying5 Try.underlying9 b 0 cap l (w := W) (by
    intro i hi
    rw [show (⟨b, 0, none⟩ : Addr).off + i = i from Nat.zero_add _]
    exact (h.2 i hi).1)

theorem zeros_mut (w : World) (n : Nat) : MutB (w.alloc (.cells (Array.replicate n (.int .u8 0)) 5)) w.heap.size (List.replicate n 0) := by
  refine ⟨by simp, fun i hi => ?_⟩
  have hi' : i < n := by simpa using hi
  constructor
  · rw [World.cell?_alloc_new]; simp [List.getD_eq_getElem?_getD, hi']
  · unfold World.frozen?; dsimp only; rw [heap_alloc_new]; simp

theorem mkz (W : World) (n : Nat) (hn : n ≤ 65536) : (Instr.makeSlice 50 (.int .i64 (n : Int)) (.int .i64 (n : Int))).run Try.prog W = .ok (.slice (some ⟨W.heap.size, 0, none⟩) n n) (W.alloc (.cells (Array.replicate n (.int .u8 0)) 5)) := by
  obtain ⟨i0, hi, hz0, hz1, hz2⟩ := info_parts info5
  have h := run_make (P := Try.prog) W 50 5 i0 (.int .u8 0) Try.underlying50 hi hz0 .i64 .i64 n n (by omega) (by omega) (by rw [hz2]; omega) (by omega)
  rw [Int.toNat_natCast, hz1, Nat.mul_one] at h
  have e : madeCells (Value.int .u8 0).cells n = Array.replicate n (.int .u8 0) := by
    apply Array.toList_inj.1
    rw [show (Value.int .u8 0).cells = #[.int .u8 0] from rfl, toList_madeCells_one]; simp
  rw [e] at h
  exact h

end Go.Proofs.Ytbgooppmhgaicab
