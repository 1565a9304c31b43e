
/-
  octet.List and the document's: the bytes of a list.
-/
import Derived.Test.YtokakgjcegmabaaOctE
namespace Go.Proofs.Ytokakgjcegmabaa
set_option linter.unusedVariables false
set_option linter.unusedSimpArgs false
open Go.RowKit

/-- A slice of texts in memory. -/
def StrsAt (w : World) (v : Value) (ss : List ByteArray) : Prop :=
  ∃ a cap, v = .slice a ss.length cap ∧ ∀ k (h : k < ss.length), ∃ b off, a = some ⟨b, off, none⟩ ∧ w.cell? ⟨b, off + k, none⟩ = some (.string ss[k])
theorem StrsAt.below {w w' : World} {v : Value} {ss : List ByteArray} (h : StrsAt w v ss) {B : Nat} (hb : Below B w w') (hB : w.heap.size ≤ B) : StrsAt w' v ss := by
  obtain ⟨a, cap, e, hc⟩ := h
  refine ⟨a, cap, e, fun k hk => ?_⟩
  obtain ⟨b, off, ea, hc⟩ := hc k hk
  refine ⟨b, off, ea, ?_⟩
  have := World.block_lt_of_cell? w _ hc
  rw [hb.cell (p := ⟨b, off + k, none⟩) (by simp at this ⊢; omega)]; exact hc

def encTs (ss : List ByteArray) : List UInt8 := ss.flatMap encT
def encL (ss : List ByteArray) : List UInt8 := encN ss.length ++ encTs ss
def okL (ss : List ByteArray) : Prop := ss.length ≤ 256 ∧ ∀ s ∈ ss, s.size ≤ 8192
instance (ss : List ByteArray) : Decidable (okL ss) := by unfold okL; exact inferInstance
def listS (ss : List ByteArray) : ByteArray := if okL ss then mkS (encL ss) else ByteArray.empty
def listE (ss : List ByteArray) : Int := if okL ss then 0 else 7
theorem listS_yes {ss : List ByteArray} (h : okL ss) : listS ss = mkS (encL ss) := by unfold listS; rw [if_pos h]
theorem listE_yes {ss : List ByteArray} (h : okL ss) : listE ss = 0 := by unfold listE; rw [if_pos h]
theorem listS_no {ss : List ByteArray} (h : ¬ okL ss) : listS ss = ByteArray.empty := by unfold listS; rw [if_neg h]
theorem listE_no {ss : List ByteArray} (h : ¬ okL ss) : listE ss = 7 := by unfold listE; rw [if_neg h]
theorem encT_len (t : ByteArray) (h : t.size ≤ 8192) : (encT t).length ≤ 8202 := by
  unfold encT; have := encN_len64 t.size (by omega); simp; omega
theorem encTs_len (ss : List ByteArray) (h : ∀ s ∈ ss, s.size ≤ 8192) : (encTs ss).length ≤ 8202 * ss.length := by
  induction ss with
  | nil => simp [encTs]
  | cons s ss ih =>
    have h1 := encT_len s (h s (by simp))
    have h2 := ih fun x hx => h x (by simp [hx])
    simp only [encTs, List.flatMap_cons, List.length_append, List.length_cons] at *
    omega
theorem encTs_take (ss : List ByteArray) (k : Nat) (h : k < ss.length) : encTs (ss.take (k + 1)) = encTs (ss.take k) ++ encT ss[k] := by
  unfold encTs
  rw [List.take_succ_eq_append_getElem h, List.flatMap_append]; simp
theorem encTs_take_len (ss : List ByteArray) (k : Nat) (hk : k ≤ ss.length) (h : okL ss) : (encTs (ss.take k)).length ≤ 8202 * 256 := by
  have := encTs_len (ss.take k) fun s hs => h.2 s (List.mem_of_mem_take hs)
  have h1 : (ss.take k).length ≤ 256 := by have := h.1; simp; omega
  omega

end Go.Proofs.Ytokakgjcegmabaa
