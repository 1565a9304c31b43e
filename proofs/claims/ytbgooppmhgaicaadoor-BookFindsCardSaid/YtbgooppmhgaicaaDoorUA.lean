/-
  Joined: OctM OctA OctB OctC OctD OctE OctF OctG OctH OctI OctJ OctK OctL OctQ.
-/
import Derived.WalkKit
import Derived.Test.YtbgooppmhgaicaaDoorRows
import Derived.WalkSpells
import Derived.WalkLawsBesides
import Derived.Handy
import Derived.Lib.UnsafeStr
import Derived.Lib.BufferWrite
import Derived.BigQuiet
import Derived.Deep.QuietTactic
import Derived.RangeFuncNested
import Derived.RangeFuncBound
import Derived.RangeFuncCalls
import Derived.RangeFuncLeaves
import Derived.RangeFuncBox
import Derived.Shelf.Abstract
import Derived.Shelf.RegionOpen
import Derived.OwnWalkIn
import Derived.TacticsInMore
import Derived.LoopNIn
import Derived.LoopIn
import Derived.Maps.AppendAt
namespace Go.Proofs.YtbgooppmhgaicaaDoor
set_option linter.unusedVariables false
set_option linter.unusedSimpArgs false
set_option maxRecDepth 100000
set_option linter.unusedVariables false
set_option linter.unusedSimpArgs false
open Go.RowKit


theorem hidp {p : Prop} (h : p) : Hid p := h

/-- A byte as a cell. -/
def bv (l : List UInt8) : List Value := l.map fun b => .int .u8 b.toNat
theorem bv_append (a b : List UInt8) : bv (a ++ b) = bv a ++ bv b := by simp [bv]
theorem bv_one (b : UInt8) : bv [b] = [.int .u8 b.toNat] := rfl

/-- A row of bytes that the call itself has made. -/
def Own (w : World) (B e : Nat) (v : Value) (l : List UInt8) : Prop := w.ownsRow B e 1 v l.length (bv l)
theorem Own.nil (w : World) (B e : Nat) : Own w B e (.slice none 0 0) [] := World.ownsRow_nil w B e 1
theorem Own.kept {w w' : World} {B C e : Nat} {v : Value} {l : List UInt8} (h : Own w B e v l) (hb : Below C w w') (hC : w.heap.size ≤ C) : Own w' B e v l := by
  refine ⟨h.1, ?_⟩
  rcases h.2 with hn | ⟨g, cap, cur, rfl, hb', hgg, rest⟩
  · exact .inl hn
  · refine .inr ⟨g, cap, cur, rfl, hb', ?_, rest⟩
    rw [hb.block g (by have := (Array.getElem?_eq_some_iff.1 hgg).1; omega)]
    exact hgg
theorem Own.alloc {w : World} {B e : Nat} {v : Value} {l : List UInt8} (h : Own w B e v l) (o : Obj) : Own (w.alloc o) B e v l := World.ownsRow.alloc h o

theorem u8n (n : Nat) (h : n < 256) : (UInt8.ofNat n).toNat = n := by simp [UInt8.toNat_ofNat']; omega
theorem cell_new1 (w : World) (z : Value) (e : Nat) (fz : Nat × Nat := (0, 0)) : (w.alloc (.cells #[z] e fz)).cell? ⟨w.heap.size, 0, none⟩ = some z := by
  have h : (w.alloc (.cells #[z] e fz)).heap[w.heap.size]? = some (.cells #[z] e fz) := heap_alloc_new w _
  unfold World.cell?; dsimp only; rw [h]; rfl
/-- A text of bytes. -/
def mkS (l : List UInt8) : ByteArray := ⟨l.toArray⟩
theorem mkS_size (l : List UInt8) : (mkS l).size = l.length := by simp [mkS, ByteArray.size]
theorem mkS_append (a b : List UInt8) : mkS a ++ mkS b = mkS (a ++ b) := by unfold mkS; exact ByteArray.mk_append_mk a b
theorem mkS_data (l : List UInt8) : (mkS l).data.toList = l := rfl
theorem nums_mkS (l : List UInt8) : strOfNums (l.map fun b => (b.toNat : Int)) = mkS l := by
  unfold mkS strOfNums
  congr 2
  rw [List.map_map]
  conv => rhs; rw [← List.map_id l]
  apply List.map_congr_left
  intro b _
  simp

/-- Cells that are these bytes. -/
def AtB (w : World) (a : Addr) (l : List UInt8) : Prop := ∀ i, i < l.length → w.cell? ⟨a.block, a.off + i, none⟩ = some (.int .u8 (l.getD i 0).toNat)

/-- 'string(v)' of bytes in memory. -/
theorem run_str_at {P : Program} {w : World} {src e dst : TypeId} (hs : P.underlying src = some (.slice e)) (he : P.underlying e = some (.int .u8)) (hd : P.underlying dst = some .string)
    (b off cap : Nat) (l : List UInt8) (h : AtB w ⟨b, off, none⟩ l) : (convert src dst (.slice (some ⟨b, off, none⟩) l.length cap)).run P w = .ok (.string (mkS l)) w := by
  rw [← nums_mkS]
  refine run_convert_bytes_arg w src e hs he b off l.length cap (l.map fun b => (b.toNat : Int)) (by simp) (fun i hi => ?_) dst hd
  rw [h i hi]
  simp [List.getD_eq_getElem?_getD, hi]
theorem Own.at {w : World} {B e : Nat} {g cap : Nat} {l : List UInt8} (h : Own w B e (.slice (some ⟨g, 0, none⟩) l.length cap) l) : AtB w ⟨g, 0, none⟩ l := by
  intro i hi
  have := World.ownsRow.cells h (g := g) rfl i (.int .u8 (l.getD i 0).toNat) (by simp [bv, hi, List.getD_eq_getElem?_getD])
  have e : (⟨g, 0, none⟩ : Addr).add i = ⟨g, 0 + i, none⟩ := by unfold Addr.add; split <;> simp_all
  rw [e] at this; exact this
/-- 'string(v)' of a row of the call's own. -/
theorem run_str_own {P : Program} {w : World} {src e dst : TypeId} (hs : P.underlying src = some (.slice e)) (he : P.underlying e = some (.int .u8)) (hd : P.underlying dst = some .string)
    {B : Nat} {v : Value} {l : List UInt8} (h : Own w B e v l) : (convert src dst v).run P w = .ok (.string (mkS l)) w := by
  have h' := h
  rcases h'.2 with ⟨rfl, hn⟩ | ⟨g, cap, cur, rfl, _⟩
  · have : l = [] := List.eq_nil_of_length_eq_zero hn
    subst this
    exact run_convert_bytes_nil w src e hs he 0 0 dst hd
  · exact run_str_at hs he hd g 0 cap l h.at
theorem heap_size_alloc (w : World) (o : Obj) : (w.alloc o).heap.size = w.heap.size + 1 := by simp
end Go.Proofs.YtbgooppmhgaicaaDoor

namespace Go.Proofs.YtbgooppmhgaicaaDoor
set_option linter.unusedVariables false
set_option linter.unusedSimpArgs false
set_option maxRecDepth 100000
open Go.RowKit
end Go.Proofs.YtbgooppmhgaicaaDoor

namespace Go.Proofs.YtbgooppmhgaicaaDoor
set_option linter.unusedVariables false
set_option linter.unusedSimpArgs false
set_option maxRecDepth 100000
open Go.RowKit
end Go.Proofs.YtbgooppmhgaicaaDoor

namespace Go.Proofs.YtbgooppmhgaicaaDoor
set_option linter.unusedVariables false
set_option linter.unusedSimpArgs false
set_option maxRecDepth 100000
open Go.RowKit
end Go.Proofs.YtbgooppmhgaicaaDoor

namespace Go.Proofs.YtbgooppmhgaicaaDoor
set_option linter.unusedVariables false
set_option linter.unusedSimpArgs false
set_option maxRecDepth 100000
open Go.RowKit
end Go.Proofs.YtbgooppmhgaicaaDoor

namespace Go.Proofs.YtbgooppmhgaicaaDoor
set_option linter.unusedVariables false
set_option linter.unusedSimpArgs false
set_option maxRecDepth 100000
open Go.RowKit
end Go.Proofs.YtbgooppmhgaicaaDoor

namespace Go.Proofs.YtbgooppmhgaicaaDoor
set_option linter.unusedVariables false
set_option linter.unusedSimpArgs false
set_option maxRecDepth 100000
open Go.RowKit

/-- A slice of texts in memory. -/
def StrsAt (w : World) (v : Value) (ss : List ByteArray) : Prop :=
  ∃ a cap, v = .slice a ss.length cap ∧ ∀ k (h : k < ss.length), ∃ b off, a = some ⟨b, off, none⟩ ∧ w.cell? ⟨b, off + k, none⟩ = some (.string ss[k])
theorem StrsAt.below {w w' : World} {v : Value} {ss : List ByteArray} (h : StrsAt w v ss) {B : Nat} (hb : Below B w w') (hB : w.heap.size ≤ B) : StrsAt w' v ss := by
  obtain ⟨a, cap, e, hc⟩ := h
  refine ⟨a, cap, e, fun k hk => ?_⟩
  obtain ⟨b, off, ea, hc⟩ := hc k hk
  refine ⟨b, off, ea, ?_⟩
  have := World.block_lt_of_cell? w _ hc
  rw [hb.cell (p := ⟨b, off + k, none⟩) (by simp at this ⊢; omega)]; exact hc

def okL (ss : List ByteArray) : Prop := ss.length ≤ 256 ∧ ∀ s ∈ ss, s.size ≤ 8192
instance (ss : List ByteArray) : Decidable (okL ss) := by unfold okL; exact inferInstance
end Go.Proofs.YtbgooppmhgaicaaDoor

namespace Go.Proofs.YtbgooppmhgaicaaDoor
set_option linter.unusedVariables false
set_option linter.unusedSimpArgs false
set_option maxRecDepth 100000
open Go.RowKit
end Go.Proofs.YtbgooppmhgaicaaDoor

namespace Go.Proofs.YtbgooppmhgaicaaDoor
set_option linter.unusedVariables false
set_option linter.unusedSimpArgs false
set_option maxRecDepth 100000
open Go.RowKit

/-- A row of values of one cell each that the call itself has made. -/
def OwnV (w : World) (B e : Nat) (v : Value) (l : List Value) : Prop := w.ownsRow B e 1 v l.length l
theorem OwnV.nil (w : World) (B e : Nat) : OwnV w B e (.slice none 0 0) [] := World.ownsRow_nil w B e 1
theorem OwnV.kept {w w' : World} {B C e : Nat} {v : Value} {l : List Value} (h : OwnV w B e v l) (hb : Below C w w') (hC : w.heap.size ≤ C) : OwnV w' B e v l := by
  refine ⟨h.1, ?_⟩
  rcases h.2 with hn | ⟨g, cap, cur, rfl, hb', hgg, rest⟩
  · exact .inl hn
  · refine .inr ⟨g, cap, cur, rfl, hb', ?_, rest⟩
    rw [hb.block g (by have := (Array.getElem?_eq_some_iff.1 hgg).1; omega)]
    exact hgg
theorem OwnV.alloc {w : World} {B e : Nat} {v : Value} {l : List Value} (h : OwnV w B e v l) (o : Obj) : OwnV (w.alloc o) B e v l := World.ownsRow.alloc h o

/-- 'append(v, u)' onto such a row: the operation, for the walk. -/
theorem wpList_appV {P : Program} {w : World} {ops : Array Oper} {rest : List Oper} {o : Oper} {a : Act} {Q : Exit → Act → World → Prop} (hgd : o.guard = none) (s x : Operand) (t : TypeId)
    (ho : o.op = .call { callee := .builtin .append, args := #[s, x], argTypes := #[t, t] }) (B e : Nat) (i : TypeInfo) (z : Value) (bytes : Nat) (ht : P.underlying t = some (.slice e)) (hi : P.info? e = some i)
    (hz0 : i.zero = some z) (hz1 : i.size = 1) (hz2 : i.bytes = bytes) (hzs : z.cells.size = 1) (v : Value) (l : List Value) (hs : a.eval s = v) (hown : OwnV w B e v l) (ad : Addr) (c : Nat) (u : Value)
    (hx : a.eval x = .slice (some ad) 1 c) (hc : w.cell? ad = some u) (hu : u.oneCell' = true) (hlen : l.length + 1 ≤ maxLen) (hby : (l.length + 1) * bytes ≤ 140737488355328) (hB : B ≤ w.heap.size)
    (h : ∀ v' w', OwnV w' B e v' (l ++ [u]) → Below B w w' → wpList P ops Q rest (a.put o.dst v') w') : wpList P ops Q (o :: rest) a w := by
  refine wpList_append_own w hgd s x t ho B e i z 1 bytes ht hi hz0 hz1 hz2 hzs (by decide) v l.length l hs hown ad 1 c [u] hx rfl ?_ ?_ hlen hby hB ?_
  · intro j y hj
    match j, hj with
    | 0, hj => simp at hj; subst hj; simpa [Addr.add] using hc
  · intro y hy; simp at hy; subst hy; exact hu
  · intro v' w' h1 h2 _
    refine h v' w' ?_ ((Below.refl B w).grown h2 hB fun k hk => (World.ownsRow.lt hown k hk).1)
    unfold OwnV; rw [List.length_append]; exact h1
end Go.Proofs.YtbgooppmhgaicaaDoor

namespace Go.Proofs.YtbgooppmhgaicaaDoor
set_option linter.unusedVariables false
set_option linter.unusedSimpArgs false
set_option maxRecDepth 100000
open Go.RowKit
end Go.Proofs.YtbgooppmhgaicaaDoor

namespace Go.Proofs.YtbgooppmhgaicaaDoor
set_option linter.unusedVariables false
set_option linter.unusedSimpArgs false
set_option maxRecDepth 100000
open Go.RowKit Go.Shelf
attribute [local go_sem] Oper.semAt_some
theorem grown_of_below {w w' : World} (h : Below w.heap.size w w') : w.grownBy w' none := ⟨h.os, h.tape, h.output, h.size, fun k hk _ => h.block k hk⟩
end Go.Proofs.YtbgooppmhgaicaaDoor

namespace Go.Proofs.YtbgooppmhgaicaaDoor
set_option linter.unusedVariables false
set_option linter.unusedSimpArgs false
set_option maxRecDepth 100000
open Go.RowKit Go.Shelf
attribute [local go_sem] Oper.semAt_some
theorem OwnAnd {β : Type} {I I' : β → World → Prop} (h : Go.Own I) (h' : Go.Own I') : Go.Own (fun s W => I s W ∧ I' s W) := fun s W W' row hs hg hr => ⟨h s W W' row hs.1 hg hr, h' s W W' row hs.2 hg hr⟩
end Go.Proofs.YtbgooppmhgaicaaDoor

namespace Go.Proofs.YtbgooppmhgaicaaDoor
set_option linter.unusedVariables false
set_option linter.unusedSimpArgs false
set_option maxRecDepth 100000
open Go.RowKit
end Go.Proofs.YtbgooppmhgaicaaDoor

namespace Go.Proofs.YtbgooppmhgaicaaDoor
set_option linter.unusedVariables false
set_option linter.unusedSimpArgs false
set_option maxRecDepth 100000
open Go.RowKit

theorem ba_ext {a b : ByteArray} (h : a.data.toList = b.data.toList) : a = b := ByteArray.ext (Array.toList_inj.1 h)
theorem extract_toList (s : ByteArray) (a b : Nat) : (s.extract a b).data.toList = (s.data.toList.drop a).take (b - a) := by
  simp [ByteArray.data_extract, List.extract]
theorem size_toList (s : ByteArray) : s.data.toList.length = s.size := by simp
end Go.Proofs.YtbgooppmhgaicaaDoor
