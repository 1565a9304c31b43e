/-
  Joined: OctA OctB OctC OctD OctE OctF OctG OctH OctI OctJ OctK OctL.
-/
import Derived.Test.YtiakfopdohcigaaGreatDoorRows
import Derived.Test.YtiakfopdohcigaaGreatDoorOctM
import Derived.WalkKit
import Derived.WalkSpells
import Derived.WalkLawsBesides
import Derived.Handy
import Derived.Lib.UnsafeStr
import Derived.Lib.BufferWrite
import Derived.BigQuiet
import Derived.Deep.QuietTactic
import Derived.RangeFuncNested
import Derived.RangeFuncBound
import Derived.RangeFuncCalls
import Derived.RangeFuncLeaves
import Derived.RangeFuncBox
import Derived.Shelf.Abstract
import Derived.Shelf.RegionOpen
import Derived.OwnWalkIn
import Derived.TacticsInMore
import Derived.LoopNIn
import Derived.LoopIn
import Derived.Maps.AppendAt
namespace Go.Proofs.YtiakfopdohcigaaGreatDoor
set_option linter.unusedVariables false
set_option linter.unusedSimpArgs false
set_option maxRecDepth 100000
open Go.RowKit

theorem info5o : (Tryz.prog.info? 5).map (fun i => (i.zero, i.size, i.bytes)) = some (some (.int .u8 0), 1, 1) := by kernel_rfl
end Go.Proofs.YtiakfopdohcigaaGreatDoor

namespace Go.Proofs.YtiakfopdohcigaaGreatDoor
set_option linter.unusedVariables false
set_option linter.unusedSimpArgs false
set_option maxRecDepth 100000
open Go.RowKit

def numS (n : Nat) : ByteArray := if n ≤ 281474976710656 then mkS (encN n) else ByteArray.empty
def numE (n : Nat) : Int := if n ≤ 281474976710656 then 0 else 1
theorem numS_yes {n : Nat} (h : n ≤ 281474976710656) : numS n = mkS (encN n) := by unfold numS; rw [if_pos h]
theorem numE_yes {n : Nat} (h : n ≤ 281474976710656) : numE n = 0 := by unfold numE; rw [if_pos h]
theorem numS_no {n : Nat} (h : ¬ n ≤ 281474976710656) : numS n = ByteArray.empty := by unfold numS; rw [if_neg h]
theorem numE_no {n : Nat} (h : ¬ n ≤ 281474976710656) : numE n = 1 := by unfold numE; rw [if_neg h]

theorem rem_byte (m : Nat) : (m : Int) % 128 + 128 = ((contB m).toNat : Int) := by unfold contB; rw [u8n _ (by omega)]; omega
end Go.Proofs.YtiakfopdohcigaaGreatDoor

namespace Go.Proofs.YtiakfopdohcigaaGreatDoor
set_option linter.unusedVariables false
set_option linter.unusedSimpArgs false
set_option maxRecDepth 100000
open Go.RowKit

def tup3 (r : Nat × Nat × Nat) : Value := .tuple #[.int .u64 r.1, .int .i64 r.2.1, .int .i64 r.2.2]
end Go.Proofs.YtiakfopdohcigaaGreatDoor

namespace Go.Proofs.YtiakfopdohcigaaGreatDoor
set_option linter.unusedVariables false
set_option linter.unusedSimpArgs false
set_option maxRecDepth 100000
open Go.RowKit

/-- What is read of bytes that are a number's is written by these, just if it is not too long, and not too great. -/
theorem gn_last (s : ByteArray) (i acc : Nat) (hi : i < s.size) (hp : ∀ x ∈ s.data.toList.take i, 128 ≤ x.toNat) (hacc : acc = valN (s.data.toList.take i)) (b : Nat) (hb : (s[i]'hi).toNat = b) (hb1 : b < 128) :
    mkS (encN (acc + b % 128 * 128 ^ i)) = s.extract 0 (i + 1) ↔ ¬ (0 < i ∧ b = 0) := by
  have e1 : s.extract 0 (i + 1) = mkS (s.data.toList.take i ++ [s[i]'hi]) := by
    apply ByteArray.ext
    rw [ByteArray.data_extract]
    apply Array.toList_inj.1
    have e := List.take_succ_eq_append_getElem (l := s.data.toList) (i := i) (by simpa using hi)
    exact (by simp [List.extract] : _ = List.take (i + 1) s.data.toList).trans e
  have hl : (s.data.toList.take i).length = i := by simp; have : s.data.size = s.size := rfl; omega
  have e2 : acc + b % 128 * 128 ^ i = valN (s.data.toList.take i ++ [s[i]'hi]) := by rw [valN_snoc, hl, hb, hacc]
  rw [e1, e2]
  constructor
  · intro h ⟨h1, h2⟩
    have := encN_last _ _ _ (mkS_inj h) (by rw [hb]; exact h2)
    rw [this] at hl; simp at hl; omega
  · intro h
    congr 1
    refine enc_val _ _ hp (by omega) ?_
    by_cases h0 : i = 0
    · left; subst h0; simp
    · right; rw [hb]; omega

theorem valN_take (s : ByteArray) (i : Nat) (hi : i < s.size) (b : Nat) (hb : (s[i]'hi).toNat = b) : valN (s.data.toList.take (i + 1)) = valN (s.data.toList.take i) + b % 128 * 128 ^ i := by
  have hl : (s.data.toList.take i).length = i := by simp; have : s.data.size = s.size := rfl; omega
  rw [List.take_succ_eq_append_getElem (by simpa using hi), valN_snoc, hl]
  subst hb; rfl
theorem take_all (s : ByteArray) (i : Nat) (hi : i < s.size) (hp : ∀ x ∈ s.data.toList.take i, 128 ≤ x.toNat) (hb : 128 ≤ (s[i]'hi).toNat) : ∀ x ∈ s.data.toList.take (i + 1), 128 ≤ x.toNat := by
  intro x hx
  rw [List.take_succ_eq_append_getElem (by simpa using hi)] at hx
  rcases List.mem_append.1 hx with h | h
  · exact hp x h
  · simp at h; subst h; exact hb

theorem toList_yes {a b : ByteArray} (h : a = b) : (a.toList == b.toList) = true := by subst h; simp
theorem toList_no {a b : ByteArray} (h : a ≠ b) : (a.toList == b.toList) = false := by
  rw [beq_eq_false_iff_ne, ByteArray.toList_eq, ByteArray.toList_eq]
  intro e; exact h (ByteArray.ext (Array.toList_inj.1 e))
theorem pow7 : (128 : Nat) ^ 7 = 562949953421312 := by decide
end Go.Proofs.YtiakfopdohcigaaGreatDoor

namespace Go.Proofs.YtiakfopdohcigaaGreatDoor
set_option linter.unusedVariables false
set_option linter.unusedSimpArgs false
set_option maxRecDepth 100000
open Go.RowKit

set_option maxHeartbeats 1000000 in
set_option maxRecDepth 20000 in
theorem clone0 (s : ByteArray) (w : World) (hlim : s.size ≤ 140737488351232) :
    Calls Tryz.prog 110 #[.string s] w fun e w' => e = .returned (.string s) ∧ Below w.heap.size w w' := by
  by_cases h0 : s.size = 0
  · obtain rfl : s = ⟨#[]⟩ := ByteArray.ext (Array.eq_empty_of_size_eq_zero h0)
    go_enter Tryz.func110, Tryz.ntmps110
    go_wp2
    go_ret
    exact ⟨rfl, Below.refl _ _⟩
  · obtain ⟨i0, hi, hz0, hz1, hz2⟩ := info_parts info5o
    have hsz : s.data.toList.length = s.size := by simp
    have hne : s.data.toList ≠ [] := fun e => h0 (by rw [← hsz, e]; rfl)
    obtain ⟨M, hM⟩ : ∃ M, M = madeCells (Value.int .u8 0).cells (((s.size : Nat) : Int).toNat * i0.size) := ⟨_, rfl⟩
    have hMs : M.size = s.size := by rw [hM, size_madeCells, hz1]; simp
    have hmk : ∀ W : World, (Instr.makeSlice 135 (.int .i64 (s.size : Int)) (.int .i64 (s.size : Int))).run Tryz.prog W = .ok (.slice (some ⟨W.heap.size, 0, none⟩) s.size s.size) (W.alloc (.cells M 5)) := fun W => by
      have h := run_make (P := Tryz.prog) W 135 5 i0 (.int .u8 0) Tryz.underlying135 hi hz0 .i64 .i64 (s.size : Int) (s.size : Int) (by omega) (by omega) (by rw [hz2]; omega) (by omega)
      rw [← hM] at h
      simpa using h
    clear hM
    have hcp := Lib.run_copy_row_string (P := Tryz.prog) (w.alloc (.cells M 5)) 135 9 3 5 w.heap.size 0 s.size s.size s M 5 Tryz.underlying135 (by rw [hi]; simp [hz1]) (heap_alloc_new w _) (Nat.le_refl _) (by omega)
    obtain ⟨Y, hY⟩ : ∃ Y, Y = (M.toList.take 0 ++ Lib.byteCells s.data.toList ++ M.toList.drop (0 + s.size)).toArray := ⟨_, rfl⟩
    rw [← hY] at hcp
    have hYl : Y.toList = Lib.byteCells s.data.toList := by
      rw [hY, List.toList_toArray, List.take_zero, List.nil_append, List.drop_of_length_le (by rw [Array.length_toList]; omega), List.append_nil]
    have hYs : Y.size = s.size := by rw [← Array.length_toList, hYl, Lib.byteCells_length, hsz]
    have hgY : ((w.alloc (.cells M 5)).setRow w.heap.size Y).heap[w.heap.size]? = some (.cells Y 5 (0, 0)) := setRow_heap _ _ M _ 5 (0, 0) (heap_alloc_new w _)
    have hUS := Lib.run_unsafeString_row (P := Tryz.prog) ((w.alloc (.cells M 5)).setRow w.heap.size Y) 165 3 9 5 Tryz.underlying165 (by simp [Program.cellsOf, hi, hz1]) w.heap.size Y.size (by unfold World.shape?; rw [hgY]) s.data.toList hne (by omega) (by omega)
      (fun j x hx => Lib.cells_of_row hgY Y.size j _ (by rw [List.take_of_length_le (by rw [Array.length_toList]; exact Nat.le_refl _), hYl]; simp [Lib.byteCells, hx]))
    rw [hsz] at hUS
    clear hY
    go_enter Tryz.func110, Tryz.ntmps110
    go_wp2
    go_ret
    have hb1 : Below w.heap.size w (w.alloc (.cells M 5)) := (Below.refl _ w).alloc (Nat.le_refl _) _
    have hb2 : Below w.heap.size (w.alloc (.cells M 5)) ((w.alloc (.cells M 5)).setRow w.heap.size Y) := ⟨rfl, rfl, rfl, by simp, fun k hk => setRow_other _ _ _ _ (by omega)⟩
    exact ⟨rfl, Lib.below_freeze (hb1.trans hb2) (p := ⟨w.heap.size, 0, none⟩) (Nat.le_refl _) _⟩

theorem clone (s : ByteArray) (w : World) (hlim : s.size ≤ 140737488351232) :
    Calls Tryz.prog 59 #[.string s] w fun e w' => e = .returned (.string s) ∧ Below w.heap.size w w' := by
  go_enter Tryz.func59, Tryz.ntmps59
  go_wp2_with (go_at_call 110; (refine (clone0 _ _ hlim).mono ?_); rintro e w1 ⟨rfl, hb1⟩)
  go_ret
  exact ⟨rfl, hb1⟩

/-- The bytes of a text. -/
def encT (t : ByteArray) : List UInt8 := encN t.size ++ t.data.toList

def textS (t : ByteArray) : ByteArray := if t.size ≤ 8192 then mkS (encT t) else ByteArray.empty
def textE (t : ByteArray) : Int := if t.size ≤ 8192 then 0 else 7
theorem textS_yes {t : ByteArray} (h : t.size ≤ 8192) : textS t = mkS (encT t) := by unfold textS; rw [if_pos h]
theorem textE_yes {t : ByteArray} (h : t.size ≤ 8192) : textE t = 0 := by unfold textE; rw [if_pos h]
theorem textS_no {t : ByteArray} (h : ¬ t.size ≤ 8192) : textS t = ByteArray.empty := by unfold textS; rw [if_neg h]
theorem textE_no {t : ByteArray} (h : ¬ t.size ≤ 8192) : textE t = 7 := by unfold textE; rw [if_neg h]
end Go.Proofs.YtiakfopdohcigaaGreatDoor

namespace Go.Proofs.YtiakfopdohcigaaGreatDoor
set_option linter.unusedVariables false
set_option linter.unusedSimpArgs false
set_option maxRecDepth 100000
open Go.RowKit

/-- A slice of texts in memory. -/
def StrsAt (w : World) (v : Value) (ss : List ByteArray) : Prop :=
  ∃ a cap, v = .slice a ss.length cap ∧ ∀ k (h : k < ss.length), ∃ b off, a = some ⟨b, off, none⟩ ∧ w.cell? ⟨b, off + k, none⟩ = some (.string ss[k])
theorem StrsAt.below {w w' : World} {v : Value} {ss : List ByteArray} (h : StrsAt w v ss) {B : Nat} (hb : Below B w w') (hB : w.heap.size ≤ B) : StrsAt w' v ss := by
  obtain ⟨a, cap, e, hc⟩ := h
  refine ⟨a, cap, e, fun k hk => ?_⟩
  obtain ⟨b, off, ea, hc⟩ := hc k hk
  refine ⟨b, off, ea, ?_⟩
  have := World.block_lt_of_cell? w _ hc
  rw [hb.cell (p := ⟨b, off + k, none⟩) (by simp at this ⊢; omega)]; exact hc

def encTs (ss : List ByteArray) : List UInt8 := ss.flatMap encT
def encL (ss : List ByteArray) : List UInt8 := encN ss.length ++ encTs ss
def okL (ss : List ByteArray) : Prop := ss.length ≤ 256 ∧ ∀ s ∈ ss, s.size ≤ 8192
instance (ss : List ByteArray) : Decidable (okL ss) := by unfold okL; exact inferInstance
def listS (ss : List ByteArray) : ByteArray := if okL ss then mkS (encL ss) else ByteArray.empty
def listE (ss : List ByteArray) : Int := if okL ss then 0 else 7
theorem listS_yes {ss : List ByteArray} (h : okL ss) : listS ss = mkS (encL ss) := by unfold listS; rw [if_pos h]
theorem listE_yes {ss : List ByteArray} (h : okL ss) : listE ss = 0 := by unfold listE; rw [if_pos h]
theorem listS_no {ss : List ByteArray} (h : ¬ okL ss) : listS ss = ByteArray.empty := by unfold listS; rw [if_neg h]
theorem listE_no {ss : List ByteArray} (h : ¬ okL ss) : listE ss = 7 := by unfold listE; rw [if_neg h]
theorem encT_len (t : ByteArray) (h : t.size ≤ 8192) : (encT t).length ≤ 8202 := by
  unfold encT; have := encN_len64 t.size (by omega); simp; omega
theorem encTs_len (ss : List ByteArray) (h : ∀ s ∈ ss, s.size ≤ 8192) : (encTs ss).length ≤ 8202 * ss.length := by
  induction ss with
  | nil => simp [encTs]
  | cons s ss ih =>
    have h1 := encT_len s (h s (by simp))
    have h2 := ih fun x hx => h x (by simp [hx])
    simp only [encTs, List.flatMap_cons, List.length_append, List.length_cons] at *
    omega
theorem encTs_take (ss : List ByteArray) (k : Nat) (h : k < ss.length) : encTs (ss.take (k + 1)) = encTs (ss.take k) ++ encT ss[k] := by
  unfold encTs
  rw [List.take_succ_eq_append_getElem h, List.flatMap_append]; simp
theorem encTs_take_len (ss : List ByteArray) (k : Nat) (hk : k ≤ ss.length) (h : okL ss) : (encTs (ss.take k)).length ≤ 8202 * 256 := by
  have := encTs_len (ss.take k) fun s hs => h.2 s (List.mem_of_mem_take hs)
  have h1 : (ss.take k).length ≤ 256 := by have := h.1; simp; omega
  omega
end Go.Proofs.YtiakfopdohcigaaGreatDoor

namespace Go.Proofs.YtiakfopdohcigaaGreatDoor
set_option linter.unusedVariables false
set_option linter.unusedSimpArgs false
set_option maxRecDepth 100000
open Go.RowKit

/-- What is read is small. -/
theorem gnAux_bd (k i acc : Nat) (l : List UInt8) : (gnAux k i acc l).1 ≤ 281474976710656 ∧ (gnAux k i acc l).2.1 ≤ i + k ∧ (gnAux k i acc l).2.1 ≤ i + l.length ∧ (gnAux k i acc l).2.2 ≤ 6 := by
  induction k generalizing i acc l with
  | zero => simp [gnAux]
  | succ k ih =>
    cases l with
    | nil => simp [gnAux]
    | cons b r =>
      rw [gnAux]
      split
      · obtain ⟨h1, h2, h3, h4⟩ := ih (i + 1) (acc + b.toNat % 128 * 128 ^ i) r
        refine ⟨h1, by omega, by simp; omega, h4⟩
      · split
        · simp
        · rename_i h; refine ⟨by simp only; omega, by simp only; omega, by simp, by simp⟩
theorem gn_bd (l : List UInt8) : (gn l).1 ≤ 281474976710656 ∧ (gn l).2.1 ≤ 7 ∧ (gn l).2.1 ≤ l.length ∧ (gn l).2.2 ≤ 6 := by
  have := gnAux_bd 7 0 0 l; simpa [gn] using this

/-- The text that bytes begin with: the text, its size, the error. -/
def gt (s : ByteArray) : ByteArray × Nat × Nat :=
  let r := gn s.data.toList
  if r.2.2 ≠ 0 then (ByteArray.empty, 0, r.2.2) else if 8192 < r.1 then (ByteArray.empty, 0, 7) else if s.size < r.2.1 + r.1 then (ByteArray.empty, 0, 5) else (s.extract r.2.1 (r.2.1 + r.1), r.2.1 + r.1, 0)
def tupT (r : ByteArray × Nat × Nat) : Value := .tuple #[.string r.1, .int .i64 r.2.1, .int .i64 r.2.2]

theorem errB {e : Nat} (h : e ≠ 0) : (((e : Nat) : Int) != 0) = true := by simp; omega
theorem errB0 {e : Nat} (h : e = 0) : (((e : Nat) : Int) != 0) = false := by simp; omega
end Go.Proofs.YtiakfopdohcigaaGreatDoor

namespace Go.Proofs.YtiakfopdohcigaaGreatDoor
set_option linter.unusedVariables false
set_option linter.unusedSimpArgs false
set_option maxRecDepth 100000
open Go.RowKit

/-- A row of values of one cell each that the call itself has made. -/
def OwnV (w : World) (B e : Nat) (v : Value) (l : List Value) : Prop := w.ownsRow B e 1 v l.length l
theorem OwnV.nil (w : World) (B e : Nat) : OwnV w B e (.slice none 0 0) [] := World.ownsRow_nil w B e 1
theorem OwnV.kept {w w' : World} {B C e : Nat} {v : Value} {l : List Value} (h : OwnV w B e v l) (hb : Below C w w') (hC : w.heap.size ≤ C) : OwnV w' B e v l := by
  refine ⟨h.1, ?_⟩
  rcases h.2 with hn | ⟨g, cap, cur, rfl, hb', hgg, rest⟩
  · exact .inl hn
  · refine .inr ⟨g, cap, cur, rfl, hb', ?_, rest⟩
    rw [hb.block g (by have := (Array.getElem?_eq_some_iff.1 hgg).1; omega)]
    exact hgg
theorem OwnV.alloc {w : World} {B e : Nat} {v : Value} {l : List Value} (h : OwnV w B e v l) (o : Obj) : OwnV (w.alloc o) B e v l := World.ownsRow.alloc h o

/-- 'append(v, u)' onto such a row: the operation, for the walk. -/
theorem wpList_appV {P : Program} {w : World} {ops : Array Oper} {rest : List Oper} {o : Oper} {a : Act} {Q : Exit → Act → World → Prop} (hgd : o.guard = none) (s x : Operand) (t : TypeId)
    (ho : o.op = .call { callee := .builtin .append, args := #[s, x], argTypes := #[t, t] }) (B e : Nat) (i : TypeInfo) (z : Value) (bytes : Nat) (ht : P.underlying t = some (.slice e)) (hi : P.info? e = some i)
    (hz0 : i.zero = some z) (hz1 : i.size = 1) (hz2 : i.bytes = bytes) (hzs : z.cells.size = 1) (v : Value) (l : List Value) (hs : a.eval s = v) (hown : OwnV w B e v l) (ad : Addr) (c : Nat) (u : Value)
    (hx : a.eval x = .slice (some ad) 1 c) (hc : w.cell? ad = some u) (hu : u.oneCell' = true) (hlen : l.length + 1 ≤ maxLen) (hby : (l.length + 1) * bytes ≤ 140737488355328) (hB : B ≤ w.heap.size)
    (h : ∀ v' w', OwnV w' B e v' (l ++ [u]) → Below B w w' → wpList P ops Q rest (a.put o.dst v') w') : wpList P ops Q (o :: rest) a w := by
  refine wpList_append_own w hgd s x t ho B e i z 1 bytes ht hi hz0 hz1 hz2 hzs (by decide) v l.length l hs hown ad 1 c [u] hx rfl ?_ ?_ hlen hby hB ?_
  · intro j y hj
    match j, hj with
    | 0, hj => simp at hj; subst hj; simpa [Addr.add] using hc
  · intro y hy; simp at hy; subst hy; exact hu
  · intro v' w' h1 h2 _
    refine h v' w' ?_ ((Below.refl B w).grown h2 hB fun k hk => (World.ownsRow.lt hown k hk).1)
    unfold OwnV; rw [List.length_append]; exact h1

/-- A row of texts. -/
def strV (ss : List ByteArray) : List Value := ss.map .string
theorem strV_snoc (ss : List ByteArray) (s : ByteArray) : strV ss ++ [.string s] = strV (ss ++ [s]) := by simp [strV]
theorem strV_length (ss : List ByteArray) : (strV ss).length = ss.length := by simp [strV]
theorem OwnV.strs {w : World} {B e : Nat} {v : Value} {ss : List ByteArray} (h : OwnV w B e v (strV ss)) : StrsAt w v ss := by
  have h' := h
  rcases h'.2 with ⟨rfl, hn⟩ | ⟨g, cap, cur, rfl, _⟩
  · have : ss = [] := List.eq_nil_of_length_eq_zero (by simpa [strV] using hn)
    subst this
    exact ⟨none, 0, rfl, fun k hk => by simp at hk⟩
  · refine ⟨some ⟨g, 0, none⟩, cap, by rw [strV_length], fun k hk => ⟨g, 0, rfl, ?_⟩⟩
    have := World.ownsRow.cells h (g := g) rfl k (.string ss[k]) (by simp [strV, hk])
    have e : (⟨g, 0, none⟩ : Addr).add k = ⟨g, 0 + k, none⟩ := by unfold Addr.add; split <;> simp_all
    rw [e] at this; exact this

/-- The texts of a list, one behind the other. -/
def glGo (s : ByteArray) : Nat → Nat → List ByteArray → List ByteArray × Nat × Nat
  | 0, p, xs => (xs, p, 0)
  | k + 1, p, xs =>
    if (gt (s.extract p s.size)).2.2 ≠ 0 then ([], 0, (gt (s.extract p s.size)).2.2)
    else glGo s k (p + (gt (s.extract p s.size)).2.1) (xs ++ [(gt (s.extract p s.size)).1])
def gl (s : ByteArray) : List ByteArray × Nat × Nat :=
  let r := gn s.data.toList
  if r.2.2 ≠ 0 then ([], 0, r.2.2) else if 256 < r.1 then ([], 0, 7) else glGo s r.1 r.2.1 []

theorem gt_bd (s : ByteArray) : (gt s).2.1 ≤ s.size ∧ (gt s).2.2 ≤ 7 ∧ (gt s).1.size ≤ 8192 := by
  unfold gt
  have hb := gn_bd s.data.toList
  simp only
  split
  · simp; omega
  · split
    · simp
    · split
      · simp
      · simp; omega

theorem info9 : (Tryz.prog.info? 9).map (fun i => (i.zero, i.size, i.bytes)) = some (some (.string ByteArray.empty), 1, 16) := by kernel_rfl
end Go.Proofs.YtiakfopdohcigaaGreatDoor

namespace Go.Proofs.YtiakfopdohcigaaGreatDoor
set_option linter.unusedVariables false
set_option linter.unusedSimpArgs false
set_option maxRecDepth 100000
open Go.RowKit

theorem glGo_bd (s : ByteArray) (k p : Nat) (xs : List ByteArray) (hp : p ≤ s.size) (hx : ∀ t ∈ xs, t.size ≤ 8192) :
    (glGo s k p xs).2.1 ≤ s.size ∧ (glGo s k p xs).2.2 ≤ 7 ∧ (glGo s k p xs).1.length ≤ xs.length + k ∧ ∀ t ∈ (glGo s k p xs).1, t.size ≤ 8192 := by
  induction k generalizing p xs with
  | zero => simp only [glGo]; exact ⟨hp, by omega, by omega, hx⟩
  | succ k ih =>
    have hb := gt_bd (s.extract p s.size)
    rw [glGo]
    split
    · simp only; exact ⟨by omega, hb.2.1, by simp, by simp⟩
    · have := ih (p + (gt (s.extract p s.size)).2.1) (xs ++ [(gt (s.extract p s.size)).1]) (by have := hb.1; simp at this; omega) (by
        intro t ht
        rcases List.mem_append.1 ht with h | h
        · exact hx t h
        · simp at h; subst h; exact hb.2.2)
      refine ⟨this.1, this.2.1, ?_, this.2.2.2⟩
      have h2 := this.2.2.1; simp at h2; omega
theorem gl_bd (s : ByteArray) : (gl s).2.1 ≤ s.size ∧ (gl s).2.2 ≤ 7 ∧ (gl s).1.length ≤ 256 ∧ ∀ t ∈ (gl s).1, t.size ≤ 8192 := by
  unfold gl
  have hb := gn_bd s.data.toList
  simp only
  split
  · simp; omega
  · split
    · simp
    · have := glGo_bd s (gn s.data.toList).1 (gn s.data.toList).2.1 [] (by have := hb.2.2.1; simpa using this) (by simp)
      refine ⟨this.1, this.2.1, ?_, this.2.2.2⟩
      have h2 := this.2.2.1; simp at h2; omega

def al (s : ByteArray) : List ByteArray × Nat :=
  if (gl s).2.2 ≠ 0 then ([], (gl s).2.2) else if (gl s).2.1 < s.size then ([], 6) else ((gl s).1, 0)

theorem strsNil (w : World) : StrsAt w (.slice none 0 0) [] := ⟨none, 0, rfl, fun k hk => by simp at hk⟩

def sameB (ss tt : List ByteArray) : Bool := decide (ss = tt)
theorem sameB_len {ss tt : List ByteArray} (h : ss.length ≠ tt.length) : sameB ss tt = false := by unfold sameB; simp; intro e; exact h (by rw [e])
theorem sameB_at {ss tt : List ByteArray} (k : Nat) (h : k < ss.length) (h' : k < tt.length) (hne : ss[k] ≠ tt[k]) : sameB ss tt = false := by unfold sameB; simp; intro e; subst e; exact hne rfl
theorem sameB_all {ss tt : List ByteArray} (hl : ss.length = tt.length) (h : ∀ k (h : k < ss.length) (h' : k < tt.length), ss[k] = tt[k]) : sameB ss tt = true := by
  unfold sameB; simp; exact List.ext_getElem hl h
theorem sameB_self (ss : List ByteArray) : sameB ss ss = true := by unfold sameB; simp
end Go.Proofs.YtiakfopdohcigaaGreatDoor

namespace Go.Proofs.YtiakfopdohcigaaGreatDoor
set_option linter.unusedVariables false
set_option linter.unusedSimpArgs false
set_option maxRecDepth 100000
open Go.RowKit Go.Shelf
attribute [local go_sem] Oper.semAt_some

/-- What one round is handed: the text, its size, the error. -/
abbrev Pc := { x : ByteArray × Nat × Nat // x.1.size ≤ 8192 ∧ x.2.1 ≤ 8199 ∧ x.2.2 ≤ 7 }
def encP (x : Pc) : Array Value := #[.agg #[.string x.1.1, .int .i64 x.1.2.1, .int .i64 x.1.2.2]]
theorem gt_bd2 (s : ByteArray) : (gt s).1.size ≤ 8192 ∧ (gt s).2.1 ≤ 8199 ∧ (gt s).2.2 ≤ 7 := by
  refine ⟨(gt_bd s).2.2, ?_, (gt_bd s).2.1⟩
  unfold gt
  have hb := gn_bd s.data.toList
  simp only
  repeat' split
  all_goals simp
  omega
def gtP (s : ByteArray) : Pc := ⟨gt s, gt_bd2 s⟩
def pcs : Nat → ByteArray → List Pc
  | 0, _ => []
  | k + 1, s => gtP s :: (if (gt s).2.2 ≠ 0 then [] else pcs k (s.extract (gt s).2.1 s.size))

theorem grown_of_below {w w' : World} (h : Below w.heap.size w w') : w.grownBy w' none := ⟨h.os, h.tape, h.output, h.size, fun k hk _ => h.block k hk⟩
end Go.Proofs.YtiakfopdohcigaaGreatDoor

namespace Go.Proofs.YtiakfopdohcigaaGreatDoor
set_option linter.unusedVariables false
set_option linter.unusedSimpArgs false
set_option maxRecDepth 100000
open Go.RowKit Go.Shelf
attribute [local go_sem] Oper.semAt_some

/-- The first error of the pieces; 0: none. -/
def fe : List Pc → Nat
  | [] => 0
  | x :: r => if x.1.2.2 ≠ 0 then x.1.2.2 else fe r
def txs (l : List Pc) : List ByteArray := l.map fun x => x.1.1
def szs : List Pc → Nat
  | [] => 0
  | x :: r => x.1.2.1 + szs r
theorem fe_snoc (l : List Pc) (x : Pc) (h : fe l = 0) : fe (l ++ [x]) = x.1.2.2 := by
  induction l with
  | nil => by_cases hx : x.1.2.2 = 0 <;> simp [fe, hx]
  | cons y r ih =>
    by_cases hy : y.1.2.2 = 0
    · simp only [List.cons_append, fe, hy, ne_eq, not_true_eq_false, if_false] at h ⊢; exact ih h
    · simp only [fe, ne_eq, hy, not_false_eq_true, if_true] at h
theorem fe_append (l m : List Pc) (h : fe l ≠ 0) : fe (l ++ m) = fe l := by
  induction l with
  | nil => simp [fe] at h
  | cons y r ih =>
    by_cases hy : y.1.2.2 = 0
    · simp only [List.cons_append, fe, hy, ne_eq, not_true_eq_false, if_false] at h ⊢; exact ih h
    · simp only [List.cons_append, fe, ne_eq, hy, not_false_eq_true, if_true]
theorem szs_snoc (l : List Pc) (x : Pc) : szs (l ++ [x]) = szs l + x.1.2.1 := by
  induction l with
  | nil => simp [szs]
  | cons y r ih => simp only [List.cons_append, szs, ih]; omega
theorem txs_snoc (l : List Pc) (x : Pc) : txs (l ++ [x]) = txs l ++ [x.1.1] := by simp [txs]
theorem szs_bd (l : List Pc) : szs l ≤ 8199 * l.length := by
  induction l with
  | nil => simp [szs]
  | cons y r ih => have := y.2.2.1; simp only [szs, List.length_cons]; omega
theorem pcs_len (k : Nat) (s : ByteArray) : (pcs k s).length ≤ k := by
  induction k generalizing s with
  | zero => simp [pcs]
  | succ k ih =>
    rw [pcs, List.length_cons]
    split
    · simp
    · have := ih (s.extract (gt s).2.1 s.size); omega
theorem ext_ext (s : ByteArray) (p q : Nat) (h : p + q ≤ s.size) : (s.extract p s.size).extract q (s.extract p s.size).size = s.extract (p + q) s.size := by
  apply ByteArray.ext
  simp only [ByteArray.data_extract, Array.extract_extract, ByteArray.size_extract]
  congr 1
  omega
theorem glGo_pcs (s : ByteArray) (k p : Nat) (xs : List ByteArray) (hp : p ≤ s.size) :
    glGo s k p xs = if fe (pcs k (s.extract p s.size)) ≠ 0 then ([], 0, fe (pcs k (s.extract p s.size))) else (xs ++ txs (pcs k (s.extract p s.size)), p + szs (pcs k (s.extract p s.size)), 0) := by
  induction k generalizing p xs with
  | zero => simp [glGo, pcs, fe, txs, szs]
  | succ k ih =>
    rw [glGo, pcs]
    have hb := (gt_bd (s.extract p s.size)).1
    have hq : p + (gt (s.extract p s.size)).2.1 ≤ s.size := by simp at hb; omega
    by_cases he : (gt (s.extract p s.size)).2.2 = 0
    · have hg : (gtP (s.extract p s.size)).1 = gt (s.extract p s.size) := rfl
      have hc : ¬ ((gt (s.extract p s.size)).2.2 ≠ 0) := by simpa using he
      rw [if_neg hc, if_neg hc, ih _ _ hq, ext_ext s p _ hq]
      simp only [fe, hg, he, ne_eq, not_true_eq_false, if_false, szs]
      have e1 : txs (gtP (s.extract p s.size) :: pcs k (s.extract (p + (gt (s.extract p s.size)).2.1) s.size)) = (gt (s.extract p s.size)).1 :: txs (pcs k (s.extract (p + (gt (s.extract p s.size)).2.1) s.size)) := rfl
      rw [e1]
      split
      · rfl
      · simp [Nat.add_assoc]
    · have hg : (gtP (s.extract p s.size)).1 = gt (s.extract p s.size) := rfl
      rw [if_pos he, if_pos he]
      simp only [fe, hg, ne_eq, he, not_false_eq_true, if_true]

theorem gl_yes (s : ByteArray) (n k : Nat) (h : gn s.data.toList = (n, k, 0)) (hn : n ≤ 256) (hk : k ≤ s.size) (hf : fe (pcs n (s.extract k s.size)) = 0) :
    gl s = (txs (pcs n (s.extract k s.size)), k + szs (pcs n (s.extract k s.size)), 0) := by
  unfold gl; rw [h]; simp only [ne_eq, not_true_eq_false, if_false]
  rw [if_neg (by omega), glGo_pcs s n k [] hk, if_neg (by simpa using hf)]; simp
theorem gl_err (s : ByteArray) (n k : Nat) (h : gn s.data.toList = (n, k, 0)) (hn : n ≤ 256) (hk : k ≤ s.size) (pre : List Pc) (hp : pre <+: pcs n (s.extract k s.size)) (hf : fe pre ≠ 0) :
    gl s = ([], 0, fe pre) := by
  have hf2 : fe (pcs n (s.extract k s.size)) = fe pre := by
    obtain ⟨t, ht⟩ := hp; rw [← ht]; exact fe_append _ _ hf
  unfold gl; rw [h]; simp only [ne_eq, not_true_eq_false, if_false]
  rw [if_neg (by omega), glGo_pcs s n k [] hk, if_pos (by rw [hf2]; exact hf), hf2]

theorem size8 (w : World) (o1 o2 o3 o4 o5 o6 o7 o8 : Obj) : ((((((((w.alloc o1).alloc o2).alloc o3).alloc o4).alloc o5).alloc o6).alloc o7).alloc o8).heap.size = w.heap.size + 8 := by simp

theorem OwnAnd {β : Type} {I I' : β → World → Prop} (h : Go.Own I) (h' : Go.Own I') : Go.Own (fun s W => I s W ∧ I' s W) := fun s W W' row hs hg hr => ⟨h s W W' row hs.1 hg hr, h' s W W' row hs.2 hg hr⟩
theorem OwnPure {β : Type} (p : β → Prop) : Go.Own (fun s (_ : World) => p s) := fun _ _ _ _ hs _ _ => hs
theorem not_row_cells {W : World} {B : Nat} {t e : TypeId} {c : Array Value} {fz : Nat × Nat} (h : W.heap[B]? = some (.cells c t fz)) (hte : t ≠ e) {base size k : Nat} {v : Value} {xs : List Value} (hr : W.ownsRow base e size v k xs) : some B ≠ v.ownBlock := by
  rcases hr.2 with ⟨rfl, _⟩ | ⟨g, cap, cur, rfl, _, hgb, _⟩
  · simp [Value.ownBlock]
  · intro e'
    obtain rfl : B = g := by simpa [Value.ownBlock] using e'
    rw [h] at hgb; cases hgb; exact hte rfl
theorem OwnSize {β : Type} (m : Nat) : Go.Own (fun (_ : β) (W : World) => m ≤ W.heap.size) := fun _ _ _ _ hs hg _ => Nat.le_trans hs hg.size
/-- Between two rounds: what the loop's cells hold. -/
def IGL (w : World) (m0 p : Nat) (pre : List Pc) (W : World) : Prop :=
  (((((∃ v, Boxed W (w.heap.size + 1 + 1 + 1 + 1 + 1) 31 v ∧ W.ownsRow w.heap.size 9 1 v (strV (txs pre)).length (strV (txs pre)) ∧ True) ∧ Boxed W (w.heap.size + 1 + 1 + 1) 3 (.int .i64 ((p + szs pre : Nat) : Int))) ∧
    (Boxed W w.heap.size 31 (.slice none 0 0) ∧ Boxed W (w.heap.size + 1) 3 (.int .i64 0))) ∧ (Boxed W (w.heap.size + 1 + 1) 26 (.int .i64 0) ∧ fe pre = 0)) ∧ m0 ≤ W.heap.size) ∧ Below w.heap.size w W
/-- Where a round has left with an error. -/
def IxGL (w : World) (c : Code) (pre : List Pc) (W : World) : Prop :=
  (((c = .ret ∧ fe pre ≠ 0) ∧ (Boxed W w.heap.size 31 (.slice none 0 0) ∧ Boxed W (w.heap.size + 1) 3 (.int .i64 0))) ∧ Boxed W (w.heap.size + 1 + 1) 26 (.int .i64 ((fe pre : Nat) : Int))) ∧ Below w.heap.size w W
theorem IGL_own (w : World) (m0 p B : Nat) (hB : w.heap.size ≤ B) : OwnFrom B (IGL w m0 p) :=
  OwnFrom.and (Go.Own.from (OwnAnd (OwnAnd (OwnAnd (OwnAnd (holdsRow_own w.heap.size _ _ _ 1 (fun pre => (strV (txs pre)).length) (fun pre => strV (txs pre)) (fun _ _ => True)) (boxed_own _ _ _)) (OwnAnd (boxed_own _ _ _) (boxed_own _ _ _))) (OwnAnd (boxed_own _ _ _) (OwnPure fun pre => fe pre = 0))) (OwnSize m0)) _) (ownFrom_below (Nat.le_refl _) hB)
theorem IxGL_own (w : World) (c : Code) (B : Nat) (hB : w.heap.size ≤ B) : OwnFrom B (IxGL w c) :=
  OwnFrom.and (Go.Own.from (OwnAnd (OwnAnd (OwnPure fun pre => c = .ret ∧ fe pre ≠ 0) (OwnAnd (boxed_own _ _ _) (boxed_own _ _ _))) (boxed_own _ _ _)) _) (ownFrom_below (Nat.le_refl _) hB)
theorem at8 (w : World) (o1 o2 o3 o4 o5 o6 o7 o8 : Obj) (W : World) (hW : W = (((((((w.alloc o1).alloc o2).alloc o3).alloc o4).alloc o5).alloc o6).alloc o7).alloc o8) :
    W.heap[w.heap.size]? = some o1 ∧ W.heap[w.heap.size + 1]? = some o2 ∧ W.heap[w.heap.size + 1 + 1]? = some o3 ∧ W.heap[w.heap.size + 1 + 1 + 1]? = some o4 ∧ W.heap[w.heap.size + 1 + 1 + 1 + 1]? = some o5 ∧
    W.heap[w.heap.size + 1 + 1 + 1 + 1 + 1]? = some o6 ∧ W.heap[w.heap.size + 1 + 1 + 1 + 1 + 1 + 1]? = some o7 ∧ W.heap[w.heap.size + 1 + 1 + 1 + 1 + 1 + 1 + 1]? = some o8 ∧ W.heap.size = w.heap.size + 8 ∧ Below w.heap.size w W := by
  subst hW
  refine ⟨?_, ?_, ?_, ?_, ?_, ?_, ?_, ?_, ?_, ?_⟩
  all_goals first
    | exact ((((((((Below.refl _ w).alloc (Nat.le_refl _) _).alloc (by simp) _).alloc (by simp; omega) _).alloc (by simp; omega) _).alloc (by simp; omega) _).alloc (by simp; omega) _).alloc (by simp; omega) _).alloc (by simp; omega) _
    | (simp; done)
    | (simp only [World.alloc, Array.getElem?_push, Array.size_push]; (repeat rw [if_neg (by omega)]); first | rfl | (rw [if_pos (by omega)]) | (rw [if_pos rfl]))
end Go.Proofs.YtiakfopdohcigaaGreatDoor

namespace Go.Proofs.YtiakfopdohcigaaGreatDoor
set_option linter.unusedVariables false
set_option linter.unusedSimpArgs false
set_option maxRecDepth 100000
open Go.RowKit

theorem strsLit2 (w : World) (a b : ByteArray) (e : Nat) : StrsAt (w.alloc (.cells #[.string a, .string b] e)) (.slice (some ⟨w.heap.size, 0, none⟩) 2 2) [a, b] := by
  refine ⟨_, _, rfl, fun k hk => ⟨w.heap.size, 0, rfl, ?_⟩⟩
  have h : (w.alloc (.cells #[.string a, .string b] e)).heap[w.heap.size]? = some (.cells #[.string a, .string b] e) := heap_alloc_new w _
  match k, hk with
  | 0, _ => unfold World.cell?; dsimp only; rw [h]; rfl
  | 1, _ => unfold World.cell?; dsimp only; rw [h]; rfl
theorem e300 : mkS (encN 300) = ⟨#[172, 2]⟩ := by rw [encN_ge (by omega), encN_lt (by omega)]; rfl
def sab : List ByteArray := [⟨#[97, 98]⟩, ⟨#[]⟩]
theorem esab : listS sab = ⟨#[2, 2, 97, 98, 0]⟩ ∧ listE sab = 0 := by
  have hok : okL sab := by refine ⟨by decide, ?_⟩; intro s hs; simp [sab] at hs; rcases hs with rfl | rfl <;> decide
  rw [listS_yes hok, listE_yes hok]
  refine ⟨?_, rfl⟩
  have h0 : encN 0 = [0] := by rw [encN_lt (by omega)]; rfl
  have h2 : encN 2 = [2] := by rw [encN_lt (by omega)]; rfl
  unfold encL encTs encT sab
  simp only [List.length_cons, List.length_nil, List.flatMap_cons, List.flatMap_nil]
  rw [show (ByteArray.mk #[97, 98]).size = 2 from rfl, show (ByteArray.mk #[]).size = 0 from rfl, h0, show 0 + 1 + 1 = 2 from rfl, h2]
  rfl
theorem al1 : al ⟨#[2, 2, 97, 98, 0]⟩ = (sab, 0) := by decide +kernel
theorem al2 : al ⟨#[2, 2, 97, 98, 0, 33]⟩ = ([], 6) := by decide +kernel
theorem gn1 : gn [172, 2, 33] = (300, 2, 0) := by decide +kernel
theorem gn2 : gn [128, 0] = (0, 0, 6) := by decide +kernel
theorem gn3 : gn [128] = (0, 0, 5) := by decide +kernel
theorem gt1 : gt ⟨#[1, 97, 98]⟩ = (⟨#[97]⟩, 2, 0) := by decide +kernel
end Go.Proofs.YtiakfopdohcigaaGreatDoor
