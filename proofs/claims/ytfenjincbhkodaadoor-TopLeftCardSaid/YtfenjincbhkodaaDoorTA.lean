/-
  Joined: OctM OctA OctB OctC OctD OctE OctF OctG OctH OctI OctJ OctK OctL OctQ.
-/
import Derived.WalkKit
import Derived.Test.YtfenjincbhkodaaDoorRows
import Derived.WalkSpells
import Derived.WalkLawsBesides
import Derived.Handy
import Derived.Lib.UnsafeStr
import Derived.Lib.BufferWrite
import Derived.BigQuiet
import Derived.Deep.QuietTactic
import Derived.RangeFuncNested
import Derived.RangeFuncBound
import Derived.RangeFuncCalls
import Derived.RangeFuncLeaves
import Derived.RangeFuncBox
import Derived.Shelf.Abstract
import Derived.Shelf.RegionOpen
import Derived.OwnWalkIn
import Derived.TacticsInMore
import Derived.LoopNIn
import Derived.LoopIn
import Derived.Maps.AppendAt
namespace Go.Proofs.YtfenjincbhkodaaDoor
set_option linter.unusedVariables false
set_option linter.unusedSimpArgs false
set_option maxRecDepth 100000
set_option linter.unusedVariables false
set_option linter.unusedSimpArgs false
open Go.RowKit

/-- A byte that another one follows; the last one. -/
def contB (m : Nat) : UInt8 := UInt8.ofNat (m % 128 + 128)
def lastB (m : Nat) : UInt8 := UInt8.ofNat m
/-- The bytes of a number: seven bits a byte, the last one below 128. -/
def encN (n : Nat) : List UInt8 := if h : n < 128 then [lastB n] else contB n :: encN (n / 128)
termination_by n
decreasing_by omega

theorem encN_lt {n : Nat} (h : n < 128) : encN n = [lastB n] := by rw [encN, dif_pos h]
theorem encN_ge {n : Nat} (h : 128 ≤ n) : encN n = contB n :: encN (n / 128) := by rw [encN, dif_neg (by omega)]

theorem encN_len (k n : Nat) (h : n < 128 ^ (k + 1)) : (encN n).length ≤ k + 1 := by
  induction k generalizing n with
  | zero => rw [encN_lt (by simpa using h)]; simp
  | succ k ih =>
    by_cases h1 : n < 128
    · rw [encN_lt h1]; simp
    · rw [encN_ge (by omega)]
      have : n / 128 < 128 ^ (k + 1) := by
        rw [Nat.div_lt_iff_lt_mul (by omega)]
        rw [Nat.pow_succ] at h; exact h
      have := ih _ this
      simp; omega
theorem encN_len64 (n : Nat) (h : n < 18446744073709551616) : (encN n).length ≤ 10 := encN_len 9 n (by omega)
theorem encN_pos (n : Nat) : 0 < (encN n).length := by
  by_cases h : n < 128
  · rw [encN_lt h]; simp
  · rw [encN_ge (by omega)]; simp

theorem hidp {p : Prop} (h : p) : Hid p := h

/-- A byte as a cell. -/
def bv (l : List UInt8) : List Value := l.map fun b => .int .u8 b.toNat
theorem bv_append (a b : List UInt8) : bv (a ++ b) = bv a ++ bv b := by simp [bv]
theorem bv_one (b : UInt8) : bv [b] = [.int .u8 b.toNat] := rfl

/-- A row of bytes that the call itself has made. -/
def Own (w : World) (B e : Nat) (v : Value) (l : List UInt8) : Prop := w.ownsRow B e 1 v l.length (bv l)
theorem Own.nil (w : World) (B e : Nat) : Own w B e (.slice none 0 0) [] := World.ownsRow_nil w B e 1
theorem Own.alloc {w : World} {B e : Nat} {v : Value} {l : List UInt8} (h : Own w B e v l) (o : Obj) : Own (w.alloc o) B e v l := World.ownsRow.alloc h o

/-- 'append(v, b)' onto a row of the call's own: the operation, for the walk. -/
theorem wpList_app1 {P : Program} {w : World} {ops : Array Oper} {rest : List Oper} {o : Oper} {a : Act} {Q : Exit → Act → World → Prop} (hgd : o.guard = none) (s x : Operand) (t : TypeId)
    (ho : o.op = .call { callee := .builtin .append, args := #[s, x], argTypes := #[t, t] }) (B e : Nat) (i : TypeInfo) (ht : P.underlying t = some (.slice e)) (hi : P.info? e = some i)
    (hz0 : i.zero = some (.int .u8 0)) (hz1 : i.size = 1) (hz2 : i.bytes = 1) (v : Value) (l : List UInt8) (hs : a.eval s = v) (hown : Own w B e v l) (ad : Addr) (c : Nat) (z : Int) (b : UInt8)
    (hx : a.eval x = .slice (some ad) 1 c) (hc : w.cell? ad = some (.int .u8 z)) (hz : z = b.toNat) (hlen : l.length + 1 ≤ 140737488351232) (hB : B ≤ w.heap.size)
    (h : ∀ v' w', Own w' B e v' (l ++ [b]) → Below B w w' → wpList P ops Q rest (a.put o.dst v') w') : wpList P ops Q (o :: rest) a w := by
  subst hz
  refine wpList_append_own w hgd s x t ho B e i (.int .u8 0) 1 1 ht hi hz0 hz1 hz2 rfl (by decide) v l.length (bv l) hs hown ad 1 c [.int .u8 b.toNat] hx rfl ?_ ?_ (by unfold maxLen; omega) (by omega) hB ?_
  · intro j u hj
    match j, hj with
    | 0, hj => simp at hj; subst hj; simpa [Addr.add] using hc
  · intro u hu; simp at hu; subst hu; rfl
  · intro v' w' h1 h2 _
    refine h v' w' ?_ ((Below.refl B w).grown h2 hB fun k hk => (World.ownsRow.lt hown k hk).1)
    unfold Own; rw [bv_append, bv_one, List.length_append]; exact h1

theorem u8n (n : Nat) (h : n < 256) : (UInt8.ofNat n).toNat = n := by simp [UInt8.toNat_ofNat']; omega
theorem cell_new1 (w : World) (z : Value) (e : Nat) (fz : Nat × Nat := (0, 0)) : (w.alloc (.cells #[z] e fz)).cell? ⟨w.heap.size, 0, none⟩ = some z := by
  have h : (w.alloc (.cells #[z] e fz)).heap[w.heap.size]? = some (.cells #[z] e fz) := heap_alloc_new w _
  unfold World.cell?; dsimp only; rw [h]; rfl
/-- A text of bytes. -/
def mkS (l : List UInt8) : ByteArray := ⟨l.toArray⟩
theorem mkS_size (l : List UInt8) : (mkS l).size = l.length := by simp [mkS, ByteArray.size]
theorem mkS_append (a b : List UInt8) : mkS a ++ mkS b = mkS (a ++ b) := by unfold mkS; exact ByteArray.mk_append_mk a b
theorem mkS_of (s : ByteArray) : mkS s.data.toList = s := rfl
theorem mkS_data (l : List UInt8) : (mkS l).data.toList = l := rfl
theorem nums_mkS (l : List UInt8) : strOfNums (l.map fun b => (b.toNat : Int)) = mkS l := by
  unfold mkS strOfNums
  congr 2
  rw [List.map_map]
  conv => rhs; rw [← List.map_id l]
  apply List.map_congr_left
  intro b _
  simp

/-- Cells that are these bytes. -/
def AtB (w : World) (a : Addr) (l : List UInt8) : Prop := ∀ i, i < l.length → w.cell? ⟨a.block, a.off + i, none⟩ = some (.int .u8 (l.getD i 0).toNat)

/-- 'string(v)' of bytes in memory. -/
theorem run_str_at {P : Program} {w : World} {src e dst : TypeId} (hs : P.underlying src = some (.slice e)) (he : P.underlying e = some (.int .u8)) (hd : P.underlying dst = some .string)
    (b off cap : Nat) (l : List UInt8) (h : AtB w ⟨b, off, none⟩ l) : (convert src dst (.slice (some ⟨b, off, none⟩) l.length cap)).run P w = .ok (.string (mkS l)) w := by
  rw [← nums_mkS]
  refine run_convert_bytes_arg w src e hs he b off l.length cap (l.map fun b => (b.toNat : Int)) (by simp) (fun i hi => ?_) dst hd
  rw [h i hi]
  simp [List.getD_eq_getElem?_getD, hi]
theorem Own.at {w : World} {B e : Nat} {g cap : Nat} {l : List UInt8} (h : Own w B e (.slice (some ⟨g, 0, none⟩) l.length cap) l) : AtB w ⟨g, 0, none⟩ l := by
  intro i hi
  have := World.ownsRow.cells h (g := g) rfl i (.int .u8 (l.getD i 0).toNat) (by simp [bv, hi, List.getD_eq_getElem?_getD])
  have e : (⟨g, 0, none⟩ : Addr).add i = ⟨g, 0 + i, none⟩ := by unfold Addr.add; split <;> simp_all
  rw [e] at this; exact this
/-- 'string(v)' of a row of the call's own. -/
theorem run_str_own {P : Program} {w : World} {src e dst : TypeId} (hs : P.underlying src = some (.slice e)) (he : P.underlying e = some (.int .u8)) (hd : P.underlying dst = some .string)
    {B : Nat} {v : Value} {l : List UInt8} (h : Own w B e v l) : (convert src dst v).run P w = .ok (.string (mkS l)) w := by
  have h' := h
  rcases h'.2 with ⟨rfl, hn⟩ | ⟨g, cap, cur, rfl, _⟩
  · have : l = [] := List.eq_nil_of_length_eq_zero hn
    subst this
    exact run_convert_bytes_nil w src e hs he 0 0 dst hd
  · exact run_str_at hs he hd g 0 cap l h.at
theorem heap_size_alloc (w : World) (o : Obj) : (w.alloc o).heap.size = w.heap.size + 1 := by simp

theorem and127_u64 (m : Nat) (h : m < 18446744073709551616) : bits .and .u64 (m : Int) 127 = ((m % 128 : Nat) : Int) := by
  have := Go.u64_and_nat m 127 h (by omega)
  rw [show ((127 : Nat) : Int) = 127 from rfl] at this
  rw [this, show m &&& 127 = m % 128 from Nat.and_two_pow_sub_one_eq_mod m 7]
theorem or128 (a : Nat) (h : a < 128) : a ||| 128 = a + 128 := by
  have := Nat.two_pow_add_eq_or_of_lt (i := 7) (b := a) (by simpa using h) 1
  rw [Nat.or_comm]; simpa [Nat.add_comm] using this.symm
theorem cont_byte (m : Nat) (h : m < 18446744073709551616) : bits .or .u8 (bits .and .u64 (m : Int) 127 % 256) 128 = ((contB m).toNat : Int) := by
  rw [and127_u64 m h]
  have := Go.u8_or_nat (m % 128) 128 (by omega) (by omega)
  rw [show (((m % 128 : Nat) : Int) % 256) = ((m % 128 : Nat) : Int) from by omega]
  rw [show ((128 : Nat) : Int) = 128 from rfl] at this
  rw [this, or128 _ (by omega)]; unfold contB; rw [u8n _ (by omega)]
theorem last_byte (m : Nat) (h : m < 128) : (m : Int) = ((lastB m).toNat : Int) := by unfold lastB; rw [u8n _ (by omega)]
theorem snoc_encN (m : Nat) (ys zs : List UInt8) (h : 128 ≤ m) (e : ys ++ encN m = zs) : (ys ++ [contB m]) ++ encN (m / 128) = zs := by
  rw [← e, encN_ge h]; simp
theorem last_encN (m : Nat) (ys zs : List UInt8) (h : m < 128) (e : ys ++ encN m = zs) : ys ++ [lastB m] = zs := by
  rw [← e, encN_lt h]
end Go.Proofs.YtfenjincbhkodaaDoor

namespace Go.Proofs.YtfenjincbhkodaaDoor
set_option linter.unusedVariables false
set_option linter.unusedSimpArgs false
set_option maxRecDepth 100000
open Go.RowKit

theorem info5o : (Tryd.prog.info? 5).map (fun i => (i.zero, i.size, i.bytes)) = some (some (.int .u8 0), 1, 1) := by kernel_rfl

set_option maxHeartbeats 1000000 in
theorem addNum_own (w : World) (B : Nat) (v : Value) (xs : List UInt8) (n : Nat) (hn : n < 18446744073709551616) (hx : xs.length + 10 ≤ 140737488351232)
    (hown : Own w B 5 v xs) (hB : B ≤ w.heap.size) :
    Calls Tryd.prog 74 #[v, .int .u64 n] w fun e w' => ∃ v', e = .returned v' ∧ Own w' B 5 v' (xs ++ encN n) ∧ Below B w w' := by
  obtain ⟨i0, hi, hz0, hz1, hz2⟩ := info_parts info5o
  go_enter Tryd.func74, Tryd.ntmps74
  go_wp2
  go_loopw [0, 1] (fun t0 t1 wr => ∃ (m : Nat) (ys : List UInt8), t1 = .int .u64 m ∧ m ≤ n ∧ Own wr B 5 t0 ys ∧ ys ++ encN m = xs ++ encN n ∧ Below B w wr)
    (fun _ t1 _ => (intOf t1).toNat)
  case atStart => exact ⟨n, xs, rfl, Nat.le_refl _, hown, rfl, Below.refl _ _⟩
  case round =>
    obtain ⟨m, ys, rfl, hm, ho, heq, hbl⟩ := hrel
    have HE := hidp heq; clear heq
    have hyl : ys.length + (encN m).length = xs.length + (encN n).length := by have := congrArg List.length HE.out; simpa using this
    have hsz := hbl.size
    by_cases h128 : 128 ≤ m
    · have hcb := hidp (cont_byte m (by omega))
      have hl1 := hidp (congrArg List.length (encN_ge h128))
      have hroom : ys.length + 1 ≤ 140737488351232 := by have := hl1.out; simp at this; have := encN_len64 n hn; omega
      go_wp2_with ((at_builtin; (refine wpList_app1 rfl (.tmp 7) (.tmp 12) 92 rfl B 5 i0 Tryd.underlying92 hi hz0 hz1 hz2 _ ys rfl (ho.alloc _) ⟨wr.heap.size, 0, none⟩ _ _ (contB m) rfl (cell_new1 _ _ _) hcb.out hroom ?_ ?_)))
      · rw [heap_size_alloc]; omega
      · intro v' w1 ho1 hb1
        have hb2 := hbl.trans (((Below.refl B wr).alloc (by omega) _).trans hb1)
        clear hb1
        go_wp2
        refine ⟨⟨m / 128, ys ++ [contB m], by go_num, by omega, ho1, snoc_encN m ys _ h128 HE.out, hb2⟩, by simp [intOf]; omega⟩
    · have hlb := hidp (last_byte m (by omega))
      have hroom : ys.length + 1 ≤ 140737488351232 := by have := encN_pos m; have := encN_len64 n hn; omega
      go_wp2_with ((at_builtin; (refine wpList_app1 rfl (.tmp 16) (.tmp 19) 92 rfl B 5 i0 Tryd.underlying92 hi hz0 hz1 hz2 _ ys rfl (ho.alloc _) ⟨wr.heap.size, 0, none⟩ _ _ (lastB m) rfl (cell_new1 _ _ _) hlb.out hroom ?_ ?_)))
      · rw [heap_size_alloc]; omega
      · intro v' w1 ho1 hb1
        have hb2 := hbl.trans (((Below.refl B wr).alloc (by omega) _).trans hb1)
        have ho2 : Own w1 B 5 v' (xs ++ encN n) := by rw [← last_encN m ys _ (by omega) HE.out]; exact ho1
        clear hb1 ho1
        go_wp2
        go_ret
        exact ⟨_, rfl, ho2, hb2⟩
end Go.Proofs.YtfenjincbhkodaaDoor

namespace Go.Proofs.YtfenjincbhkodaaDoor
set_option linter.unusedVariables false
set_option linter.unusedSimpArgs false
set_option maxRecDepth 100000
open Go.RowKit

def numS (n : Nat) : ByteArray := if n ≤ 281474976710656 then mkS (encN n) else ByteArray.empty
def numE (n : Nat) : Int := if n ≤ 281474976710656 then 0 else 1
theorem numS_yes {n : Nat} (h : n ≤ 281474976710656) : numS n = mkS (encN n) := by unfold numS; rw [if_pos h]
theorem numE_yes {n : Nat} (h : n ≤ 281474976710656) : numE n = 0 := by unfold numE; rw [if_pos h]
theorem numS_no {n : Nat} (h : ¬ n ≤ 281474976710656) : numS n = ByteArray.empty := by unfold numS; rw [if_neg h]
theorem numE_no {n : Nat} (h : ¬ n ≤ 281474976710656) : numE n = 1 := by unfold numE; rw [if_neg h]

set_option maxHeartbeats 1000000 in
theorem num_any (w : World) (n : Nat) (hn : n < 18446744073709551616) :
    Calls Tryd.prog 45 #[.int .u64 n] w fun e w' => e = .returned (.tuple #[.string (numS n), .int .i64 (numE n)]) ∧ Below w.heap.size w w' := by
  by_cases h : n ≤ 281474976710656
  · rw [numS_yes h, numE_yes h]
    go_enter Tryd.func45, Tryd.ntmps45
    go_wp2_with fail
    refine (addNum_own w w.heap.size (.slice none 0 0) [] n hn (by simp) (Own.nil _ _ _) (Nat.le_refl _)).mono ?_
    rintro e w1 ⟨v', rfl, ho, hb⟩
    have hc := run_str_own Tryd.underlying92 Tryd.underlying5 Tryd.underlying9 ho
    clear ho
    go_wp2
    go_ret2
    exact ⟨rfl, hb⟩
  · rw [numS_no h, numE_no h]
    go_enter Tryd.func45, Tryd.ntmps45
    go_wp2
    go_ret2
    exact ⟨rfl, Below.refl _ _⟩
end Go.Proofs.YtfenjincbhkodaaDoor

namespace Go.Proofs.YtfenjincbhkodaaDoor
set_option linter.unusedVariables false
set_option linter.unusedSimpArgs false
set_option maxRecDepth 100000
open Go.RowKit
end Go.Proofs.YtfenjincbhkodaaDoor

namespace Go.Proofs.YtfenjincbhkodaaDoor
set_option linter.unusedVariables false
set_option linter.unusedSimpArgs false
set_option maxRecDepth 100000
open Go.RowKit

theorem toList_no {a b : ByteArray} (h : a ≠ b) : (a.toList == b.toList) = false := by
  rw [beq_eq_false_iff_ne, ByteArray.toList_eq, ByteArray.toList_eq]
  intro e; exact h (ByteArray.ext (Array.toList_inj.1 e))
end Go.Proofs.YtfenjincbhkodaaDoor

namespace Go.Proofs.YtfenjincbhkodaaDoor
set_option linter.unusedVariables false
set_option linter.unusedSimpArgs false
set_option maxRecDepth 100000
open Go.RowKit

/-- The bytes of a text. -/
def encT (t : ByteArray) : List UInt8 := encN t.size ++ t.data.toList

set_option maxHeartbeats 1000000 in
set_option maxRecDepth 20000 in
theorem addText_own (w : World) (B : Nat) (v : Value) (xs : List UInt8) (t : ByteArray) (hx : xs.length + 10 + t.size ≤ 140737488351232)
    (hown : Own w B 5 v xs) (hB : B ≤ w.heap.size) :
    Calls Tryd.prog 75 #[v, .string t] w fun e w' => ∃ v', e = .returned v' ∧ Own w' B 5 v' (xs ++ encT t) ∧ Below B w w' := by
  obtain ⟨i0, hi, hz0, hz1, hz2⟩ := info_parts info5o
  have hl := encN_len64 t.size (by omega)
  have hN := hidp (addNum_own w B v xs t.size (by omega) (by omega) hown hB)
  go_enter Tryd.func75, Tryd.ntmps75
  go_wp2_with fail
  refine hN.out.mono ?_
  rintro e w1 ⟨v1, rfl, ho, hb⟩
  have hs1 := hb.size
  have hlen : (xs ++ encN t.size).length + t.size ≤ 140737488351232 := by simp; omega
  go_wp2_with (at_builtin; (refine Lib.wpList_append_own_string _ rfl (.tmp 9) (.tmp 10) 92 9 rfl B 5 i0 Tryd.underlying92 Tryd.underlying9 hi hz0 hz1 hz2 _ _ _ rfl ho t rfl ?_ ?_ ?_ ?_))
  · unfold maxLen; omega
  · omega
  · omega
  · intro v' w2 ho2 hg2 _
    have ho3 : Own w2 B 5 v' (xs ++ encT t) := by
      have e1 : (xs ++ encT t).length = xs.length + (encN t.size).length + t.size := by simp [encT]; omega
      have e2 : bv (xs ++ encT t) = bv (xs ++ encN t.size) ++ Lib.strCells t := by unfold encT; rw [← List.append_assoc, bv_append]; rfl
      unfold Own; rw [e1, e2]; exact ho2
    have hb2 : Below B w w2 := hb.trans ((Below.refl B w1).grown hg2 (by omega) fun k hk => (World.ownsRow.lt ho k hk).1)
    clear ho2 hg2 ho hb
    go_wp2
    go_ret
    exact ⟨_, rfl, ho3, hb2⟩
end Go.Proofs.YtfenjincbhkodaaDoor

namespace Go.Proofs.YtfenjincbhkodaaDoor
set_option linter.unusedVariables false
set_option linter.unusedSimpArgs false
set_option maxRecDepth 100000
open Go.RowKit

/-- A slice of texts in memory. -/
def StrsAt (w : World) (v : Value) (ss : List ByteArray) : Prop :=
  ∃ a cap, v = .slice a ss.length cap ∧ ∀ k (h : k < ss.length), ∃ b off, a = some ⟨b, off, none⟩ ∧ w.cell? ⟨b, off + k, none⟩ = some (.string ss[k])
theorem StrsAt.below {w w' : World} {v : Value} {ss : List ByteArray} (h : StrsAt w v ss) {B : Nat} (hb : Below B w w') (hB : w.heap.size ≤ B) : StrsAt w' v ss := by
  obtain ⟨a, cap, e, hc⟩ := h
  refine ⟨a, cap, e, fun k hk => ?_⟩
  obtain ⟨b, off, ea, hc⟩ := hc k hk
  refine ⟨b, off, ea, ?_⟩
  have := World.block_lt_of_cell? w _ hc
  rw [hb.cell (p := ⟨b, off + k, none⟩) (by simp at this ⊢; omega)]; exact hc

def encTs (ss : List ByteArray) : List UInt8 := ss.flatMap encT
def encL (ss : List ByteArray) : List UInt8 := encN ss.length ++ encTs ss
def okL (ss : List ByteArray) : Prop := ss.length ≤ 256 ∧ ∀ s ∈ ss, s.size ≤ 8192
instance (ss : List ByteArray) : Decidable (okL ss) := by unfold okL; exact inferInstance
def listS (ss : List ByteArray) : ByteArray := if okL ss then mkS (encL ss) else ByteArray.empty
def listE (ss : List ByteArray) : Int := if okL ss then 0 else 7
theorem listS_yes {ss : List ByteArray} (h : okL ss) : listS ss = mkS (encL ss) := by unfold listS; rw [if_pos h]
theorem listE_yes {ss : List ByteArray} (h : okL ss) : listE ss = 0 := by unfold listE; rw [if_pos h]
theorem listS_no {ss : List ByteArray} (h : ¬ okL ss) : listS ss = ByteArray.empty := by unfold listS; rw [if_neg h]
theorem listE_no {ss : List ByteArray} (h : ¬ okL ss) : listE ss = 7 := by unfold listE; rw [if_neg h]
theorem encT_len (t : ByteArray) (h : t.size ≤ 8192) : (encT t).length ≤ 8202 := by
  unfold encT; have := encN_len64 t.size (by omega); simp; omega
theorem encTs_len (ss : List ByteArray) (h : ∀ s ∈ ss, s.size ≤ 8192) : (encTs ss).length ≤ 8202 * ss.length := by
  induction ss with
  | nil => simp [encTs]
  | cons s ss ih =>
    have h1 := encT_len s (h s (by simp))
    have h2 := ih fun x hx => h x (by simp [hx])
    simp only [encTs, List.flatMap_cons, List.length_append, List.length_cons] at *
    omega
theorem encTs_take (ss : List ByteArray) (k : Nat) (h : k < ss.length) : encTs (ss.take (k + 1)) = encTs (ss.take k) ++ encT ss[k] := by
  unfold encTs
  rw [List.take_succ_eq_append_getElem h, List.flatMap_append]; simp
theorem encTs_take_len (ss : List ByteArray) (k : Nat) (hk : k ≤ ss.length) (h : okL ss) : (encTs (ss.take k)).length ≤ 8202 * 256 := by
  have := encTs_len (ss.take k) fun s hs => h.2 s (List.mem_of_mem_take hs)
  have h1 : (ss.take k).length ≤ 256 := by have := h.1; simp; omega
  omega

set_option maxHeartbeats 1000000 in
set_option maxRecDepth 20000 in
theorem list_any (w : World) (v : Value) (ss : List ByteArray) (hat : StrsAt w v ss) (hn : ss.length ≤ 140737488351232) (hs : ∀ s ∈ ss, s.size ≤ 140737488351232) :
    Calls Tryd.prog 46 #[v] w fun e w' => e = .returned (.tuple #[.string (listS ss), .int .i64 (listE ss)]) ∧ Below w.heap.size w w' := by
  obtain ⟨a, cap, rfl, hc⟩ := hat
  obtain ⟨n, hnn⟩ : ∃ n, ss.length = n := ⟨_, rfl⟩
  rw [hnn] at hn ⊢
  have HC := hidp hc; clear hc
  have HNN := hidp hnn; clear hnn
  have HS := hidp hs; clear hs
  by_cases h256 : n ≤ 256
  · obtain ⟨S, hS⟩ : ∃ S, S = listS ss := ⟨_, rfl⟩
    obtain ⟨E, hE⟩ : ∃ E, E = listE ss := ⟨_, rfl⟩
    rw [← hS, ← hE]
    have HSS := hidp hS; have HEE := hidp hE; clear hS hE
    go_enter Tryd.func46, Tryd.ntmps46
    go_wp2
    go_loop [14] (fun t14 => ∃ k : Nat, t14 = .int .i64 k ∧ k ≤ n ∧ ∀ j (h : j < ss.length), j < k → ss[j].size ≤ 8192) (fun t14 => n - (intOf t14).toNat)
    case atStart => exact ⟨0, rfl, by omega, by intro j _ h; omega⟩
    case round =>
      obtain ⟨k, rfl, hk, hall⟩ := hrel
      have HALL := hidp hall; clear hall
      by_cases hlt : k < n
      · have hlt' : k < ss.length := by have := HNN.out; omega
        obtain ⟨b, off, rfl, hcell⟩ := HC.out k hlt'
        obtain ⟨s, hs⟩ : ∃ s, ss[k] = s := ⟨_, rfl⟩
        have hsl : s.size ≤ 140737488351232 := by rw [← hs]; exact HS.out _ (List.getElem_mem hlt')
        rw [hs] at hcell
        have H2 := hidp hs; clear hs
        by_cases hbig : s.size ≤ 8192
        · go_wp2
          refine ⟨⟨k + 1, by go_num, by omega, fun j h hj => ?_⟩, by simp [intOf]; omega⟩
          by_cases hjk : j = k
          · subst hjk; have := H2.out; rw [this]; exact hbig
          · exact HALL.out j h (by omega)
        · have hno := hidp (show ¬ okL ss from fun h => hbig (by rw [← H2.out]; exact h.2 _ (List.getElem_mem hlt')))
          go_wp2
          go_ret2
          exact ⟨by rw [HSS.out, HEE.out, listS_no hno.out, listE_no hno.out]; rfl, Below.refl _ _⟩
      · have hok := hidp (show okL ss from ⟨by have := HNN.out; omega, fun s hs => by
          obtain ⟨j, hj, rfl⟩ := List.getElem_of_mem hs
          exact HALL.out j hj (by have := HNN.out; omega)⟩)
        have hl := encN_len64 n (by omega)
        go_wp2_with fail
        refine (addNum_own w w.heap.size (.slice none 0 0) [] n (by omega) (by simp) (Own.nil _ _ _) (Nat.le_refl _)).mono ?_
        rintro e w1 ⟨v1, rfl, ho1, hb1⟩
        go_wp2
        go_loopw [6, 28] (fun t6 t28 wr => ∃ k : Nat, t28 = .int .i64 k ∧ k ≤ n ∧ Own wr w.heap.size 5 t6 (encN n ++ encTs (ss.take k)) ∧ Below w.heap.size w wr) (fun _ t28 _ => n - (intOf t28).toNat)
        case atStart => exact ⟨0, rfl, by omega, by simpa [encTs] using ho1, hb1⟩
        case round =>
          obtain ⟨k, rfl, hk, ho, hb⟩ := hrel
          have hbs := hb.size
          by_cases hlt : k < n
          · have hlt' : k < ss.length := by have := HNN.out; omega
            obtain ⟨b, off, rfl, hcell⟩ := HC.out k hlt'
            have hcell2 := (hb.cell (p := ⟨b, off + k, none⟩) (by have := World.block_lt_of_cell? w _ hcell; simpa using this)).trans hcell
            clear hcell
            have hst := hidp (encTs_take ss k hlt')
            have hsm : ss[k].size ≤ 8192 := hok.out.2 _ (List.getElem_mem hlt')
            obtain ⟨s, hs⟩ : ∃ s, ss[k] = s := ⟨_, rfl⟩
            rw [hs] at hcell2 hsm
            have hst := hidp (hs ▸ hst.out)
            clear hs
            have hroom : (encN n ++ encTs (ss.take k)).length + 10 + s.size ≤ 140737488351232 := by
              have := encTs_take_len ss k (by omega) hok.out
              simp; omega
            have HA := hidp (addText_own wr w.heap.size _ _ s hroom ho hbs)
            go_wp2_with (go_at_call 75; (refine HA.out.mono ?_); rintro e w2 ⟨v2, rfl, ho2, hb2⟩)
            refine ⟨⟨k + 1, by go_num, by omega, by rw [hst.out, ← List.append_assoc]; exact ho2, hb.trans hb2⟩, by simp [intOf]; omega⟩
          · have hko : k = n := by omega
            have hful := hidp (show encN n ++ encTs (ss.take k) = encL ss from by unfold encL; rw [List.take_of_length_le (by have := HNN.out; omega), HNN.out])
            have ho3 : Own wr w.heap.size 5 _ (encL ss) := hful.out ▸ ho
            have hcv := run_str_own Tryd.underlying92 Tryd.underlying5 Tryd.underlying9 ho3
            clear ho ho3 hko ho1
            go_wp2
            go_ret2
            exact ⟨by rw [HSS.out, HEE.out, listS_yes hok.out, listE_yes hok.out]; rfl, hb⟩
  · have hno := hidp (show ¬ okL ss from fun h => h256 (by have := HNN.out; have := h.1; omega))
    rw [listS_no hno.out, listE_no hno.out]
    go_enter Tryd.func46, Tryd.ntmps46
    go_wp2
    go_ret2
    exact ⟨rfl, Below.refl _ _⟩
end Go.Proofs.YtfenjincbhkodaaDoor

namespace Go.Proofs.YtfenjincbhkodaaDoor
set_option linter.unusedVariables false
set_option linter.unusedSimpArgs false
set_option maxRecDepth 100000
open Go.RowKit
end Go.Proofs.YtfenjincbhkodaaDoor

namespace Go.Proofs.YtfenjincbhkodaaDoor
set_option linter.unusedVariables false
set_option linter.unusedSimpArgs false
set_option maxRecDepth 100000
open Go.RowKit

/-- A row of values of one cell each that the call itself has made. -/
def OwnV (w : World) (B e : Nat) (v : Value) (l : List Value) : Prop := w.ownsRow B e 1 v l.length l
theorem OwnV.nil (w : World) (B e : Nat) : OwnV w B e (.slice none 0 0) [] := World.ownsRow_nil w B e 1
theorem OwnV.alloc {w : World} {B e : Nat} {v : Value} {l : List Value} (h : OwnV w B e v l) (o : Obj) : OwnV (w.alloc o) B e v l := World.ownsRow.alloc h o
end Go.Proofs.YtfenjincbhkodaaDoor

namespace Go.Proofs.YtfenjincbhkodaaDoor
set_option linter.unusedVariables false
set_option linter.unusedSimpArgs false
set_option maxRecDepth 100000
open Go.RowKit
end Go.Proofs.YtfenjincbhkodaaDoor

namespace Go.Proofs.YtfenjincbhkodaaDoor
set_option linter.unusedVariables false
set_option linter.unusedSimpArgs false
set_option maxRecDepth 100000
open Go.RowKit Go.Shelf
attribute [local go_sem] Oper.semAt_some
theorem grown_of_below {w w' : World} (h : Below w.heap.size w w') : w.grownBy w' none := ⟨h.os, h.tape, h.output, h.size, fun k hk _ => h.block k hk⟩
end Go.Proofs.YtfenjincbhkodaaDoor

namespace Go.Proofs.YtfenjincbhkodaaDoor
set_option linter.unusedVariables false
set_option linter.unusedSimpArgs false
set_option maxRecDepth 100000
open Go.RowKit Go.Shelf
attribute [local go_sem] Oper.semAt_some
end Go.Proofs.YtfenjincbhkodaaDoor

namespace Go.Proofs.YtfenjincbhkodaaDoor
set_option linter.unusedVariables false
set_option linter.unusedSimpArgs false
set_option maxRecDepth 100000
open Go.RowKit

theorem e300 : mkS (encN 300) = ⟨#[172, 2]⟩ := by rw [encN_ge (by omega), encN_lt (by omega)]; rfl
end Go.Proofs.YtfenjincbhkodaaDoor

namespace Go.Proofs.YtfenjincbhkodaaDoor
set_option linter.unusedVariables false
set_option linter.unusedSimpArgs false
set_option maxRecDepth 100000
open Go.RowKit

theorem ba_ext {a b : ByteArray} (h : a.data.toList = b.data.toList) : a = b := ByteArray.ext (Array.toList_inj.1 h)
theorem extract_toList (s : ByteArray) (a b : Nat) : (s.extract a b).data.toList = (s.data.toList.drop a).take (b - a) := by
  simp [ByteArray.data_extract, List.extract]
theorem size_toList (s : ByteArray) : s.data.toList.length = s.size := by simp
theorem ext_drop (s : ByteArray) (p : Nat) : s.extract p s.size = mkS (s.data.toList.drop p) := by
  apply ba_ext
  rw [extract_toList, mkS_data, List.take_of_length_le (by simp)]
end Go.Proofs.YtfenjincbhkodaaDoor
