/-
  Joined: WiM WiA.
-/
import Derived.Test.YtfenjincbhkodaaGreatDoorVH
import Derived.Test.YtfenjincbhkodaaGreatDoorVJ
import Derived.Test.YtfenjincbhkodaaGreatDoorVG
namespace Go.Proofs.YtfenjincbhkodaaGreatDoor.Wi
set_option linter.unusedVariables false
set_option linter.unusedSimpArgs false
open Go.RowKit
open Ho (inE inV in_zero in_not)
open En (hsV hsE)

/-- A message. -/
structure Ms where
  k : Nat
  f : Int
  t : Int
  b : ByteArray
def Ms.row (m : Ms) : List Value := [.int .u8 (m.k : Int), .int .i64 m.f, .int .i64 m.t, .string m.b]
def Ms.ok (m : Ms) : Prop := m.k < 256 ∧ m.b.size ≤ 140737488351232
def zMs : Ms := ⟨0, 0, 0, ⟨#[]⟩⟩
def mWords : List (List UInt8) := [[], [115, 117, 98, 109, 105, 116], [114, 101, 106, 101, 99, 116], [101, 110, 116, 114, 121], [104, 101, 97, 100], [97, 115, 107], [112, 114, 111, 111, 102], [100, 101, 97, 108]]
/-- A kind's word. -/
def mwd (k : Nat) : ByteArray := mkS (mWords.getD k [])
/-- The kind with a word, or 0. -/
def mkOf (t : ByteArray) : Nat := ((List.range 8).find? fun k => decide (1 ≤ k ∧ mwd k = t)).getD 0
/-- A text of a list, or the empty one. -/
def at' (s : ByteArray) (i : Nat) : ByteArray := (al s).1.getD i ⟨#[]⟩
/-- A rejection's body is read, or not. -/
def rjE (s : ByteArray) : Int := if (al s).2 = 0 ∧ (al s).1.length = 2 ∧ hsE (at' s 0) = 0 ∧ inE (at' s 1) 15 = 0 ∧ 1 ≤ inV (at' s 1) 15 then 0 else 6
def rjH (s : ByteArray) : List UInt8 := if rjE s = 0 then (at' s 0).data.toList else z32
def rjC (s : ByteArray) : Nat := if rjE s = 0 then inV (at' s 1) 15 else 0
def rjB (h : List UInt8) (c : Int) : ByteArray := if 1 ≤ c ∧ c ≤ 15 then mkS (encL [mkS h, mkS (encN c.toNat)]) else ByteArray.empty
def rjBE (c : Int) : Int := if 1 ≤ c ∧ c ≤ 15 then 0 else 1
/-- A question's body. -/
def akB (i : Int) : ByteArray := if 0 ≤ i ∧ i ≤ 4096 then mkS (encN i.toNat) else ByteArray.empty
def akBE (i : Int) : Int := if 0 ≤ i ∧ i ≤ 4096 then 0 else 1
def akE (s : ByteArray) : Int := if inE s 4096 = 0 then 0 else 6
def akV (s : ByteArray) : Nat := inV s 4096
/-- A proof is read from bytes, or not. -/
def ppE (s : ByteArray) : Int := if (al s).2 = 0 ∧ (al s).1.length = 5 ∧ inE (at' s 0) 63 = 0 then 0 else 6
/-- What a body of a kind is: 0 if it is right. -/
def bE (k : Nat) (s : ByteArray) : Int := if k = 1 then evX (evP s) else if k = 2 then rjE s else if k = 3 then En.epE s else if k = 4 then Hd.jpE s else if k = 5 then akE s else if k = 6 then ppE s else if k = 7 then Ho.dpE s else 0
def srv (n : Int) : Bool := decide (0 ≤ n ∧ n ≤ 63)
def mkB (k : Nat) : Bool := decide (1 ≤ k ∧ k ≤ 7)
/-- Why a message is not right. -/
def mE (m : Ms) : Int := if (srv m.f && srv m.t && mkB m.k) = true then (if m.b.size ≤ 8192 then bE m.k m.b else 7) else 2
def mL (m : Ms) : List ByteArray := [mwd m.k, mkS (encN m.f.toNat), mkS (encN m.t.toNat), m.b]
def mB (m : Ms) : ByteArray := if mE m = 0 then mkS (encL (mL m)) else ByteArray.empty
def mPL : List ByteArray → Option Ms
  | [a, b, c, d] => if inE b 63 = 0 ∧ inE c 63 = 0 ∧ mE ⟨mkOf a, (inV b 63 : Nat), (inV c 63 : Nat), d⟩ = 0 then some ⟨mkOf a, (inV b 63 : Nat), (inV c 63 : Nat), d⟩ else none
  | _ => none
/-- The message that bytes are. -/
def mP (s : ByteArray) : Option Ms := if (al s).2 = 0 then mPL (al s).1 else none
def mpV (s : ByteArray) : Ms := (mP s).getD zMs
def mpE (s : ByteArray) : Int := if (mP s).isSome = true then 0 else 6
theorem mkOf_mwd {k : Nat} (h1 : 1 ≤ k) (h2 : k ≤ 7) : mkOf (mwd k) = k := by
  have h : ∀ k : Fin 8, 1 ≤ k.val → mkOf (mwd k.val) = k.val := by decide +kernel
  exact h ⟨k, by omega⟩ h1
theorem mwd_mkOf {t : ByteArray} (h : 1 ≤ mkOf t) : mwd (mkOf t) = t ∧ mkOf t ≤ 7 := by
  unfold mkOf at h ⊢
  cases hf : (List.range 8).find? fun k => decide (1 ≤ k ∧ mwd k = t) with
  | none => rw [hf] at h; simp at h
  | some k =>
    have h1 := List.find?_some hf
    have h2 := List.mem_of_find?_eq_some hf
    simp at h1 h2
    exact ⟨h1.2, by simp; omega⟩
theorem mkOf_eq {t : ByteArray} {k : Nat} (h1 : 1 ≤ k) (h2 : k ≤ 7) (h : mwd k = t) : mkOf t = k := by rw [← h]; exact mkOf_mwd h1 h2
theorem mkOf_le (t : ByteArray) : mkOf t ≤ 7 := by
  by_cases h : 1 ≤ mkOf t
  · exact (mwd_mkOf h).2
  · omega
theorem mkOf_none {t : ByteArray} (h : ∀ k, 1 ≤ k → k ≤ 7 → mwd k ≠ t) : mkOf t = 0 := by
  by_cases g : 1 ≤ mkOf t
  · exact absurd (mwd_mkOf g).1 (h _ g (mwd_mkOf g).2)
  · omega
theorem mwd_size (k : Nat) : (mwd k).size ≤ 6 := by
  by_cases h : k ≤ 7
  · have : ∀ k : Fin 8, (mwd k.val).size ≤ 6 := by decide +kernel
    exact this ⟨k, by omega⟩
  · have : mwd k = mkS [] := by unfold mwd mWords; rw [List.getD_eq_getElem?_getD, List.getElem?_eq_none (by simp; omega)]; rfl
    rw [this, mkS_size]; simp
theorem mwd_full {k : Nat} (h : 1 ≤ k ∧ k ≤ 7) : ¬ (mwd k).size = 0 := by
  have : ∀ k : Fin 8, 1 ≤ k.val → ¬ (mwd k.val).size = 0 := by decide +kernel
  exact this ⟨k, by omega⟩ h.1
theorem in_back {n m : Nat} (h : n ≤ m) (hm : m ≤ 1048576) : inE (mkS (encN n)) m = 0 ∧ inV (mkS (encN n)) m = n := by
  have hb := numOf_back n (by omega)
  have h0 : inE (mkS (encN n)) m = 0 := by
    cases hq : decide (inE (mkS (encN n)) m = 0) with
    | true => exact of_decide_eq_true hq
    | false => have := in_not (of_decide_eq_false hq) n hb; omega
  have := (in_zero h0).1
  rw [hb] at this
  exact ⟨h0, (Option.some.inj this).symm⟩
theorem in_of {s : ByteArray} {m : Nat} (h : inE s m = 0) : mkS (encN (inV s m)) = s ∧ inV s m ≤ m := ⟨(numOf_some (in_zero h).1).1, (in_zero h).2⟩
theorem mE_parts {m : Ms} (h : mE m = 0) : (0 ≤ m.f ∧ m.f ≤ 63) ∧ (0 ≤ m.t ∧ m.t ≤ 63) ∧ (1 ≤ m.k ∧ m.k ≤ 7) ∧ m.b.size ≤ 8192 := by
  unfold mE at h
  split at h
  · rename_i h1
    unfold srv mkB at h1
    simp only [Bool.and_eq_true, decide_eq_true_eq] at h1
    split at h
    · exact ⟨h1.1.1, h1.1.2, h1.2, by assumption⟩
    · cases h
  · cases h
theorem n63_len {n : Int} (h : 0 ≤ n ∧ n ≤ 63) : (encN n.toNat).length ≤ 10 := encN_len64 _ (by omega)
theorem mL_ok {m : Ms} (h : mE m = 0) : okL (mL m) := by
  obtain ⟨h1, h2, h3, h4⟩ := mE_parts h
  refine ⟨by simp [mL], fun s hs => ?_⟩
  have e1 := n63_len h1; have e2 := n63_len h2; have g := mwd_size m.k
  simp only [mL, List.mem_cons, List.not_mem_nil, or_false] at hs
  rcases hs with rfl | rfl | rfl | rfl
  · omega
  · rw [mkS_size]; omega
  · rw [mkS_size]; omega
  · omega
theorem mB_yes {m : Ms} (h : mE m = 0) : mB m = mkS (encL (mL m)) := if_pos h
theorem mB_no {m : Ms} (h : mE m ≠ 0) : mB m = ByteArray.empty := if_neg h
theorem mP_back {m : Ms} (h : mE m = 0) : mP (mB m) = some m := by
  obtain ⟨h1, h2, h3, h4⟩ := mE_parts h
  unfold mP
  rw [mB_yes h, al_back _ (mL_ok h), if_pos rfl]
  obtain ⟨i1, i2⟩ := in_back (n := m.f.toNat) (m := 63) (by omega) (by omega)
  obtain ⟨j1, j2⟩ := in_back (n := m.t.toNat) (m := 63) (by omega) (by omega)
  simp only [mL, mPL]
  rw [i1, i2, j1, j2, mkOf_mwd h3.1 h3.2, Int.toNat_of_nonneg h1.1, Int.toNat_of_nonneg h2.1]
  exact if_pos ⟨rfl, rfl, h⟩
theorem rjL_ok {h : List UInt8} (hh : h.length = 32) {c : Nat} (hc : c ≤ 15) : okL [mkS h, mkS (encN c)] := by
  refine ⟨by simp, fun s hs => ?_⟩
  have e1 := encN_len64 c (by omega)
  simp only [List.mem_cons, List.not_mem_nil, or_false] at hs
  rcases hs with rfl | rfl <;> rw [mkS_size] <;> omega
theorem rj_back {h : List UInt8} (hh : h.length = 32) {c : Int} (hc : 1 ≤ c ∧ c ≤ 15) : rjE (rjB h c) = 0 ∧ rjH (rjB h c) = h ∧ (rjC (rjB h c) : Int) = c := by
  have hB : rjB h c = mkS (encL [mkS h, mkS (encN c.toNat)]) := if_pos hc
  have ha := al_back _ (rjL_ok hh (c := c.toNat) (by omega))
  rw [← hB] at ha
  have a0 : at' (rjB h c) 0 = mkS h := by unfold at'; rw [ha]; rfl
  have a1 : at' (rjB h c) 1 = mkS (encN c.toNat) := by unfold at'; rw [ha]; rfl
  obtain ⟨i1, i2⟩ := in_back (n := c.toNat) (m := 15) (by omega) (by omega)
  have hE : rjE (rjB h c) = 0 := if_pos (by
    rw [a0, a1, ha, i1, i2]
    exact ⟨rfl, rfl, if_pos (by rw [mkS_size]; exact hh), rfl, by omega⟩)
  refine ⟨hE, ?_, ?_⟩
  · unfold rjH; rw [if_pos hE, a0, mkS_data]
  · unfold rjC; rw [if_pos hE, a1, i2]; omega
theorem akV_no {s : ByteArray} (h : akE s ≠ 0) : akV s = 0 := by
  unfold akE at h; unfold akV inV
  split at h
  · exact absurd rfl h
  · rw [if_neg (by assumption)]
end Go.Proofs.YtfenjincbhkodaaGreatDoor.Wi

namespace Go.Proofs.YtfenjincbhkodaaGreatDoor.Wi
set_option maxRecDepth 100000
set_option linter.unusedVariables false
set_option linter.unusedSimpArgs false
open Go.RowKit
open List (getElem_toArray getElem_cons_zero getElem_cons_succ setIfInBounds_toArray set_cons_zero set_cons_succ)
open En (naS naI rtH u8_one hsV hsE hsV_len ohash_any s_bld wpL_slc num4_in)
open Ho (inE inV in_zero in_not al_sz allInt_any)

/-- The table of wire. -/
def MT (w : World) : Prop := ∀ i, i < 8 → w.cell? ⟨0, i, none⟩ = some (.string (mwd i))
theorem MT.below {w w' : World} (h : MT w) {B : Nat} (hb : Below B w w') (hB : w.heap.size ≤ B) : MT w' := fun i hi => by
  have g1 := World.block_lt_of_cell? w _ (h i hi)
  exact (hb.cell (p := ⟨0, i, none⟩) (by simp only at g1 ⊢; omega)).trans (h i hi)
theorem rtM : Rt.RT Tryz.prog 24 4 zMs.row := ⟨rfl, .inl ⟨_, Tryz.underlying24⟩, by kernel_rfl⟩
theorem naK : Mm.NA Tryz.prog 22 := ⟨_, Tryz.underlying22, rfl⟩
def zPr : List Value := [.int .i64 0, .string ⟨#[]⟩, .string ⟨#[]⟩, .string ⟨#[]⟩, .string ⟨#[]⟩]
theorem rtP : Rt.RT Tryz.prog 86 5 zPr := ⟨rfl, .inl ⟨_, Tryz.underlying86⟩, by kernel_rfl⟩
/-- The first number of a list that is not 0. -/
def orL : List Int → Int
  | [] => 0
  | a :: l => if a ≠ 0 then a else orL l
theorem orL_at : ∀ (l : List Int) (i : Nat), (∀ j, j < i → l.getD j 0 = 0) → l.getD i 0 ≠ 0 → orL l = l.getD i 0
  | [], i, _, h => absurd (by simp) h
  | a :: l, 0, _, h => by
    have h' : a ≠ 0 := h
    unfold orL; rw [if_pos h']; rfl
  | a :: l, i + 1, h, hn => by
    have h0 : a = 0 := h 0 (by omega)
    unfold orL
    rw [if_neg (by simp [h0])]
    exact orL_at l i (fun j hj => h (j + 1) (by omega)) hn
theorem orL_all : ∀ (l : List Int), (∀ j, j < l.length → l.getD j 0 = 0) → orL l = 0
  | [], _ => rfl
  | a :: l, h => by
    have h0 : a = 0 := h 0 (by simp)
    unfold orL
    rw [if_neg (by simp [h0])]
    exact orL_all l fun j hj => h (j + 1) (by simp; omega)
theorem orL2 {a b : Int} : orL [a, b] = 0 ↔ a = 0 ∧ b = 0 := by
  unfold orL orL orL
  by_cases h : a = 0
  · by_cases k : b = 0
    · simp [h, k]
    · simp [h, k]
  · simp [h]
theorem orL3 {a b c : Int} : orL [a, b, c] = 0 ↔ a = 0 ∧ b = 0 ∧ c = 0 := by
  have := @orL2 b c
  unfold orL
  by_cases h : a = 0
  · rw [if_neg (by simp [h]), this]; simp [h]
  · rw [if_pos h]; simp [h]
section
variable {ops : Array Oper} {rest : List Oper} {o : Oper} {a : Act} {w w0 : World} {N : Nat} {L : List Mm.Bx} {Q : Exit → Act → World → Prop} {S : World → Prop} {j : Nat} {s : Scr} {K : Act → World → Prop}

theorem run_bsE2 (z0 z1 : Int) (w : World) : (Instr.buildSlice 69 2 #[(0, .int .i64 z0), (1, .int .i64 z1)]).run Tryz.prog w = .ok (.slice (some ⟨w.heap.size, 0, none⟩) 2 2) (w.alloc (.cells #[.int .i64 z0, .int .i64 z1] 26)) := by
  obtain ⟨i0, hi, hz0, hz1, hz2⟩ := info_parts En.infoE
  refine run_buildSlice w 69 26 2 _ _ i0 _ En.tyE hi hz0 (by rw [hz1]; omega) (by rw [hz1]; omega) ?_
  have hr : Array.range 2 = #[0, 1] := by decide
  rw [hz1]; simp [Instr.fill, Value.cells, hr]
theorem wpL_bsE2 (H : Hid (Mm.M N w0 w L)) (hw : Region.wanted o (yielded ops a.tmps) = true) (x0 x1 : Operand) (z0 z1 : Int) (ho : o.op = .buildSlice 69 2 #[(0, x0), (1, x1)]) (hx0 : a.eval x0 = .int .i64 z0) (hx1 : a.eval x1 = .int .i64 z1)
    (h : ∀ b W, Hid (Mm.M N w0 W (⟨b, 26, [.int .i64 z0, .int .i64 z1]⟩ :: L)) → Rt.NewAt w W b 26 [.int .i64 z0, .int .i64 z1] → wpList Tryz.prog ops Q rest (a.put o.dst (.slice (some ⟨b, 0, none⟩) 2 2)) W) : wpList Tryz.prog ops Q (o :: rest) a w := by
  refine wpList_step fun K hK => ?_
  rw [if_pos hw]
  have n := Rt.NewAt.mk' w 26 [.int .i64 z0, .int .i64 z1]
  have := hK _ _ (h _ _ (hidp (H.out.new n)) n)
  unfold Oper.wp execOp
  simp only [ho, List.map_toArray, List.map_cons, List.map_nil, hx0, hx1, Sem.run_bind, run_bsE2 z0 z1 w, Result.andThen_ok]
  exact this
theorem run_bsE3 (z0 z1 z2 : Int) (w : World) : (Instr.buildSlice 69 3 #[(0, .int .i64 z0), (1, .int .i64 z1), (2, .int .i64 z2)]).run Tryz.prog w = .ok (.slice (some ⟨w.heap.size, 0, none⟩) 3 3) (w.alloc (.cells #[.int .i64 z0, .int .i64 z1, .int .i64 z2] 26)) := by
  obtain ⟨i0, hi, hz0, hz1, hz2⟩ := info_parts En.infoE
  refine run_buildSlice w 69 26 3 _ _ i0 _ En.tyE hi hz0 (by rw [hz1]; omega) (by rw [hz1]; omega) ?_
  have hr : Array.range 3 = #[0, 1, 2] := by decide
  rw [hz1]; simp [Instr.fill, Value.cells, hr]
theorem wpL_bsE3 (H : Hid (Mm.M N w0 w L)) (hw : Region.wanted o (yielded ops a.tmps) = true) (x0 x1 x2 : Operand) (z0 z1 z2 : Int) (ho : o.op = .buildSlice 69 3 #[(0, x0), (1, x1), (2, x2)]) (hx0 : a.eval x0 = .int .i64 z0) (hx1 : a.eval x1 = .int .i64 z1) (hx2 : a.eval x2 = .int .i64 z2)
    (h : ∀ b W, Hid (Mm.M N w0 W (⟨b, 26, [.int .i64 z0, .int .i64 z1, .int .i64 z2]⟩ :: L)) → Rt.NewAt w W b 26 [.int .i64 z0, .int .i64 z1, .int .i64 z2] → wpList Tryz.prog ops Q rest (a.put o.dst (.slice (some ⟨b, 0, none⟩) 3 3)) W) : wpList Tryz.prog ops Q (o :: rest) a w := by
  refine wpList_step fun K hK => ?_
  rw [if_pos hw]
  have n := Rt.NewAt.mk' w 26 [.int .i64 z0, .int .i64 z1, .int .i64 z2]
  have := hK _ _ (h _ _ (hidp (H.out.new n)) n)
  unfold Oper.wp execOp
  simp only [ho, List.map_toArray, List.map_cons, List.map_nil, hx0, hx1, hx2, Sem.run_bind, run_bsE3 z0 z1 z2 w, Result.andThen_ok]
  exact this
theorem run_bsS4 (z0 z1 z2 z3 : ByteArray) (w : World) : (Instr.buildSlice 42 4 #[(0, .string z0), (1, .string z1), (2, .string z2), (3, .string z3)]).run Tryz.prog w = .ok (.slice (some ⟨w.heap.size, 0, none⟩) 4 4) (w.alloc (.cells #[.string z0, .string z1, .string z2, .string z3] 9)) := by
  obtain ⟨i0, hi, hz0, hz1, hz2⟩ := info_parts Sl.infoS
  refine run_buildSlice w 42 9 4 _ _ i0 _ Sl.tyS hi hz0 (by rw [hz1]; omega) (by rw [hz1]; omega) ?_
  have hr : Array.range 4 = #[0, 1, 2, 3] := by decide
  rw [hz1]; simp [Instr.fill, Value.cells, hr]
theorem o_bsS4 (H : Hid (Mm.M N w0 w L)) (hT : ∀ W, Mm.M N w0 W L → S W) (ho : ops[j]? = some o) (hw : Region.wanted o (yielded ops a.tmps) = true) (x0 x1 x2 x3 : Operand) (z0 z1 z2 z3 : ByteArray) (hop : o.op = .buildSlice 42 4 #[(0, x0), (1, x1), (2, x2), (3, x3)]) (hx0 : a.eval x0 = .string z0) (hx1 : a.eval x1 = .string z1) (hx2 : a.eval x2 = .string z2) (hx3 : a.eval x3 = .string z3)
    (h : ∀ b W, Hid (Mm.M N w0 W (⟨b, 9, [.string z0, .string z1, .string z2, .string z3]⟩ :: L)) → Rt.NewAt w W b 9 [.string z0, .string z1, .string z2, .string z3] → K (a.put o.dst (.slice (some ⟨b, 0, none⟩) 4 4)) W) : opW Tryz.prog ops Q S j K a w := by
  have n := Rt.NewAt.mk' w 9 [.string z0, .string z1, .string z2, .string z3]
  have hM := H.out.new n
  refine o_make ho hw ?_ (hT _ hM.tail) (h _ _ (hidp hM) n)
  unfold execOp
  simp only [hop, List.map_toArray, List.map_cons, List.map_nil, hx0, hx1, hx2, hx3, Sem.run_bind, run_bsS4 z0 z1 z2 z3 w, Result.andThen_ok]
  rfl

theorem wpL_cnv (hw : Region.wanted o (yielded ops a.tmps) = true) (x : Operand) (ho : o.op = .convert 59 9 x) (sv : Value) (t : ByteArray) (hx : a.eval x = sv) (hc : (convert 59 9 sv).run Tryz.prog w = .ok (.string t) w)
    (h : wpList Tryz.prog ops Q rest (a.put o.dst (.string t)) w) : wpList Tryz.prog ops Q (o :: rest) a w := by
  refine wpList_step fun K hK => ?_
  rw [if_pos hw]
  have := hK _ _ h
  unfold Oper.wp execOp
  simp only [ho, hx, Sem.run_bind, hc, Result.andThen_ok]
  exact this
end
theorem convH (W : World) (b : Nat) (h : List UInt8) (hp : h.length = 32) (ha : Arr W b 34 (u8s h)) : (convert 59 9 (.slice (some ⟨b, 0, none⟩) 32 32)).run Tryz.prog W = .ok (.string (mkS h)) W := by
  have g := run_str_at (P := Tryz.prog) (src := 59) (e := 5) (dst := 9) Tryz.underlying59 Tryz.underlying5 Tryz.underlying9 b 0 32 h (w := W) (fun i hi => by
    have hl : i < (u8s h).length := by rw [u8s_length]; exact hi
    have hc := ha.cell i hl
    rw [show (⟨b, 0, none⟩ : Addr).off + i = i from by simp]
    rw [hc]
    simp [u8s, List.getD_eq_getElem?_getD, hi])
  rw [hp] at g; exact g
theorem ret_rowvv {P : Program} {w : World} {T k : Nat} {z : List Value} (R : Rt.RT P T k z) {fn : Func} {p u v : Tmp} (hr : fn.results = #[.cell p T, .tmp u, .tmp v]) (tmps : Array Value) (b : Nat) (xs : List Value) (x y : Value) (hp : tmps.getD p undef = .pointer (some ⟨b, 0, none⟩)) (hu : tmps.getD u undef = x) (hv : tmps.getD v undef = y) (ha : Arr w b T xs) (hl : xs.length = k) : (results fn tmps).run P w = .ok (.tuple #[.agg xs.toArray, x, y]) w := by
  have hp' : tmps[p]?.getD undef = .pointer (some ⟨b, 0, none⟩) := by simpa using hp
  have hu' : tmps[u]?.getD undef = x := by simpa using hu
  have hv' : tmps[v]?.getD undef = y := by simpa using hv
  rcases R.ut with ⟨fs, hut⟩ | ⟨n, e, hut⟩
  · have e2 := run_loadVar_row (P := P) w b T T xs.toArray (0, 0) _ ha hut rfl (R.size hl)
    simp [results, hr, hp', hu', hv', asAddr, e2]
  · have e2 := run_loadVar_row (P := P) w b T T xs.toArray (0, 0) _ ha hut rfl (R.size hl)
    simp [results, hr, hp', hu', hv', asAddr, e2]
set_option maxHeartbeats 4000000 in
theorem orL2_any (w : World) (g : Nat) (a b : Int) (hc : ∀ i, i < 2 → w.cell? ⟨g, i, none⟩ = some (.int .i64 (([a, b] : List Int).getD i 0))) :
    Calls Tryz.prog 28 #[.slice (some ⟨g, 0, none⟩) 2 2] w fun e w' => e = .returned (.int .i64 (orL [a, b])) ∧ w' = w := by
  have HC := hidp hc; clear hc
  obtain ⟨K, hK⟩ : ∃ K, orL [a, b] = K := ⟨_, rfl⟩
  have HAT := hidp (fun i h hn => (orL_at [a, b] i h hn).symm.trans hK)
  have HALL := hidp (fun (h : ∀ j, j < 2 → ([a, b] : List Int).getD j 0 = 0) => (orL_all [a, b] (fun j hj => h j (by simpa using hj))).symm.trans hK)
  rw [hK]
  obtain ⟨F, hF⟩ : ∃ F : Nat → Int, (fun i => ([a, b] : List Int).getD i 0) = F := ⟨_, rfl⟩
  have hF2 : ∀ i, ([a, b] : List Int).getD i 0 = F i := fun i => congrFun hF i
  simp only [hF2] at HC HAT HALL
  clear hF hF2 hK
  go_enter Tryz.func28, Tryz.ntmps28
  go_wp2
  go_loop [5, 8] (fun t5 t8 => ∃ i : Nat, t8 = .int .i64 (i : Int) ∧ i ≤ 2 ∧ ∀ j, j < i → F j = 0) (fun t5 t8 => 2 - (intOf t8).toNat)
  case atStart => exact ⟨0, rfl, by omega, fun j h => by omega⟩
  case round =>
    obtain ⟨i, rfl, hi, hall⟩ := hrel
    have HP := hidp hall; clear hall
    by_cases hl : i < 2
    · have e0 : decide ((i : Int) < 2) = true := by simp; omega
      have c0 : (0 : Int) ≤ (i : Int) := by omega
      have c1 : (i : Int) < 2 := by omega
      have m1 := HC.out i hl
      obtain ⟨X, hX⟩ : ∃ X, F i = X := ⟨_, rfl⟩
      rw [hX] at m1
      by_cases hx : X = 0
      · subst hx
        have HX := hidp hX; clear hX
        go_wp2
        refine ⟨⟨i + 1, by go_num, by omega, fun j g => ?_⟩, by simp [intOf]; omega⟩
        by_cases hj : j = i
        · subst hj; exact HX.out
        · exact HP.out j (by omega)
      · have e1 : (X != 0) = true := by simpa using hx
        have HF := hidp (HAT.out i HP.out (by rw [hX]; exact hx))
        rw [hX] at HF
        clear hX hx
        go_wp2
        go_ret
        exact ⟨by rw [← HF.out]; first | done | rfl, rfl⟩
    · have e0 : decide ((i : Int) < 2) = false := by simp; omega
      have c1 : ¬ (i : Int) < 2 := by omega
      have HF := hidp (HALL.out fun j g => HP.out j (by omega))
      go_wp2
      go_ret
      exact ⟨by rw [← HF.out]; first | done | rfl, rfl⟩
set_option maxHeartbeats 4000000 in
theorem orL3_any (w : World) (g : Nat) (a b c : Int) (hc : ∀ i, i < 3 → w.cell? ⟨g, i, none⟩ = some (.int .i64 (([a, b, c] : List Int).getD i 0))) :
    Calls Tryz.prog 28 #[.slice (some ⟨g, 0, none⟩) 3 3] w fun e w' => e = .returned (.int .i64 (orL [a, b, c])) ∧ w' = w := by
  have HC := hidp hc; clear hc
  obtain ⟨K, hK⟩ : ∃ K, orL [a, b, c] = K := ⟨_, rfl⟩
  have HAT := hidp (fun i h hn => (orL_at [a, b, c] i h hn).symm.trans hK)
  have HALL := hidp (fun (h : ∀ j, j < 3 → ([a, b, c] : List Int).getD j 0 = 0) => (orL_all [a, b, c] (fun j hj => h j (by simpa using hj))).symm.trans hK)
  rw [hK]
  obtain ⟨F, hF⟩ : ∃ F : Nat → Int, (fun i => ([a, b, c] : List Int).getD i 0) = F := ⟨_, rfl⟩
  have hF2 : ∀ i, ([a, b, c] : List Int).getD i 0 = F i := fun i => congrFun hF i
  simp only [hF2] at HC HAT HALL
  clear hF hF2 hK
  go_enter Tryz.func28, Tryz.ntmps28
  go_wp2
  go_loop [5, 8] (fun t5 t8 => ∃ i : Nat, t8 = .int .i64 (i : Int) ∧ i ≤ 3 ∧ ∀ j, j < i → F j = 0) (fun t5 t8 => 3 - (intOf t8).toNat)
  case atStart => exact ⟨0, rfl, by omega, fun j h => by omega⟩
  case round =>
    obtain ⟨i, rfl, hi, hall⟩ := hrel
    have HP := hidp hall; clear hall
    by_cases hl : i < 3
    · have e0 : decide ((i : Int) < 3) = true := by simp; omega
      have c0 : (0 : Int) ≤ (i : Int) := by omega
      have c1 : (i : Int) < 3 := by omega
      have m1 := HC.out i hl
      obtain ⟨X, hX⟩ : ∃ X, F i = X := ⟨_, rfl⟩
      rw [hX] at m1
      by_cases hx : X = 0
      · subst hx
        have HX := hidp hX; clear hX
        go_wp2
        refine ⟨⟨i + 1, by go_num, by omega, fun j g => ?_⟩, by simp [intOf]; omega⟩
        by_cases hj : j = i
        · subst hj; exact HX.out
        · exact HP.out j (by omega)
      · have e1 : (X != 0) = true := by simpa using hx
        have HF := hidp (HAT.out i HP.out (by rw [hX]; exact hx))
        rw [hX] at HF
        clear hX hx
        go_wp2
        go_ret
        exact ⟨by rw [← HF.out]; first | done | rfl, rfl⟩
    · have e0 : decide ((i : Int) < 3) = false := by simp; omega
      have c1 : ¬ (i : Int) < 3 := by omega
      have HF := hidp (HALL.out fun j g => HP.out j (by omega))
      go_wp2
      go_ret
      exact ⟨by rw [← HF.out]; first | done | rfl, rfl⟩
theorem arr2c {W : World} {g T : Nat} {a b : Int} (h : Arr W g T [.int .i64 a, .int .i64 b]) : ∀ i, i < 2 → W.cell? ⟨g, i, none⟩ = some (.int .i64 (([a, b] : List Int).getD i 0)) := by
  intro i hi
  rcases (by omega : i = 0 ∨ i = 1) with rfl | rfl
  · exact h.cell 0 (by simp)
  · exact h.cell 1 (by simp)
theorem arr3c {W : World} {g T : Nat} {a b c : Int} (h : Arr W g T [.int .i64 a, .int .i64 b, .int .i64 c]) : ∀ i, i < 3 → W.cell? ⟨g, i, none⟩ = some (.int .i64 (([a, b, c] : List Int).getD i 0)) := by
  intro i hi
  rcases (by omega : i = 0 ∨ i = 1 ∨ i = 2) with rfl | rfl | rfl
  · exact h.cell 0 (by simp)
  · exact h.cell 1 (by simp)
  · exact h.cell 2 (by simp)
theorem eqin_hash (W : World) (a b : List UInt8) (ha : a.length = 32) (hb : b.length = 32) :
    (Op.equalIn 10000 34 (.agg (u8s a).toArray) (.agg (u8s b).toArray)).run Tryz.prog W = .ok (decide (a = b)) W := by
  obtain ⟨i0, hi, hz0, hz1, hz2⟩ := info_parts info5
  have hu : Tryz.prog.underlying 34 = some (.array 32 5) := by kernel_rfl
  have hu8 : Tryz.prog.underlying 5 = some (.int .u8) := Tryz.underlying5
  have hsz : ∀ W, (sizeOf 5).run Tryz.prog W = .ok 1 W := by intro W; simp [sizeOf, typeInfo, hi, hz1]
  have hpart : ∀ (l : List UInt8) (i : Nat) (W : World), l.length = 32 → i < 32 → (part 5 (u8s l).toArray (i * 1)).run Tryz.prog W = .ok (.int .u8 ((l.getD i 0).toNat : Int)) W := by
    intro l i W hl hlt
    simp [part, sizeOf, typeInfo, hi, hz0, hz1, hz2, hl, hlt, u8s, List.getD_eq_getElem?_getD]
  have hdec : decide (a = b) = (List.range' 0 32).all (fun i => a.getD i 0 == b.getD i 0) := by
    rw [Bool.eq_iff_iff, decide_eq_true_iff, List.all_eq_true]
    constructor
    · rintro rfl i _; simp
    · intro h
      apply List.ext_getElem (by omega)
      intro i h1 h2
      have := h i (by simp [List.mem_range']; omega)
      simpa [List.getD_eq_getElem?_getD, h1, h2] using this
  rw [hdec]
  unfold Op.equalIn
  simp only [Sem.run_bind, run_underlying hu, Result.andThen_ok, hsz]
  rw [Std.Legacy.Range.forIn_eq_forIn_range']
  have hall : ∀ i ∈ List.range' 0 32, i < 32 := by intro i h; simp [List.mem_range'] at h; omega
  show ((Sem.run Tryz.prog (forIn (List.range' 0 32) _ _) W).andThen _) = _
  generalize List.range' 0 32 = is at hall ⊢
  induction is generalizing W with
  | nil => simp
  | cons i is ih =>
    have hi32 := hall i (by simp)
    have ih := ih W (fun j hj => hall j (by simp [hj]))
    simp only [List.forIn_cons, Sem.run_bind, hpart a i _ ha hi32, hpart b i _ hb hi32, Result.andThen_ok, run_equalIn_int _ _ _ _ _ _ _ hu8, Sem.run_ite, List.all_cons]
    have hbeq : (((a.getD i 0).toNat : Int) == ((b.getD i 0).toNat : Int)) = (a.getD i 0 == b.getD i 0) := by
      rw [Bool.eq_iff_iff, beq_iff_eq, beq_iff_eq, ← UInt8.toNat_inj]; omega
    rw [hbeq]
    cases a.getD i 0 == b.getD i 0
    · simp
    · simpa using ih
theorem eql_hash (W : World) (a b : List UInt8) (ha : a.length = 32) (hb : b.length = 32) :
    (binOp .eql 34 (.agg (u8s a).toArray) (.agg (u8s b).toArray)).run Tryz.prog W = .ok (.bool (decide (a = b))) W := by
  rw [run_eql_struct, eqin_hash W a b ha hb]; rfl

def noTwo : List Value → Bool
  | .string _ :: .string _ :: _ => false
  | _ :: l => noTwo l
  | [] => true
theorem noTwo_at : ∀ (l : List Value) (i : Nat) (x y : ByteArray), l[i]? = some (.string x) → l[i + 1]? = some (.string y) → noTwo l = false
  | [], i, x, y, h, _ => by simp at h
  | a :: l, 0, x, y, h, k => by
    have h' : a = .string x := by simpa using h
    match l, k with
    | b :: l, k =>
      have k' : b = .string y := by simpa using k
      rw [h', k']; rfl
  | a :: l, i + 1, x, y, h, k => by
    have e := noTwo_at l i x y (by simpa using h) (by simpa using k)
    match a, l, e with
    | .string _, .string _ :: _, _ => rfl
    | .string _, [], e => exact e
    | .string _, .int .. :: _, e => exact e
    | a, l, e => unfold noTwo; split <;> first | rfl | simp_all
/-- Two texts side by side in memory. -/
structure Two (w : World) (g i : Nat) (x y : ByteArray) : Prop where
  c0 : w.cell? ⟨g, i, none⟩ = some (.string x)
  c1 : w.cell? ⟨g, i + 1, none⟩ = some (.string y)
theorem Two.to {w w' : World} {g i : Nat} {x y : ByteArray} (h : Two w g i x y) (hb : Below w.heap.size w w') : Two w' g i x y := by
  have g0 := World.block_lt_of_cell? w _ h.c0
  exact ⟨(hb.cell (p := ⟨g, i, none⟩) (by simpa using g0)).trans h.c0, (hb.cell (p := ⟨g, i + 1, none⟩) (by simpa using g0)).trans h.c1⟩
theorem Two.stp {w W : World} {g i b T : Nat} {x y : ByteArray} {xs : List Value} (h : Two w g i x y) (st : Rt.Stp b w W) (ha : Arr w b T xs) (hn : noTwo xs = true) : Two W g i x y := by
  have hne : g ≠ b := by
    rintro rfl
    have hc : ∀ k, w.cell? ⟨g, k, none⟩ = xs[k]? := fun k => by simp [World.cell?, show w.heap[g]? = _ from ha]
    have h0 := h.c0; have h1 := h.c1
    rw [hc] at h0 h1
    rw [noTwo_at xs i x y h0 h1] at hn
    cases hn
  exact ⟨(World.cell?_of_block (w := w) (st.other g hne)).trans h.c0, (World.cell?_of_block (w := w) (st.other g hne)).trans h.c1⟩

set_option maxHeartbeats 4000000 in
theorem isServer_any (w : World) (n : Int) : Calls Tryz.prog 31 #[.int .i64 n] w fun e w' => e = .returned (.bool (srv n)) ∧ w' = w := by
  by_cases h0 : 0 ≤ n
  · have e0 : decide ((0 : Int) ≤ n) = true := by simp; omega
    skip 
    by_cases h9 : n ≤ 63
    · have e1 : decide (n ≤ 63) = true := by simp; omega
      skip
      have HF := hidp (show srv n = true from decide_eq_true ⟨h0, by omega⟩)
      go_enter Tryz.func31, Tryz.ntmps31
      go_wp2
      go_ret
      exact ⟨by rw [HF.out]; rfl, rfl⟩
    · have e1 : decide (n ≤ 63) = false := by simp; omega
      have HF := hidp (show srv n = false from decide_eq_false (fun g => by omega))
      go_enter Tryz.func31, Tryz.ntmps31
      go_wp2
      go_ret
      exact ⟨by rw [HF.out]; rfl, rfl⟩
  · have e0 : decide ((0 : Int) ≤ n) = false := by simp; omega
    have HF := hidp (show srv n = false from decide_eq_false (fun g => by omega))
    go_enter Tryz.func31, Tryz.ntmps31
    go_wp2
    go_ret
    exact ⟨by rw [HF.out]; rfl, rfl⟩
def erB (n : Int) : Bool := decide (1 ≤ n ∧ n ≤ 15)

set_option maxHeartbeats 4000000 in
theorem isError_any (w : World) (n : Int) : Calls Tryz.prog 35 #[.int .i64 n] w fun e w' => e = .returned (.bool (erB n)) ∧ w' = w := by
  by_cases h0 : 0 < n
  · have e0 : decide ((0 : Int) < n) = true := by simp; omega
    skip 
    by_cases h9 : n ≤ 15
    · have e1 : decide (n ≤ 15) = true := by simp; omega
      skip
      have HF := hidp (show erB n = true from decide_eq_true ⟨by omega, by omega⟩)
      go_enter Tryz.func35, Tryz.ntmps35
      go_wp2
      go_ret
      exact ⟨by rw [HF.out]; rfl, rfl⟩
    · have e1 : decide (n ≤ 15) = false := by simp; omega
      have HF := hidp (show erB n = false from decide_eq_false (fun g => by omega))
      go_enter Tryz.func35, Tryz.ntmps35
      go_wp2
      go_ret
      exact ⟨by rw [HF.out]; rfl, rfl⟩
  · have e0 : decide ((0 : Int) < n) = false := by simp; omega
    have HF := hidp (show erB n = false from decide_eq_false (fun g => by omega))
    go_enter Tryz.func35, Tryz.ntmps35
    go_wp2
    go_ret
    exact ⟨by rw [HF.out]; rfl, rfl⟩

set_option maxHeartbeats 4000000 in
theorem isKind_any (w : World) (k : Nat) (hk : k < 256) :
    Calls Tryz.prog 32 #[.int .u8 (k : Int)] w fun e w' => e = .returned (.bool (mkB k)) ∧ w' = w := by
  by_cases h0 : k = 0
  · have e0 : decide ((0 : Int) < (k : Int)) = false := by simp; omega
    have n0 : ¬ 0 < k := by omega
    have HF := hidp (show mkB k = false from decide_eq_false (fun g => by omega))
    clear h0
    go_enter Tryz.func32, Tryz.ntmps32
    go_wp2
    go_ret
    exact ⟨by rw [HF.out]; rfl, rfl⟩
  · have e0 : decide ((0 : Int) < (k : Int)) = true := by simp; omega
    have n0 : 0 < k := by omega
    by_cases h9 : k < 8
    · have e1 : decide ((k : Int) < 8) = true := by simp; omega
      have n1 : (k : Int) < 8 := by omega
      have HF := hidp (show mkB k = true from decide_eq_true ⟨by omega, by omega⟩)
      clear h0 h9
      go_enter Tryz.func32, Tryz.ntmps32
      go_wp2
      go_ret
      exact ⟨by rw [HF.out]; rfl, rfl⟩
    · have e1 : decide ((k : Int) < 8) = false := by simp; omega
      have n1 : ¬ (k : Int) < 8 := by omega
      have HF := hidp (show mkB k = false from decide_eq_false (fun g => by omega))
      clear h0 h9
      go_enter Tryz.func32, Tryz.ntmps32
      go_wp2
      go_ret
      exact ⟨by rw [HF.out]; rfl, rfl⟩

set_option maxHeartbeats 4000000 in
theorem mkindOf_any (w : World) (t : ByteArray) (hT : MT w) :
    Calls Tryz.prog 27 #[.string t] w fun e w' => e = .returned (.int .u8 (mkOf t : Nat)) ∧ w' = w := by
  have HW := hidp hT; clear hT
  obtain ⟨K, hK⟩ : ∃ K, mkOf t = K := ⟨_, rfl⟩
  rw [hK]
  have HK := hidp hK; clear hK
  go_enter Tryz.func27, Tryz.ntmps27
  go_wp2
  go_loop [3] (fun t3 => ∃ k : Nat, t3 = .int .u8 (k : Int) ∧ 1 ≤ k ∧ k ≤ 8 ∧ ∀ j, 1 ≤ j → j < k → mwd j ≠ t) (fun t3 => 8 - (intOf t3).toNat)
  case atStart => exact ⟨1, rfl, by omega, by omega, fun j h1 h2 => by omega⟩
  case round =>
    obtain ⟨k, rfl, h1, h9, hall⟩ := hrel
    have HALL := hidp hall; clear hall
    by_cases hl : k < 8
    · have e0 : decide ((k : Int) < 8) = true := by simp; omega
      have n0 : (k : Int) < 8 := by omega
      have c0 : (0 : Int) ≤ (k : Int) := by omega
      have m1 := HW.out k hl
      by_cases hwt : mwd k = t
      · have HF := hidp (HK.out.symm.trans (mkOf_eq h1 (by omega) hwt))
        rw [hwt] at m1
        clear hwt
        go_wp2
        go_ret
        exact ⟨by rw [HF.out]; rfl, rfl⟩
      · have hq := toList_no hwt
        obtain ⟨X, hX⟩ : ∃ X, mwd k = X := ⟨_, rfl⟩
        rw [hX] at m1 hq
        have HN := hidp hwt
        clear hwt hX
        have hw1 : IntKind.u8.wrap ((k : Int) + 1) = (k : Int) + 1 := by unfold IntKind.wrap; simp [IntKind.bits, IntKind.signed]; omega
        go_wp2
        refine ⟨⟨k + 1, by go_num, by omega, by omega, fun j g1 g2 => ?_⟩, by simp [intOf]; omega⟩
        by_cases hjk : j = k
        · subst hjk; exact HN.out
        · exact HALL.out j g1 (by omega)
    · have e0 : decide ((k : Int) < 8) = false := by simp; omega
      have n0 : ¬ (k : Int) < 8 := by omega
      have HF := hidp (HK.out.symm.trans (mkOf_none fun j g1 g2 => HALL.out j g1 (by omega)))
      go_wp2
      go_ret
      exact ⟨by rw [HF.out]; rfl, rfl⟩

set_option maxHeartbeats 4000000 in
theorem ask_any (w : World) (i : Int) : Calls Tryz.prog 14 #[.int .i64 i] w fun e w' => e = .returned (.tuple #[.string (akB i), .int .i64 (akBE i)]) ∧ Below w.heap.size w w' := by
  by_cases h0 : i < 0
  · have e0 : decide (i < 0) = true := decide_eq_true h0
    have HF := hidp (show akB i = ByteArray.empty ∧ akBE i = 1 from ⟨if_neg (by omega), if_neg (by omega)⟩)
    go_enter Tryz.func14, Tryz.ntmps14
    go_wp2
    go_ret2
    exact ⟨by rw [HF.out.1, HF.out.2]; rfl, Below.refl _ _⟩
  · have e0 : decide (i < 0) = false := decide_eq_false h0
    by_cases h9 : i > 4096
    · have e1 : decide (i > 4096) = true := decide_eq_true h9
      have n1 : (4096 : Int) < i := h9
      have HF := hidp (show akB i = ByteArray.empty ∧ akBE i = 1 from ⟨if_neg (by omega), if_neg (by omega)⟩)
      go_enter Tryz.func14, Tryz.ntmps14
      go_wp2
      go_ret2
      exact ⟨by rw [HF.out.1, HF.out.2]; rfl, Below.refl _ _⟩
    · have e1 : decide (i > 4096) = false := decide_eq_false h9
      have n1 : ¬ (4096 : Int) < i := h9
      obtain ⟨n, rfl⟩ := Int.eq_ofNat_of_zero_le (show 0 ≤ i by omega)
      have HF := hidp (show akB (n : Int) = mkS (encN n) ∧ akBE (n : Int) = 0 from ⟨by unfold akB; rw [if_pos (by omega), Int.toNat_natCast], if_pos (by omega)⟩)
      have cn := hidp (fun W => num_any W n (by omega))
      rw [numS_yes (by omega), numE_yes (by omega)] at cn
      have w1 : IntKind.u64.wrap (n : Int) = (n : Int) := by unfold IntKind.wrap; simp [IntKind.bits, IntKind.signed]; omega
      clear h0 h9
      go_enter Tryz.func14, Tryz.ntmps14
      go_wp2_with (go_at_call 21; refine (cn.out _).mono ?_; rintro e w9 ⟨rfl, hb⟩; have HB := hidp hb; clear hb cn)
      go_ret2
      exact ⟨by rw [HF.out.1, HF.out.2]; first | done | rfl, HB.out⟩

theorem akE_no {s : ByteArray} (h : inE s 4096 ≠ 0) : akE s = 6 := if_neg h
set_option maxHeartbeats 4000000 in
theorem asked_any (w : World) (s : ByteArray) (hs : s.size ≤ 281474976710656) : Calls Tryz.prog 18 #[.string s] w fun e w' => e = .returned (.tuple #[.int .i64 (akV s : Nat), .int .i64 (akE s)]) ∧ Below w.heap.size w w' := by
  have ci := hidp (show ∀ W, Calls Tryz.prog 26 #[.string s, .int .i64 4096] W (fun e w' => e = .returned (.tuple #[.int .i64 (inV s 4096 : Nat), .int .i64 (inE s 4096)]) ∧ Below W.heap.size W w') from fun W => allInt_any W s 4096 (by omega) hs)
  by_cases h : inE s 4096 = 0
  · have HF := hidp (show (akV s : Nat) = inV s 4096 ∧ akE s = 0 from ⟨rfl, if_pos h⟩)
    rw [h] at ci
    obtain ⟨V, hV⟩ : ∃ V : Int, ((inV s 4096 : Nat) : Int) = V := ⟨_, rfl⟩
    rw [HF.out.1, HF.out.2, hV]
    rw [hV] at ci
    clear h hV HF
    go_enter Tryz.func18, Tryz.ntmps18
    go_wp2_with (go_at_call 26; refine (ci.out _).mono ?_; rintro e w9 ⟨rfl, hb⟩; have HB := hidp hb; clear hb ci)
    go_ret2
    exact ⟨rfl, HB.out⟩
  · have HF := hidp (show (akV s : Nat) = 0 ∧ akE s = 6 from ⟨akV_no (by rw [akE_no h]; decide), if_neg h⟩)
    obtain ⟨V, hV⟩ : ∃ V : Int, ((inV s 4096 : Nat) : Int) = V := ⟨_, rfl⟩
    obtain ⟨E, hE⟩ : ∃ E, inE s 4096 = E := ⟨_, rfl⟩
    rw [HF.out.1, HF.out.2]
    rw [hV, hE] at ci
    rw [hE] at h
    have e1 : (E != 0) = true := by simpa using h
    clear h hV hE HF
    go_enter Tryz.func18, Tryz.ntmps18
    go_wp2_with (go_at_call 26; refine (ci.out _).mono ?_; rintro e w9 ⟨rfl, hb⟩; have HB := hidp hb; clear hb ci)
    go_ret2
    exact ⟨rfl, HB.out⟩

set_option maxHeartbeats 8000000 in
theorem reject_any (w : World) (h : List UInt8) (hl : h.length = 32) (c : Int) : Calls Tryz.prog 12 #[.agg (u8s h).toArray, .int .i64 c] w fun e w' => e = .returned (.tuple #[.string (rjB h c), .int .i64 (rjBE c)]) ∧ Below w.heap.size w w' := by
  have H := hidp (Mm.M.nil w)
  have HL := hidp hl
  have ce := hidp (fun W => isError_any W c)
  cases hc : erB c with
  | false =>
    rw [hc] at ce
    have hc' : ¬ (1 ≤ c ∧ c ≤ 15) := of_decide_eq_false hc
    have HF := hidp (show rjB h c = ByteArray.empty ∧ rjBE c = 1 from ⟨if_neg hc', if_neg hc'⟩)
    clear hl hc'
    go_enter Tryz.func12, Tryz.ntmps12
    have tk0 := hidp trivial
    go_wp2_with (first | (clear tk0; (refine Mm.box 34 H rfl (.tmp 0) rfl (u8s h) rfl ?_; clear H; intro b1 _ H nw; have hb := nw.below; clear hb nw); (try simp only [Act.put, setIfInBounds_toArray, set_cons_zero, set_cons_succ]); have tk1 := hidp trivial) | (clear tk1; (go_at_call 35; refine (ce.out _).mono ?_; rintro e _ ⟨rfl, rfl⟩; clear ce); (try simp only [Act.put, setIfInBounds_toArray, set_cons_zero, set_cons_succ]); have tk2 := hidp trivial))
    try clear tk2
    go_ret2
    exact ⟨by rw [HF.out.1, HF.out.2]; first | done | rfl, H.out.below⟩
  | true =>
    rw [hc] at ce
    have hc' : 1 ≤ c ∧ c ≤ 15 := of_decide_eq_true hc
    clear hc
    obtain ⟨n, rfl⟩ := Int.eq_ofNat_of_zero_le (show 0 ≤ c by omega)
    have hlok := rjL_ok hl (c := n) (by omega)
    have HF := hidp (show rjB h (n : Int) = mkS (encL [mkS h, mkS (encN n)]) ∧ rjBE (n : Int) = 0 from ⟨by unfold rjB; rw [if_pos hc', Int.toNat_natCast], if_pos hc'⟩)
    have cn := hidp (fun W => num_any W n (by omega))
    rw [numS_yes (by omega), numE_yes (by omega)] at cn
    have w1 : IntKind.u64.wrap (n : Int) = (n : Int) := by unfold IntKind.wrap; simp [IntKind.bits, IntKind.signed]; omega
    have cl := hidp (fun W v (hat : StrsAt W v [mkS h, mkS (encN n)]) => list_any W v [mkS h, mkS (encN n)] hat (by simp) (fun s hs => by have := hlok.2 s hs; omega))
    rw [listS_yes hlok, listE_yes hlok] at cl
    clear hl hc' hlok
    go_enter Tryz.func12, Tryz.ntmps12
    have tk0 := hidp trivial
    go_wp2_with (first | (clear tk0; (refine Mm.box 34 H rfl (.tmp 0) rfl (u8s h) rfl ?_; clear H; intro b1 _ H nw; have hb := nw.below; clear hb nw); (try simp only [Act.put, setIfInBounds_toArray, set_cons_zero, set_cons_succ]); have tk1 := hidp trivial) | (clear tk1; (go_at_call 35; refine (ce.out _).mono ?_; rintro e _ ⟨rfl, rfl⟩; clear ce); (try simp only [Act.put, setIfInBounds_toArray, set_cons_zero, set_cons_succ]); have tk2 := hidp trivial) | (clear tk2; (go_at_call 21; refine (cn.out _).mono ?_; rintro e _ ⟨rfl, hb⟩; replace H := hidp (H.out.call hb); clear cn; clear hb); (try simp only [Act.put, setIfInBounds_toArray, set_cons_zero, set_cons_succ]); have tk3 := hidp trivial) | (clear tk3; (refine wpL_slc rfl (.tmp 2) rfl b1 0 rfl ?_); (try simp only [Act.put, setIfInBounds_toArray, set_cons_zero, set_cons_succ]); have tk4 := hidp trivial) | (clear tk4; (refine wpL_cnv rfl (.tmp 17) rfl _ (mkS h) rfl (convH _ b1 h HL.out H.out.at0) ?_); (try simp only [Act.put, setIfInBounds_toArray, set_cons_zero, set_cons_succ]); have tk5 := hidp trivial) | (clear tk5; (refine Sl.wpL_bsS2 H rfl (.tmp 18) (.tmp 19) (mkS h) (mkS (encN n)) rfl rfl rfl ?_; clear H; intro b6 _ H nw; clear nw); (try simp only [Act.put, setIfInBounds_toArray, set_cons_zero, set_cons_succ]); have tk6 := hidp trivial) | (clear tk6; (go_at_call 22; refine (cl.out _ _ (Sl.own_arr (B := 0) (row := strV [mkS h, mkS (encN n)]) H.out.at0 (Nat.zero_le _) (by simp [strV])).strs).mono ?_; rintro e _ ⟨rfl, hb⟩; replace H := hidp (H.out.call hb); clear cl; clear hb); (try simp only [Act.put, setIfInBounds_toArray, set_cons_zero, set_cons_succ]); have tk7 := hidp trivial))
    try clear tk7
    go_ret2
    exact ⟨by rw [HF.out.1, HF.out.2]; first | done | rfl, H.out.below⟩

set_option maxHeartbeats 16000000 in
theorem rejected_any (w : World) (s : ByteArray) (hs : s.size ≤ 281474976710656) :
    Calls Tryz.prog 16 #[.string s] w fun e w' => e = .returned (.tuple #[.agg (u8s (rjH s)).toArray, .int .i64 (rjC s : Nat), .int .i64 (rjE s)]) ∧ Below w.heap.size w w' := by
  have ca := hidp (fun W => all_any W s hs)
  have H := hidp (Mm.M.nil w)
  by_cases h0 : (al s).2 = 0
  · by_cases h6 : (al s).1.length = 2
    · obtain ⟨a, c, hL⟩ : ∃ a c, (al s).1 = [a, c] := by
        match hL : (al s).1, h6 with
        | [a, c], _ => exact ⟨a, c, rfl⟩
      have hss := al_sz s hs
      rw [hL] at hss
      have a0 : at' s 0 = a := by unfold at'; rw [hL]; rfl
      have a1 : at' s 1 = c := by unfold at'; rw [hL]; rfl
      have hR : rjE s = if hsE a = 0 ∧ inE c 15 = 0 ∧ 1 ≤ inV c 15 then 0 else 6 := by unfold rjE; rw [a0, a1]; simp only [h0, h6, true_and]
      have hH : rjH s = if rjE s = 0 then a.data.toList else z32 := by unfold rjH; rw [a0]
      have hC : rjC s = if rjE s = 0 then inV c 15 else 0 := by unfold rjC; rw [a1]
      have hQ2 : hsE a = 0 → a.data.toList = hsV a := fun g => by unfold hsE at g; unfold hsV; split at g <;> simp_all
      have hQ := hsV_len a
      have c1 := hidp (show ∀ W, Calls Tryz.prog 26 #[.string c, .int .i64 15] W (fun e w' => e = .returned (.tuple #[.int .i64 (inV c 15 : Nat), .int .i64 (inE c 15)]) ∧ Below W.heap.size W w') from fun W => allInt_any W c 15 (by omega) (by have := hss c (by simp); omega))
      have c3 := hidp (fun W => ohash_any W a)
      rw [h0, hL] at ca
      obtain ⟨Q, hQe⟩ : ∃ Q, hsV a = Q := ⟨_, rfl⟩
      have HQ := hidp (show (u8s Q).length = 32 from by rw [u8s_length, ← hQe]; exact hQ)
      obtain ⟨V1, hV1⟩ : ∃ V : Int, ((inV c 15 : Nat) : Int) = V := ⟨_, rfl⟩
      obtain ⟨E1, hE1⟩ : ∃ V, inE c 15 = V := ⟨_, rfl⟩
      obtain ⟨E3, hE3⟩ : ∃ V, hsE a = V := ⟨_, rfl⟩
      have hle := fun (g : inE c 15 = 0) => (in_of g).2
      rw [hV1, hE1] at c1
      rw [hQe, hE3] at c3
      rw [hE1, hE3] at hR
      rw [hE1] at hle
      rw [hQe, hE3] at hQ2
      have en : (((2 : Nat) : Int) != 2) = false := rfl
      by_cases hz : orL [E3, E1] = 0
      · obtain ⟨z3, z1⟩ := orL2.1 hz
        have hle := hle z1
        cases hB : erB V1 with
        | false =>
          have hB' := of_decide_eq_false hB
          have hE6 : rjE s = 6 := by rw [hR, if_neg (fun g => hB' (by omega))]
          have HV := hidp (show rjH s = z32 from if_neg (by rw [hE6]; decide))
          have HD := hidp (show ((rjC s : Nat) : Int) = 0 from by unfold rjC; rw [if_neg (by rw [hE6]; decide)]; rfl)
          have HE := hidp hE6
          clear hE6
          clear hss h0 h6 hL hR hH hC hQ2 hQ a0 a1 hB' hle z3 z1 hV1 hE1 hE3 hQe
          have e9 : (orL [E3, E1] != 0) = false := by rw [hz]; rfl
          go_enter Tryz.func16, Tryz.ntmps16
          have tk0 := hidp trivial
          go_wp2_with (first | (clear tk0; (refine Mm.new rtH H (some 2) rfl rfl rfl ?_; clear H; intro b2 _ H nw; have hb := nw.below; clear hb nw); (try simp only [Act.put, setIfInBounds_toArray, set_cons_zero, set_cons_succ]); have tk1 := hidp trivial) | (clear tk1; (go_at_call 20; refine (ca.out _).mono ?_; rintro e w1 ⟨v, rfl, hst, hb⟩; have H0 := hidp (H.out.call hb); obtain ⟨g, off, cv, rfl, hg, hcs⟩ := Sl.strs_pos hst (by simp); clear H hst hb ca; have HC := hidp (show ∀ W, Below w1.heap.size w1 W → W.cell? ⟨g, off, none⟩ = some (.string a) ∧ W.cell? ⟨g, off + 1, none⟩ = some (.string c) from fun W hW => ⟨(hW.cell (p := ⟨g, off, none⟩) hg).trans (hcs 0 (by simp)), (hW.cell (p := ⟨g, off + 1, none⟩) hg).trans (hcs 1 (by simp))⟩); clear hcs; have H := hidp (Mm.M.nil w1); obtain ⟨m0, m1⟩ := HC.out _ H.out.below); (try simp only [Act.put, setIfInBounds_toArray, set_cons_zero, set_cons_succ]); have tk2 := hidp trivial) | (clear tk2; (go_at_call 36; refine (c3.out _).mono ?_; rintro e _ ⟨rfl, hb⟩; clear m0 m1; replace H := hidp (H.out.call hb); obtain ⟨m0, m1⟩ := HC.out _ H.out.below; clear hb); (try simp only [Act.put, setIfInBounds_toArray, set_cons_zero, set_cons_succ]); have tk3 := hidp trivial) | (clear tk3; (refine Mm.new rtH H (some 7) rfl rfl rfl ?_; clear H; intro b7 _ H nw; clear nw m0 m1); (try simp only [Act.put, setIfInBounds_toArray, set_cons_zero, set_cons_succ]); have tk4 := hidp trivial) | (clear tk4; (refine Mm.put0 rtH H rfl (.tmp 7) (.tmp 30) (u8s Q) rfl rfl rfl HQ.out (u8_one _) rfl ?_; intro _ H2 st; clear st H; have H := H2; clear H2; obtain ⟨m0, m1⟩ := HC.out _ H.out.below); (try simp only [Act.put, setIfInBounds_toArray, set_cons_zero, set_cons_succ]); have tk5 := hidp trivial) | (clear tk5; (go_at_call 26; refine (c1.out _).mono ?_; rintro e _ ⟨rfl, hb⟩; clear m0 m1; replace H := hidp (H.out.call hb); clear hb); (try simp only [Act.put, setIfInBounds_toArray, set_cons_zero, set_cons_succ]); have tk6 := hidp trivial) | (clear tk6; (refine wpL_bsE2 H rfl (.tmp 40) (.tmp 41) E3 E1 rfl rfl rfl ?_; clear H; intro b9 _ H nw; clear nw); (try simp only [Act.put, setIfInBounds_toArray, set_cons_zero, set_cons_succ]); have tk7 := hidp trivial) | (clear tk7; (go_at_call 28; refine (orL2_any _ b9 E3 E1 (arr2c H.out.at0)).mono ?_; rintro e _ ⟨rfl, rfl⟩); (try simp only [Act.put, setIfInBounds_toArray, set_cons_zero, set_cons_succ]); have tk8 := hidp trivial) | (clear tk8; (go_at_call 35; refine (isError_any _ V1).mono ?_; rintro e _ ⟨rfl, rfl⟩); (try simp only [Act.put, setIfInBounds_toArray, set_cons_zero, set_cons_succ]); have tk9 := hidp trivial) | (clear tk9; (refine Rt.wpL_build rfl 34 _ rfl (u8s z32) (by kernel_rfl) ?_; replace H := hidp (Sl.join H0.out H.out)); (try simp only [Act.put, setIfInBounds_toArray, set_cons_zero, set_cons_succ]); have tk10 := hidp trivial) | (clear tk10; (refine Mm.put2 rtH H rfl (.tmp 2) (.tmp 50) (u8s z32) rfl rfl rfl rfl (u8_one z32) rfl ?_; intro _ H2 st; clear st H; have H := H2; clear H2); (try simp only [Act.put, setIfInBounds_toArray, set_cons_zero, set_cons_succ]); have tk11 := hidp trivial))
          try clear tk11
          refine bodyPost_ret (ret_rowvv rtH Tryz.results16 _ b2 _ _ _ rfl rfl rfl H.out.at2 rfl) rfl ⟨by rw [HV.out, HD.out, HE.out]; first | done | rfl, H.out.below⟩
        | true =>
          have hB' := of_decide_eq_true hB
          have hR0 : rjE s = 0 := by rw [hR, if_pos ⟨z3, z1, by omega⟩]
          have HV := hidp (show rjH s = Q from by rw [hH, if_pos hR0, hQ2 z3])
          have HD := hidp (show ((rjC s : Nat) : Int) = V1 from by rw [hC, if_pos hR0, hV1])
          have HE := hidp hR0
          clear hss h0 h6 hL hR hH hC hQ2 hQ a0 a1 hB' hle z3 z1 hV1 hE1 hE3 hQe hR0
          have e9 : (orL [E3, E1] != 0) = false := by rw [hz]; rfl
          go_enter Tryz.func16, Tryz.ntmps16
          have tk0 := hidp trivial
          go_wp2_with (first | (clear tk0; (refine Mm.new rtH H (some 2) rfl rfl rfl ?_; clear H; intro b2 _ H nw; have hb := nw.below; clear hb nw); (try simp only [Act.put, setIfInBounds_toArray, set_cons_zero, set_cons_succ]); have tk1 := hidp trivial) | (clear tk1; (go_at_call 20; refine (ca.out _).mono ?_; rintro e w1 ⟨v, rfl, hst, hb⟩; have H0 := hidp (H.out.call hb); obtain ⟨g, off, cv, rfl, hg, hcs⟩ := Sl.strs_pos hst (by simp); clear H hst hb ca; have HC := hidp (show ∀ W, Below w1.heap.size w1 W → W.cell? ⟨g, off, none⟩ = some (.string a) ∧ W.cell? ⟨g, off + 1, none⟩ = some (.string c) from fun W hW => ⟨(hW.cell (p := ⟨g, off, none⟩) hg).trans (hcs 0 (by simp)), (hW.cell (p := ⟨g, off + 1, none⟩) hg).trans (hcs 1 (by simp))⟩); clear hcs; have H := hidp (Mm.M.nil w1); obtain ⟨m0, m1⟩ := HC.out _ H.out.below); (try simp only [Act.put, setIfInBounds_toArray, set_cons_zero, set_cons_succ]); have tk2 := hidp trivial) | (clear tk2; (go_at_call 36; refine (c3.out _).mono ?_; rintro e _ ⟨rfl, hb⟩; clear m0 m1; replace H := hidp (H.out.call hb); obtain ⟨m0, m1⟩ := HC.out _ H.out.below; clear hb); (try simp only [Act.put, setIfInBounds_toArray, set_cons_zero, set_cons_succ]); have tk3 := hidp trivial) | (clear tk3; (refine Mm.new rtH H (some 7) rfl rfl rfl ?_; clear H; intro b7 _ H nw; clear nw m0 m1); (try simp only [Act.put, setIfInBounds_toArray, set_cons_zero, set_cons_succ]); have tk4 := hidp trivial) | (clear tk4; (refine Mm.put0 rtH H rfl (.tmp 7) (.tmp 30) (u8s Q) rfl rfl rfl HQ.out (u8_one _) rfl ?_; intro _ H2 st; clear st H; have H := H2; clear H2; obtain ⟨m0, m1⟩ := HC.out _ H.out.below); (try simp only [Act.put, setIfInBounds_toArray, set_cons_zero, set_cons_succ]); have tk5 := hidp trivial) | (clear tk5; (go_at_call 26; refine (c1.out _).mono ?_; rintro e _ ⟨rfl, hb⟩; clear m0 m1; replace H := hidp (H.out.call hb); clear hb); (try simp only [Act.put, setIfInBounds_toArray, set_cons_zero, set_cons_succ]); have tk6 := hidp trivial) | (clear tk6; (refine wpL_bsE2 H rfl (.tmp 40) (.tmp 41) E3 E1 rfl rfl rfl ?_; clear H; intro b9 _ H nw; clear nw); (try simp only [Act.put, setIfInBounds_toArray, set_cons_zero, set_cons_succ]); have tk7 := hidp trivial) | (clear tk7; (go_at_call 28; refine (orL2_any _ b9 E3 E1 (arr2c H.out.at0)).mono ?_; rintro e _ ⟨rfl, rfl⟩); (try simp only [Act.put, setIfInBounds_toArray, set_cons_zero, set_cons_succ]); have tk8 := hidp trivial) | (clear tk8; (go_at_call 35; refine (isError_any _ V1).mono ?_; rintro e _ ⟨rfl, rfl⟩); (try simp only [Act.put, setIfInBounds_toArray, set_cons_zero, set_cons_succ]); have tk9 := hidp trivial) | (clear tk9; (refine Mm.get1 rtH H rfl (.tmp 7) rfl rfl HQ.out ?_; replace H := hidp (Sl.join H0.out H.out)); (try simp only [Act.put, setIfInBounds_toArray, set_cons_zero, set_cons_succ]); have tk10 := hidp trivial) | (clear tk10; (refine Mm.put2 rtH H rfl (.tmp 2) (.tmp 51) (u8s Q) rfl rfl rfl HQ.out (u8_one _) rfl ?_; intro _ H2 st; clear st H; have H := H2; clear H2); (try simp only [Act.put, setIfInBounds_toArray, set_cons_zero, set_cons_succ]); have tk11 := hidp trivial))
          try clear tk11
          refine bodyPost_ret (ret_rowvv rtH Tryz.results16 _ b2 _ _ _ rfl rfl rfl H.out.at2 HQ.out) rfl ⟨by rw [HV.out, HD.out, HE.out]; first | done | rfl, H.out.below⟩
      · have e9 : (orL [E3, E1] != 0) = true := by simpa using hz
        have hE6 : rjE s = 6 := by rw [hR, if_neg (fun g => hz (orL2.2 ⟨g.1, g.2.1⟩))]
        have HV := hidp (show rjH s = z32 from if_neg (by rw [hE6]; decide))
        have HD := hidp (show ((rjC s : Nat) : Int) = 0 from by unfold rjC; rw [if_neg (by rw [hE6]; decide)]; rfl)
        have HE := hidp hE6
        clear hE6
        clear hss h0 h6 hL hR hH hC hQ2 hQ a0 a1 hle hV1 hE1 hE3 hQe
        go_enter Tryz.func16, Tryz.ntmps16
        have tk0 := hidp trivial
        go_wp2_with (first | (clear tk0; (refine Mm.new rtH H (some 2) rfl rfl rfl ?_; clear H; intro b2 _ H nw; have hb := nw.below; clear hb nw); (try simp only [Act.put, setIfInBounds_toArray, set_cons_zero, set_cons_succ]); have tk1 := hidp trivial) | (clear tk1; (go_at_call 20; refine (ca.out _).mono ?_; rintro e w1 ⟨v, rfl, hst, hb⟩; have H0 := hidp (H.out.call hb); obtain ⟨g, off, cv, rfl, hg, hcs⟩ := Sl.strs_pos hst (by simp); clear H hst hb ca; have HC := hidp (show ∀ W, Below w1.heap.size w1 W → W.cell? ⟨g, off, none⟩ = some (.string a) ∧ W.cell? ⟨g, off + 1, none⟩ = some (.string c) from fun W hW => ⟨(hW.cell (p := ⟨g, off, none⟩) hg).trans (hcs 0 (by simp)), (hW.cell (p := ⟨g, off + 1, none⟩) hg).trans (hcs 1 (by simp))⟩); clear hcs; have H := hidp (Mm.M.nil w1); obtain ⟨m0, m1⟩ := HC.out _ H.out.below); (try simp only [Act.put, setIfInBounds_toArray, set_cons_zero, set_cons_succ]); have tk2 := hidp trivial) | (clear tk2; (go_at_call 36; refine (c3.out _).mono ?_; rintro e _ ⟨rfl, hb⟩; clear m0 m1; replace H := hidp (H.out.call hb); obtain ⟨m0, m1⟩ := HC.out _ H.out.below; clear hb); (try simp only [Act.put, setIfInBounds_toArray, set_cons_zero, set_cons_succ]); have tk3 := hidp trivial) | (clear tk3; (refine Mm.new rtH H (some 7) rfl rfl rfl ?_; clear H; intro b7 _ H nw; clear nw m0 m1); (try simp only [Act.put, setIfInBounds_toArray, set_cons_zero, set_cons_succ]); have tk4 := hidp trivial) | (clear tk4; (refine Mm.put0 rtH H rfl (.tmp 7) (.tmp 30) (u8s Q) rfl rfl rfl HQ.out (u8_one _) rfl ?_; intro _ H2 st; clear st H; have H := H2; clear H2; obtain ⟨m0, m1⟩ := HC.out _ H.out.below); (try simp only [Act.put, setIfInBounds_toArray, set_cons_zero, set_cons_succ]); have tk5 := hidp trivial) | (clear tk5; (go_at_call 26; refine (c1.out _).mono ?_; rintro e _ ⟨rfl, hb⟩; clear m0 m1; replace H := hidp (H.out.call hb); clear hb); (try simp only [Act.put, setIfInBounds_toArray, set_cons_zero, set_cons_succ]); have tk6 := hidp trivial) | (clear tk6; (refine wpL_bsE2 H rfl (.tmp 40) (.tmp 41) E3 E1 rfl rfl rfl ?_; clear H; intro b9 _ H nw; clear nw); (try simp only [Act.put, setIfInBounds_toArray, set_cons_zero, set_cons_succ]); have tk7 := hidp trivial) | (clear tk7; (go_at_call 28; refine (orL2_any _ b9 E3 E1 (arr2c H.out.at0)).mono ?_; rintro e _ ⟨rfl, rfl⟩); (try simp only [Act.put, setIfInBounds_toArray, set_cons_zero, set_cons_succ]); have tk8 := hidp trivial) | (clear tk8; (refine Rt.wpL_build rfl 34 _ rfl (u8s z32) (by kernel_rfl) ?_; replace H := hidp (Sl.join H0.out H.out)); (try simp only [Act.put, setIfInBounds_toArray, set_cons_zero, set_cons_succ]); have tk9 := hidp trivial) | (clear tk9; (refine Mm.put2 rtH H rfl (.tmp 2) (.tmp 50) (u8s z32) rfl rfl rfl rfl (u8_one z32) rfl ?_; intro _ H2 st; clear st H; have H := H2; clear H2); (try simp only [Act.put, setIfInBounds_toArray, set_cons_zero, set_cons_succ]); have tk10 := hidp trivial))
        try clear tk10
        refine bodyPost_ret (ret_rowvv rtH Tryz.results16 _ b2 _ _ _ rfl rfl rfl H.out.at2 rfl) rfl ⟨by rw [HV.out, HD.out, HE.out]; first | done | rfl, H.out.below⟩
    · 
      have hE6 : rjE s = 6 := if_neg (fun g => h6 g.2.1)
      have HV := hidp (show rjH s = z32 from if_neg (by rw [hE6]; decide))
      have HD := hidp (show ((rjC s : Nat) : Int) = 0 from by unfold rjC; rw [if_neg (by rw [hE6]; decide)]; rfl)
      have HE := hidp hE6
      clear hE6
      rw [h0] at ca
      obtain ⟨ss, hss⟩ : ∃ ss, (al s).1 = ss := ⟨_, rfl⟩
      rw [hss] at ca h6
      obtain ⟨n, hn⟩ : ∃ n, ss.length = n := ⟨_, rfl⟩
      have e1 : ((n : Int) != 2) = true := by simp; omega
      have g1 : ¬ n = 2 := by omega
      have g2 : (n != 2) = true := by simpa using g1
      clear hss h0
      have cb := hidp (fun W => (ca.out W).mono fun e w' ⟨v, h1, h2, h3⟩ => (⟨v, h1, ⟨Sl.strs_form h2, h3⟩⟩ : ∃ v, e = Ending.returned (.tuple #[v, .int .i64 ((0 : Nat) : Int)]) ∧ (∃ a c, v = Value.slice a ss.length c) ∧ Below W.heap.size W w'))
      rw [hn] at cb
      clear ca hn h6
      go_enter Tryz.func16, Tryz.ntmps16
      have tk0 := hidp trivial
      go_wp2_with (first | (clear tk0; (refine Mm.new rtH H (some 2) rfl rfl rfl ?_; clear H; intro b2 _ H nw; have hb := nw.below; clear hb nw); (try simp only [Act.put, setIfInBounds_toArray, set_cons_zero, set_cons_succ]); have tk1 := hidp trivial) | (clear tk1; (go_at_call 20; refine (cb.out _).mono ?_; rintro e _ ⟨v, rfl, ⟨av, cv, rfl⟩, hb⟩; replace H := hidp (H.out.call hb); clear hb cb); (try simp only [Act.put, setIfInBounds_toArray, set_cons_zero, set_cons_succ]); have tk2 := hidp trivial) | (clear tk2; (refine Rt.wpL_build rfl 34 _ rfl (u8s z32) (by kernel_rfl) ?_); (try simp only [Act.put, setIfInBounds_toArray, set_cons_zero, set_cons_succ]); have tk3 := hidp trivial) | (clear tk3; (refine Mm.put0 rtH H rfl (.tmp 2) (.tmp 24) (u8s z32) rfl rfl rfl rfl (u8_one z32) rfl ?_; intro _ H2 st; clear st H; have H := H2; clear H2); (try simp only [Act.put, setIfInBounds_toArray, set_cons_zero, set_cons_succ]); have tk4 := hidp trivial))
      try clear tk4
      refine bodyPost_ret (ret_rowvv rtH Tryz.results16 _ b2 _ _ _ rfl rfl rfl H.out.at0 rfl) rfl ⟨by rw [HV.out, HD.out, HE.out]; first | done | rfl, H.out.below⟩
  · 
    have hE6 : rjE s = 6 := if_neg (fun g => h0 g.1)
    have HV := hidp (show rjH s = z32 from if_neg (by rw [hE6]; decide))
    have HD := hidp (show ((rjC s : Nat) : Int) = 0 from by unfold rjC; rw [if_neg (by rw [hE6]; decide)]; rfl)
    have HE := hidp hE6
    clear hE6
    obtain ⟨E, hE⟩ : ∃ E, (al s).2 = E := ⟨_, rfl⟩
    rw [hE] at ca h0
    have e1 : ((E : Int) != 0) = true := by simp; omega
    have g1 : ¬ (E : Int) = 0 := by omega
    have g2 : ¬ E = 0 := h0
    clear hE h0
    go_enter Tryz.func16, Tryz.ntmps16
    have tk0 := hidp trivial
    go_wp2_with (first | (clear tk0; (refine Mm.new rtH H (some 2) rfl rfl rfl ?_; clear H; intro b2 _ H nw; have hb := nw.below; clear hb nw); (try simp only [Act.put, setIfInBounds_toArray, set_cons_zero, set_cons_succ]); have tk1 := hidp trivial) | (clear tk1; (go_at_call 20; refine (ca.out _).mono ?_; rintro e _ ⟨v, rfl, hst, hb⟩; replace H := hidp (H.out.call hb); obtain ⟨av, cv, rfl⟩ := Sl.strs_form hst; clear hst hb ca); (try simp only [Act.put, setIfInBounds_toArray, set_cons_zero, set_cons_succ]); have tk2 := hidp trivial) | (clear tk2; (refine Rt.wpL_build rfl 34 _ rfl (u8s z32) (by kernel_rfl) ?_); (try simp only [Act.put, setIfInBounds_toArray, set_cons_zero, set_cons_succ]); have tk3 := hidp trivial) | (clear tk3; (refine Mm.put0 rtH H rfl (.tmp 2) (.tmp 24) (u8s z32) rfl rfl rfl rfl (u8_one z32) rfl ?_; intro _ H2 st; clear st H; have H := H2; clear H2); (try simp only [Act.put, setIfInBounds_toArray, set_cons_zero, set_cons_succ]); have tk4 := hidp trivial))
    try clear tk4
    refine bodyPost_ret (ret_rowvv rtH Tryz.results16 _ b2 _ _ _ rfl rfl rfl H.out.at0 rfl) rfl ⟨by rw [HV.out, HD.out, HE.out]; first | done | rfl, H.out.below⟩
end Go.Proofs.YtfenjincbhkodaaGreatDoor.Wi
