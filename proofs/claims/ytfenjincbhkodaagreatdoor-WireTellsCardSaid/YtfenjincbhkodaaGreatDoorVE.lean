/-
  Joined: Sl HoB EnA.
-/
import Derived.Test.YtfenjincbhkodaaGreatDoorVA
import Derived.Test.YtfenjincbhkodaaGreatDoorVD
import Derived.Test.YtfenjincbhkodaaGreatDoorVB
namespace Go.Proofs.YtfenjincbhkodaaGreatDoor.Sl
set_option maxRecDepth 100000
set_option linter.unusedVariables false
set_option linter.unusedSimpArgs false
open Go.RowKit
open List (getElem_toArray getElem_cons_zero getElem_cons_succ setIfInBounds_toArray set_cons_zero set_cons_succ)

theorem infoI : (Tryz.prog.info? 3).map (fun i => (i.zero, i.size, i.bytes)) = some (some (.int .i64 0), 1, 8) := by kernel_rfl
theorem infoS : (Tryz.prog.info? 9).map (fun i => (i.zero, i.size, i.bytes)) = some (some (.string ByteArray.empty), 1, 16) := by kernel_rfl
theorem tyI : Tryz.prog.underlying 118 = some (.slice 3) := Tryz.underlying118
theorem tyS : Tryz.prog.underlying 42 = some (.slice 9) := Tryz.underlying42
theorem own_arr {B b T : Nat} {W : World} {row : List Value} (ha : Arr W b T row) (hB : B ≤ b) (hl : row.length ≤ 1000000) : OwnV W B T (.slice (some ⟨b, 0, none⟩) row.length row.length) row :=
  ⟨by simp, .inr ⟨b, row.length, row.toArray, rfl, hB, ha, Nat.le_refl _, by unfold maxLen; omega, by simp, by simp⟩⟩
theorem own_to {w w' : World} {B e : Nat} {v : Value} {l : List Value} (h : OwnV w B e v l) (hb : Below w.heap.size w w') : OwnV w' B e v l := h.kept hb (Nat.le_refl _)
/-- The i-th text of a list, or the empty one. -/
def sAt (ss : List ByteArray) (i : Nat) : ByteArray := ss.getD i ⟨#[]⟩
theorem sAt_get {ss : List ByteArray} {i : Nat} (h : i < ss.length) : sAt ss i = ss[i] := by unfold sAt; rw [List.getD_eq_getElem?_getD, List.getElem?_eq_getElem h]; rfl
theorem strs_pos {w : World} {v : Value} {ss : List ByteArray} (h : StrsAt w v ss) (hl : 0 < ss.length) : ∃ g off c, v = .slice (some ⟨g, off, none⟩) ss.length c ∧ g < w.heap.size ∧ ∀ i, i < ss.length → w.cell? ⟨g, off + i, none⟩ = some (.string (sAt ss i)) := by
  obtain ⟨x, c, rfl, hc⟩ := h
  obtain ⟨g, off, rfl, h0⟩ := hc 0 hl
  refine ⟨g, off, c, rfl, by have := World.block_lt_of_cell? w _ h0; simpa using this, fun i hi => ?_⟩
  obtain ⟨g2, o2, e, h2⟩ := hc i hi
  simp only [Option.some.injEq, Addr.mk.injEq, and_true] at e
  obtain ⟨rfl, rfl⟩ := e
  rw [sAt_get hi]; exact h2
theorem strs_form {w : World} {v : Value} {ss : List ByteArray} (h : StrsAt w v ss) : ∃ a c, v = .slice a ss.length c := by
  obtain ⟨x, c, rfl, hc⟩ := h; exact ⟨x, c, rfl⟩
theorem join {N : Nat} {w0 w W : World} {L L' : List Mm.Bx} (h : Mm.M N w0 w L) (k : Mm.M w.heap.size w W L') : Mm.M N w0 W (L' ++ L) := by
  refine ⟨h.below.trans (k.below.mono h.le), Nat.le_trans h.le k.le, fun x hx => ?_, ?_, fun x hx => ?_⟩
  · rcases List.mem_append.1 hx with hx | hx
    · exact Nat.le_trans h.le (k.ge x hx)
    · exact h.ge x hx
  · refine List.pairwise_append.2 ⟨k.inc, h.inc, fun x hx y hy => ?_⟩
    have := k.ge x hx; have := (h.has y hy).lt
    show y.b < x.b; omega
  · rcases List.mem_append.1 hx with hx | hx
    · exact k.has x hx
    · exact (h.has x hx).below k.below (h.has x hx).lt
section
variable {P : Program} {ops : Array Oper} {rest : List Oper} {o : Oper} {a : Act} {w w0 : World} {N : Nat} {L : List Mm.Bx} {Q : Exit → Act → World → Prop} {S : World → Prop} {j : Nat} {s : Scr} {K : Act → World → Prop}
/-- An index within a slice of one-cell values. -/
theorem run_idx1 {ST T : Nat} (hu : P.underlying ST = some (.slice T)) (hs : (P.info? T).map (·.size) = some 1) (B off n c i : Nat) (hi : i < n) (w : World) : (Instr.indexAt ST (.slice (some ⟨B, off, none⟩) n c) (.int .i64 (i : Int))).run P w = .ok (.pointer (some ⟨B, off + i, none⟩)) w := by
  obtain ⟨i0, hi0, hz⟩ := Option.map_eq_some_iff.1 hs
  have e : (⟨B, off, none⟩ : Addr).add i = ⟨B, off + i, none⟩ := by unfold Addr.add; split <;> simp_all
  have h1 : (0 : Int) ≤ (i : Int) ∧ (i : Int) < ((n : Nat) : Int) := by omega
  simp [Instr.indexAt, run_underlying hu, sizeOf, typeInfo, hi0, hz, asIntOf, hi, e, go_sem]
theorem wpL_idx1 {ST T : Nat} (hu : P.underlying ST = some (.slice T)) (hs : (P.info? T).map (·.size) = some 1) (hw : Region.wanted o (yielded ops a.tmps) = true) (x y : Operand) (ho : o.op = .indexAddr ST x y) (B off n c i : Nat) (hx : a.eval x = .slice (some ⟨B, off, none⟩) n c) (hy : a.eval y = .int .i64 (i : Int)) (hi : i < n)
    (h : wpList P ops Q rest (a.put o.dst (.pointer (some ⟨B, off + i, none⟩))) w) : wpList P ops Q (o :: rest) a w := by
  refine wpList_step fun K hK => ?_
  rw [if_pos hw]
  have := hK _ _ h
  unfold Oper.wp execOp
  simp only [ho, hx, hy, run_idx1 hu hs B off n c i hi w, Sem.run_bind, Result.andThen_ok]
  exact this
theorem s_idx1 {ST T : Nat} (hu : P.underlying ST = some (.slice T)) (hs : (P.info? T).map (·.size) = some 1) (ho : ops[j]? = some o) (hw : Region.wanted o (yielded ops a.tmps) = true) (x y : Operand) (hop : o.op = .indexAddr ST x y) (B off n c i : Nat) (hx : a.eval x = .slice (some ⟨B, off, none⟩) n c) (hy : a.eval y = .int .i64 (i : Int)) (hi : i < n)
    (h : wpScr P ops Q s S (a.put o.dst (.pointer (some ⟨B, off + i, none⟩))) w) : wpScr P ops Q (.take j s) S a w :=
  s_val ho hw (fun w hS => by
    unfold execOp
    simp only [hop, hx, hy, Sem.run_bind, run_idx1 hu hs B off n c i hi w, Result.andThen_ok]
    rfl) h
/-- A region that stores into the newest variable. -/
theorem region1 {Q : Exit → Act → World → Prop} {x : Mm.Bx} {id : Nat} (H : Hid (Mm.M N w0 w (x :: L))) (s : Scr) (hm : P.follows .mixedOrders = true) (hs : Region.noSelect ops = true) (hd : s.depth ≤ ops.size) (hc : s.chk .any ops (Array.replicate ops.size false) = true)
    (h : ∀ U, Hid (Mm.M N w0 U (x :: L)) → Below w.heap.size w U → wpScr P ops (NoPanic Q) s (fun W => Mm.M N w0 W L) a U) : (Code.region id ops true).wp P Q a w :=
  wp_region_noPanic (wp_region_scr (S := fun W => Mm.M N w0 W L) s hm hs (fun _ _ _ _ _ h => h) hd hc H.out.drew.tail (h _ (hidp H.out.drew) (Below.refl _ _).drew))
/-- A region whose reads want only a part of the bag. -/
theorem regionS {Q : Exit → Act → World → Prop} {id : Nat} (L' : List Mm.Bx) (hsub : ∀ W, Mm.M N w0 W L → Mm.M N w0 W L') (H : Hid (Mm.M N w0 w L)) (s : Scr) (hm : P.follows .mixedOrders = true) (hs : Region.noSelect ops = true) (hd : s.depth ≤ ops.size) (hc : s.chk .any ops (Array.replicate ops.size false) = true)
    (h : ∀ U, Hid (Mm.M N w0 U L) → Below w.heap.size w U → wpScr P ops (NoPanic Q) s (fun W => Mm.M N w0 W L') a U) : (Code.region id ops true).wp P Q a w :=
  wp_region_noPanic (wp_region_scr (S := fun W => Mm.M N w0 W L') s hm hs (fun _ _ _ _ _ h => h) hd hc (hsub _ H.out.drew) (h _ (hidp H.out.drew) (Below.refl _ _).drew))
/-- A field of the bag's newest variable, stored in a script. -/
theorem o_putF0 {ty b t : Nat} {ys : List Value} (H : Hid (Mm.M N w0 w (⟨b, t, ys⟩ :: L))) (f : Nat) (v : Value) (hT : ∀ W, Mm.M N w0 W (⟨b, t, ys.set f v⟩ :: L) → S W) (ho : ops[j]? = some o) (hw : Region.wanted o (yielded ops a.tmps) = true) (x y : Operand) (hop : o.op = .store ty x y) (hx : a.eval x = .pointer (some ⟨b, f, none⟩)) (hy : a.eval y = v)
    (hs : (P.info? ty).map (·.size) = some 1) (h1 : v.oneCell' = true) (hf : f < ys.length)
    (h : ∀ W, Hid (Mm.M N w0 W (⟨b, t, ys.set f v⟩ :: L)) → Rt.Stp b w W → K (a.put o.dst undef) W) : opW P ops Q S j K a w := by
  have st := Rt.Stp.setRow w b (ys.set f v).toArray
  have hM := H.out.put0 (Arr.row H.out.at0 (ys.set f v)) st
  subst hy
  refine ⟨o, ho, hw, ?_⟩
  have := h _ (hidp hM) st
  unfold Oper.wp
  rw [show (execOp a.eval o).run P w = .ok .skip (w.setRow b (ys.set f (a.eval y)).toArray) from by
    unfold execOp
    simp only [hop, hx, Instr.storeAt, Instr.sureAddr, Sem.run_bind, Sem.run_pure, Result.andThen_ok, Rt.run_storeVar_cell w b f t ty ys _ H.out.at0 hf hs h1]]
  exact ⟨hT _ hM, this⟩
end
section
variable {ops : Array Oper} {rest : List Oper} {o : Oper} {a : Act} {w w0 : World} {N : Nat} {L : List Mm.Bx} {Q : Exit → Act → World → Prop} {S : World → Prop} {j : Nat} {s : Scr} {K : Act → World → Prop}

theorem run_bsS2 (z0 z1 : ByteArray) (w : World) : (Instr.buildSlice 42 2 #[(0, .string z0), (1, .string z1)]).run Tryz.prog w = .ok (.slice (some ⟨w.heap.size, 0, none⟩) 2 2) (w.alloc (.cells #[.string z0, .string z1] 9)) := by
  obtain ⟨i0, hi, hz0, hz1, hz2⟩ := info_parts infoS
  refine run_buildSlice w 42 9 2 _ _ i0 _ tyS hi hz0 (by rw [hz1]; omega) (by rw [hz1]; omega) ?_
  have hr : Array.range 2 = #[0, 1] := by decide
  rw [hz1]; simp [Instr.fill, Value.cells, hr]
theorem wpL_bsS2 (H : Hid (Mm.M N w0 w L)) (hw : Region.wanted o (yielded ops a.tmps) = true) (x0 x1 : Operand) (z0 z1 : ByteArray) (ho : o.op = .buildSlice 42 2 #[(0, x0), (1, x1)]) (hx0 : a.eval x0 = .string z0) (hx1 : a.eval x1 = .string z1)
    (h : ∀ b W, Hid (Mm.M N w0 W (⟨b, 9, [.string z0, .string z1]⟩ :: L)) → Rt.NewAt w W b 9 [.string z0, .string z1] → wpList Tryz.prog ops Q rest (a.put o.dst (.slice (some ⟨b, 0, none⟩) 2 2)) W) : wpList Tryz.prog ops Q (o :: rest) a w := by
  refine wpList_step fun K hK => ?_
  rw [if_pos hw]
  have n := Rt.NewAt.mk' w 9 [.string z0, .string z1]
  have := hK _ _ (h _ _ (hidp (H.out.new n)) n)
  unfold Oper.wp execOp
  simp only [ho, List.map_toArray, List.map_cons, List.map_nil, hx0, hx1, Sem.run_bind, run_bsS2 z0 z1 w, Result.andThen_ok]
  exact this
theorem run_bsS3 (z0 z1 z2 : ByteArray) (w : World) : (Instr.buildSlice 42 3 #[(0, .string z0), (1, .string z1), (2, .string z2)]).run Tryz.prog w = .ok (.slice (some ⟨w.heap.size, 0, none⟩) 3 3) (w.alloc (.cells #[.string z0, .string z1, .string z2] 9)) := by
  obtain ⟨i0, hi, hz0, hz1, hz2⟩ := info_parts infoS
  refine run_buildSlice w 42 9 3 _ _ i0 _ tyS hi hz0 (by rw [hz1]; omega) (by rw [hz1]; omega) ?_
  have hr : Array.range 3 = #[0, 1, 2] := by decide
  rw [hz1]; simp [Instr.fill, Value.cells, hr]
theorem wpL_bsS3 (H : Hid (Mm.M N w0 w L)) (hw : Region.wanted o (yielded ops a.tmps) = true) (x0 x1 x2 : Operand) (z0 z1 z2 : ByteArray) (ho : o.op = .buildSlice 42 3 #[(0, x0), (1, x1), (2, x2)]) (hx0 : a.eval x0 = .string z0) (hx1 : a.eval x1 = .string z1) (hx2 : a.eval x2 = .string z2)
    (h : ∀ b W, Hid (Mm.M N w0 W (⟨b, 9, [.string z0, .string z1, .string z2]⟩ :: L)) → Rt.NewAt w W b 9 [.string z0, .string z1, .string z2] → wpList Tryz.prog ops Q rest (a.put o.dst (.slice (some ⟨b, 0, none⟩) 3 3)) W) : wpList Tryz.prog ops Q (o :: rest) a w := by
  refine wpList_step fun K hK => ?_
  rw [if_pos hw]
  have n := Rt.NewAt.mk' w 9 [.string z0, .string z1, .string z2]
  have := hK _ _ (h _ _ (hidp (H.out.new n)) n)
  unfold Oper.wp execOp
  simp only [ho, List.map_toArray, List.map_cons, List.map_nil, hx0, hx1, hx2, Sem.run_bind, run_bsS3 z0 z1 z2 w, Result.andThen_ok]
  exact this
theorem run_bsI1 (z0 : Int) (w : World) : (Instr.buildSlice 118 1 #[(0, .int .i64 z0)]).run Tryz.prog w = .ok (.slice (some ⟨w.heap.size, 0, none⟩) 1 1) (w.alloc (.cells #[.int .i64 z0] 3)) := by
  obtain ⟨i0, hi, hz0, hz1, hz2⟩ := info_parts infoI
  refine run_buildSlice w 118 3 1 _ _ i0 _ tyI hi hz0 (by rw [hz1]; omega) (by rw [hz1]; omega) ?_
  have hr : Array.range 1 = #[0] := by decide
  rw [hz1]; simp [Instr.fill, Value.cells, hr]
theorem wpL_bsI1 (H : Hid (Mm.M N w0 w L)) (hw : Region.wanted o (yielded ops a.tmps) = true) (x0 : Operand) (z0 : Int) (ho : o.op = .buildSlice 118 1 #[(0, x0)]) (hx0 : a.eval x0 = .int .i64 z0)
    (h : ∀ b W, Hid (Mm.M N w0 W (⟨b, 3, [.int .i64 z0]⟩ :: L)) → Rt.NewAt w W b 3 [.int .i64 z0] → wpList Tryz.prog ops Q rest (a.put o.dst (.slice (some ⟨b, 0, none⟩) 1 1)) W) : wpList Tryz.prog ops Q (o :: rest) a w := by
  refine wpList_step fun K hK => ?_
  rw [if_pos hw]
  have n := Rt.NewAt.mk' w 3 [.int .i64 z0]
  have := hK _ _ (h _ _ (hidp (H.out.new n)) n)
  unfold Oper.wp execOp
  simp only [ho, List.map_toArray, List.map_cons, List.map_nil, hx0, Sem.run_bind, run_bsI1 z0 w, Result.andThen_ok]
  exact this
theorem run_bsI2 (z0 z1 : Int) (w : World) : (Instr.buildSlice 118 2 #[(0, .int .i64 z0), (1, .int .i64 z1)]).run Tryz.prog w = .ok (.slice (some ⟨w.heap.size, 0, none⟩) 2 2) (w.alloc (.cells #[.int .i64 z0, .int .i64 z1] 3)) := by
  obtain ⟨i0, hi, hz0, hz1, hz2⟩ := info_parts infoI
  refine run_buildSlice w 118 3 2 _ _ i0 _ tyI hi hz0 (by rw [hz1]; omega) (by rw [hz1]; omega) ?_
  have hr : Array.range 2 = #[0, 1] := by decide
  rw [hz1]; simp [Instr.fill, Value.cells, hr]
theorem wpL_bsI2 (H : Hid (Mm.M N w0 w L)) (hw : Region.wanted o (yielded ops a.tmps) = true) (x0 x1 : Operand) (z0 z1 : Int) (ho : o.op = .buildSlice 118 2 #[(0, x0), (1, x1)]) (hx0 : a.eval x0 = .int .i64 z0) (hx1 : a.eval x1 = .int .i64 z1)
    (h : ∀ b W, Hid (Mm.M N w0 W (⟨b, 3, [.int .i64 z0, .int .i64 z1]⟩ :: L)) → Rt.NewAt w W b 3 [.int .i64 z0, .int .i64 z1] → wpList Tryz.prog ops Q rest (a.put o.dst (.slice (some ⟨b, 0, none⟩) 2 2)) W) : wpList Tryz.prog ops Q (o :: rest) a w := by
  refine wpList_step fun K hK => ?_
  rw [if_pos hw]
  have n := Rt.NewAt.mk' w 3 [.int .i64 z0, .int .i64 z1]
  have := hK _ _ (h _ _ (hidp (H.out.new n)) n)
  unfold Oper.wp execOp
  simp only [ho, List.map_toArray, List.map_cons, List.map_nil, hx0, hx1, Sem.run_bind, run_bsI2 z0 z1 w, Result.andThen_ok]
  exact this
end
end Go.Proofs.YtfenjincbhkodaaGreatDoor.Sl

namespace Go.Proofs.YtfenjincbhkodaaGreatDoor.Ho
set_option maxRecDepth 100000
set_option linter.unusedVariables false
set_option linter.unusedSimpArgs false
open Go.RowKit
open List (getElem_toArray getElem_cons_zero getElem_cons_succ setIfInBounds_toArray set_cons_zero set_cons_succ)

/-- The number that a whole text is, and the error. -/
def nmE (s : ByteArray) : Int := if (gn s.data.toList).2.2 ≠ 0 then ((gn s.data.toList).2.2 : Int) else if (gn s.data.toList).2.1 < s.size then 6 else 0
def nmV (s : ByteArray) : Nat := if nmE s = 0 then (gn s.data.toList).1 else 0
theorem nm_some {s : ByteArray} {n : Nat} (h : numOf s = some n) : nmE s = 0 ∧ nmV s = n := by
  unfold numOf at h
  split at h
  · rename_i hh
    have e : nmE s = 0 := by unfold nmE; rw [if_neg (by simp [hh.1]), if_neg (by omega)]
    refine ⟨e, ?_⟩
    unfold nmV; rw [if_pos e]; simpa using h
  · cases h
theorem nm_none {s : ByteArray} (h : numOf s = none) : nmE s ≠ 0 := by
  have hb := gn_bd s.data.toList
  have hz := size_toList s
  unfold numOf at h
  split at h
  · cases h
  · rename_i hh
    unfold nmE
    by_cases h0 : (gn s.data.toList).2.2 = 0
    · rw [if_neg (by simp [h0]), if_pos (by have : ¬ (gn s.data.toList).2.1 = s.size := fun g => hh ⟨h0, g⟩; omega)]; decide
    · rw [if_pos h0]; omega
theorem nm_zero {s : ByteArray} (h : nmE s = 0) : numOf s = some (nmV s) := by
  cases hn : numOf s with
  | none => exact absurd h (nm_none hn)
  | some n => rw [(nm_some hn).2]
def inE (s : ByteArray) (m : Nat) : Int := if nmE s = 0 then (if m < nmV s then 1 else 0) else nmE s
def inV (s : ByteArray) (m : Nat) : Nat := if inE s m = 0 then nmV s else 0
theorem in_zero {s : ByteArray} {m : Nat} (h : inE s m = 0) : numOf s = some (inV s m) ∧ inV s m ≤ m := by
  have h' := h
  unfold inE at h
  split at h
  · rename_i h0
    split at h
    · cases h
    · have e : inV s m = nmV s := if_pos h'
      rw [e]; exact ⟨nm_zero h0, by omega⟩
  · contradiction
theorem in_not {s : ByteArray} {m : Nat} (h : inE s m ≠ 0) : ∀ n, numOf s = some n → m < n := by
  intro n hn
  obtain ⟨h1, h2⟩ := nm_some hn
  unfold inE at h
  rw [if_pos h1, h2] at h
  split at h
  · assumption
  · exact absurd rfl h

set_option maxHeartbeats 4000000 in
theorem allNum_any (w : World) (s : ByteArray) (hs : s.size ≤ 281474976710656) :
    Calls Tryz.prog 41 #[.string s] w fun e w' => e = .returned (.tuple #[.int .u64 (nmV s), .int .i64 (nmE s)]) ∧ Below w.heap.size w w' := by
  have cg := hidp (fun W => getNum_any W s hs)
  have hb := gn_bd s.data.toList
  obtain ⟨⟨n, j, c⟩, hr⟩ : ∃ r, gn s.data.toList = r := ⟨_, rfl⟩
  have dE : nmE s = if c ≠ 0 then (c : Int) else if j < s.size then 6 else 0 := by unfold nmE; rw [hr]
  have dV : nmV s = if nmE s = 0 then n else 0 := by unfold nmV; rw [hr]
  rw [hr] at cg hb
  clear hr
  simp only [tup3] at cg hb
  by_cases h0 : c = 0
  · subst h0
    by_cases hj : j < s.size
    · have e1 : decide ((j : Int) < (s.size : Int)) = true := by simp; omega
      have g1 : decide (j < s.size) = true := decide_eq_true hj
      have HE := hidp (show nmE s = 6 from by rw [dE, if_neg (by simp), if_pos hj])
      have HV := hidp (show nmV s = 0 from by rw [dV, HE.out]; rfl)
      clear dE dV hj hb
      go_enter Tryz.func41, Tryz.ntmps41
      go_wp2_with (go_at_call 54; refine (cg.out _).mono ?_; rintro e w' ⟨rfl, rfl⟩)
      go_ret2
      exact ⟨by rw [HE.out, HV.out]; rfl, Below.refl _ _⟩
    · have e1 : decide ((j : Int) < (s.size : Int)) = false := by simp; omega
      have g1 : decide (j < s.size) = false := decide_eq_false hj
      have HE := hidp (show nmE s = 0 from by rw [dE, if_neg (by simp), if_neg hj])
      have HV := hidp (show nmV s = n from by rw [dV, HE.out]; rfl)
      clear dE dV hj hb
      go_enter Tryz.func41, Tryz.ntmps41
      go_wp2_with (go_at_call 54; refine (cg.out _).mono ?_; rintro e w' ⟨rfl, rfl⟩)
      go_ret2
      exact ⟨by rw [HE.out, HV.out]; rfl, Below.refl _ _⟩
  · have e0 : ((c : Int) != 0) = true := by simp; omega
    have n0 : ¬ (c : Int) = 0 := by omega
    have HE := hidp (show nmE s = c from by rw [dE, if_pos h0])
    have HV := hidp (show nmV s = 0 from by rw [dV, HE.out, if_neg (by omega)])
    clear dE dV hb h0
    go_enter Tryz.func41, Tryz.ntmps41
    go_wp2_with (go_at_call 54; refine (cg.out _).mono ?_; rintro e w' ⟨rfl, rfl⟩)
    go_ret2
    exact ⟨by rw [HE.out, HV.out]; rfl, Below.refl _ _⟩

set_option maxHeartbeats 4000000 in
theorem allInt_any (w : World) (s : ByteArray) (m : Nat) (hm : m ≤ 1048576) (hs : s.size ≤ 281474976710656) :
    Calls Tryz.prog 26 #[.string s, .int .i64 (m : Int)] w fun e w' => e = .returned (.tuple #[.int .i64 (inV s m), .int .i64 (inE s m)]) ∧ Below w.heap.size w w' := by
  have cg := hidp (fun W => allNum_any W s hs)
  have dE : inE s m = if nmE s = 0 then (if m < nmV s then 1 else 0) else nmE s := rfl
  have dV : inV s m = if inE s m = 0 then nmV s else 0 := rfl
  have hV : nmV s ≤ 281474976710656 := by
    have hb := gn_bd s.data.toList
    unfold nmV; split <;> omega
  obtain ⟨E, hE⟩ : ∃ E, nmE s = E := ⟨_, rfl⟩
  obtain ⟨n, hn⟩ : ∃ n, nmV s = n := ⟨_, rfl⟩
  rw [hE, hn] at cg dE
  rw [hn] at dV hV
  clear hE hn
  have w1 : IntKind.u64.wrap (m : Int) = (m : Int) := by unfold IntKind.wrap; simp [IntKind.bits, IntKind.signed]; omega
  have w2 : IntKind.i64.wrap (n : Int) = (n : Int) := by unfold IntKind.wrap; simp [IntKind.bits, IntKind.signed]; omega
  have e2 : decide ((m : Int) < 0) = false := by simp
  by_cases h0 : E = 0
  · subst h0
    by_cases hj : m < n
    · have e1 : decide ((n : Int) > (m : Int)) = true := by simp; omega
      have n1 : (m : Int) < (n : Int) := by omega
      have g1 : decide (m < n) = true := decide_eq_true hj
      have HE := hidp (show inE s m = 1 from by rw [dE, if_pos rfl, if_pos hj])
      have HV := hidp (show inV s m = 0 from by rw [dV, HE.out]; rfl)
      clear dE dV hj
      go_enter Tryz.func26, Tryz.ntmps26
      go_wp2_with (go_at_call 41; refine (cg.out _).mono ?_; rintro e w' ⟨rfl, hb⟩)
      go_ret2
      exact ⟨by rw [HE.out, HV.out]; rfl, hb⟩
    · have e1 : decide ((n : Int) > (m : Int)) = false := by simp; omega
      have n1 : ¬ (m : Int) < (n : Int) := by omega
      have g1 : decide (m < n) = false := decide_eq_false hj
      have HE := hidp (show inE s m = 0 from by rw [dE, if_pos rfl, if_neg hj])
      have HV := hidp (show inV s m = n from by rw [dV, HE.out]; rfl)
      clear dE dV hj
      go_enter Tryz.func26, Tryz.ntmps26
      go_wp2_with (go_at_call 41; refine (cg.out _).mono ?_; rintro e w' ⟨rfl, hb⟩)
      go_ret2
      exact ⟨by rw [HE.out, HV.out]; rfl, hb⟩
  · have e0 : (E != 0) = true := by simpa using h0
    have HE := hidp (show inE s m = E from by rw [dE, if_neg h0])
    have HV := hidp (show inV s m = 0 from by rw [dV, HE.out, if_neg h0])
    clear dE dV
    go_enter Tryz.func26, Tryz.ntmps26
    go_wp2_with (go_at_call 41; refine (cg.out _).mono ?_; rintro e w' ⟨rfl, hb⟩)
    go_ret2
    exact ⟨by rw [HE.out, HV.out]; rfl, hb⟩
end Go.Proofs.YtfenjincbhkodaaGreatDoor.Ho

namespace Go.Proofs.YtfenjincbhkodaaGreatDoor.En
set_option maxRecDepth 100000
set_option linter.unusedVariables false
set_option linter.unusedSimpArgs false
open Go.RowKit
open List (getElem_toArray getElem_cons_zero getElem_cons_succ setIfInBounds_toArray set_cons_zero set_cons_succ)

theorem rtE : Rt.RT Tryz.prog 78 37 zEn.row := ⟨by decide, .inl ⟨_, Tryz.underlying78⟩, by kernel_rfl⟩
theorem rtH : Rt.RT Tryz.prog 34 32 (u8s z32) := ⟨by decide, .inr ⟨_, _, hash_row⟩, by kernel_rfl⟩
theorem naS : Mm.NA Tryz.prog 9 := ⟨_, Tryz.underlying9, rfl⟩
theorem naI : Mm.NA Tryz.prog 3 := ⟨_, Tryz.underlying3, rfl⟩
section
variable {ops : Array Oper} {rest : List Oper} {o : Oper} {a : Act} {w w0 : World} {N : Nat} {L : List Mm.Bx} {Q : Exit → Act → World → Prop} {S : World → Prop} {j : Nat} {s : Scr} {K : Act → World → Prop}

theorem wpL_slc (hw : Region.wanted o (yielded ops a.tmps) = true) (x : Operand) (ho : o.op = .slice 34 x none none none) (b off : Nat) (hx : a.eval x = .pointer (some ⟨b, off, none⟩))
    (h : wpList Tryz.prog ops Q rest (a.put o.dst (.slice (some ⟨b, off, none⟩) 32 32)) w) : wpList Tryz.prog ops Q (o :: rest) a w := by
  refine wpList_step fun K hK => ?_
  rw [if_pos hw]
  have := hK _ _ h
  unfold Oper.wp execOp
  simp only [ho, hx, Option.map_none, Sem.run_bind, slice32 b off w, Result.andThen_ok]
  exact this
/-- 'copy(h[:], s)' of a text of 32 bytes into the newest variable. -/
theorem wpL_cp {b : Nat} {ys : List Value} (H : Hid (Mm.M N w0 w (⟨b, 34, ys⟩ :: L))) (hw : Region.wanted o (yielded ops a.tmps) = true) (d x : Operand) (ho : o.op = .call { callee := .builtin .copy, args := #[d, x], argTypes := #[59, 9] }) (t : ByteArray) (hd : a.eval d = .slice (some ⟨b, 0, none⟩) 32 32) (hx : a.eval x = .string t) (ht : t.size = 32) (hy : ys.length = 32)
    (h : ∀ W, Hid (Mm.M N w0 W (⟨b, 34, u8s t.data.toList⟩ :: L)) → wpList Tryz.prog ops Q rest (a.put o.dst (goInt 32)) W) : wpList Tryz.prog ops Q (o :: rest) a w := by
  have hr := run_copy_long (P := Tryz.prog) w 59 9 o.type 5 b 32 32 t ys.toArray 34 Tryz.underlying59 (by kernel_rfl) H.out.at0 (by omega) (by simp [hy])
  rw [show Lib.byteCells (t.data.toList.take 32) = u8s t.data.toList from by rw [List.take_of_length_le (by rw [size_toList]; omega)]; rfl] at hr
  have st := Rt.Stp.setRow w b (u8s t.data.toList).toArray
  have hM := H.out.put0 (Arr.row H.out.at0 (u8s t.data.toList)) st
  refine wpList_step fun K hK => ?_
  rw [if_pos hw]
  have := hK _ _ (h _ (hidp hM))
  unfold Oper.wp
  simp [execOp, ho, resolve, invoke, builtin, hd, hx, hr, Result.andThen]
  exact this
end
set_option maxHeartbeats 4000000 in
theorem counts_any (w : World) (n : Int) : Calls Tryz.prog 87 #[.int .i64 n] w fun e w' => e = .returned (.bool (cnt n)) ∧ w' = w := by
  by_cases h0 : 0 ≤ n
  · have e0 : decide ((0 : Int) ≤ n) = true := by simpa using h0
    by_cases h9 : n ≤ 4096
    · have e1 : decide (n ≤ 4096) = true := by simpa using h9
      have HF := hidp (show cnt n = true from decide_eq_true ⟨h0, h9⟩)
      go_enter Tryz.func87, Tryz.ntmps87
      go_wp2
      go_ret
      exact ⟨by rw [HF.out]; rfl, rfl⟩
    · have e1 : decide (n ≤ 4096) = false := by simpa using h9
      have HF := hidp (show cnt n = false from decide_eq_false (fun g => h9 g.2))
      go_enter Tryz.func87, Tryz.ntmps87
      go_wp2
      go_ret
      exact ⟨by rw [HF.out]; rfl, rfl⟩
  · have e0 : decide ((0 : Int) ≤ n) = false := by simpa using h0
    have HF := hidp (show cnt n = false from decide_eq_false (fun g => h0 g.1))
    go_enter Tryz.func87, Tryz.ntmps87
    go_wp2
    go_ret
    exact ⟨by rw [HF.out]; rfl, rfl⟩

theorem u8_one (l : List UInt8) : ∀ u ∈ u8s l, u.oneCell' = true := fun u hu => by
  have := u8s_one l; rw [List.all_toArray] at this; exact (List.all_eq_true.1 this) u hu
def hsV (s : ByteArray) : List UInt8 := if s.size = 32 then s.data.toList else z32
def hsE (s : ByteArray) : Int := if s.size = 32 then 0 else 6
set_option maxHeartbeats 4000000 in
theorem ohash_any (w : World) (s : ByteArray) : Calls Tryz.prog 36 #[.string s] w fun e w' => e = .returned (.tuple #[.agg (u8s (hsV s)).toArray, .int .i64 (hsE s)]) ∧ Below w.heap.size w w' := by
  have H := hidp (Mm.M.nil w)
  by_cases h : s.size = 32
  · have HV := hidp (show hsV s = s.data.toList from if_pos h)
    have HE := hidp (show hsE s = 0 from if_pos h)
    have HL := hidp (show (u8s s.data.toList).length = 32 from by rw [u8s_length, size_toList]; exact h)
    have HS := hidp h
    have e0 : (((s.size : Nat) : Int) != 32) = false := by rw [h]; rfl
    have e1 : (s.size : Int) = 32 := by omega
    clear h
    go_enter Tryz.func36, Tryz.ntmps36
    have tk0 := hidp trivial
    go_wp2_with (first | (clear tk0; (refine Mm.new rtH H (some 2) rfl rfl rfl ?_; clear H; intro b2 _ H nw; have hb := nw.below; clear hb nw); (try simp only [Act.put, setIfInBounds_toArray, set_cons_zero, set_cons_succ]); have tk1 := hidp trivial) | (clear tk1; (refine Mm.new rtH H (some 4) rfl rfl rfl ?_; clear H; intro b4 _ H nw; have hb := nw.below; clear hb nw); (try simp only [Act.put, setIfInBounds_toArray, set_cons_zero, set_cons_succ]); have tk2 := hidp trivial) | (clear tk2; (refine wpL_slc rfl (.tmp 4) rfl b4 0 rfl ?_); (try simp only [Act.put, setIfInBounds_toArray, set_cons_zero, set_cons_succ]); have tk3 := hidp trivial) | (clear tk3; (refine wpL_cp H rfl (.tmp 9) (.tmp 10) rfl s rfl rfl HS.out rfl ?_; clear H; intro _ H); (try simp only [Act.put, setIfInBounds_toArray, set_cons_zero, set_cons_succ]); have tk4 := hidp trivial) | (clear tk4; (refine Mm.get0 rtH H rfl (.tmp 4) rfl rfl HL.out ?_); (try simp only [Act.put, setIfInBounds_toArray, set_cons_zero, set_cons_succ]); have tk5 := hidp trivial) | (clear tk5; (refine Mm.put1 rtH H rfl (.tmp 2) (.tmp 12) (u8s s.data.toList) rfl rfl rfl HL.out (u8_one _) rfl ?_; intro _ H2 st; clear st H; have H := H2; clear H2); (try simp only [Act.put, setIfInBounds_toArray, set_cons_zero, set_cons_succ]); have tk6 := hidp trivial))
    try clear tk6
    refine bodyPost_ret (Mm.ret_rowv rtH Tryz.results36 _ b2 _ _ rfl rfl H.out.at1 HL.out) rfl ⟨by rw [HV.out, HE.out]; first | done | rfl, H.out.below⟩
  · have HV := hidp (show hsV s = z32 from if_neg h)
    have HE := hidp (show hsE s = 6 from if_neg h)
    have e0 : (((s.size : Nat) : Int) != 32) = true := by simp; omega
    have e1 : ¬ (s.size : Int) = 32 := by omega
    clear h
    go_enter Tryz.func36, Tryz.ntmps36
    have tk0 := hidp trivial
    go_wp2_with (first | (clear tk0; (refine Mm.new rtH H (some 2) rfl rfl rfl ?_; clear H; intro b2 _ H nw; have hb := nw.below; clear hb nw); (try simp only [Act.put, setIfInBounds_toArray, set_cons_zero, set_cons_succ]); have tk1 := hidp trivial) | (clear tk1; (refine Mm.new rtH H (some 4) rfl rfl rfl ?_; clear H; intro b4 _ H nw; have hb := nw.below; clear hb nw); (try simp only [Act.put, setIfInBounds_toArray, set_cons_zero, set_cons_succ]); have tk2 := hidp trivial) | (clear tk2; (refine Rt.wpL_build rfl 34 _ rfl (u8s z32) (by kernel_rfl) ?_); (try simp only [Act.put, setIfInBounds_toArray, set_cons_zero, set_cons_succ]); have tk3 := hidp trivial) | (clear tk3; (refine Mm.put1 rtH H rfl (.tmp 2) (.tmp 8) (u8s z32) rfl rfl rfl rfl (u8_one z32) rfl ?_; intro _ H2 st; clear st H; have H := H2; clear H2); (try simp only [Act.put, setIfInBounds_toArray, set_cons_zero, set_cons_succ]); have tk4 := hidp trivial))
    try clear tk4
    refine bodyPost_ret (Mm.ret_rowv rtH Tryz.results36 _ b2 _ _ rfl rfl H.out.at1 rfl) rfl ⟨by rw [HV.out, HE.out]; first | done | rfl, H.out.below⟩

theorem eE_of {x : En} (h : ¬ eOk x = true) : eE x = 2 := by unfold eE; rw [if_neg h]
set_option maxHeartbeats 8000000 in
theorem echeck_any (w : World) (x : En) (hx : x.ok) (hI : IT w) : Calls Tryz.prog 73 #[.agg x.row.toArray] w fun e w' => e = .returned (.int .i64 (eE x)) ∧ Below w.heap.size w w' := by
  have H := hidp (Mm.M.nil w)
  have HP := hidp hx.p
  have cr := hidp (fun W (h : IT W) => room_any W x.r (by have := hx.r; omega) h)
  have HI := hidp hI
  clear hx hI
  have HOK := hidp (show eOk x = ((who 2 x.r).isSome && cnt x.e && cnt x.i && decide (x.v.size ≤ 8192) && decide (x.g.size ≤ 8192)) from rfl)
  cases hw : who 2 x.r with
  | none =>
    have HF := hidp (show eE x = 2 from eE_of (by rw [HOK.out, hw]; simp))
    rw [hw] at cr; unfold whoV at cr
    clear hw
    go_enter Tryz.func73, Tryz.ntmps73
    have tk0 := hidp trivial
    go_wp2_with (first | (clear tk0; (refine Mm.box 78 H rfl (.tmp 0) rfl x.row rfl ?_; clear H; intro b1 _ H nw; have hb := nw.below; clear hb nw); (try simp only [Act.put, setIfInBounds_toArray, set_cons_zero, set_cons_succ]); have tk1 := hidp trivial) | (clear tk1; (refine Mm.ld0 naS H rfl (.tmp 6) 0 (.string x.r) rfl rfl (En.get0 _) ?_); (try simp only [Act.put, setIfInBounds_toArray, set_cons_zero, set_cons_succ]); have tk2 := hidp trivial) | (clear tk2; (go_at_call 69; refine (cr.out _ (HI.out.below H.out.below (Nat.le_refl _))).mono ?_; rintro e _ ⟨rfl, hb⟩; replace H := hidp (H.out.call hb); clear hb); (try simp only [Act.put, setIfInBounds_toArray, set_cons_zero, set_cons_succ]); have tk3 := hidp trivial))
    try clear tk3
    go_ret
    exact ⟨by rw [HF.out]; first | done | rfl, H.out.below⟩
  | some nn =>
    rw [hw] at cr; unfold whoV at cr
    cases he : cnt x.e with
    | false =>
      have HF := hidp (show eE x = 2 from eE_of (by rw [HOK.out, he]; simp))
      clear hw
      go_enter Tryz.func73, Tryz.ntmps73
      have tk0 := hidp trivial
      go_wp2_with (first | (clear tk0; (refine Mm.box 78 H rfl (.tmp 0) rfl x.row rfl ?_; clear H; intro b1 _ H nw; have hb := nw.below; clear hb nw); (try simp only [Act.put, setIfInBounds_toArray, set_cons_zero, set_cons_succ]); have tk1 := hidp trivial) | (clear tk1; (refine Mm.ld0 naS H rfl (.tmp 6) 0 (.string x.r) rfl rfl (En.get0 _) ?_); (try simp only [Act.put, setIfInBounds_toArray, set_cons_zero, set_cons_succ]); have tk2 := hidp trivial) | (clear tk2; (go_at_call 69; refine (cr.out _ (HI.out.below H.out.below (Nat.le_refl _))).mono ?_; rintro e _ ⟨rfl, hb⟩; replace H := hidp (H.out.call hb); clear hb); (try simp only [Act.put, setIfInBounds_toArray, set_cons_zero, set_cons_succ]); have tk3 := hidp trivial) | (clear tk3; (refine Mm.ld0 naI H rfl (.tmp 14) 1 (.int .i64 x.e) rfl rfl (En.get1 _) ?_); (try simp only [Act.put, setIfInBounds_toArray, set_cons_zero, set_cons_succ]); have tk4 := hidp trivial) | (clear tk4; (go_at_call 87; refine (counts_any _ x.e).mono ?_; rintro e _ ⟨rfl, rfl⟩); (try simp only [Act.put, setIfInBounds_toArray, set_cons_zero, set_cons_succ]); have tk5 := hidp trivial))
      try clear tk5
      go_ret
      exact ⟨by rw [HF.out]; first | done | rfl, H.out.below⟩
    | true =>
      cases hi : cnt x.i with
      | false =>
        have HF := hidp (show eE x = 2 from eE_of (by rw [HOK.out, hi]; simp))
        clear hw
        go_enter Tryz.func73, Tryz.ntmps73
        have tk0 := hidp trivial
        go_wp2_with (first | (clear tk0; (refine Mm.box 78 H rfl (.tmp 0) rfl x.row rfl ?_; clear H; intro b1 _ H nw; have hb := nw.below; clear hb nw); (try simp only [Act.put, setIfInBounds_toArray, set_cons_zero, set_cons_succ]); have tk1 := hidp trivial) | (clear tk1; (refine Mm.ld0 naS H rfl (.tmp 6) 0 (.string x.r) rfl rfl (En.get0 _) ?_); (try simp only [Act.put, setIfInBounds_toArray, set_cons_zero, set_cons_succ]); have tk2 := hidp trivial) | (clear tk2; (go_at_call 69; refine (cr.out _ (HI.out.below H.out.below (Nat.le_refl _))).mono ?_; rintro e _ ⟨rfl, hb⟩; replace H := hidp (H.out.call hb); clear hb); (try simp only [Act.put, setIfInBounds_toArray, set_cons_zero, set_cons_succ]); have tk3 := hidp trivial) | (clear tk3; (refine Mm.ld0 naI H rfl (.tmp 14) 1 (.int .i64 x.e) rfl rfl (En.get1 _) ?_); (try simp only [Act.put, setIfInBounds_toArray, set_cons_zero, set_cons_succ]); have tk4 := hidp trivial) | (clear tk4; (go_at_call 87; refine (counts_any _ x.e).mono ?_; rintro e _ ⟨rfl, rfl⟩); (try simp only [Act.put, setIfInBounds_toArray, set_cons_zero, set_cons_succ]); have tk5 := hidp trivial) | (clear tk5; (refine Mm.ld0 naI H rfl (.tmp 20) 2 (.int .i64 x.i) rfl rfl (En.get2 _) ?_); (try simp only [Act.put, setIfInBounds_toArray, set_cons_zero, set_cons_succ]); have tk6 := hidp trivial) | (clear tk6; (go_at_call 87; refine (counts_any _ x.i).mono ?_; rintro e _ ⟨rfl, rfl⟩); (try simp only [Act.put, setIfInBounds_toArray, set_cons_zero, set_cons_succ]); have tk7 := hidp trivial))
        try clear tk7
        go_ret
        exact ⟨by rw [HF.out]; first | done | rfl, H.out.below⟩
      | true =>
        by_cases hv : x.v.size ≤ 8192
        · have e3 : decide ((x.v.size : Int) > 8192) = false := by simp; omega
          have n3 : ¬ (8192 : Int) < (x.v.size : Int) := by omega
          by_cases hg : x.g.size ≤ 8192
          · have e4 : decide ((x.g.size : Int) > 8192) = false := by simp; omega
            have n4 : ¬ (8192 : Int) < (x.g.size : Int) := by omega
            have HF := hidp (show eE x = 0 from eE_yes (by rw [HOK.out, hw, he, hi]; simp [hv, hg]))
            clear hw hv hg
            go_enter Tryz.func73, Tryz.ntmps73
            have tk0 := hidp trivial
            go_wp2_with (first | (clear tk0; (refine Mm.box 78 H rfl (.tmp 0) rfl x.row rfl ?_; clear H; intro b1 _ H nw; have hb := nw.below; clear hb nw); (try simp only [Act.put, setIfInBounds_toArray, set_cons_zero, set_cons_succ]); have tk1 := hidp trivial) | (clear tk1; (refine Mm.ld0 naS H rfl (.tmp 6) 0 (.string x.r) rfl rfl (En.get0 _) ?_); (try simp only [Act.put, setIfInBounds_toArray, set_cons_zero, set_cons_succ]); have tk2 := hidp trivial) | (clear tk2; (go_at_call 69; refine (cr.out _ (HI.out.below H.out.below (Nat.le_refl _))).mono ?_; rintro e _ ⟨rfl, hb⟩; replace H := hidp (H.out.call hb); clear hb); (try simp only [Act.put, setIfInBounds_toArray, set_cons_zero, set_cons_succ]); have tk3 := hidp trivial) | (clear tk3; (refine Mm.ld0 naI H rfl (.tmp 14) 1 (.int .i64 x.e) rfl rfl (En.get1 _) ?_); (try simp only [Act.put, setIfInBounds_toArray, set_cons_zero, set_cons_succ]); have tk4 := hidp trivial) | (clear tk4; (go_at_call 87; refine (counts_any _ x.e).mono ?_; rintro e _ ⟨rfl, rfl⟩); (try simp only [Act.put, setIfInBounds_toArray, set_cons_zero, set_cons_succ]); have tk5 := hidp trivial) | (clear tk5; (refine Mm.ld0 naI H rfl (.tmp 20) 2 (.int .i64 x.i) rfl rfl (En.get2 _) ?_); (try simp only [Act.put, setIfInBounds_toArray, set_cons_zero, set_cons_succ]); have tk6 := hidp trivial) | (clear tk6; (go_at_call 87; refine (counts_any _ x.i).mono ?_; rintro e _ ⟨rfl, rfl⟩); (try simp only [Act.put, setIfInBounds_toArray, set_cons_zero, set_cons_succ]); have tk7 := hidp trivial) | (clear tk7; (refine Mm.ld0 naS H rfl (.tmp 26) 35 (.string x.v) rfl rfl (En.get35 HP.out) ?_); (try simp only [Act.put, setIfInBounds_toArray, set_cons_zero, set_cons_succ]); have tk8 := hidp trivial) | (clear tk8; (refine Mm.ld0 naS H rfl (.tmp 32) 36 (.string x.g) rfl rfl (En.get36 HP.out) ?_); (try simp only [Act.put, setIfInBounds_toArray, set_cons_zero, set_cons_succ]); have tk9 := hidp trivial))
            try clear tk9
            go_ret
            exact ⟨by rw [HF.out]; first | done | rfl, H.out.below⟩
          · have e4 : decide ((x.g.size : Int) > 8192) = true := by simp; omega
            have n4 : (8192 : Int) < (x.g.size : Int) := by omega
            have HF := hidp (show eE x = 2 from eE_of (by rw [HOK.out]; simp [hg]))
            clear hw hv hg
            go_enter Tryz.func73, Tryz.ntmps73
            have tk0 := hidp trivial
            go_wp2_with (first | (clear tk0; (refine Mm.box 78 H rfl (.tmp 0) rfl x.row rfl ?_; clear H; intro b1 _ H nw; have hb := nw.below; clear hb nw); (try simp only [Act.put, setIfInBounds_toArray, set_cons_zero, set_cons_succ]); have tk1 := hidp trivial) | (clear tk1; (refine Mm.ld0 naS H rfl (.tmp 6) 0 (.string x.r) rfl rfl (En.get0 _) ?_); (try simp only [Act.put, setIfInBounds_toArray, set_cons_zero, set_cons_succ]); have tk2 := hidp trivial) | (clear tk2; (go_at_call 69; refine (cr.out _ (HI.out.below H.out.below (Nat.le_refl _))).mono ?_; rintro e _ ⟨rfl, hb⟩; replace H := hidp (H.out.call hb); clear hb); (try simp only [Act.put, setIfInBounds_toArray, set_cons_zero, set_cons_succ]); have tk3 := hidp trivial) | (clear tk3; (refine Mm.ld0 naI H rfl (.tmp 14) 1 (.int .i64 x.e) rfl rfl (En.get1 _) ?_); (try simp only [Act.put, setIfInBounds_toArray, set_cons_zero, set_cons_succ]); have tk4 := hidp trivial) | (clear tk4; (go_at_call 87; refine (counts_any _ x.e).mono ?_; rintro e _ ⟨rfl, rfl⟩); (try simp only [Act.put, setIfInBounds_toArray, set_cons_zero, set_cons_succ]); have tk5 := hidp trivial) | (clear tk5; (refine Mm.ld0 naI H rfl (.tmp 20) 2 (.int .i64 x.i) rfl rfl (En.get2 _) ?_); (try simp only [Act.put, setIfInBounds_toArray, set_cons_zero, set_cons_succ]); have tk6 := hidp trivial) | (clear tk6; (go_at_call 87; refine (counts_any _ x.i).mono ?_; rintro e _ ⟨rfl, rfl⟩); (try simp only [Act.put, setIfInBounds_toArray, set_cons_zero, set_cons_succ]); have tk7 := hidp trivial) | (clear tk7; (refine Mm.ld0 naS H rfl (.tmp 26) 35 (.string x.v) rfl rfl (En.get35 HP.out) ?_); (try simp only [Act.put, setIfInBounds_toArray, set_cons_zero, set_cons_succ]); have tk8 := hidp trivial) | (clear tk8; (refine Mm.ld0 naS H rfl (.tmp 32) 36 (.string x.g) rfl rfl (En.get36 HP.out) ?_); (try simp only [Act.put, setIfInBounds_toArray, set_cons_zero, set_cons_succ]); have tk9 := hidp trivial))
            try clear tk9
            go_ret
            exact ⟨by rw [HF.out]; first | done | rfl, H.out.below⟩
        · have e3 : decide ((x.v.size : Int) > 8192) = true := by simp; omega
          have n3 : (8192 : Int) < (x.v.size : Int) := by omega
          have HF := hidp (show eE x = 2 from eE_of (by rw [HOK.out]; simp [hv]))
          clear hw hv
          go_enter Tryz.func73, Tryz.ntmps73
          have tk0 := hidp trivial
          go_wp2_with (first | (clear tk0; (refine Mm.box 78 H rfl (.tmp 0) rfl x.row rfl ?_; clear H; intro b1 _ H nw; have hb := nw.below; clear hb nw); (try simp only [Act.put, setIfInBounds_toArray, set_cons_zero, set_cons_succ]); have tk1 := hidp trivial) | (clear tk1; (refine Mm.ld0 naS H rfl (.tmp 6) 0 (.string x.r) rfl rfl (En.get0 _) ?_); (try simp only [Act.put, setIfInBounds_toArray, set_cons_zero, set_cons_succ]); have tk2 := hidp trivial) | (clear tk2; (go_at_call 69; refine (cr.out _ (HI.out.below H.out.below (Nat.le_refl _))).mono ?_; rintro e _ ⟨rfl, hb⟩; replace H := hidp (H.out.call hb); clear hb); (try simp only [Act.put, setIfInBounds_toArray, set_cons_zero, set_cons_succ]); have tk3 := hidp trivial) | (clear tk3; (refine Mm.ld0 naI H rfl (.tmp 14) 1 (.int .i64 x.e) rfl rfl (En.get1 _) ?_); (try simp only [Act.put, setIfInBounds_toArray, set_cons_zero, set_cons_succ]); have tk4 := hidp trivial) | (clear tk4; (go_at_call 87; refine (counts_any _ x.e).mono ?_; rintro e _ ⟨rfl, rfl⟩); (try simp only [Act.put, setIfInBounds_toArray, set_cons_zero, set_cons_succ]); have tk5 := hidp trivial) | (clear tk5; (refine Mm.ld0 naI H rfl (.tmp 20) 2 (.int .i64 x.i) rfl rfl (En.get2 _) ?_); (try simp only [Act.put, setIfInBounds_toArray, set_cons_zero, set_cons_succ]); have tk6 := hidp trivial) | (clear tk6; (go_at_call 87; refine (counts_any _ x.i).mono ?_; rintro e _ ⟨rfl, rfl⟩); (try simp only [Act.put, setIfInBounds_toArray, set_cons_zero, set_cons_succ]); have tk7 := hidp trivial) | (clear tk7; (refine Mm.ld0 naS H rfl (.tmp 26) 35 (.string x.v) rfl rfl (En.get35 HP.out) ?_); (try simp only [Act.put, setIfInBounds_toArray, set_cons_zero, set_cons_succ]); have tk8 := hidp trivial))
          try clear tk8
          go_ret
          exact ⟨by rw [HF.out]; first | done | rfl, H.out.below⟩
end Go.Proofs.YtfenjincbhkodaaGreatDoor.En
