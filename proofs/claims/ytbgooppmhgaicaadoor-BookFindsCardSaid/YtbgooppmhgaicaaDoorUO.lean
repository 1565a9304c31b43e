/-
  Joined: LvB BfA.
-/
import Derived.Test.YtbgooppmhgaicaaDoorUN
import Derived.Test.YtbgooppmhgaicaaDoorUM
namespace Go.Proofs.YtbgooppmhgaicaaDoor.Bk
set_option maxRecDepth 100000
set_option linter.unusedVariables false
set_option linter.unusedSimpArgs false
open Go.RowKit
open List (getElem_toArray getElem_cons_zero getElem_cons_succ setIfInBounds_toArray set_cons_zero set_cons_succ)

theorem fill_step (place : Nat → Option (Nat × Nat)) (cs : List Value) (i off size : Nat) (v : Value) (rest : List (Nat × Value)) (hp : place i = some (off, size)) (hs : v.cells.size = size) (hl : off + size ≤ cs.length) :
    Instr.fill place cs.toArray ((i, v) :: rest) = Instr.fill place (cs.take off ++ v.cells.toList ++ cs.drop (off + size)).toArray rest := by
  conv => lhs; unfold Instr.fill
  rw [hp]
  dsimp only
  rw [if_neg (by simp [hs]; omega)]
  congr 1
  have e := Rw.foldSetR v.cells.toList 0 off cs.toArray (by simp [hs]; omega)
  rw [← Array.toList_inj, ← Array.foldl_toList]
  simp only [Nat.add_zero, Array.length_toList, hs] at e
  simpa using e

theorem run_bs2 (x y : List Value) (hx : x.length = 36) (hy : y.length = 36) (w : World) : (Instr.buildSlice 22 2 #[(0, .agg x.toArray), (1, .agg y.toArray)]).run Tryd.prog w = .ok (.slice (some ⟨w.heap.size, 0, none⟩) 2 2) (w.alloc (.cells (x ++ y).toArray 27)) := by
  obtain ⟨i0, hi, hz0, hz1, hz2⟩ := info_parts tyG.info
  refine run_buildSlice w 22 27 2 _ _ i0 _ tyG.us hi hz0 (by rw [hz1]; omega) (by rw [hz1]; omega) ?_
  rw [hz1]
  obtain ⟨cs, hcs, hl⟩ : ∃ cs : List Value, (Array.range (2 * 36)).map ((Value.agg zG.toArray).cells[· % (Value.agg zG.toArray).cells.size]!) = cs.toArray ∧ cs.length = 72 := ⟨_, (Array.toArray_toList ..).symm, by simp⟩
  rw [hcs]
  rw [fill_step _ cs 0 (0 * 36) 36 (.agg x.toArray) _ rfl (by simpa [Value.cells] using hx) (by omega)]
  rw [fill_step _ _ 1 (1 * 36) 36 (.agg y.toArray) _ rfl (by simpa [Value.cells] using hy) (by simp [Value.cells, hx]; omega)]
  unfold Instr.fill
  congr 2
  simp only [Value.cells, Nat.zero_mul, Nat.one_mul, List.take_zero, List.nil_append, Nat.zero_add]
  rw [List.take_append_of_le_length (by simp [hx]), List.take_of_length_le (by simp [hx]), List.drop_of_length_le (by simp [hx]; omega)]
  simp
section
variable {ops : Array Oper} {rest : List Oper} {o : Oper} {a : Act} {w w0 : World} {N : Nat} {L : List Mm.Bx} {Q : Exit → Act → World → Prop}
theorem wpL_atH (hgd : o.guard = none) (x : Operand) (ho : o.op = .load 25 x) (b off : Nat) (l : List UInt8) (hx : a.eval x = .pointer (some ⟨b, off, none⟩)) (hl : l.length = 32) (hg : w.rangeAt b off (u8s l))
    (h : wpList Tryd.prog ops Q rest (a.put o.dst (.agg (u8s l).toArray)) w) : wpList Tryd.prog ops Q (o :: rest) a w :=
  wpList_load_mid hgd 25 x ho b off hx (u8s l) _ hg hash_row rfl (by rw [u8s_length, hl]; kernel_rfl) h
theorem wpL_bs2 (H : Hid (Mm.M N w0 w L)) (hw : Region.wanted o (yielded ops a.tmps) = true) (x0 x1 : Operand) (x y : Gr) (ho : o.op = .buildSlice 22 2 #[(0, x0), (1, x1)]) (h0 : a.eval x0 = .agg x.row.toArray) (h1 : a.eval x1 = .agg y.row.toArray) (hx : x.ok) (hy : y.ok)
    (h : ∀ b W, Hid (Mm.M N w0 W L) → Below w.heap.size w W → GsAt W (.slice (some ⟨b, 0, none⟩) 2 2) [x, y] → wpList Tryd.prog ops Q rest (a.put o.dst (.slice (some ⟨b, 0, none⟩) 2 2)) W) : wpList Tryd.prog ops Q (o :: rest) a w := by
  refine wpList_step fun K hK => ?_
  rw [if_pos hw]
  have n := Rt.NewAt.mk' w 27 (x.row ++ y.row)
  have hr : (w.alloc (.cells (x.row ++ y.row).toArray 27)).rangeAt w.heap.size 0 (x.row ++ y.row) := by have := n.arr.range; simpa using this
  have := hK _ _ (h _ _ (hidp (H.out.call n.below)) n.below ⟨⟨rows_all (by intro z hz; simp at hz; rcases hz with rfl | rfl <;> assumption), .inr ⟨_, 0, 2, rfl, Nat.le_refl _, n.arr.lt, by simpa [rows] using hr⟩⟩, by intro z hz; simp at hz; rcases hz with rfl | rfl <;> assumption⟩)
  unfold Oper.wp execOp
  simp only [ho, List.map_toArray, List.map_cons, List.map_nil, h0, h1, Sem.run_bind, run_bs2 _ _ (Gr.len hx) (Gr.len hy) w, Result.andThen_ok]
  exact this
end
/-- What was there ahead of a new variable stands behind the first store into it. -/
theorem newput {w W V : World} {b t : Nat} {r : List Value} (n : Rt.NewAt w W b t r) (st : Rt.Stp b W V) : Below w.heap.size w V := n.below.trans (st.below _ n.le)
theorem own_gs {w : World} {B : Nat} {v : Value} {gs : List Gr} (h : Rw.OwnR 27 36 w B v (rows gs)) (hg : ∀ g ∈ gs, g.ok) : GsAt w v gs := ⟨h.rs, hg⟩
set_option maxHeartbeats 4000000 in
theorem perm0_any (w : World) : Calls Tryd.prog 37 #[.int .i64 0] w fun e w' => e = .returned (.bool true) ∧ w' = w := by
  go_enter Tryd.func37, Tryd.ntmps37
  go_wp2
  go_ret
  exact ⟨rfl, rfl⟩
set_option maxHeartbeats 4000000 in
theorem size0_any (w : World) : Calls Tryd.prog 38 #[.int .i64 0] w fun e w' => e = .returned (.int .i64 1089) ∧ w' = w := by
  go_enter Tryd.func38, Tryd.ntmps38
  go_wp2
  go_ret
  exact ⟨rfl, rfl⟩
set_option maxHeartbeats 4000000 in
theorem place0_any (w : World) : Calls Tryd.prog 28 #[.int .i64 0, .string ⟨#[]⟩] w fun e w' => e = .returned (.tuple #[.int .i64 0, .int .i64 2]) ∧ w' = w := by
  go_enter Tryd.func28, Tryd.ntmps28
  go_wp2_with (first | (go_at_call 37; refine (perm0_any _).mono ?_; rintro e _ ⟨rfl, rfl⟩) | (go_at_call 38; refine (size0_any _).mono ?_; rintro e _ ⟨rfl, rfl⟩))
  go_ret2
  exact ⟨rfl, rfl⟩

set_option maxHeartbeats 4000000 in
theorem kverify0_any (w : World) (r : List UInt8) : Calls Tryd.prog 17 #[.agg (u8s r).toArray, .int .i64 0, .string ⟨#[]⟩, .string ⟨#[]⟩] w fun e w' => e = .returned (.int .i64 2) ∧ Below w.heap.size w w' := by
  have H := hidp (Mm.M.nil w)
  go_enter Tryd.func17, Tryd.ntmps17
  have tk0 := hidp trivial
  go_wp2_with (first | (clear tk0; (refine Mm.box 25 H rfl (.tmp 0) rfl (u8s r) rfl ?_; clear H; intro b4 _ H nw; have hb := nw.below; clear hb nw); (try simp only [Act.put, setIfInBounds_toArray, set_cons_zero, set_cons_succ]); have tk1 := hidp trivial) | (clear tk1; (go_at_call 28; refine (place0_any _).mono ?_; rintro e _ ⟨rfl, rfl⟩); (try simp only [Act.put, setIfInBounds_toArray, set_cons_zero, set_cons_succ]); have tk2 := hidp trivial))
  try clear tk2
  go_ret
  exact ⟨rfl, H.out.below⟩

set_option maxHeartbeats 8000000 in
theorem bverify0_any (w : World) (v : Value) (gs : List Gr) (hv : GsAt w v gs) (s t : Int) (he : fiE gs s t = 0) (hh : (fiV gs s t).h = 0) :
    Calls Tryd.prog 7 #[v, .int .i64 s, .int .i64 t, .string ⟨#[]⟩, .string ⟨#[]⟩] w fun e w' => e = .returned (.int .i64 2) ∧ Below w.heap.size w w' := by
  have H := hidp (Mm.M.nil w)
  have HG := hidp hv
  have cf := hidp (fun W v (h : GsAt W v gs) => bfind_any W v gs h s t)
  have hgo := fiV_ok hv.2 s t
  rw [he] at cf
  obtain ⟨g, hg⟩ : ∃ g, fiV gs s t = g := ⟨_, rfl⟩
  rw [hg] at cf hh hgo
  have HGO := hidp hgo
  have HL := hidp (show (u8s g.r).length = 32 from by rw [u8s_length]; exact hgo)
  have H3 := hidp (show g.row[3]? = some (.int .i64 0) from by show some (Value.int .i64 g.h) = _; rw [hh])
  have HR := hidp (show ∀ (b : Nat) W, Arr W b 27 g.row → W.rangeAt b 4 (u8s g.r) from fun b W ha => (by
    have := ha.range
    intro j u hj
    have h2 := this (4 + j) u (by unfold Gr.row; rw [List.getElem?_append_right (by simp)]; simpa using hj)
    simpa using h2))
  clear hv he hg hh hgo
  go_enter Tryd.func7, Tryd.ntmps7
  have tk0 := hidp trivial
  go_wp2_with (first | (clear tk0; (go_at_call 5; refine (cf.out _ _ (HG.out.to H.out.below)).mono ?_; rintro e _ ⟨rfl, hb⟩; replace H := hidp (H.out.call hb); clear cf; clear hb); (try simp only [Act.put, setIfInBounds_toArray, set_cons_zero, set_cons_succ]); have tk1 := hidp trivial) | (clear tk1; (refine Mm.new rtG H (some 11) rfl rfl rfl ?_; clear H; intro b11 _ H nw; have hb := nw.below; clear hb nw); (try simp only [Act.put, setIfInBounds_toArray, set_cons_zero, set_cons_succ]); have tk2 := hidp trivial) | (clear tk2; (refine Mm.put0 rtG H rfl (.tmp 11) (.tmp 18) g.row rfl rfl rfl (Gr.len HGO.out) (Gr.one g) rfl ?_; intro _ H2 st; clear st H; have H := H2; clear H2); (try simp only [Act.put, setIfInBounds_toArray, set_cons_zero, set_cons_succ]); have tk3 := hidp trivial) | (clear tk3; (refine wpL_atH rfl (.tmp 23) rfl b11 4 g.r rfl HGO.out (HR.out _ _ H.out.at0) ?_); (try simp only [Act.put, setIfInBounds_toArray, set_cons_zero, set_cons_succ]); have tk4 := hidp trivial) | (clear tk4; (refine Mm.ld0 naI H rfl (.tmp 25) 3 (.int .i64 0) rfl rfl H3.out ?_); (try simp only [Act.put, setIfInBounds_toArray, set_cons_zero, set_cons_succ]); have tk5 := hidp trivial) | (clear tk5; (go_at_call 17; refine (kverify0_any _ g.r).mono ?_; rintro e _ ⟨rfl, hb⟩; replace H := hidp (H.out.call hb); clear hb); (try simp only [Act.put, setIfInBounds_toArray, set_cons_zero, set_cons_succ]); have tk6 := hidp trivial))
  try clear tk6
  go_ret
  exact ⟨rfl, H.out.below⟩

def q1 : Gr := ⟨2, 5, 9, 0, z32⟩
def q2 : Gr := ⟨1, 5, 9, 0, z32⟩
def q3 : Gr := ⟨2, 9, 9, 0, z32⟩
set_option maxHeartbeats 16000000 in
theorem lives6_any (w : World) : Calls Tryd.prog 4 #[] w fun e w' => e = .returned (.bool true) ∧ Below w.heap.size w w' := by
  have k1 : q1.ok := rfl
  have k2 : q2.ok := rfl
  have HK1 := hidp (show ∀ g ∈ [q1], g.ok from by intro g hg; rw [List.mem_singleton.1 hg]; exact k1)
  have HK2 := hidp (show ∀ g ∈ [q2, q1], g.ok from by
    intro g hg
    rcases List.mem_cons.1 hg with h | h
    · rw [h]; exact k2
    · rw [List.mem_singleton.1 h]; exact k1)
  have a1 := hidp (fun W => badd_any W (.slice none 0 0) [] ⟨Rw.RsAt.nil _, fun g hg => by cases hg⟩ q1 rfl)
  have a2 := hidp (fun W v (h : GsAt W v [q1]) => badd_any W v [q1] h q2 rfl)
  have a3 := hidp (fun W v (h : GsAt W v [q2, q1]) => badd_any W v [q2, q1] h q3 rfl)
  have f1 := hidp (fun W v (h : GsAt W v [q2, q1]) => bfind_any W v [q2, q1] h 2 9)
  have f2 := hidp (fun W v (h : GsAt W v [q2, q1]) => bfind_any W v [q2, q1] h 2 10)
  have f3 := hidp (fun W v (h : GsAt W v [q1, q2]) => bfind_any W v [q1, q2] h 2 5)
  have sv := hidp (fun W v (h : GsAt W v [q2, q1]) => servers_any W v [q2, q1] h (by decide))
  have ch := hidp (fun W v (h : GsAt W v [q2, q1]) => bcheck_any W v [q2, q1] h)
  rw [show adE [] q1 = 0 from by kernel_rfl, show adL [] q1 = [q1] from by kernel_rfl] at a1
  rw [show adE [q1] q2 = 0 from by kernel_rfl, show adL [q1] q2 = [q2, q1] from by kernel_rfl] at a2
  rw [show adE [q2, q1] q3 = 4 from by kernel_rfl, show adL [q2, q1] q3 = [q2, q1] from by kernel_rfl] at a3
  rw [show fiE [q2, q1] 2 9 = 0 from by kernel_rfl, show fiV [q2, q1] 2 9 = q1 from by kernel_rfl] at f1
  rw [show fiE [q2, q1] 2 10 = 3 from by kernel_rfl, show fiV [q2, q1] 2 10 = gz from by kernel_rfl] at f2
  rw [show fiE [q1, q2] 2 5 = 2 from by kernel_rfl, show fiV [q1, q2] 2 5 = gz from by kernel_rfl] at f3
  rw [show svT [q2, q1] [q2, q1].length = [1, 2] from by kernel_rfl] at sv
  rw [show ckB [q2, q1] = 0 from by kernel_rfl] at ch
  have qg := fun W => eqin_gr W q1 rfl
  have ge := guard_gr
  have H := hidp (Mm.M.nil w)
  go_enter Tryd.func4, Tryd.ntmps4
  have tk0 := hidp trivial
  go_wp2_with (first | (clear tk0; (refine Rt.wpL_build rfl 27 _ rfl q1.row (by kernel_rfl) ?_); (try simp only [Act.put, setIfInBounds_toArray, set_cons_zero, set_cons_succ]); have tk1 := hidp trivial) | (clear tk1; (refine Rt.wpL_build rfl 27 _ rfl q2.row (by kernel_rfl) ?_); (try simp only [Act.put, setIfInBounds_toArray, set_cons_zero, set_cons_succ]); have tk2 := hidp trivial) | (clear tk2; (refine Mm.new rtG H (some 1) rfl rfl rfl ?_; clear H; intro b1 _ H nw; have hb := nw.below; clear hb nw); (try simp only [Act.put, setIfInBounds_toArray, set_cons_zero, set_cons_succ]); have tk3 := hidp trivial) | (clear tk3; (refine Mm.new rtG H (some 2) rfl rfl rfl ?_; clear H; intro b2 _ H nw; have hb := nw.below; clear hb nw); (try simp only [Act.put, setIfInBounds_toArray, set_cons_zero, set_cons_succ]); have tk4 := hidp trivial) | (clear tk4; (refine Mm.put1 rtG H rfl (.tmp 1) (.tmp 14) q1.row rfl rfl rfl (Gr.len (rfl : q1.ok)) (Gr.one q1) rfl ?_; intro _ H2 st; clear st H; have H := H2; clear H2); (try simp only [Act.put, setIfInBounds_toArray, set_cons_zero, set_cons_succ]); have tk5 := hidp trivial) | (clear tk5; (refine Mm.put0 rtG H rfl (.tmp 2) (.tmp 15) q2.row rfl rfl rfl (Gr.len (rfl : q2.ok)) (Gr.one q2) rfl ?_; intro _ H2 st; clear st H; have H := H2; clear H2); (try simp only [Act.put, setIfInBounds_toArray, set_cons_zero, set_cons_succ]); have tk6 := hidp trivial) | (clear tk6; (refine Mm.get1 rtG H rfl (.tmp 1) rfl rfl (Gr.len (rfl : q1.ok)) ?_); (try simp only [Act.put, setIfInBounds_toArray, set_cons_zero, set_cons_succ]); have tk7 := hidp trivial) | (clear tk7; (go_at_call 9; refine (a1.out _).mono ?_; rintro e _ ⟨v1, rfl, ho, hb⟩; replace H := hidp (H.out.call hb); have HG1 := hidp (own_gs ho HK1.out); clear ho hb a1); (try simp only [Act.put, setIfInBounds_toArray, set_cons_zero, set_cons_succ]); have tk8 := hidp trivial) | (clear tk8; (refine Mm.get0 rtG H rfl (.tmp 2) rfl rfl (Gr.len (rfl : q2.ok)) ?_); (try simp only [Act.put, setIfInBounds_toArray, set_cons_zero, set_cons_succ]); have tk9 := hidp trivial) | (clear tk9; (go_at_call 9; refine (a2.out _ _ HG1.out).mono ?_; rintro e _ ⟨v2, rfl, ho, hb⟩; replace H := hidp (H.out.call hb); have HG := hidp (own_gs ho HK2.out); clear ho hb a2 HG1); (try simp only [Act.put, setIfInBounds_toArray, set_cons_zero, set_cons_succ]); have tk10 := hidp trivial) | (clear tk10; (refine Rt.wpL_build rfl 27 _ rfl q3.row (by kernel_rfl) ?_); (try simp only [Act.put, setIfInBounds_toArray, set_cons_zero, set_cons_succ]); have tk11 := hidp trivial) | (clear tk11; (go_at_call 9; refine (a3.out _ _ HG.out).mono ?_; rintro e _ ⟨v3, rfl, ho, hb⟩; replace H := hidp (H.out.call hb); have HC := hidp (own_gs ho HK2.out); replace HG := hidp (HG.out.to hb); clear ho hb a3); (try simp only [Act.put, setIfInBounds_toArray, set_cons_zero, set_cons_succ]); have tk12 := hidp trivial) | (clear tk12; (go_at_call 5; refine (f1.out _ _ HG.out).mono ?_; rintro e _ ⟨rfl, hb⟩; replace H := hidp (H.out.call hb); clear f1; replace HG := hidp (GsAt.to HG.out hb); replace HC := hidp (GsAt.to HC.out hb); clear hb); (try simp only [Act.put, setIfInBounds_toArray, set_cons_zero, set_cons_succ]); have tk13 := hidp trivial) | (clear tk13; (refine Mm.new rtG H (some 8) rfl rfl rfl ?_; clear H; intro b8 _ H nw); (try simp only [Act.put, setIfInBounds_toArray, set_cons_zero, set_cons_succ]); have tk14 := hidp trivial) | (clear tk14; (refine Mm.put0 rtG H rfl (.tmp 8) (.tmp 36) q1.row rfl rfl rfl (Gr.len (rfl : q1.ok)) (Gr.one _) rfl ?_; intro _ H2 st; have hb := newput nw st; replace HG := hidp (GsAt.to HG.out hb); replace HC := hidp (GsAt.to HC.out hb); clear st H nw hb; have H := H2; clear H2); (try simp only [Act.put, setIfInBounds_toArray, set_cons_zero, set_cons_succ]); have tk15 := hidp trivial) | (clear tk15; (go_at_call 5; refine (f2.out _ _ HG.out).mono ?_; rintro e _ ⟨rfl, hb⟩; replace H := hidp (H.out.call hb); clear f2; replace HG := hidp (GsAt.to HG.out hb); replace HC := hidp (GsAt.to HC.out hb); clear hb); (try simp only [Act.put, setIfInBounds_toArray, set_cons_zero, set_cons_succ]); have tk16 := hidp trivial) | (clear tk16; (refine Mm.new rtG H (some 10) rfl rfl rfl ?_; clear H; intro b10 _ H nw); (try simp only [Act.put, setIfInBounds_toArray, set_cons_zero, set_cons_succ]); have tk17 := hidp trivial) | (clear tk17; (refine Mm.put0 rtG H rfl (.tmp 10) (.tmp 41) gz.row rfl rfl rfl (Gr.len (rfl : gz.ok)) (Gr.one _) rfl ?_; intro _ H2 st; have hb := newput nw st; replace HG := hidp (GsAt.to HG.out hb); replace HC := hidp (GsAt.to HC.out hb); clear st H nw hb; have H := H2; clear H2); (try simp only [Act.put, setIfInBounds_toArray, set_cons_zero, set_cons_succ]); have tk18 := hidp trivial) | (clear tk18; (refine Mm.get3 rtG H rfl (.tmp 1) rfl rfl (Gr.len (rfl : q1.ok)) ?_); (try simp only [Act.put, setIfInBounds_toArray, set_cons_zero, set_cons_succ]); have tk19 := hidp trivial) | (clear tk19; (refine Mm.get2 rtG H rfl (.tmp 2) rfl rfl (Gr.len (rfl : q2.ok)) ?_); (try simp only [Act.put, setIfInBounds_toArray, set_cons_zero, set_cons_succ]); have tk20 := hidp trivial) | (clear tk20; (refine wpL_bs2 H rfl (.tmp 44) (.tmp 45) q1 q2 rfl rfl rfl rfl rfl ?_; clear H; intro b46 _ H hb HX; replace HG := hidp (GsAt.to HG.out hb); replace HC := hidp (GsAt.to HC.out hb); have HX := hidp HX; clear hb); (try simp only [Act.put, setIfInBounds_toArray, set_cons_zero, set_cons_succ]); have tk21 := hidp trivial) | (clear tk21; (go_at_call 5; refine (f3.out _ _ HX.out).mono ?_; rintro e _ ⟨rfl, hb⟩; replace H := hidp (H.out.call hb); clear f3; replace HG := hidp (GsAt.to HG.out hb); replace HC := hidp (GsAt.to HC.out hb); clear hb; clear HX); (try simp only [Act.put, setIfInBounds_toArray, set_cons_zero, set_cons_succ]); have tk22 := hidp trivial) | (clear tk22; (refine Mm.new rtG H (some 12) rfl rfl rfl ?_; clear H; intro b12 _ H nw); (try simp only [Act.put, setIfInBounds_toArray, set_cons_zero, set_cons_succ]); have tk23 := hidp trivial) | (clear tk23; (refine Mm.put0 rtG H rfl (.tmp 12) (.tmp 48) gz.row rfl rfl rfl (Gr.len (rfl : gz.ok)) (Gr.one _) rfl ?_; intro _ H2 st; have hb := newput nw st; replace HG := hidp (GsAt.to HG.out hb); replace HC := hidp (GsAt.to HC.out hb); clear st H nw hb; have H := H2; clear H2); (try simp only [Act.put, setIfInBounds_toArray, set_cons_zero, set_cons_succ]); have tk24 := hidp trivial) | (clear tk24; (refine Mm.get3 rtG H rfl (.tmp 2) rfl rfl (Gr.len (rfl : q2.ok)) ?_); (try simp only [Act.put, setIfInBounds_toArray, set_cons_zero, set_cons_succ]); have tk25 := hidp trivial) | (clear tk25; (refine Mm.get4 rtG H rfl (.tmp 1) rfl rfl (Gr.len (rfl : q1.ok)) ?_); (try simp only [Act.put, setIfInBounds_toArray, set_cons_zero, set_cons_succ]); have tk26 := hidp trivial) | (clear tk26; (refine wpL_bs2 H rfl (.tmp 58) (.tmp 59) q2 q1 rfl rfl rfl rfl rfl ?_; clear H; intro b60 _ H hb HX; replace HG := hidp (GsAt.to HG.out hb); replace HC := hidp (GsAt.to HC.out hb); have HX := hidp HX; clear hb); (try simp only [Act.put, setIfInBounds_toArray, set_cons_zero, set_cons_succ]); have tk27 := hidp trivial) | (clear tk27; (go_at_call 10; refine (same_any _ _ _ _ HG.out HX.out (by decide)).mono ?_; rintro e _ ⟨rfl, hb⟩; replace H := hidp (H.out.call hb); clear HX; replace HG := hidp (GsAt.to HG.out hb); replace HC := hidp (GsAt.to HC.out hb); clear hb); (try simp only [Act.put, setIfInBounds_toArray, set_cons_zero, set_cons_succ]); have tk28 := hidp trivial) | (clear tk28; (go_at_call 10; refine (same_any _ _ _ _ HC.out HG.out (by decide)).mono ?_; rintro e _ ⟨rfl, hb⟩; replace H := hidp (H.out.call hb); replace HG := hidp (GsAt.to HG.out hb); replace HC := hidp (GsAt.to HC.out hb); clear hb); (try simp only [Act.put, setIfInBounds_toArray, set_cons_zero, set_cons_succ]); have tk29 := hidp trivial) | (clear tk29; (refine Mm.get2 rtG H rfl (.tmp 8) rfl rfl (Gr.len (rfl : q1.ok)) ?_); (try simp only [Act.put, setIfInBounds_toArray, set_cons_zero, set_cons_succ]); have tk30 := hidp trivial) | (clear tk30; (refine Mm.get4 rtG H rfl (.tmp 1) rfl rfl (Gr.len (rfl : q1.ok)) ?_); (try simp only [Act.put, setIfInBounds_toArray, set_cons_zero, set_cons_succ]); have tk31 := hidp trivial) | (clear tk31; (go_at_call 7; refine (bverify0_any _ _ _ HG.out 2 5 (by kernel_rfl) (by kernel_rfl)).mono ?_; rintro e _ ⟨rfl, hb⟩; replace H := hidp (H.out.call hb); replace HG := hidp (GsAt.to HG.out hb); replace HC := hidp (GsAt.to HC.out hb); clear hb); (try simp only [Act.put, setIfInBounds_toArray, set_cons_zero, set_cons_succ]); have tk32 := hidp trivial) | (clear tk32; (go_at_call 12; refine (sv.out _ _ HG.out).mono ?_; rintro e _ ⟨v9, rfl, ho, hb⟩; replace H := hidp (H.out.call hb); replace HG := hidp (HG.out.to hb); replace HC := hidp (HC.out.to hb); have HO := hidp ho; clear ho hb sv); (try simp only [Act.put, setIfInBounds_toArray, set_cons_zero, set_cons_succ]); have tk33 := hidp trivial) | (clear tk33; (refine Sl.wpL_bsI2 H rfl _ _ 1 2 rfl rfl rfl ?_; clear H; intro b97 _ H nw; have hb := nw.below; replace HO := hidp (Sl.own_to HO.out hb); replace HG := hidp (GsAt.to HG.out hb); replace HC := hidp (GsAt.to HC.out hb); clear hb nw); (try simp only [Act.put, setIfInBounds_toArray, set_cons_zero, set_cons_succ]); have tk34 := hidp trivial) | (clear tk34; (go_at_call 11; refine (isame_any _ _ _ [1, 2] ⟨_, HO.out⟩ ⟨0, Sl.own_arr (row := encI [1, 2]) H.out.at0 (Nat.zero_le _) (by decide)⟩ (by decide)).mono ?_; rintro e _ ⟨rfl, hb⟩; replace H := hidp (H.out.call hb); clear HO; replace HG := hidp (GsAt.to HG.out hb); replace HC := hidp (GsAt.to HC.out hb); clear hb); (try simp only [Act.put, setIfInBounds_toArray, set_cons_zero, set_cons_succ]); have tk35 := hidp trivial) | (clear tk35; (go_at_call 13; refine (ch.out _ _ HG.out).mono ?_; rintro e _ ⟨rfl, hb⟩; replace H := hidp (H.out.call hb); clear ch; replace HG := hidp (GsAt.to HG.out hb); replace HC := hidp (GsAt.to HC.out hb); clear hb); (try simp only [Act.put, setIfInBounds_toArray, set_cons_zero, set_cons_succ]); have tk36 := hidp trivial))
  try clear tk36
  go_ret
  exact ⟨rfl, H.out.below⟩
end Go.Proofs.YtbgooppmhgaicaaDoor.Bk

namespace Go.Proofs.YtbgooppmhgaicaaDoor.Bk
set_option maxRecDepth 100000
set_option linter.unusedVariables false
set_option linter.unusedSimpArgs false
open Go.RowKit
open List (getElem_toArray getElem_cons_zero getElem_cons_succ setIfInBounds_toArray set_cons_zero set_cons_succ)
open Rw
set_option maxHeartbeats 16000000 in
theorem walk_bookFinds (w : World) (v : Value) (gs : List Gr) (hv : GsAt w v gs) (hn : gs.length ≤ 2199023255552) (s : Int) (ws : (Lit.int .i64 s).wf) (t : Int) (wt : (Lit.int .i64 t).wf) (x : ByteArray) (hx : x.size ≤ 140737488351232) (g : ByteArray) (hg : g.size ≤ 140737488351232) (hK : KT w) :
    Calls Tryd.prog 3 #[v, .int .i64 s, .int .i64 t, .string x, .string g] w fun e w' => e = .returned (.bool true) ∧ Below w.heap.size w w' := by
  clear ws wt
  have hkp := hK.pos
  have HK := hidp hK; clear hK
  have H := hidp (Mm.M.nil w)
  by_cases hbig : x.size > 16384
  · have e1 : decide ((x.size : Int) > 16384) = true := by simp; omega
    have n1 : (16384 : Int) < (x.size : Int) := by omega
    clear hx hg hn hv hbig
    go_enter Tryd.func3, Tryd.ntmps3
    have tk0 := hidp trivial
    go_wp2_with (first | (clear tk0; (go_at_call 4; refine (lives6_any _).mono ?_; rintro e _ ⟨rfl, hb⟩; replace H := hidp (H.out.call hb); clear hb); (try simp only [Act.put, setIfInBounds_toArray, set_cons_zero, set_cons_succ]); have tk1 := hidp trivial))
    try clear tk1
    go_ret
    exact ⟨rfl, H.out.below⟩
  · have e1 : decide ((x.size : Int) > 16384) = false := by simp; omega
    have n1 : ¬ (16384 : Int) < (x.size : Int) := by omega
    have hXK := fiV_ok hv.2 s t
    have HV := hidp hv
    clear hv
    have c1 := hidp (fun W (h : GsAt W v gs) => bfind_any W v gs h s t)
    have d1 := hidp (fun W (h : GsAt W v gs) => rbfind_any W v gs h s t)
    have c2 := hidp (fun W (h : GsAt W v gs) => bverify_any W v gs h s t x g (by omega) (by omega))
    have d2 := hidp (fun W (h : GsAt W v gs) => rbverify_any W v gs h s t x g (by omega) (by omega) (by omega))
    obtain ⟨X, hX⟩ : ∃ X, fiV gs s t = X := ⟨_, rfl⟩
    obtain ⟨E, hE⟩ : ∃ X, fiE gs s t = X := ⟨_, rfl⟩
    obtain ⟨VE, hVE⟩ : ∃ X, bvE gs s t x g = X := ⟨_, rfl⟩
    rw [hX, hE] at c1 d1
    rw [hVE] at c2 d2
    rw [hX] at hXK
    have HXK := hidp hXK
    have ge := guard_gr
    have qx := fun W => eqin_gr W X hXK
    clear hX hE hVE hXK hx hg hn hbig
    go_enter Tryd.func3, Tryd.ntmps3
    have tk0 := hidp trivial
    go_wp2_with (first | (clear tk0; (go_at_call 5; refine (c1.out _ (HV.out.to H.out.below)).mono ?_; rintro e _ ⟨rfl, hb⟩; replace H := hidp (H.out.call hb); clear c1; clear hb); (try simp only [Act.put, setIfInBounds_toArray, set_cons_zero, set_cons_succ]); have tk1 := hidp trivial) | (clear tk1; (refine Mm.new rtG H (some 11) rfl rfl rfl ?_; clear H; intro b11 _ H nw; have hb := nw.below; clear hb nw); (try simp only [Act.put, setIfInBounds_toArray, set_cons_zero, set_cons_succ]); have tk2 := hidp trivial) | (clear tk2; (refine Mm.put0 rtG H rfl (.tmp 11) (.tmp 24) X.row rfl rfl rfl (Gr.len HXK.out) (Gr.one _) rfl ?_; intro _ H2 st; clear st H; have H := H2; clear H2); (try simp only [Act.put, setIfInBounds_toArray, set_cons_zero, set_cons_succ]); have tk3 := hidp trivial) | (clear tk3; (go_at_call 6; refine (d1.out _ (HV.out.to H.out.below)).mono ?_; rintro e _ ⟨rfl, hb⟩; replace H := hidp (H.out.call hb); clear d1; clear hb); (try simp only [Act.put, setIfInBounds_toArray, set_cons_zero, set_cons_succ]); have tk4 := hidp trivial) | (clear tk4; (refine Mm.new rtG H (some 13) rfl rfl rfl ?_; clear H; intro b13 _ H nw; have hb := nw.below; clear hb nw); (try simp only [Act.put, setIfInBounds_toArray, set_cons_zero, set_cons_succ]); have tk5 := hidp trivial) | (clear tk5; (refine Mm.put0 rtG H rfl (.tmp 13) (.tmp 31) X.row rfl rfl rfl (Gr.len HXK.out) (Gr.one _) rfl ?_; intro _ H2 st; clear st H; have H := H2; clear H2); (try simp only [Act.put, setIfInBounds_toArray, set_cons_zero, set_cons_succ]); have tk6 := hidp trivial) | (clear tk6; (go_at_call 4; refine (lives6_any _).mono ?_; rintro e _ ⟨rfl, hb⟩; replace H := hidp (H.out.call hb); clear hb); (try simp only [Act.put, setIfInBounds_toArray, set_cons_zero, set_cons_succ]); have tk7 := hidp trivial) | (clear tk7; (refine Mm.get1 rtG H rfl (.tmp 11) rfl rfl (Gr.len HXK.out) ?_); (try simp only [Act.put, setIfInBounds_toArray, set_cons_zero, set_cons_succ]); have tk8 := hidp trivial) | (clear tk8; (refine Mm.get0 rtG H rfl (.tmp 13) rfl rfl (Gr.len HXK.out) ?_); (try simp only [Act.put, setIfInBounds_toArray, set_cons_zero, set_cons_succ]); have tk9 := hidp trivial) | (clear tk9; (go_at_call 7; refine (c2.out _ (HV.out.to H.out.below) (HK.out.below H.out.below hkp)).mono ?_; rintro e _ ⟨rfl, hb⟩; replace H := hidp (H.out.call hb); clear c2; clear hb); (try simp only [Act.put, setIfInBounds_toArray, set_cons_zero, set_cons_succ]); have tk10 := hidp trivial) | (clear tk10; (go_at_call 8; refine (d2.out _ (HV.out.to H.out.below)).mono ?_; rintro e _ ⟨rfl, hb⟩; replace H := hidp (H.out.call hb); clear d2; clear hb); (try simp only [Act.put, setIfInBounds_toArray, set_cons_zero, set_cons_succ]); have tk11 := hidp trivial))
    try clear tk11
    go_ret
    exact ⟨rfl, H.out.below⟩
end Go.Proofs.YtbgooppmhgaicaaDoor.Bk
