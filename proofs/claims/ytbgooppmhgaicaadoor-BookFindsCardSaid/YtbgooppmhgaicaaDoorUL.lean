/-
  Joined: GrA GrB GrC.
-/
import Derived.Test.YtbgooppmhgaicaaDoorUB
import Derived.Test.YtbgooppmhgaicaaDoorUJ
namespace Go.Proofs.YtbgooppmhgaicaaDoor
set_option maxRecDepth 100000
set_option linter.unusedVariables false
set_option linter.unusedSimpArgs false
open Go.RowKit Rw

/-- A grant. -/
structure Gr where
  s : Int
  f : Int
  t : Int
  h : Int
  r : List UInt8
def Gr.row (g : Gr) : List Value := [.int .i64 g.s, .int .i64 g.f, .int .i64 g.t, .int .i64 g.h] ++ u8s g.r
def Gr.ok (g : Gr) : Prop := g.r.length = 32
theorem Gr.len {g : Gr} (h : g.ok) : g.row.length = 36 := by unfold Gr.row; rw [List.length_append, u8s_length, h]; rfl
theorem Gr.one (g : Gr) : ∀ v ∈ g.row, v.oneCell' = true := by
  intro v hv
  unfold Gr.row at hv
  rcases List.mem_append.1 hv with h | h
  · simp at h; rcases h with rfl | rfl | rfl | rfl <;> rfl
  · obtain ⟨b, _, rfl⟩ := List.mem_map.1 h; rfl
def zG : List Value := [.int .i64 0, .int .i64 0, .int .i64 0, .int .i64 0] ++ u8s z32
theorem tyG : RowTy Tryd.prog 22 27 36 64 zG := by
  refine ⟨by decide, by decide, by decide, rfl, by kernel_rfl, by kernel_rfl, ⟨_, Tryd.underlying27⟩, by kernel_rfl⟩
def rows (gs : List Gr) : List (List Value) := gs.map Gr.row
end Go.Proofs.YtbgooppmhgaicaaDoor

namespace Go.Proofs.YtbgooppmhgaicaaDoor
set_option maxRecDepth 100000
set_option linter.unusedVariables false
set_option linter.unusedSimpArgs false
open Go.RowKit Rw

theorem gr_cells {w : World} {b t : Nat} {g : Gr} (h : Arr w b t g.row) : w.cell? ⟨b, 0, none⟩ = some (.int .i64 g.s) ∧ w.cell? ⟨b, 1, none⟩ = some (.int .i64 g.f) ∧ w.cell? ⟨b, 2, none⟩ = some (.int .i64 g.t) ∧ w.cell? ⟨b, 3, none⟩ = some (.int .i64 g.h) :=
  ⟨h.cell 0 (by simp [Gr.row]), h.cell 1 (by simp [Gr.row]), h.cell 2 (by simp [Gr.row]), h.cell 3 (by simp [Gr.row])⟩
theorem gr_hash {w : World} {b o : Nat} {g : Gr} (h : w.rangeAt b o g.row) : w.rangeAt b (o + 4) (u8s g.r) := by
  unfold Gr.row at h
  exact (rAt_app.1 h).2
theorem gr_nums {w : World} {b o : Nat} {g : Gr} (h : w.rangeAt b o g.row) : w.cell? ⟨b, o, none⟩ = some (.int .i64 g.s) ∧ w.cell? ⟨b, o + 1, none⟩ = some (.int .i64 g.f) ∧ w.cell? ⟨b, o + 2, none⟩ = some (.int .i64 g.t) ∧ w.cell? ⟨b, o + 3, none⟩ = some (.int .i64 g.h) :=
  ⟨h 0 _ rfl, h 1 _ rfl, h 2 _ rfl, h 3 _ rfl⟩
/-- A grant is valid. -/
def vG (g : Gr) : Bool := decide (0 ≤ g.s) && decide (g.s ≤ 63) && decide (0 ≤ g.f) && decide (g.f ≤ g.t) && decide (g.t ≤ 1099511627776) && decide (0 ≤ g.h) && decide (g.h ≤ 7)
/-- A grant may stand behind another one. -/
def fol (g a : Gr) : Bool := if g.s = a.s then decide (a.t < g.f) else decide (a.s < g.s)
/-- Two grants meet. -/
def mt (g h : Gr) : Bool := decide (g.s = h.s) && decide (g.f ≤ h.t) && decide (h.f ≤ g.t)

set_option maxHeartbeats 16000000 in
theorem valid_any (w : World) (g : Gr) :
    Calls Tryd.prog 20 #[.agg g.row.toArray] w fun e w' => e = .returned (.bool (vG g)) ∧ Below w.heap.size w w' := by
  by_cases c0 : 0 ≤ g.s
  · have d0 : decide (0 ≤ g.s) = true := decide_eq_true c0
    by_cases c1 : g.s ≤ 63
    · have d1 : decide (g.s ≤ 63) = true := decide_eq_true c1
      by_cases c2 : 0 ≤ g.f
      · have d2 : decide (0 ≤ g.f) = true := decide_eq_true c2
        by_cases c3 : g.f ≤ g.t
        · have d3 : decide (g.f ≤ g.t) = true := decide_eq_true c3
          by_cases c4 : g.t ≤ 1099511627776
          · have d4 : decide (g.t ≤ 1099511627776) = true := decide_eq_true c4
            by_cases c5 : 0 ≤ g.h
            · have d5 : decide (0 ≤ g.h) = true := decide_eq_true c5
              by_cases c6 : g.h ≤ 7
              · have d6 : decide (g.h ≤ 7) = true := decide_eq_true c6
                have HF := hidp (show vG g = true from by unfold vG; simp [*])
                go_enter Tryd.func20, Tryd.ntmps20
                go_wp2_with (refine wpL_boxR 27 rfl _ rfl g.row rfl ?_; intro b1 w1 n1; have HB := hidp n1.below; obtain ⟨x0, x1, x2, x3⟩ := gr_cells n1.arr; clear n1)
                go_ret
                exact ⟨by rw [HF.out]; rfl, HB.out⟩
              · have d6 : decide (g.h ≤ 7) = false := decide_eq_false c6
                have HF := hidp (show vG g = false from by unfold vG; simp [*])
                go_enter Tryd.func20, Tryd.ntmps20
                go_wp2_with (refine wpL_boxR 27 rfl _ rfl g.row rfl ?_; intro b1 w1 n1; have HB := hidp n1.below; obtain ⟨x0, x1, x2, x3⟩ := gr_cells n1.arr; clear n1)
                go_ret
                exact ⟨by rw [HF.out]; rfl, HB.out⟩
            · have d5 : decide (0 ≤ g.h) = false := decide_eq_false c5
              have HF := hidp (show vG g = false from by unfold vG; simp [*])
              go_enter Tryd.func20, Tryd.ntmps20
              go_wp2_with (refine wpL_boxR 27 rfl _ rfl g.row rfl ?_; intro b1 w1 n1; have HB := hidp n1.below; obtain ⟨x0, x1, x2, x3⟩ := gr_cells n1.arr; clear n1)
              go_ret
              exact ⟨by rw [HF.out]; rfl, HB.out⟩
          · have d4 : decide (g.t ≤ 1099511627776) = false := decide_eq_false c4
            have HF := hidp (show vG g = false from by unfold vG; simp [*])
            go_enter Tryd.func20, Tryd.ntmps20
            go_wp2_with (refine wpL_boxR 27 rfl _ rfl g.row rfl ?_; intro b1 w1 n1; have HB := hidp n1.below; obtain ⟨x0, x1, x2, x3⟩ := gr_cells n1.arr; clear n1)
            go_ret
            exact ⟨by rw [HF.out]; rfl, HB.out⟩
        · have d3 : decide (g.f ≤ g.t) = false := decide_eq_false c3
          have HF := hidp (show vG g = false from by unfold vG; simp [*])
          go_enter Tryd.func20, Tryd.ntmps20
          go_wp2_with (refine wpL_boxR 27 rfl _ rfl g.row rfl ?_; intro b1 w1 n1; have HB := hidp n1.below; obtain ⟨x0, x1, x2, x3⟩ := gr_cells n1.arr; clear n1)
          go_ret
          exact ⟨by rw [HF.out]; rfl, HB.out⟩
      · have d2 : decide (0 ≤ g.f) = false := decide_eq_false c2
        have HF := hidp (show vG g = false from by unfold vG; simp [*])
        go_enter Tryd.func20, Tryd.ntmps20
        go_wp2_with (refine wpL_boxR 27 rfl _ rfl g.row rfl ?_; intro b1 w1 n1; have HB := hidp n1.below; obtain ⟨x0, x1, x2, x3⟩ := gr_cells n1.arr; clear n1)
        go_ret
        exact ⟨by rw [HF.out]; rfl, HB.out⟩
    · have d1 : decide (g.s ≤ 63) = false := decide_eq_false c1
      have HF := hidp (show vG g = false from by unfold vG; simp [*])
      go_enter Tryd.func20, Tryd.ntmps20
      go_wp2_with (refine wpL_boxR 27 rfl _ rfl g.row rfl ?_; intro b1 w1 n1; have HB := hidp n1.below; obtain ⟨x0, x1, x2, x3⟩ := gr_cells n1.arr; clear n1)
      go_ret
      exact ⟨by rw [HF.out]; rfl, HB.out⟩
  · have d0 : decide (0 ≤ g.s) = false := decide_eq_false c0
    have HF := hidp (show vG g = false from by unfold vG; simp [*])
    go_enter Tryd.func20, Tryd.ntmps20
    go_wp2_with (refine wpL_boxR 27 rfl _ rfl g.row rfl ?_; intro b1 w1 n1; have HB := hidp n1.below; obtain ⟨x0, x1, x2, x3⟩ := gr_cells n1.arr; clear n1)
    go_ret
    exact ⟨by rw [HF.out]; rfl, HB.out⟩

set_option maxHeartbeats 16000000 in
theorem rvalid_any (w : World) (g : Gr) :
    Calls Tryd.prog 27 #[.agg g.row.toArray] w fun e w' => e = .returned (.bool (vG g)) ∧ Below w.heap.size w w' := by
  by_cases c0 : 0 ≤ g.s
  · have d0 : decide (0 ≤ g.s) = true := decide_eq_true c0
    by_cases c1 : g.s ≤ 63
    · have d1 : decide (g.s ≤ 63) = true := decide_eq_true c1
      by_cases c2 : 0 ≤ g.f
      · have d2 : decide (0 ≤ g.f) = true := decide_eq_true c2
        by_cases c3 : g.f ≤ g.t
        · have d3 : decide (g.f ≤ g.t) = true := decide_eq_true c3
          by_cases c4 : g.t ≤ 1099511627776
          · have d4 : decide (g.t ≤ 1099511627776) = true := decide_eq_true c4
            by_cases c5 : 0 ≤ g.h
            · have d5 : decide (0 ≤ g.h) = true := decide_eq_true c5
              by_cases c6 : g.h ≤ 7
              · have d6 : decide (g.h ≤ 7) = true := decide_eq_true c6
                have HF := hidp (show vG g = true from by unfold vG; simp [*])
                go_enter Tryd.func27, Tryd.ntmps27
                go_wp2_with (refine wpL_boxR 27 rfl _ rfl g.row rfl ?_; intro b1 w1 n1; have HB := hidp n1.below; obtain ⟨x0, x1, x2, x3⟩ := gr_cells n1.arr; clear n1)
                go_ret
                exact ⟨by rw [HF.out]; rfl, HB.out⟩
              · have d6 : decide (g.h ≤ 7) = false := decide_eq_false c6
                have HF := hidp (show vG g = false from by unfold vG; simp [*])
                go_enter Tryd.func27, Tryd.ntmps27
                go_wp2_with (refine wpL_boxR 27 rfl _ rfl g.row rfl ?_; intro b1 w1 n1; have HB := hidp n1.below; obtain ⟨x0, x1, x2, x3⟩ := gr_cells n1.arr; clear n1)
                go_ret
                exact ⟨by rw [HF.out]; rfl, HB.out⟩
            · have d5 : decide (0 ≤ g.h) = false := decide_eq_false c5
              have HF := hidp (show vG g = false from by unfold vG; simp [*])
              go_enter Tryd.func27, Tryd.ntmps27
              go_wp2_with (refine wpL_boxR 27 rfl _ rfl g.row rfl ?_; intro b1 w1 n1; have HB := hidp n1.below; obtain ⟨x0, x1, x2, x3⟩ := gr_cells n1.arr; clear n1)
              go_ret
              exact ⟨by rw [HF.out]; rfl, HB.out⟩
          · have d4 : decide (g.t ≤ 1099511627776) = false := decide_eq_false c4
            have HF := hidp (show vG g = false from by unfold vG; simp [*])
            go_enter Tryd.func27, Tryd.ntmps27
            go_wp2_with (refine wpL_boxR 27 rfl _ rfl g.row rfl ?_; intro b1 w1 n1; have HB := hidp n1.below; obtain ⟨x0, x1, x2, x3⟩ := gr_cells n1.arr; clear n1)
            go_ret
            exact ⟨by rw [HF.out]; rfl, HB.out⟩
        · have d3 : decide (g.f ≤ g.t) = false := decide_eq_false c3
          have HF := hidp (show vG g = false from by unfold vG; simp [*])
          go_enter Tryd.func27, Tryd.ntmps27
          go_wp2_with (refine wpL_boxR 27 rfl _ rfl g.row rfl ?_; intro b1 w1 n1; have HB := hidp n1.below; obtain ⟨x0, x1, x2, x3⟩ := gr_cells n1.arr; clear n1)
          go_ret
          exact ⟨by rw [HF.out]; rfl, HB.out⟩
      · have d2 : decide (0 ≤ g.f) = false := decide_eq_false c2
        have HF := hidp (show vG g = false from by unfold vG; simp [*])
        go_enter Tryd.func27, Tryd.ntmps27
        go_wp2_with (refine wpL_boxR 27 rfl _ rfl g.row rfl ?_; intro b1 w1 n1; have HB := hidp n1.below; obtain ⟨x0, x1, x2, x3⟩ := gr_cells n1.arr; clear n1)
        go_ret
        exact ⟨by rw [HF.out]; rfl, HB.out⟩
    · have d1 : decide (g.s ≤ 63) = false := decide_eq_false c1
      have HF := hidp (show vG g = false from by unfold vG; simp [*])
      go_enter Tryd.func27, Tryd.ntmps27
      go_wp2_with (refine wpL_boxR 27 rfl _ rfl g.row rfl ?_; intro b1 w1 n1; have HB := hidp n1.below; obtain ⟨x0, x1, x2, x3⟩ := gr_cells n1.arr; clear n1)
      go_ret
      exact ⟨by rw [HF.out]; rfl, HB.out⟩
  · have d0 : decide (0 ≤ g.s) = false := decide_eq_false c0
    have HF := hidp (show vG g = false from by unfold vG; simp [*])
    go_enter Tryd.func27, Tryd.ntmps27
    go_wp2_with (refine wpL_boxR 27 rfl _ rfl g.row rfl ?_; intro b1 w1 n1; have HB := hidp n1.below; obtain ⟨x0, x1, x2, x3⟩ := gr_cells n1.arr; clear n1)
    go_ret
    exact ⟨by rw [HF.out]; rfl, HB.out⟩

set_option maxHeartbeats 8000000 in
theorem follows_any (w : World) (g a : Gr) :
    Calls Tryd.prog 25 #[.agg g.row.toArray, .agg a.row.toArray] w fun e w' => e = .returned (.bool (fol g a)) ∧ Below w.heap.size w w' := by
  by_cases h : g.s = a.s
  · have e0 : (g.s != a.s) = false := by simp [h]
    have e00 : (g.s == a.s) = true := by simp [h]
    have HF := hidp (show fol g a = decide (a.t < g.f) from if_pos h)
    obtain ⟨D, hD⟩ : ∃ D, decide (a.t < g.f) = D := ⟨_, rfl⟩
    rw [hD] at HF
    have hD2 : decide (g.f > a.t) = D := hD
    clear h
    go_enter Tryd.func25, Tryd.ntmps25
    go_wp2_with (first | (refine wpL_boxR 27 rfl (.tmp 0) rfl g.row rfl ?_; intro b1 w1 n1) | (refine wpL_boxR 27 rfl (.tmp 1) rfl a.row rfl ?_; intro b2 w2 n2; have HB := hidp (n1.below.trans (n2.below.mono n1.below.size)); obtain ⟨x0, x1, x2, x3⟩ := gr_cells (n2.old n1.arr); obtain ⟨y0, y1, y2, y3⟩ := gr_cells n2.arr; clear n1 n2))
    go_ret
    exact ⟨by rw [HF.out]; rfl, HB.out⟩
  · have e0 : (g.s != a.s) = true := by simpa using h
    have e00 : (g.s == a.s) = false := by simpa using h
    have HF := hidp (show fol g a = decide (a.s < g.s) from if_neg h)
    obtain ⟨D, hD⟩ : ∃ D, decide (a.s < g.s) = D := ⟨_, rfl⟩
    rw [hD] at HF
    have hD2 : decide (g.s > a.s) = D := hD
    go_enter Tryd.func25, Tryd.ntmps25
    go_wp2_with (first | (refine wpL_boxR 27 rfl (.tmp 0) rfl g.row rfl ?_; intro b1 w1 n1) | (refine wpL_boxR 27 rfl (.tmp 1) rfl a.row rfl ?_; intro b2 w2 n2; have HB := hidp (n1.below.trans (n2.below.mono n1.below.size)); obtain ⟨x0, x1, x2, x3⟩ := gr_cells (n2.old n1.arr); obtain ⟨y0, y1, y2, y3⟩ := gr_cells n2.arr; clear n1 n2))
    go_ret
    exact ⟨by rw [HF.out]; rfl, HB.out⟩

set_option maxHeartbeats 8000000 in
theorem meet_any (w : World) (g a : Gr) :
    Calls Tryd.prog 23 #[.agg g.row.toArray, .agg a.row.toArray] w fun e w' => e = .returned (.bool (mt g a)) ∧ Below w.heap.size w w' := by
  by_cases h : g.s = a.s
  · have e0 : (g.s == a.s) = true := by simp [h]
    by_cases c1 : g.f ≤ a.t
    · have d1 : decide (g.f ≤ a.t) = true := decide_eq_true c1
      by_cases c2 : a.f ≤ g.t
      · have d2 : decide (a.f ≤ g.t) = true := decide_eq_true c2
        have HF := hidp (show mt g a = true from by unfold mt; simp [*])
        go_enter Tryd.func23, Tryd.ntmps23
        go_wp2_with (first | (refine wpL_boxR 27 rfl (.tmp 0) rfl g.row rfl ?_; intro b1 w1 n1) | (refine wpL_boxR 27 rfl (.tmp 1) rfl a.row rfl ?_; intro b2 w2 n2; have HB := hidp (n1.below.trans (n2.below.mono n1.below.size)); obtain ⟨x0, x1, x2, x3⟩ := gr_cells (n2.old n1.arr); obtain ⟨y0, y1, y2, y3⟩ := gr_cells n2.arr; clear n1 n2))
        go_ret
        exact ⟨by rw [HF.out]; rfl, HB.out⟩
      · have d2 : decide (a.f ≤ g.t) = false := decide_eq_false c2
        have HF := hidp (show mt g a = false from by unfold mt; simp [*])
        go_enter Tryd.func23, Tryd.ntmps23
        go_wp2_with (first | (refine wpL_boxR 27 rfl (.tmp 0) rfl g.row rfl ?_; intro b1 w1 n1) | (refine wpL_boxR 27 rfl (.tmp 1) rfl a.row rfl ?_; intro b2 w2 n2; have HB := hidp (n1.below.trans (n2.below.mono n1.below.size)); obtain ⟨x0, x1, x2, x3⟩ := gr_cells (n2.old n1.arr); obtain ⟨y0, y1, y2, y3⟩ := gr_cells n2.arr; clear n1 n2))
        go_ret
        exact ⟨by rw [HF.out]; rfl, HB.out⟩
    · have d1 : decide (g.f ≤ a.t) = false := decide_eq_false c1
      have HF := hidp (show mt g a = false from by unfold mt; simp [*])
      go_enter Tryd.func23, Tryd.ntmps23
      go_wp2_with (first | (refine wpL_boxR 27 rfl (.tmp 0) rfl g.row rfl ?_; intro b1 w1 n1) | (refine wpL_boxR 27 rfl (.tmp 1) rfl a.row rfl ?_; intro b2 w2 n2; have HB := hidp (n1.below.trans (n2.below.mono n1.below.size)); obtain ⟨x0, x1, x2, x3⟩ := gr_cells (n2.old n1.arr); obtain ⟨y0, y1, y2, y3⟩ := gr_cells n2.arr; clear n1 n2))
      go_ret
      exact ⟨by rw [HF.out]; rfl, HB.out⟩
  · have e0 : (g.s == a.s) = false := by simpa using h
    have HF := hidp (show mt g a = false from by unfold mt; simp [*])
    go_enter Tryd.func23, Tryd.ntmps23
    go_wp2_with (first | (refine wpL_boxR 27 rfl (.tmp 0) rfl g.row rfl ?_; intro b1 w1 n1) | (refine wpL_boxR 27 rfl (.tmp 1) rfl a.row rfl ?_; intro b2 w2 n2; have HB := hidp (n1.below.trans (n2.below.mono n1.below.size)); obtain ⟨x0, x1, x2, x3⟩ := gr_cells (n2.old n1.arr); obtain ⟨y0, y1, y2, y3⟩ := gr_cells n2.arr; clear n1 n2))
    go_ret
    exact ⟨by rw [HF.out]; rfl, HB.out⟩
end Go.Proofs.YtbgooppmhgaicaaDoor

namespace Go.Proofs.YtbgooppmhgaicaaDoor
set_option maxRecDepth 100000
set_option linter.unusedVariables false
set_option linter.unusedSimpArgs false
open Go.RowKit Rw

section
variable {ops : Array Oper} {Q : Exit → Act → World → Prop} {S : World → Prop} {j : Nat} {o : Oper} {s : Scr} {a : Act} {w : World}
theorem s_atG (ho : ops[j]? = some o) (hw : Region.wanted o (yielded ops a.tmps) = true) (x : Operand) (hop : o.op = .load 27 x) (b off : Nat) (g : Gr) (hx : a.eval x = .pointer (some ⟨b, off, none⟩)) (hl : g.ok) (hg : ∀ w, S w → w.rangeAt b off g.row)
    (h : wpScr Tryd.prog ops Q s S (a.put o.dst (.agg g.row.toArray)) w) : wpScr Tryd.prog ops Q (.take j s) S a w := by
  obtain ⟨fs, hu⟩ := tyG.ut
  exact s_val ho hw (fun w hS => by
    unfold execOp
    have := run_loadAt_mid (P := Tryd.prog) w b off 27 g.row _ (hg w hS) hu rfl (by have := tyG.isz; rw [Gr.len hl]; exact this)
    simp only [hop, hx, this, Sem.run_bind, Sem.run_pure, Result.andThen_ok]) h
end
def gz : Gr := ⟨0, 0, 0, 0, z32⟩
def okAt (gs : List Gr) (j : Nat) : Bool := vG (gs.getD j gz) && (decide (j = 0) || fol (gs.getD j gz) (gs.getD (j - 1) gz))
def okTo (gs : List Gr) (n : Nat) : Bool := (List.range n).all (okAt gs)
/-- A book is valid. -/
def okB (gs : List Gr) : Bool := decide (gs.length ≤ 256) && okTo gs gs.length
def ckB (gs : List Gr) : Int := if okB gs = true then 0 else 2
theorem okTo_succ (gs : List Gr) (n : Nat) : okTo gs (n + 1) = (okTo gs n && okAt gs n) := by simp [okTo, List.range_succ]
theorem okTo_le {gs : List Gr} {n : Nat} : ∀ {m : Nat}, n ≤ m → okTo gs m = true → okTo gs n = true
  | 0, h, hm => by obtain rfl : n = 0 := by omega
                   exact hm
  | m + 1, h, hm => by
    rcases (by omega : n = m + 1 ∨ n ≤ m) with rfl | h
    · exact hm
    · rw [okTo_succ, Bool.and_eq_true] at hm
      exact okTo_le h hm.1
theorem ckB_bad {gs : List Gr} {i : Nat} (hi : i < gs.length) (h : okAt gs i = false) : ckB gs = 2 := by
  refine if_neg fun hb => ?_
  unfold okB at hb
  rw [Bool.and_eq_true] at hb
  have := okTo_le (n := i + 1) (by omega) hb.2
  rw [okTo_succ, h] at this; simp at this
/-- Grants in memory: each has a hash of its own. -/
def GsAt (w : World) (v : Value) (gs : List Gr) : Prop := RsAt 36 w v (rows gs) ∧ ∀ g ∈ gs, g.ok
theorem rows_len (gs : List Gr) : (rows gs).length = gs.length := by simp [rows]
theorem rows_one (gs : List Gr) : One1 (rows gs) := by
  intro e he v hv
  simp only [rows, List.mem_map] at he
  obtain ⟨g, _, rfl⟩ := he
  exact Gr.one g v hv
theorem rows_all {gs : List Gr} (h : ∀ g ∈ gs, g.ok) : AllK 36 (rows gs) := by
  intro e he
  simp only [rows, List.mem_map] at he
  obtain ⟨g, hg, rfl⟩ := he
  exact Gr.len (h g hg)
theorem GsAt.to {w w' : World} {v : Value} {gs : List Gr} (h : GsAt w v gs) (hb : Below w.heap.size w w') : GsAt w' v gs := ⟨h.1.to hb, h.2⟩
theorem GsAt.form {w : World} {v : Value} {gs : List Gr} (h : GsAt w v gs) : ∃ a c, v = .slice a gs.length c := by
  have := h.1.form; rw [rows_len] at this; exact this
theorem GsAt.get {w : World} {v : Value} {gs : List Gr} (h : GsAt w v gs) (hp : 0 < gs.length) : ∃ B o c, v = .slice (some ⟨B, o, none⟩) gs.length c ∧ gs.length ≤ c ∧ B < w.heap.size ∧ ∀ i, (hi : i < gs.length) → w.rangeAt B (o + 36 * i) (gs[i]).row := by
  obtain ⟨B, o, c, e, h1, h2, h3⟩ := h.1.get (by rw [rows_len]; exact hp)
  rw [rows_len] at e h1
  refine ⟨B, o, c, e, h1, h2, fun i hi => ?_⟩
  have := rAt_nth h3 h.1.1 i (by rw [rows_len]; exact hi)
  simpa [rows] using this
theorem getD_at {gs : List Gr} {i : Nat} (h : i < gs.length) : gs.getD i gz = gs[i] := by rw [List.getD_eq_getElem?_getD, List.getElem?_eq_getElem h]; rfl

set_option maxHeartbeats 16000000 in
theorem bcheck_any (w : World) (v : Value) (gs : List Gr) (hv : GsAt w v gs) :
    Calls Tryd.prog 13 #[v] w fun e w' => e = .returned (.int .i64 (ckB gs)) ∧ Below w.heap.size w w' := by
  have HV := hidp hv; clear hv
  obtain ⟨av, cv0, rfl⟩ := HV.out.form
  have HOKS := hidp HV.out.2
  obtain ⟨n, hn⟩ : ∃ n, gs.length = n := ⟨_, rfl⟩
  have HN := hidp hn
  rw [hn] at HV ⊢
  clear hn
  by_cases h256 : 256 < n
  · have e0 : decide ((n : Int) > 256) = true := by simp; omega
    have HF := hidp (show ckB gs = 2 from if_neg fun h => by unfold okB at h; rw [Bool.and_eq_true, decide_eq_true_eq, HN.out] at h; omega)
    go_enter Tryd.func13, Tryd.ntmps13
    go_wp2_with fail
    go_ret
    exact ⟨by rw [HF.out]; rfl, Below.refl _ _⟩
  · have e0 : decide ((n : Int) > 256) = false := by simp; omega
    have n0 : ¬ 256 < n := h256
    go_enter Tryd.func13, Tryd.ntmps13
    go_wp2_with fail
    go_loopw [10] (fun t10 wr => ∃ i : Nat, t10 = .int .i64 (i : Int) ∧ i ≤ n ∧ okTo gs i = true ∧ Below w.heap.size w wr) (fun t10 _ => n - (intOf t10).toNat)
    case atStart => exact ⟨0, rfl, by omega, rfl, Below.refl _ _⟩
    case round =>
      obtain ⟨i, rfl, hi, hok, hb⟩ := hrel
      have HOK := hidp hok; have HB := hidp hb
      clear hok hb
      by_cases hlt : i < n
      · have e1 : decide ((i : Int) < (n : Int)) = true := by simp; omega
        have hgl : i < gs.length := by rw [HN.out]; exact hlt
        obtain ⟨BK, off, c, e2, hc, hBK0, hR0⟩ := HV.out.get (by rw [HN.out]; omega)
        rw [HN.out] at e2
        simp only [Value.slice.injEq] at e2
        obtain ⟨rfl, -, rfl⟩ := e2
        have hBK := hidp (show BK < wr.heap.size from Nat.lt_of_lt_of_le hBK0 HB.out.size)
        have HR := hidp (show ∀ i, (hi : i < gs.length) → wr.rangeAt BK (off + 36 * i) (gs[i]).row from fun i hi => rangeAt_below (hR0 i hi) HB.out hBK0)
        obtain ⟨g, hge⟩ : ∃ g, gs[i] = g := ⟨_, rfl⟩
        have HRI := hidp (show wr.rangeAt BK (off + 36 * i) g.row from by rw [← hge]; exact HR.out i hgl)
        have hgok := hidp (show g.ok from by rw [← hge]; exact HOKS.out _ (List.getElem_mem hgl))
        have hAt : okAt gs i = (vG g && (decide (i = 0) || fol g (gs.getD (i - 1) gz))) := by unfold okAt; rw [getD_at hgl, hge]
        have HAT := hidp hAt
        have hwi : i ≠ 0 → IntKind.i64.wrap ((i : Int) - 1) = ((i - 1 : Nat) : Int) := fun h => by rw [IntKind.wrap_i64]; omega
        clear hAt hR0 hBK0 hge hc
        have cv := hidp (fun W => valid_any W g)
        cases hv : vG g with
        | false =>
          rw [hv] at cv
          have HF := hidp (show ckB gs = 2 from ckB_bad hgl (by rw [HAT.out, hv]; rfl))
          clear hv
          go_wp2_with (first | (refine wpL_idxR tyG rfl (.tmp 8) (.tmp 10) rfl BK off n _ i rfl rfl hlt ?_) | (refine wpL_atR tyG rfl (.tmp 13) rfl BK (off + 36 * i) g.row rfl (Gr.len hgok.out) HRI.out ?_) | (refine wpL_newR tyG rfl rfl ?_; intro p4 wq1 n1; have HB1 := hidp (HB.out.trans (n1.below.mono HB.out.size)); have hbw := hidp (Nat.le_trans HB.out.size n1.le); have HR1 := hidp (fun i hi => rangeAt_below (HR.out i hi) n1.below hBK.out); have hBb := hidp (show BK < p4 from by have := n1.at_; have := hBK.out; omega)) | (refine wpL_putR tyG rfl (.tmp 4) (.tmp 14) rfl p4 g.row rfl rfl (Gr.len hgok.out) (Gr.one g) zG rfl n1.arr ?_; intro wq2 ha hp; have HA2 := hidp ha; have HB2 := hidp (hp.below' HB1.out hbw.out); have HR2 := hidp (fun i hi => rangeAt_below (HR1.out i hi) (hp.below p4 (Nat.le_refl _)) hBb.out); clear ha hp n1 HB1 HR1))
          obtain ⟨U, hU⟩ : ∃ U, ({ wq2 with drawn := wq2.drawn + 1 } : World) = U := ⟨_, rfl⟩
          have bU : Below wq2.heap.size wq2 U := by rw [← hU]; exact (Below.refl _ _).drew
          have hbz := hidp HA2.out.lt
          have HA3 := hidp (HA2.out.below bU HA2.out.lt); have HB3 := hidp (HB2.out.trans (bU.mono HB2.out.size)); have HR3 := hidp (fun i hi => rangeAt_below (HR2.out i hi) bU (by have := hBb.out; have := hbz.out; omega))
          clear bU HA2 HB2 HR2
          refine wp_region_noPanic ?_
          refine wp_region_scr (S := fun W => Arr W p4 27 g.row) (.take 0 (.one 1 (.take 2 (.take 3 (.take 4 (.take 5 (.take 6 (.take 7 (.take 8 (.take 9 (.take 10 (.take 11 (.take 12 (.take 13 (.take 14 (.take 15 (.take 16 .done))))))))))))))))) (by kernel_rfl) (by kernel_rfl) (fun _ _ _ _ _ h => h) (by simp [Scr.depth]) (by kernel_rfl) (by rw [hU]; exact HA3.out) ?_
          simp only [hU]
          clear hU
          refine s_getR tyG rfl rfl (.tmp 4) rfl p4 g.row rfl (Gr.len hgok.out) (fun w h => h) ?_
          simp only [Act.put, List.getElem_toArray, List.getElem_cons_zero, List.getElem_cons_succ, List.setIfInBounds_toArray, List.set_cons_zero, List.set_cons_succ]
          apply o_call (f := 20) (args := #[.agg g.row.toArray]) (v := .bool false) (hc := cv.out _)
          case ho => rfl
          case hw => rfl
          case hop => go_simp; first | done | rfl
          rintro X4 hb
          refine ⟨HA3.out.below hb HA3.out.lt, ?_⟩
          have HA4 := hidp (HA3.out.below hb HA3.out.lt); have HB4 := hidp (HB3.out.trans (hb.mono HB3.out.size))
          clear hb
          simp only [Act.put, List.getElem_toArray, List.getElem_cons_zero, List.getElem_cons_succ, List.setIfInBounds_toArray, List.set_cons_zero, List.set_cons_succ]
          apply s_val
          case ho => rfl
          case hw => rfl
          case hv => intro w hw; go_simp; first | done | with_reducible rfl | rfl
          simp only [Act.put, List.getElem_toArray, List.getElem_cons_zero, List.getElem_cons_succ, List.setIfInBounds_toArray, List.set_cons_zero, List.set_cons_succ]
          apply s_val
          case ho => rfl
          case hw => rfl
          case hv => intro w hw; go_simp; first | done | with_reducible rfl | rfl
          simp only [Act.put, List.getElem_toArray, List.getElem_cons_zero, List.getElem_cons_succ, List.setIfInBounds_toArray, List.set_cons_zero, List.set_cons_succ]
          refine s_skip rfl rfl ?_
          simp only [Act.put, List.getElem_toArray, List.getElem_cons_zero, List.getElem_cons_succ, List.setIfInBounds_toArray, List.set_cons_zero, List.set_cons_succ]
          refine s_skip rfl rfl ?_
          simp only [Act.put, List.getElem_toArray, List.getElem_cons_zero, List.getElem_cons_succ, List.setIfInBounds_toArray, List.set_cons_zero, List.set_cons_succ]
          refine s_skip rfl rfl ?_
          simp only [Act.put, List.getElem_toArray, List.getElem_cons_zero, List.getElem_cons_succ, List.setIfInBounds_toArray, List.set_cons_zero, List.set_cons_succ]
          refine s_skip rfl rfl ?_
          simp only [Act.put, List.getElem_toArray, List.getElem_cons_zero, List.getElem_cons_succ, List.setIfInBounds_toArray, List.set_cons_zero, List.set_cons_succ]
          refine s_skip rfl rfl ?_
          simp only [Act.put, List.getElem_toArray, List.getElem_cons_zero, List.getElem_cons_succ, List.setIfInBounds_toArray, List.set_cons_zero, List.set_cons_succ]
          refine s_skip rfl rfl ?_
          simp only [Act.put, List.getElem_toArray, List.getElem_cons_zero, List.getElem_cons_succ, List.setIfInBounds_toArray, List.set_cons_zero, List.set_cons_succ]
          refine s_skip rfl rfl ?_
          simp only [Act.put, List.getElem_toArray, List.getElem_cons_zero, List.getElem_cons_succ, List.setIfInBounds_toArray, List.set_cons_zero, List.set_cons_succ]
          refine s_skip rfl rfl ?_
          simp only [Act.put, List.getElem_toArray, List.getElem_cons_zero, List.getElem_cons_succ, List.setIfInBounds_toArray, List.set_cons_zero, List.set_cons_succ]
          refine s_skip rfl rfl ?_
          simp only [Act.put, List.getElem_toArray, List.getElem_cons_zero, List.getElem_cons_succ, List.setIfInBounds_toArray, List.set_cons_zero, List.set_cons_succ]
          refine s_skip rfl rfl ?_
          simp only [Act.put, List.getElem_toArray, List.getElem_cons_zero, List.getElem_cons_succ, List.setIfInBounds_toArray, List.set_cons_zero, List.set_cons_succ]
          refine s_skip rfl rfl ?_
          simp only [Act.put, List.getElem_toArray, List.getElem_cons_zero, List.getElem_cons_succ, List.setIfInBounds_toArray, List.set_cons_zero, List.set_cons_succ]
          refine s_skip rfl rfl ?_
          simp only [Act.put, List.getElem_toArray, List.getElem_cons_zero, List.getElem_cons_succ, List.setIfInBounds_toArray, List.set_cons_zero, List.set_cons_succ]
          apply s_val
          case ho => rfl
          case hw => rfl
          case hv => intro w hw; go_simp; first | done | with_reducible rfl | rfl
          simp only [Act.put, List.getElem_toArray, List.getElem_cons_zero, List.getElem_cons_succ, List.setIfInBounds_toArray, List.set_cons_zero, List.set_cons_succ]
          refine NoPanic.normal ?_
          have HBZ := HB4
          go_wp2_with fail
          go_ret
          exact ⟨by rw [HF.out]; rfl, HBZ.out⟩
        | true =>
          rw [hv] at cv
          by_cases hz : i = 0
          · have ei : decide ((i : Int) > 0) = false := by simp; omega
            have HOK2 := hidp (show okTo gs (i + 1) = true from by rw [okTo_succ, HOK.out, HAT.out, hv, decide_eq_true hz]; rfl)
            clear hv
            go_wp2_with (first | (refine wpL_idxR tyG rfl (.tmp 8) (.tmp 10) rfl BK off n _ i rfl rfl hlt ?_) | (refine wpL_atR tyG rfl (.tmp 13) rfl BK (off + 36 * i) g.row rfl (Gr.len hgok.out) HRI.out ?_) | (refine wpL_newR tyG rfl rfl ?_; intro p4 wq1 n1; have HB1 := hidp (HB.out.trans (n1.below.mono HB.out.size)); have hbw := hidp (Nat.le_trans HB.out.size n1.le); have HR1 := hidp (fun i hi => rangeAt_below (HR.out i hi) n1.below hBK.out); have hBb := hidp (show BK < p4 from by have := n1.at_; have := hBK.out; omega)) | (refine wpL_putR tyG rfl (.tmp 4) (.tmp 14) rfl p4 g.row rfl rfl (Gr.len hgok.out) (Gr.one g) zG rfl n1.arr ?_; intro wq2 ha hp; have HA2 := hidp ha; have HB2 := hidp (hp.below' HB1.out hbw.out); have HR2 := hidp (fun i hi => rangeAt_below (HR1.out i hi) (hp.below p4 (Nat.le_refl _)) hBb.out); clear ha hp n1 HB1 HR1))
            obtain ⟨U, hU⟩ : ∃ U, ({ wq2 with drawn := wq2.drawn + 1 } : World) = U := ⟨_, rfl⟩
            have bU : Below wq2.heap.size wq2 U := by rw [← hU]; exact (Below.refl _ _).drew
            have hbz := hidp HA2.out.lt
            have HA3 := hidp (HA2.out.below bU HA2.out.lt); have HB3 := hidp (HB2.out.trans (bU.mono HB2.out.size)); have HR3 := hidp (fun i hi => rangeAt_below (HR2.out i hi) bU (by have := hBb.out; have := hbz.out; omega))
            clear bU HA2 HB2 HR2
            refine wp_region_noPanic ?_
            refine wp_region_scr (S := fun W => Arr W p4 27 g.row) (.take 0 (.one 1 (.take 2 (.take 3 (.take 4 (.take 5 (.take 6 (.take 7 (.take 8 (.take 9 (.take 10 (.take 11 (.take 12 (.take 13 (.take 14 (.take 15 (.take 16 .done))))))))))))))))) (by kernel_rfl) (by kernel_rfl) (fun _ _ _ _ _ h => h) (by simp [Scr.depth]) (by kernel_rfl) (by rw [hU]; exact HA3.out) ?_
            simp only [hU]
            clear hU
            refine s_getR tyG rfl rfl (.tmp 4) rfl p4 g.row rfl (Gr.len hgok.out) (fun w h => h) ?_
            simp only [Act.put, List.getElem_toArray, List.getElem_cons_zero, List.getElem_cons_succ, List.setIfInBounds_toArray, List.set_cons_zero, List.set_cons_succ]
            apply o_call (f := 20) (args := #[.agg g.row.toArray]) (v := .bool true) (hc := cv.out _)
            case ho => rfl
            case hw => rfl
            case hop => go_simp; first | done | rfl
            rintro X4 hb
            refine ⟨HA3.out.below hb HA3.out.lt, ?_⟩
            have HA4 := hidp (HA3.out.below hb HA3.out.lt); have HB4 := hidp (HB3.out.trans (hb.mono HB3.out.size))
            clear hb
            simp only [Act.put, List.getElem_toArray, List.getElem_cons_zero, List.getElem_cons_succ, List.setIfInBounds_toArray, List.set_cons_zero, List.set_cons_succ]
            apply s_val
            case ho => rfl
            case hw => rfl
            case hv => intro w hw; go_simp; first | done | with_reducible rfl | rfl
            simp only [Act.put, List.getElem_toArray, List.getElem_cons_zero, List.getElem_cons_succ, List.setIfInBounds_toArray, List.set_cons_zero, List.set_cons_succ]
            apply s_val
            case ho => rfl
            case hw => rfl
            case hv => intro w hw; go_simp; first | done | with_reducible rfl | rfl
            simp only [Act.put, List.getElem_toArray, List.getElem_cons_zero, List.getElem_cons_succ, List.setIfInBounds_toArray, List.set_cons_zero, List.set_cons_succ]
            apply s_val
            case ho => rfl
            case hw => rfl
            case hv => intro w hw; go_simp; first | done | with_reducible rfl | rfl
            simp only [Act.put, List.getElem_toArray, List.getElem_cons_zero, List.getElem_cons_succ, List.setIfInBounds_toArray, List.set_cons_zero, List.set_cons_succ]
            apply s_val
            case ho => rfl
            case hw => rfl
            case hv => intro w hw; have q := ei; go_simp; first | done | with_reducible rfl | rfl
            simp only [Act.put, List.getElem_toArray, List.getElem_cons_zero, List.getElem_cons_succ, List.setIfInBounds_toArray, List.set_cons_zero, List.set_cons_succ]
            apply s_val
            case ho => rfl
            case hw => rfl
            case hv => intro w hw; go_simp; first | done | with_reducible rfl | rfl
            simp only [Act.put, List.getElem_toArray, List.getElem_cons_zero, List.getElem_cons_succ, List.setIfInBounds_toArray, List.set_cons_zero, List.set_cons_succ]
            refine s_skip rfl rfl ?_
            simp only [Act.put, List.getElem_toArray, List.getElem_cons_zero, List.getElem_cons_succ, List.setIfInBounds_toArray, List.set_cons_zero, List.set_cons_succ]
            refine s_skip rfl rfl ?_
            simp only [Act.put, List.getElem_toArray, List.getElem_cons_zero, List.getElem_cons_succ, List.setIfInBounds_toArray, List.set_cons_zero, List.set_cons_succ]
            refine s_skip rfl rfl ?_
            simp only [Act.put, List.getElem_toArray, List.getElem_cons_zero, List.getElem_cons_succ, List.setIfInBounds_toArray, List.set_cons_zero, List.set_cons_succ]
            refine s_skip rfl rfl ?_
            simp only [Act.put, List.getElem_toArray, List.getElem_cons_zero, List.getElem_cons_succ, List.setIfInBounds_toArray, List.set_cons_zero, List.set_cons_succ]
            refine s_skip rfl rfl ?_
            simp only [Act.put, List.getElem_toArray, List.getElem_cons_zero, List.getElem_cons_succ, List.setIfInBounds_toArray, List.set_cons_zero, List.set_cons_succ]
            refine s_skip rfl rfl ?_
            simp only [Act.put, List.getElem_toArray, List.getElem_cons_zero, List.getElem_cons_succ, List.setIfInBounds_toArray, List.set_cons_zero, List.set_cons_succ]
            refine s_skip rfl rfl ?_
            simp only [Act.put, List.getElem_toArray, List.getElem_cons_zero, List.getElem_cons_succ, List.setIfInBounds_toArray, List.set_cons_zero, List.set_cons_succ]
            refine s_skip rfl rfl ?_
            simp only [Act.put, List.getElem_toArray, List.getElem_cons_zero, List.getElem_cons_succ, List.setIfInBounds_toArray, List.set_cons_zero, List.set_cons_succ]
            apply s_val
            case ho => rfl
            case hw => rfl
            case hv => intro w hw; go_simp; first | done | with_reducible rfl | rfl
            simp only [Act.put, List.getElem_toArray, List.getElem_cons_zero, List.getElem_cons_succ, List.setIfInBounds_toArray, List.set_cons_zero, List.set_cons_succ]
            apply s_val
            case ho => rfl
            case hw => rfl
            case hv => intro w hw; go_simp; first | done | with_reducible rfl | rfl
            simp only [Act.put, List.getElem_toArray, List.getElem_cons_zero, List.getElem_cons_succ, List.setIfInBounds_toArray, List.set_cons_zero, List.set_cons_succ]
            refine NoPanic.normal ?_
            have HBZ := HB4
            have HRZ := hidp (fun i hi => rangeAt_below (HR.out i hi) (Below.refl _ _) hBK.out)
            go_wp2_with fail
            exact ⟨⟨i + 1, by go_num, by omega, HOK2.out, HBZ.out⟩, by simp [intOf]; omega⟩
          · have hi0 : 0 < i := by omega
            have ei : decide ((i : Int) > 0) = true := by simp; omega
            have hwi := hwi hz
            have hpl : i - 1 < gs.length := by omega
            obtain ⟨p, hpe0⟩ : ∃ p, gs[i - 1] = p := ⟨_, rfl⟩
            have hpe := hidp hpe0
            have hpok := hidp (show p.ok from by rw [← hpe0]; exact HOKS.out _ (List.getElem_mem hpl))
            have hpd : gs.getD (i - 1) gz = p := by rw [getD_at hpl]; exact hpe0
            clear hpe0
            have cf := hidp (fun W => follows_any W g p)
            cases hf : fol g p with
            | false =>
              rw [hf] at cf
              have HF := hidp (show ckB gs = 2 from ckB_bad hgl (by rw [HAT.out, hv, hpd, hf, decide_eq_false hz]; rfl))
              clear hv hf
              go_wp2_with (first | (refine wpL_idxR tyG rfl (.tmp 8) (.tmp 10) rfl BK off n _ i rfl rfl hlt ?_) | (refine wpL_atR tyG rfl (.tmp 13) rfl BK (off + 36 * i) g.row rfl (Gr.len hgok.out) HRI.out ?_) | (refine wpL_newR tyG rfl rfl ?_; intro p4 wq1 n1; have HB1 := hidp (HB.out.trans (n1.below.mono HB.out.size)); have hbw := hidp (Nat.le_trans HB.out.size n1.le); have HR1 := hidp (fun i hi => rangeAt_below (HR.out i hi) n1.below hBK.out); have hBb := hidp (show BK < p4 from by have := n1.at_; have := hBK.out; omega)) | (refine wpL_putR tyG rfl (.tmp 4) (.tmp 14) rfl p4 g.row rfl rfl (Gr.len hgok.out) (Gr.one g) zG rfl n1.arr ?_; intro wq2 ha hp; have HA2 := hidp ha; have HB2 := hidp (hp.below' HB1.out hbw.out); have HR2 := hidp (fun i hi => rangeAt_below (HR1.out i hi) (hp.below p4 (Nat.le_refl _)) hBb.out); clear ha hp n1 HB1 HR1))
              obtain ⟨U, hU⟩ : ∃ U, ({ wq2 with drawn := wq2.drawn + 1 } : World) = U := ⟨_, rfl⟩
              have bU : Below wq2.heap.size wq2 U := by rw [← hU]; exact (Below.refl _ _).drew
              have hbz := hidp HA2.out.lt
              have HA3 := hidp (HA2.out.below bU HA2.out.lt); have HB3 := hidp (HB2.out.trans (bU.mono HB2.out.size)); have HR3 := hidp (fun i hi => rangeAt_below (HR2.out i hi) bU (by have := hBb.out; have := hbz.out; omega))
              clear bU HA2 HB2 HR2
              have HP3 := hidp (show U.rangeAt BK (off + 36 * (i - 1)) p.row from by rw [← hpe.out]; exact HR3.out (i - 1) (by omega))
              refine wp_region_noPanic ?_
              refine wp_region_scr (S := fun W => Arr W p4 27 g.row ∧ W.rangeAt BK (off + 36 * (i - 1)) p.row) (.take 0 (.one 1 (.take 2 (.take 3 (.take 4 (.take 5 (.take 6 (.take 7 (.take 8 (.take 9 (.take 10 (.take 11 (.take 12 (.one 13 (.take 14 (.take 15 (.take 16 .done))))))))))))))))) (by kernel_rfl) (by kernel_rfl) (fun _ _ _ _ _ h => h) (by simp [Scr.depth]) (by kernel_rfl) (by rw [hU]; exact ⟨HA3.out, HP3.out⟩) ?_
              simp only [hU]
              clear hU
              refine s_getR tyG rfl rfl (.tmp 4) rfl p4 g.row rfl (Gr.len hgok.out) (fun w h => h.1) ?_
              simp only [Act.put, List.getElem_toArray, List.getElem_cons_zero, List.getElem_cons_succ, List.setIfInBounds_toArray, List.set_cons_zero, List.set_cons_succ]
              apply o_call (f := 20) (args := #[.agg g.row.toArray]) (v := .bool true) (hc := cv.out _)
              case ho => rfl
              case hw => rfl
              case hop => go_simp; first | done | rfl
              rintro X4 hb
              refine ⟨⟨HA3.out.below hb HA3.out.lt, rangeAt_below HP3.out hb (by have := hBb.out; have := HA3.out.lt; omega)⟩, ?_⟩
              have HA4 := hidp (HA3.out.below hb HA3.out.lt); have HB4 := hidp (HB3.out.trans (hb.mono HB3.out.size)); have HP4 := hidp (rangeAt_below HP3.out hb (by have := hBb.out; have := HA3.out.lt; omega))
              clear hb
              simp only [Act.put, List.getElem_toArray, List.getElem_cons_zero, List.getElem_cons_succ, List.setIfInBounds_toArray, List.set_cons_zero, List.set_cons_succ]
              apply s_val
              case ho => rfl
              case hw => rfl
              case hv => intro w hw; go_simp; first | done | with_reducible rfl | rfl
              simp only [Act.put, List.getElem_toArray, List.getElem_cons_zero, List.getElem_cons_succ, List.setIfInBounds_toArray, List.set_cons_zero, List.set_cons_succ]
              apply s_val
              case ho => rfl
              case hw => rfl
              case hv => intro w hw; go_simp; first | done | with_reducible rfl | rfl
              simp only [Act.put, List.getElem_toArray, List.getElem_cons_zero, List.getElem_cons_succ, List.setIfInBounds_toArray, List.set_cons_zero, List.set_cons_succ]
              apply s_val
              case ho => rfl
              case hw => rfl
              case hv => intro w hw; go_simp; first | done | with_reducible rfl | rfl
              simp only [Act.put, List.getElem_toArray, List.getElem_cons_zero, List.getElem_cons_succ, List.setIfInBounds_toArray, List.set_cons_zero, List.set_cons_succ]
              apply s_val
              case ho => rfl
              case hw => rfl
              case hv => intro w hw; have q := ei; go_simp; first | done | with_reducible rfl | rfl
              simp only [Act.put, List.getElem_toArray, List.getElem_cons_zero, List.getElem_cons_succ, List.setIfInBounds_toArray, List.set_cons_zero, List.set_cons_succ]
              apply s_val
              case ho => rfl
              case hw => rfl
              case hv => intro w hw; go_simp; first | done | with_reducible rfl | rfl
              simp only [Act.put, List.getElem_toArray, List.getElem_cons_zero, List.getElem_cons_succ, List.setIfInBounds_toArray, List.set_cons_zero, List.set_cons_succ]
              refine s_getR tyG rfl rfl (.tmp 4) rfl p4 g.row rfl (Gr.len hgok.out) (fun w h => h.1) ?_
              simp only [Act.put, List.getElem_toArray, List.getElem_cons_zero, List.getElem_cons_succ, List.setIfInBounds_toArray, List.set_cons_zero, List.set_cons_succ]
              apply s_val
              case ho => rfl
              case hw => rfl
              case hv => intro w hw; go_simp; first | done | with_reducible rfl | rfl
              simp only [Act.put, List.getElem_toArray, List.getElem_cons_zero, List.getElem_cons_succ, List.setIfInBounds_toArray, List.set_cons_zero, List.set_cons_succ]
              apply s_val
              case ho => rfl
              case hw => rfl
              case hv => intro w hw; go_simp; first | done | with_reducible rfl | rfl
              simp only [Act.put, List.getElem_toArray, List.getElem_cons_zero, List.getElem_cons_succ, List.setIfInBounds_toArray, List.set_cons_zero, List.set_cons_succ]
              apply s_val (v := .int .i64 ((i - 1 : Nat) : Int))
              case ho => rfl
              case hw => rfl
              case hv => intro w hw; have q := hwi; go_simp; first | done | with_reducible rfl | rfl
              simp only [Act.put, List.getElem_toArray, List.getElem_cons_zero, List.getElem_cons_succ, List.setIfInBounds_toArray, List.set_cons_zero, List.set_cons_succ]
              refine s_idxR tyG rfl rfl (.tmp 23) (.tmp 25) rfl BK off n _ (i - 1) rfl rfl (by omega) ?_
              simp only [Act.put, List.getElem_toArray, List.getElem_cons_zero, List.getElem_cons_succ, List.setIfInBounds_toArray, List.set_cons_zero, List.set_cons_succ]
              refine s_atG rfl rfl (.tmp 26) rfl BK (off + 36 * (i - 1)) p rfl hpok.out (fun w h => h.2) ?_
              simp only [Act.put, List.getElem_toArray, List.getElem_cons_zero, List.getElem_cons_succ, List.setIfInBounds_toArray, List.set_cons_zero, List.set_cons_succ]
              apply o_call (f := 25) (args := #[.agg g.row.toArray, .agg p.row.toArray]) (v := .bool false) (hc := cf.out _)
              case ho => rfl
              case hw => rfl
              case hop => go_simp; first | done | rfl
              rintro X5 hb
              refine ⟨⟨HA4.out.below hb HA4.out.lt, rangeAt_below HP4.out hb (by have := hBb.out; have := HA4.out.lt; omega)⟩, ?_⟩
              have HA5 := hidp (HA4.out.below hb HA4.out.lt); have HB5 := hidp (HB4.out.trans (hb.mono HB4.out.size)); have HP5 := hidp (rangeAt_below HP4.out hb (by have := hBb.out; have := HA4.out.lt; omega))
              clear hb
              simp only [Act.put, List.getElem_toArray, List.getElem_cons_zero, List.getElem_cons_succ, List.setIfInBounds_toArray, List.set_cons_zero, List.set_cons_succ]
              apply s_val
              case ho => rfl
              case hw => rfl
              case hv => intro w hw; go_simp; first | done | with_reducible rfl | rfl
              simp only [Act.put, List.getElem_toArray, List.getElem_cons_zero, List.getElem_cons_succ, List.setIfInBounds_toArray, List.set_cons_zero, List.set_cons_succ]
              apply s_val
              case ho => rfl
              case hw => rfl
              case hv => intro w hw; go_simp; first | done | with_reducible rfl | rfl
              simp only [Act.put, List.getElem_toArray, List.getElem_cons_zero, List.getElem_cons_succ, List.setIfInBounds_toArray, List.set_cons_zero, List.set_cons_succ]
              apply s_val
              case ho => rfl
              case hw => rfl
              case hv => intro w hw; go_simp; first | done | with_reducible rfl | rfl
              simp only [Act.put, List.getElem_toArray, List.getElem_cons_zero, List.getElem_cons_succ, List.setIfInBounds_toArray, List.set_cons_zero, List.set_cons_succ]
              refine NoPanic.normal ?_
              have HBZ := HB5
              go_wp2_with fail
              go_ret
              exact ⟨by rw [HF.out]; rfl, HBZ.out⟩
            | true =>
              rw [hf] at cf
              have HOK2 := hidp (show okTo gs (i + 1) = true from by rw [okTo_succ, HOK.out, HAT.out, hv, hpd, hf]; simp)
              clear hv hf
              go_wp2_with (first | (refine wpL_idxR tyG rfl (.tmp 8) (.tmp 10) rfl BK off n _ i rfl rfl hlt ?_) | (refine wpL_atR tyG rfl (.tmp 13) rfl BK (off + 36 * i) g.row rfl (Gr.len hgok.out) HRI.out ?_) | (refine wpL_newR tyG rfl rfl ?_; intro p4 wq1 n1; have HB1 := hidp (HB.out.trans (n1.below.mono HB.out.size)); have hbw := hidp (Nat.le_trans HB.out.size n1.le); have HR1 := hidp (fun i hi => rangeAt_below (HR.out i hi) n1.below hBK.out); have hBb := hidp (show BK < p4 from by have := n1.at_; have := hBK.out; omega)) | (refine wpL_putR tyG rfl (.tmp 4) (.tmp 14) rfl p4 g.row rfl rfl (Gr.len hgok.out) (Gr.one g) zG rfl n1.arr ?_; intro wq2 ha hp; have HA2 := hidp ha; have HB2 := hidp (hp.below' HB1.out hbw.out); have HR2 := hidp (fun i hi => rangeAt_below (HR1.out i hi) (hp.below p4 (Nat.le_refl _)) hBb.out); clear ha hp n1 HB1 HR1))
              obtain ⟨U, hU⟩ : ∃ U, ({ wq2 with drawn := wq2.drawn + 1 } : World) = U := ⟨_, rfl⟩
              have bU : Below wq2.heap.size wq2 U := by rw [← hU]; exact (Below.refl _ _).drew
              have hbz := hidp HA2.out.lt
              have HA3 := hidp (HA2.out.below bU HA2.out.lt); have HB3 := hidp (HB2.out.trans (bU.mono HB2.out.size)); have HR3 := hidp (fun i hi => rangeAt_below (HR2.out i hi) bU (by have := hBb.out; have := hbz.out; omega))
              clear bU HA2 HB2 HR2
              have HP3 := hidp (show U.rangeAt BK (off + 36 * (i - 1)) p.row from by rw [← hpe.out]; exact HR3.out (i - 1) (by omega))
              refine wp_region_noPanic ?_
              refine wp_region_scr (S := fun W => Arr W p4 27 g.row ∧ W.rangeAt BK (off + 36 * (i - 1)) p.row) (.take 0 (.one 1 (.take 2 (.take 3 (.take 4 (.take 5 (.take 6 (.take 7 (.take 8 (.take 9 (.take 10 (.take 11 (.take 12 (.one 13 (.take 14 (.take 15 (.take 16 .done))))))))))))))))) (by kernel_rfl) (by kernel_rfl) (fun _ _ _ _ _ h => h) (by simp [Scr.depth]) (by kernel_rfl) (by rw [hU]; exact ⟨HA3.out, HP3.out⟩) ?_
              simp only [hU]
              clear hU
              refine s_getR tyG rfl rfl (.tmp 4) rfl p4 g.row rfl (Gr.len hgok.out) (fun w h => h.1) ?_
              simp only [Act.put, List.getElem_toArray, List.getElem_cons_zero, List.getElem_cons_succ, List.setIfInBounds_toArray, List.set_cons_zero, List.set_cons_succ]
              apply o_call (f := 20) (args := #[.agg g.row.toArray]) (v := .bool true) (hc := cv.out _)
              case ho => rfl
              case hw => rfl
              case hop => go_simp; first | done | rfl
              rintro X4 hb
              refine ⟨⟨HA3.out.below hb HA3.out.lt, rangeAt_below HP3.out hb (by have := hBb.out; have := HA3.out.lt; omega)⟩, ?_⟩
              have HA4 := hidp (HA3.out.below hb HA3.out.lt); have HB4 := hidp (HB3.out.trans (hb.mono HB3.out.size)); have HP4 := hidp (rangeAt_below HP3.out hb (by have := hBb.out; have := HA3.out.lt; omega))
              clear hb
              simp only [Act.put, List.getElem_toArray, List.getElem_cons_zero, List.getElem_cons_succ, List.setIfInBounds_toArray, List.set_cons_zero, List.set_cons_succ]
              apply s_val
              case ho => rfl
              case hw => rfl
              case hv => intro w hw; go_simp; first | done | with_reducible rfl | rfl
              simp only [Act.put, List.getElem_toArray, List.getElem_cons_zero, List.getElem_cons_succ, List.setIfInBounds_toArray, List.set_cons_zero, List.set_cons_succ]
              apply s_val
              case ho => rfl
              case hw => rfl
              case hv => intro w hw; go_simp; first | done | with_reducible rfl | rfl
              simp only [Act.put, List.getElem_toArray, List.getElem_cons_zero, List.getElem_cons_succ, List.setIfInBounds_toArray, List.set_cons_zero, List.set_cons_succ]
              apply s_val
              case ho => rfl
              case hw => rfl
              case hv => intro w hw; go_simp; first | done | with_reducible rfl | rfl
              simp only [Act.put, List.getElem_toArray, List.getElem_cons_zero, List.getElem_cons_succ, List.setIfInBounds_toArray, List.set_cons_zero, List.set_cons_succ]
              apply s_val
              case ho => rfl
              case hw => rfl
              case hv => intro w hw; have q := ei; go_simp; first | done | with_reducible rfl | rfl
              simp only [Act.put, List.getElem_toArray, List.getElem_cons_zero, List.getElem_cons_succ, List.setIfInBounds_toArray, List.set_cons_zero, List.set_cons_succ]
              apply s_val
              case ho => rfl
              case hw => rfl
              case hv => intro w hw; go_simp; first | done | with_reducible rfl | rfl
              simp only [Act.put, List.getElem_toArray, List.getElem_cons_zero, List.getElem_cons_succ, List.setIfInBounds_toArray, List.set_cons_zero, List.set_cons_succ]
              refine s_getR tyG rfl rfl (.tmp 4) rfl p4 g.row rfl (Gr.len hgok.out) (fun w h => h.1) ?_
              simp only [Act.put, List.getElem_toArray, List.getElem_cons_zero, List.getElem_cons_succ, List.setIfInBounds_toArray, List.set_cons_zero, List.set_cons_succ]
              apply s_val
              case ho => rfl
              case hw => rfl
              case hv => intro w hw; go_simp; first | done | with_reducible rfl | rfl
              simp only [Act.put, List.getElem_toArray, List.getElem_cons_zero, List.getElem_cons_succ, List.setIfInBounds_toArray, List.set_cons_zero, List.set_cons_succ]
              apply s_val
              case ho => rfl
              case hw => rfl
              case hv => intro w hw; go_simp; first | done | with_reducible rfl | rfl
              simp only [Act.put, List.getElem_toArray, List.getElem_cons_zero, List.getElem_cons_succ, List.setIfInBounds_toArray, List.set_cons_zero, List.set_cons_succ]
              apply s_val (v := .int .i64 ((i - 1 : Nat) : Int))
              case ho => rfl
              case hw => rfl
              case hv => intro w hw; have q := hwi; go_simp; first | done | with_reducible rfl | rfl
              simp only [Act.put, List.getElem_toArray, List.getElem_cons_zero, List.getElem_cons_succ, List.setIfInBounds_toArray, List.set_cons_zero, List.set_cons_succ]
              refine s_idxR tyG rfl rfl (.tmp 23) (.tmp 25) rfl BK off n _ (i - 1) rfl rfl (by omega) ?_
              simp only [Act.put, List.getElem_toArray, List.getElem_cons_zero, List.getElem_cons_succ, List.setIfInBounds_toArray, List.set_cons_zero, List.set_cons_succ]
              refine s_atG rfl rfl (.tmp 26) rfl BK (off + 36 * (i - 1)) p rfl hpok.out (fun w h => h.2) ?_
              simp only [Act.put, List.getElem_toArray, List.getElem_cons_zero, List.getElem_cons_succ, List.setIfInBounds_toArray, List.set_cons_zero, List.set_cons_succ]
              apply o_call (f := 25) (args := #[.agg g.row.toArray, .agg p.row.toArray]) (v := .bool true) (hc := cf.out _)
              case ho => rfl
              case hw => rfl
              case hop => go_simp; first | done | rfl
              rintro X5 hb
              refine ⟨⟨HA4.out.below hb HA4.out.lt, rangeAt_below HP4.out hb (by have := hBb.out; have := HA4.out.lt; omega)⟩, ?_⟩
              have HA5 := hidp (HA4.out.below hb HA4.out.lt); have HB5 := hidp (HB4.out.trans (hb.mono HB4.out.size)); have HP5 := hidp (rangeAt_below HP4.out hb (by have := hBb.out; have := HA4.out.lt; omega))
              clear hb
              simp only [Act.put, List.getElem_toArray, List.getElem_cons_zero, List.getElem_cons_succ, List.setIfInBounds_toArray, List.set_cons_zero, List.set_cons_succ]
              apply s_val
              case ho => rfl
              case hw => rfl
              case hv => intro w hw; go_simp; first | done | with_reducible rfl | rfl
              simp only [Act.put, List.getElem_toArray, List.getElem_cons_zero, List.getElem_cons_succ, List.setIfInBounds_toArray, List.set_cons_zero, List.set_cons_succ]
              apply s_val
              case ho => rfl
              case hw => rfl
              case hv => intro w hw; go_simp; first | done | with_reducible rfl | rfl
              simp only [Act.put, List.getElem_toArray, List.getElem_cons_zero, List.getElem_cons_succ, List.setIfInBounds_toArray, List.set_cons_zero, List.set_cons_succ]
              apply s_val
              case ho => rfl
              case hw => rfl
              case hv => intro w hw; go_simp; first | done | with_reducible rfl | rfl
              simp only [Act.put, List.getElem_toArray, List.getElem_cons_zero, List.getElem_cons_succ, List.setIfInBounds_toArray, List.set_cons_zero, List.set_cons_succ]
              refine NoPanic.normal ?_
              have HBZ := HB5
              have HRZ := hidp (fun i hi => rangeAt_below (HR.out i hi) (Below.refl _ _) hBK.out)
              go_wp2_with fail
              exact ⟨⟨i + 1, by go_num, by omega, HOK2.out, HBZ.out⟩, by simp [intOf]; omega⟩
      · have e1 : decide ((i : Int) < (n : Int)) = false := by simp; omega
        have hin : i = n := by omega
        have HF := hidp (show ckB gs = 0 from if_pos (by unfold okB; rw [Bool.and_eq_true, decide_eq_true_eq, HN.out]; exact ⟨by omega, by rw [← hin]; exact HOK.out⟩))
        go_wp2_with fail
        go_ret
        exact ⟨by rw [HF.out]; rfl, HB.out⟩

set_option maxHeartbeats 16000000 in
theorem rbcheck_any (w : World) (v : Value) (gs : List Gr) (hv : GsAt w v gs) :
    Calls Tryd.prog 16 #[v] w fun e w' => e = .returned (.int .i64 (ckB gs)) ∧ Below w.heap.size w w' := by
  have HV := hidp hv; clear hv
  obtain ⟨av, cv0, rfl⟩ := HV.out.form
  have HOKS := hidp HV.out.2
  obtain ⟨n, hn⟩ : ∃ n, gs.length = n := ⟨_, rfl⟩
  have HN := hidp hn
  rw [hn] at HV ⊢
  clear hn
  by_cases h256 : 256 < n
  · have e0 : decide ((n : Int) > 256) = true := by simp; omega
    have HF := hidp (show ckB gs = 2 from if_neg fun h => by unfold okB at h; rw [Bool.and_eq_true, decide_eq_true_eq, HN.out] at h; omega)
    go_enter Tryd.func16, Tryd.ntmps16
    go_wp2_with fail
    go_ret
    exact ⟨by rw [HF.out]; rfl, Below.refl _ _⟩
  · have e0 : decide ((n : Int) > 256) = false := by simp; omega
    have n0 : ¬ 256 < n := h256
    go_enter Tryd.func16, Tryd.ntmps16
    go_wp2_with fail
    go_loopw [10] (fun t10 wr => ∃ i : Nat, t10 = .int .i64 (i : Int) ∧ i ≤ n ∧ okTo gs i = true ∧ Below w.heap.size w wr) (fun t10 _ => n - (intOf t10).toNat)
    case atStart => exact ⟨0, rfl, by omega, rfl, Below.refl _ _⟩
    case round =>
      obtain ⟨i, rfl, hi, hok, hb⟩ := hrel
      have HOK := hidp hok; have HB := hidp hb
      clear hok hb
      by_cases hlt : i < n
      · have e1 : decide ((i : Int) < (n : Int)) = true := by simp; omega
        have hgl : i < gs.length := by rw [HN.out]; exact hlt
        obtain ⟨BK, off, c, e2, hc, hBK0, hR0⟩ := HV.out.get (by rw [HN.out]; omega)
        rw [HN.out] at e2
        simp only [Value.slice.injEq] at e2
        obtain ⟨rfl, -, rfl⟩ := e2
        have hBK := hidp (show BK < wr.heap.size from Nat.lt_of_lt_of_le hBK0 HB.out.size)
        have HR := hidp (show ∀ i, (hi : i < gs.length) → wr.rangeAt BK (off + 36 * i) (gs[i]).row from fun i hi => rangeAt_below (hR0 i hi) HB.out hBK0)
        obtain ⟨g, hge⟩ : ∃ g, gs[i] = g := ⟨_, rfl⟩
        have HRI := hidp (show wr.rangeAt BK (off + 36 * i) g.row from by rw [← hge]; exact HR.out i hgl)
        have hgok := hidp (show g.ok from by rw [← hge]; exact HOKS.out _ (List.getElem_mem hgl))
        have hAt : okAt gs i = (vG g && (decide (i = 0) || fol g (gs.getD (i - 1) gz))) := by unfold okAt; rw [getD_at hgl, hge]
        have HAT := hidp hAt
        have hwi : i ≠ 0 → IntKind.i64.wrap ((i : Int) - 1) = ((i - 1 : Nat) : Int) := fun h => by rw [IntKind.wrap_i64]; omega
        clear hAt hR0 hBK0 hge hc
        have cv := hidp (fun W => rvalid_any W g)
        cases hv : vG g with
        | false =>
          rw [hv] at cv
          have HF := hidp (show ckB gs = 2 from ckB_bad hgl (by rw [HAT.out, hv]; rfl))
          clear hv
          go_wp2_with (first | (refine wpL_idxR tyG rfl (.tmp 8) (.tmp 10) rfl BK off n _ i rfl rfl hlt ?_) | (refine wpL_atR tyG rfl (.tmp 13) rfl BK (off + 36 * i) g.row rfl (Gr.len hgok.out) HRI.out ?_) | (refine wpL_newR tyG rfl rfl ?_; intro p4 wq1 n1; have HB1 := hidp (HB.out.trans (n1.below.mono HB.out.size)); have hbw := hidp (Nat.le_trans HB.out.size n1.le); have HR1 := hidp (fun i hi => rangeAt_below (HR.out i hi) n1.below hBK.out); have hBb := hidp (show BK < p4 from by have := n1.at_; have := hBK.out; omega)) | (refine wpL_putR tyG rfl (.tmp 4) (.tmp 14) rfl p4 g.row rfl rfl (Gr.len hgok.out) (Gr.one g) zG rfl n1.arr ?_; intro wq2 ha hp; have HA2 := hidp ha; have HB2 := hidp (hp.below' HB1.out hbw.out); have HR2 := hidp (fun i hi => rangeAt_below (HR1.out i hi) (hp.below p4 (Nat.le_refl _)) hBb.out); clear ha hp n1 HB1 HR1) | (refine wpL_getR tyG rfl (.tmp 4) rfl p4 g.row rfl (Gr.len hgok.out) HA2.out ?_))
          refine (cv.out _).mono ?_
          rintro e wq3 ⟨rfl, hb3⟩
          have HA4 := hidp (HA2.out.below hb3 HA2.out.lt); have HB4 := hidp (HB2.out.trans (hb3.mono HB2.out.size)); have HR4 := hidp (fun i hi => rangeAt_below (HR2.out i hi) hb3 (by have := hBb.out; have := HA2.out.lt; omega))
          clear hb3 HA2 HB2 HR2
          have HBZ := HB4
          go_wp2_with fail
          go_ret
          exact ⟨by rw [HF.out]; rfl, HBZ.out⟩
        | true =>
          rw [hv] at cv
          by_cases hz : i = 0
          · have ei : decide ((i : Int) > 0) = false := by simp; omega
            have HOK2 := hidp (show okTo gs (i + 1) = true from by rw [okTo_succ, HOK.out, HAT.out, hv, decide_eq_true hz]; rfl)
            clear hv
            go_wp2_with (first | (refine wpL_idxR tyG rfl (.tmp 8) (.tmp 10) rfl BK off n _ i rfl rfl hlt ?_) | (refine wpL_atR tyG rfl (.tmp 13) rfl BK (off + 36 * i) g.row rfl (Gr.len hgok.out) HRI.out ?_) | (refine wpL_newR tyG rfl rfl ?_; intro p4 wq1 n1; have HB1 := hidp (HB.out.trans (n1.below.mono HB.out.size)); have hbw := hidp (Nat.le_trans HB.out.size n1.le); have HR1 := hidp (fun i hi => rangeAt_below (HR.out i hi) n1.below hBK.out); have hBb := hidp (show BK < p4 from by have := n1.at_; have := hBK.out; omega)) | (refine wpL_putR tyG rfl (.tmp 4) (.tmp 14) rfl p4 g.row rfl rfl (Gr.len hgok.out) (Gr.one g) zG rfl n1.arr ?_; intro wq2 ha hp; have HA2 := hidp ha; have HB2 := hidp (hp.below' HB1.out hbw.out); have HR2 := hidp (fun i hi => rangeAt_below (HR1.out i hi) (hp.below p4 (Nat.le_refl _)) hBb.out); clear ha hp n1 HB1 HR1) | (refine wpL_getR tyG rfl (.tmp 4) rfl p4 g.row rfl (Gr.len hgok.out) HA2.out ?_))
            refine (cv.out _).mono ?_
            rintro e wq3 ⟨rfl, hb3⟩
            have HA4 := hidp (HA2.out.below hb3 HA2.out.lt); have HB4 := hidp (HB2.out.trans (hb3.mono HB2.out.size)); have HR4 := hidp (fun i hi => rangeAt_below (HR2.out i hi) hb3 (by have := hBb.out; have := HA2.out.lt; omega))
            clear hb3 HA2 HB2 HR2
            go_wp2_with fail
            obtain ⟨U, hU⟩ : ∃ U, ({ wq3 with drawn := wq3.drawn + 1 } : World) = U := ⟨_, rfl⟩
            have bU : Below wq3.heap.size wq3 U := by rw [← hU]; exact (Below.refl _ _).drew
            have HA3 := hidp (HA4.out.below bU HA4.out.lt); have HB3 := hidp (HB4.out.trans (bU.mono HB4.out.size)); have HR3 := hidp (fun i hi => rangeAt_below (HR4.out i hi) bU (by have := hBb.out; have := HA4.out.lt; omega))
            clear bU HA4 HB4 HR4
            refine wp_region_noPanic ?_
            refine wp_region_scr (S := fun W => Arr W p4 27 g.row) (.take 0 (.take 1 (.take 2 (.take 3 (.take 4 (.take 5 (.take 6 (.take 7 (.take 8 (.take 9 (.take 10 (.take 11 (.take 12 (.take 13 (.take 14 (.take 15 (.take 16 (.take 17 (.take 18 (.take 19 (.take 20 (.take 21 (.take 22 (.take 23 (.take 24 (.take 25 (.take 26 (.take 27 (.take 28 (.take 29 (.take 30 (.take 31 (.take 32 (.take 33 (.take 34 .done))))))))))))))))))))))))))))))))))) (by kernel_rfl) (by kernel_rfl) (fun _ _ _ _ _ h => h) (by simp [Scr.depth]) (by kernel_rfl) (by rw [hU]; exact HA3.out) ?_
            simp only [hU]
            clear hU
            apply s_val
            case ho => rfl
            case hw => rfl
            case hv => intro w hw; obtain ⟨x0, x1, x2, x3⟩ := gr_cells hw; go_simp; first | done | with_reducible rfl | rfl
            simp only [Act.put, List.getElem_toArray, List.getElem_cons_zero, List.getElem_cons_succ, List.setIfInBounds_toArray, List.set_cons_zero, List.set_cons_succ]
            apply s_val
            case ho => rfl
            case hw => rfl
            case hv => intro w hw; obtain ⟨x0, x1, x2, x3⟩ := gr_cells hw; go_simp; first | done | with_reducible rfl | rfl
            simp only [Act.put, List.getElem_toArray, List.getElem_cons_zero, List.getElem_cons_succ, List.setIfInBounds_toArray, List.set_cons_zero, List.set_cons_succ]
            apply s_val
            case ho => rfl
            case hw => rfl
            case hv => intro w hw; obtain ⟨x0, x1, x2, x3⟩ := gr_cells hw; go_simp; first | done | with_reducible rfl | rfl
            simp only [Act.put, List.getElem_toArray, List.getElem_cons_zero, List.getElem_cons_succ, List.setIfInBounds_toArray, List.set_cons_zero, List.set_cons_succ]
            refine s_skip rfl rfl ?_
            simp only [Act.put, List.getElem_toArray, List.getElem_cons_zero, List.getElem_cons_succ, List.setIfInBounds_toArray, List.set_cons_zero, List.set_cons_succ]
            refine s_skip rfl rfl ?_
            simp only [Act.put, List.getElem_toArray, List.getElem_cons_zero, List.getElem_cons_succ, List.setIfInBounds_toArray, List.set_cons_zero, List.set_cons_succ]
            refine s_skip rfl rfl ?_
            simp only [Act.put, List.getElem_toArray, List.getElem_cons_zero, List.getElem_cons_succ, List.setIfInBounds_toArray, List.set_cons_zero, List.set_cons_succ]
            refine s_skip rfl rfl ?_
            simp only [Act.put, List.getElem_toArray, List.getElem_cons_zero, List.getElem_cons_succ, List.setIfInBounds_toArray, List.set_cons_zero, List.set_cons_succ]
            refine s_skip rfl rfl ?_
            simp only [Act.put, List.getElem_toArray, List.getElem_cons_zero, List.getElem_cons_succ, List.setIfInBounds_toArray, List.set_cons_zero, List.set_cons_succ]
            refine s_skip rfl rfl ?_
            simp only [Act.put, List.getElem_toArray, List.getElem_cons_zero, List.getElem_cons_succ, List.setIfInBounds_toArray, List.set_cons_zero, List.set_cons_succ]
            refine s_skip rfl rfl ?_
            simp only [Act.put, List.getElem_toArray, List.getElem_cons_zero, List.getElem_cons_succ, List.setIfInBounds_toArray, List.set_cons_zero, List.set_cons_succ]
            refine s_skip rfl rfl ?_
            simp only [Act.put, List.getElem_toArray, List.getElem_cons_zero, List.getElem_cons_succ, List.setIfInBounds_toArray, List.set_cons_zero, List.set_cons_succ]
            refine s_skip rfl rfl ?_
            simp only [Act.put, List.getElem_toArray, List.getElem_cons_zero, List.getElem_cons_succ, List.setIfInBounds_toArray, List.set_cons_zero, List.set_cons_succ]
            refine s_skip rfl rfl ?_
            simp only [Act.put, List.getElem_toArray, List.getElem_cons_zero, List.getElem_cons_succ, List.setIfInBounds_toArray, List.set_cons_zero, List.set_cons_succ]
            refine s_skip rfl rfl ?_
            simp only [Act.put, List.getElem_toArray, List.getElem_cons_zero, List.getElem_cons_succ, List.setIfInBounds_toArray, List.set_cons_zero, List.set_cons_succ]
            refine s_skip rfl rfl ?_
            simp only [Act.put, List.getElem_toArray, List.getElem_cons_zero, List.getElem_cons_succ, List.setIfInBounds_toArray, List.set_cons_zero, List.set_cons_succ]
            refine s_skip rfl rfl ?_
            simp only [Act.put, List.getElem_toArray, List.getElem_cons_zero, List.getElem_cons_succ, List.setIfInBounds_toArray, List.set_cons_zero, List.set_cons_succ]
            refine s_skip rfl rfl ?_
            simp only [Act.put, List.getElem_toArray, List.getElem_cons_zero, List.getElem_cons_succ, List.setIfInBounds_toArray, List.set_cons_zero, List.set_cons_succ]
            refine s_skip rfl rfl ?_
            simp only [Act.put, List.getElem_toArray, List.getElem_cons_zero, List.getElem_cons_succ, List.setIfInBounds_toArray, List.set_cons_zero, List.set_cons_succ]
            refine s_skip rfl rfl ?_
            simp only [Act.put, List.getElem_toArray, List.getElem_cons_zero, List.getElem_cons_succ, List.setIfInBounds_toArray, List.set_cons_zero, List.set_cons_succ]
            refine s_skip rfl rfl ?_
            simp only [Act.put, List.getElem_toArray, List.getElem_cons_zero, List.getElem_cons_succ, List.setIfInBounds_toArray, List.set_cons_zero, List.set_cons_succ]
            refine s_skip rfl rfl ?_
            simp only [Act.put, List.getElem_toArray, List.getElem_cons_zero, List.getElem_cons_succ, List.setIfInBounds_toArray, List.set_cons_zero, List.set_cons_succ]
            refine s_skip rfl rfl ?_
            simp only [Act.put, List.getElem_toArray, List.getElem_cons_zero, List.getElem_cons_succ, List.setIfInBounds_toArray, List.set_cons_zero, List.set_cons_succ]
            refine s_skip rfl rfl ?_
            simp only [Act.put, List.getElem_toArray, List.getElem_cons_zero, List.getElem_cons_succ, List.setIfInBounds_toArray, List.set_cons_zero, List.set_cons_succ]
            refine s_skip rfl rfl ?_
            simp only [Act.put, List.getElem_toArray, List.getElem_cons_zero, List.getElem_cons_succ, List.setIfInBounds_toArray, List.set_cons_zero, List.set_cons_succ]
            refine s_skip rfl rfl ?_
            simp only [Act.put, List.getElem_toArray, List.getElem_cons_zero, List.getElem_cons_succ, List.setIfInBounds_toArray, List.set_cons_zero, List.set_cons_succ]
            refine s_skip rfl rfl ?_
            simp only [Act.put, List.getElem_toArray, List.getElem_cons_zero, List.getElem_cons_succ, List.setIfInBounds_toArray, List.set_cons_zero, List.set_cons_succ]
            refine s_skip rfl rfl ?_
            simp only [Act.put, List.getElem_toArray, List.getElem_cons_zero, List.getElem_cons_succ, List.setIfInBounds_toArray, List.set_cons_zero, List.set_cons_succ]
            refine s_skip rfl rfl ?_
            simp only [Act.put, List.getElem_toArray, List.getElem_cons_zero, List.getElem_cons_succ, List.setIfInBounds_toArray, List.set_cons_zero, List.set_cons_succ]
            refine s_skip rfl rfl ?_
            simp only [Act.put, List.getElem_toArray, List.getElem_cons_zero, List.getElem_cons_succ, List.setIfInBounds_toArray, List.set_cons_zero, List.set_cons_succ]
            refine s_skip rfl rfl ?_
            simp only [Act.put, List.getElem_toArray, List.getElem_cons_zero, List.getElem_cons_succ, List.setIfInBounds_toArray, List.set_cons_zero, List.set_cons_succ]
            refine s_skip rfl rfl ?_
            simp only [Act.put, List.getElem_toArray, List.getElem_cons_zero, List.getElem_cons_succ, List.setIfInBounds_toArray, List.set_cons_zero, List.set_cons_succ]
            refine s_skip rfl rfl ?_
            simp only [Act.put, List.getElem_toArray, List.getElem_cons_zero, List.getElem_cons_succ, List.setIfInBounds_toArray, List.set_cons_zero, List.set_cons_succ]
            refine s_skip rfl rfl ?_
            simp only [Act.put, List.getElem_toArray, List.getElem_cons_zero, List.getElem_cons_succ, List.setIfInBounds_toArray, List.set_cons_zero, List.set_cons_succ]
            refine s_skip rfl rfl ?_
            simp only [Act.put, List.getElem_toArray, List.getElem_cons_zero, List.getElem_cons_succ, List.setIfInBounds_toArray, List.set_cons_zero, List.set_cons_succ]
            apply s_val
            case ho => rfl
            case hw => rfl
            case hv => intro w hw; obtain ⟨x0, x1, x2, x3⟩ := gr_cells hw; go_simp; first | done | with_reducible rfl | rfl
            simp only [Act.put, List.getElem_toArray, List.getElem_cons_zero, List.getElem_cons_succ, List.setIfInBounds_toArray, List.set_cons_zero, List.set_cons_succ]
            refine NoPanic.normal ?_
            have HBZ := HB3
            have HRZ := hidp (fun i hi => rangeAt_below (HR.out i hi) (Below.refl _ _) hBK.out)
            go_wp2_with fail
            exact ⟨⟨i + 1, by go_num, by omega, HOK2.out, HBZ.out⟩, by simp [intOf]; omega⟩
          · have hi0 : 0 < i := by omega
            have ei : decide ((i : Int) > 0) = true := by simp; omega
            have hwi := hwi hz
            have hpl : i - 1 < gs.length := by omega
            obtain ⟨p, hpe0⟩ : ∃ p, gs[i - 1] = p := ⟨_, rfl⟩
            have hpe := hidp hpe0
            have hpok := hidp (show p.ok from by rw [← hpe0]; exact HOKS.out _ (List.getElem_mem hpl))
            have hpd : gs.getD (i - 1) gz = p := by rw [getD_at hpl]; exact hpe0
            clear hpe0
            by_cases hs1 : g.s < p.s
            · have d1 : decide (g.s < p.s) = true := decide_eq_true hs1
              have HF := hidp (show ckB gs = 2 from ckB_bad hgl (by rw [HAT.out, hv, hpd, decide_eq_false hz]; unfold fol; rw [if_neg (by omega), decide_eq_false (by omega)]; rfl))
              clear hv
              go_wp2_with (first | (refine wpL_idxR tyG rfl (.tmp 8) (.tmp 10) rfl BK off n _ i rfl rfl hlt ?_) | (refine wpL_atR tyG rfl (.tmp 13) rfl BK (off + 36 * i) g.row rfl (Gr.len hgok.out) HRI.out ?_) | (refine wpL_newR tyG rfl rfl ?_; intro p4 wq1 n1; have HB1 := hidp (HB.out.trans (n1.below.mono HB.out.size)); have hbw := hidp (Nat.le_trans HB.out.size n1.le); have HR1 := hidp (fun i hi => rangeAt_below (HR.out i hi) n1.below hBK.out); have hBb := hidp (show BK < p4 from by have := n1.at_; have := hBK.out; omega)) | (refine wpL_putR tyG rfl (.tmp 4) (.tmp 14) rfl p4 g.row rfl rfl (Gr.len hgok.out) (Gr.one g) zG rfl n1.arr ?_; intro wq2 ha hp; have HA2 := hidp ha; have HB2 := hidp (hp.below' HB1.out hbw.out); have HR2 := hidp (fun i hi => rangeAt_below (HR1.out i hi) (hp.below p4 (Nat.le_refl _)) hBb.out); clear ha hp n1 HB1 HR1) | (refine wpL_getR tyG rfl (.tmp 4) rfl p4 g.row rfl (Gr.len hgok.out) HA2.out ?_))
              refine (cv.out _).mono ?_
              rintro e wq3 ⟨rfl, hb3⟩
              have HA4 := hidp (HA2.out.below hb3 HA2.out.lt); have HB4 := hidp (HB2.out.trans (hb3.mono HB2.out.size)); have HR4 := hidp (fun i hi => rangeAt_below (HR2.out i hi) hb3 (by have := hBb.out; have := HA2.out.lt; omega))
              clear hb3 HA2 HB2 HR2
              go_wp2_with fail
              obtain ⟨U, hU⟩ : ∃ U, ({ wq3 with drawn := wq3.drawn + 1 } : World) = U := ⟨_, rfl⟩
              have bU : Below wq3.heap.size wq3 U := by rw [← hU]; exact (Below.refl _ _).drew
              have HA3 := hidp (HA4.out.below bU HA4.out.lt); have HB3 := hidp (HB4.out.trans (bU.mono HB4.out.size)); have HR3 := hidp (fun i hi => rangeAt_below (HR4.out i hi) bU (by have := hBb.out; have := HA4.out.lt; omega))
              clear bU HA4 HB4 HR4
              have HP3 := hidp (show U.rangeAt BK (off + 36 * (i - 1)) p.row from by rw [← hpe.out]; exact HR3.out (i - 1) (by omega))
              refine wp_region_noPanic ?_
              refine wp_region_scr (S := fun W => Arr W p4 27 g.row ∧ W.rangeAt BK (off + 36 * (i - 1)) p.row) (.take 0 (.take 1 (.take 2 (.take 3 (.take 4 (.take 5 (.take 6 (.take 7 (.take 8 (.take 9 (.take 10 (.take 11 (.take 12 (.take 13 (.take 14 (.take 15 (.take 16 (.take 17 (.take 18 (.take 19 (.take 20 (.take 21 (.take 22 (.take 23 (.take 24 (.take 25 (.take 26 (.take 27 (.take 28 (.take 29 (.take 30 (.take 31 (.take 32 (.take 33 (.take 34 .done))))))))))))))))))))))))))))))))))) (by kernel_rfl) (by kernel_rfl) (fun _ _ _ _ _ h => h) (by simp [Scr.depth]) (by kernel_rfl) (by rw [hU]; exact ⟨HA3.out, HP3.out⟩) ?_
              simp only [hU]
              clear hU
              apply s_val
              case ho => rfl
              case hw => rfl
              case hv => intro w hw; obtain ⟨x0, x1, x2, x3⟩ := gr_cells hw.1; obtain ⟨y0, y1, y2, y3⟩ := gr_nums hw.2; go_simp; first | done | with_reducible rfl | rfl
              simp only [Act.put, List.getElem_toArray, List.getElem_cons_zero, List.getElem_cons_succ, List.setIfInBounds_toArray, List.set_cons_zero, List.set_cons_succ]
              apply s_val
              case ho => rfl
              case hw => rfl
              case hv => intro w hw; obtain ⟨x0, x1, x2, x3⟩ := gr_cells hw.1; obtain ⟨y0, y1, y2, y3⟩ := gr_nums hw.2; go_simp; first | done | with_reducible rfl | rfl
              simp only [Act.put, List.getElem_toArray, List.getElem_cons_zero, List.getElem_cons_succ, List.setIfInBounds_toArray, List.set_cons_zero, List.set_cons_succ]
              apply s_val
              case ho => rfl
              case hw => rfl
              case hv => intro w hw; obtain ⟨x0, x1, x2, x3⟩ := gr_cells hw.1; obtain ⟨y0, y1, y2, y3⟩ := gr_nums hw.2; go_simp; first | done | with_reducible rfl | rfl
              simp only [Act.put, List.getElem_toArray, List.getElem_cons_zero, List.getElem_cons_succ, List.setIfInBounds_toArray, List.set_cons_zero, List.set_cons_succ]
              apply s_val
              case ho => rfl
              case hw => rfl
              case hv => intro w hw; obtain ⟨x0, x1, x2, x3⟩ := gr_cells hw.1; obtain ⟨y0, y1, y2, y3⟩ := gr_nums hw.2; go_simp; first | done | with_reducible rfl | rfl
              simp only [Act.put, List.getElem_toArray, List.getElem_cons_zero, List.getElem_cons_succ, List.setIfInBounds_toArray, List.set_cons_zero, List.set_cons_succ]
              apply s_val
              case ho => rfl
              case hw => rfl
              case hv => intro w hw; obtain ⟨x0, x1, x2, x3⟩ := gr_cells hw.1; obtain ⟨y0, y1, y2, y3⟩ := gr_nums hw.2; go_simp; first | done | with_reducible rfl | rfl
              simp only [Act.put, List.getElem_toArray, List.getElem_cons_zero, List.getElem_cons_succ, List.setIfInBounds_toArray, List.set_cons_zero, List.set_cons_succ]
              apply s_val
              case ho => rfl
              case hw => rfl
              case hv => intro w hw; obtain ⟨x0, x1, x2, x3⟩ := gr_cells hw.1; obtain ⟨y0, y1, y2, y3⟩ := gr_nums hw.2; go_simp; first | done | with_reducible rfl | rfl
              simp only [Act.put, List.getElem_toArray, List.getElem_cons_zero, List.getElem_cons_succ, List.setIfInBounds_toArray, List.set_cons_zero, List.set_cons_succ]
              apply s_val
              case ho => rfl
              case hw => rfl
              case hv => intro w hw; obtain ⟨x0, x1, x2, x3⟩ := gr_cells hw.1; obtain ⟨y0, y1, y2, y3⟩ := gr_nums hw.2; go_simp; first | done | with_reducible rfl | rfl
              simp only [Act.put, List.getElem_toArray, List.getElem_cons_zero, List.getElem_cons_succ, List.setIfInBounds_toArray, List.set_cons_zero, List.set_cons_succ]
              apply s_val (v := .int .i64 ((i - 1 : Nat) : Int))
              case ho => rfl
              case hw => rfl
              case hv => intro w hw; have q := hwi; go_simp; first | done | with_reducible rfl | rfl
              simp only [Act.put, List.getElem_toArray, List.getElem_cons_zero, List.getElem_cons_succ, List.setIfInBounds_toArray, List.set_cons_zero, List.set_cons_succ]
              refine s_idxR tyG rfl rfl (.tmp 23) (.tmp 25) rfl BK off n _ (i - 1) rfl rfl (by omega) ?_
              simp only [Act.put, List.getElem_toArray, List.getElem_cons_zero, List.getElem_cons_succ, List.setIfInBounds_toArray, List.set_cons_zero, List.set_cons_succ]
              apply s_val
              case ho => rfl
              case hw => rfl
              case hv => intro w hw; obtain ⟨x0, x1, x2, x3⟩ := gr_cells hw.1; obtain ⟨y0, y1, y2, y3⟩ := gr_nums hw.2; go_simp; first | done | with_reducible rfl | rfl
              simp only [Act.put, List.getElem_toArray, List.getElem_cons_zero, List.getElem_cons_succ, List.setIfInBounds_toArray, List.set_cons_zero, List.set_cons_succ]
              apply s_val
              case ho => rfl
              case hw => rfl
              case hv => intro w hw; obtain ⟨x0, x1, x2, x3⟩ := gr_cells hw.1; obtain ⟨y0, y1, y2, y3⟩ := gr_nums hw.2; go_simp; first | done | with_reducible rfl | rfl
              simp only [Act.put, List.getElem_toArray, List.getElem_cons_zero, List.getElem_cons_succ, List.setIfInBounds_toArray, List.set_cons_zero, List.set_cons_succ]
              apply s_val
              case ho => rfl
              case hw => rfl
              case hv => intro w hw; obtain ⟨x0, x1, x2, x3⟩ := gr_cells hw.1; obtain ⟨y0, y1, y2, y3⟩ := gr_nums hw.2; go_simp; first | done | with_reducible rfl | rfl
              simp only [Act.put, List.getElem_toArray, List.getElem_cons_zero, List.getElem_cons_succ, List.setIfInBounds_toArray, List.set_cons_zero, List.set_cons_succ]
              apply s_val
              case ho => rfl
              case hw => rfl
              case hv => intro w hw; obtain ⟨x0, x1, x2, x3⟩ := gr_cells hw.1; obtain ⟨y0, y1, y2, y3⟩ := gr_nums hw.2; go_simp; first | done | with_reducible rfl | rfl
              simp only [Act.put, List.getElem_toArray, List.getElem_cons_zero, List.getElem_cons_succ, List.setIfInBounds_toArray, List.set_cons_zero, List.set_cons_succ]
              refine s_skip rfl rfl ?_
              simp only [Act.put, List.getElem_toArray, List.getElem_cons_zero, List.getElem_cons_succ, List.setIfInBounds_toArray, List.set_cons_zero, List.set_cons_succ]
              refine s_skip rfl rfl ?_
              simp only [Act.put, List.getElem_toArray, List.getElem_cons_zero, List.getElem_cons_succ, List.setIfInBounds_toArray, List.set_cons_zero, List.set_cons_succ]
              refine s_skip rfl rfl ?_
              simp only [Act.put, List.getElem_toArray, List.getElem_cons_zero, List.getElem_cons_succ, List.setIfInBounds_toArray, List.set_cons_zero, List.set_cons_succ]
              refine s_skip rfl rfl ?_
              simp only [Act.put, List.getElem_toArray, List.getElem_cons_zero, List.getElem_cons_succ, List.setIfInBounds_toArray, List.set_cons_zero, List.set_cons_succ]
              refine s_skip rfl rfl ?_
              simp only [Act.put, List.getElem_toArray, List.getElem_cons_zero, List.getElem_cons_succ, List.setIfInBounds_toArray, List.set_cons_zero, List.set_cons_succ]
              refine s_skip rfl rfl ?_
              simp only [Act.put, List.getElem_toArray, List.getElem_cons_zero, List.getElem_cons_succ, List.setIfInBounds_toArray, List.set_cons_zero, List.set_cons_succ]
              refine s_skip rfl rfl ?_
              simp only [Act.put, List.getElem_toArray, List.getElem_cons_zero, List.getElem_cons_succ, List.setIfInBounds_toArray, List.set_cons_zero, List.set_cons_succ]
              refine s_skip rfl rfl ?_
              simp only [Act.put, List.getElem_toArray, List.getElem_cons_zero, List.getElem_cons_succ, List.setIfInBounds_toArray, List.set_cons_zero, List.set_cons_succ]
              refine s_skip rfl rfl ?_
              simp only [Act.put, List.getElem_toArray, List.getElem_cons_zero, List.getElem_cons_succ, List.setIfInBounds_toArray, List.set_cons_zero, List.set_cons_succ]
              refine s_skip rfl rfl ?_
              simp only [Act.put, List.getElem_toArray, List.getElem_cons_zero, List.getElem_cons_succ, List.setIfInBounds_toArray, List.set_cons_zero, List.set_cons_succ]
              refine s_skip rfl rfl ?_
              simp only [Act.put, List.getElem_toArray, List.getElem_cons_zero, List.getElem_cons_succ, List.setIfInBounds_toArray, List.set_cons_zero, List.set_cons_succ]
              refine s_skip rfl rfl ?_
              simp only [Act.put, List.getElem_toArray, List.getElem_cons_zero, List.getElem_cons_succ, List.setIfInBounds_toArray, List.set_cons_zero, List.set_cons_succ]
              refine s_skip rfl rfl ?_
              simp only [Act.put, List.getElem_toArray, List.getElem_cons_zero, List.getElem_cons_succ, List.setIfInBounds_toArray, List.set_cons_zero, List.set_cons_succ]
              refine s_skip rfl rfl ?_
              simp only [Act.put, List.getElem_toArray, List.getElem_cons_zero, List.getElem_cons_succ, List.setIfInBounds_toArray, List.set_cons_zero, List.set_cons_succ]
              refine s_skip rfl rfl ?_
              simp only [Act.put, List.getElem_toArray, List.getElem_cons_zero, List.getElem_cons_succ, List.setIfInBounds_toArray, List.set_cons_zero, List.set_cons_succ]
              refine s_skip rfl rfl ?_
              simp only [Act.put, List.getElem_toArray, List.getElem_cons_zero, List.getElem_cons_succ, List.setIfInBounds_toArray, List.set_cons_zero, List.set_cons_succ]
              refine s_skip rfl rfl ?_
              simp only [Act.put, List.getElem_toArray, List.getElem_cons_zero, List.getElem_cons_succ, List.setIfInBounds_toArray, List.set_cons_zero, List.set_cons_succ]
              refine s_skip rfl rfl ?_
              simp only [Act.put, List.getElem_toArray, List.getElem_cons_zero, List.getElem_cons_succ, List.setIfInBounds_toArray, List.set_cons_zero, List.set_cons_succ]
              refine s_skip rfl rfl ?_
              simp only [Act.put, List.getElem_toArray, List.getElem_cons_zero, List.getElem_cons_succ, List.setIfInBounds_toArray, List.set_cons_zero, List.set_cons_succ]
              refine s_skip rfl rfl ?_
              simp only [Act.put, List.getElem_toArray, List.getElem_cons_zero, List.getElem_cons_succ, List.setIfInBounds_toArray, List.set_cons_zero, List.set_cons_succ]
              apply s_val
              case ho => rfl
              case hw => rfl
              case hv => intro w hw; obtain ⟨x0, x1, x2, x3⟩ := gr_cells hw.1; obtain ⟨y0, y1, y2, y3⟩ := gr_nums hw.2; go_simp; first | done | with_reducible rfl | rfl
              simp only [Act.put, List.getElem_toArray, List.getElem_cons_zero, List.getElem_cons_succ, List.setIfInBounds_toArray, List.set_cons_zero, List.set_cons_succ]
              apply s_val
              case ho => rfl
              case hw => rfl
              case hv => intro w hw; obtain ⟨x0, x1, x2, x3⟩ := gr_cells hw.1; obtain ⟨y0, y1, y2, y3⟩ := gr_nums hw.2; go_simp; first | done | with_reducible rfl | rfl
              simp only [Act.put, List.getElem_toArray, List.getElem_cons_zero, List.getElem_cons_succ, List.setIfInBounds_toArray, List.set_cons_zero, List.set_cons_succ]
              refine NoPanic.normal ?_
              have HBZ := HB3
              go_wp2_with fail
              go_ret
              exact ⟨by rw [HF.out]; rfl, HBZ.out⟩
            · have d1 : decide (g.s < p.s) = false := decide_eq_false hs1
              by_cases hs2 : g.s = p.s
              · have d2 : (g.s == p.s) = true := by simp [hs2]
                by_cases hs3 : g.f ≤ p.t
                · have d3 : decide (g.f ≤ p.t) = true := decide_eq_true hs3
                  have HF := hidp (show ckB gs = 2 from ckB_bad hgl (by rw [HAT.out, hv, hpd, decide_eq_false hz]; unfold fol; rw [if_pos hs2, decide_eq_false (by omega)]; rfl))
                  clear hv
                  go_wp2_with (first | (refine wpL_idxR tyG rfl (.tmp 8) (.tmp 10) rfl BK off n _ i rfl rfl hlt ?_) | (refine wpL_atR tyG rfl (.tmp 13) rfl BK (off + 36 * i) g.row rfl (Gr.len hgok.out) HRI.out ?_) | (refine wpL_newR tyG rfl rfl ?_; intro p4 wq1 n1; have HB1 := hidp (HB.out.trans (n1.below.mono HB.out.size)); have hbw := hidp (Nat.le_trans HB.out.size n1.le); have HR1 := hidp (fun i hi => rangeAt_below (HR.out i hi) n1.below hBK.out); have hBb := hidp (show BK < p4 from by have := n1.at_; have := hBK.out; omega)) | (refine wpL_putR tyG rfl (.tmp 4) (.tmp 14) rfl p4 g.row rfl rfl (Gr.len hgok.out) (Gr.one g) zG rfl n1.arr ?_; intro wq2 ha hp; have HA2 := hidp ha; have HB2 := hidp (hp.below' HB1.out hbw.out); have HR2 := hidp (fun i hi => rangeAt_below (HR1.out i hi) (hp.below p4 (Nat.le_refl _)) hBb.out); clear ha hp n1 HB1 HR1) | (refine wpL_getR tyG rfl (.tmp 4) rfl p4 g.row rfl (Gr.len hgok.out) HA2.out ?_))
                  refine (cv.out _).mono ?_
                  rintro e wq3 ⟨rfl, hb3⟩
                  have HA4 := hidp (HA2.out.below hb3 HA2.out.lt); have HB4 := hidp (HB2.out.trans (hb3.mono HB2.out.size)); have HR4 := hidp (fun i hi => rangeAt_below (HR2.out i hi) hb3 (by have := hBb.out; have := HA2.out.lt; omega))
                  clear hb3 HA2 HB2 HR2
                  go_wp2_with fail
                  obtain ⟨U, hU⟩ : ∃ U, ({ wq3 with drawn := wq3.drawn + 1 } : World) = U := ⟨_, rfl⟩
                  have bU : Below wq3.heap.size wq3 U := by rw [← hU]; exact (Below.refl _ _).drew
                  have HA3 := hidp (HA4.out.below bU HA4.out.lt); have HB3 := hidp (HB4.out.trans (bU.mono HB4.out.size)); have HR3 := hidp (fun i hi => rangeAt_below (HR4.out i hi) bU (by have := hBb.out; have := HA4.out.lt; omega))
                  clear bU HA4 HB4 HR4
                  have HP3 := hidp (show U.rangeAt BK (off + 36 * (i - 1)) p.row from by rw [← hpe.out]; exact HR3.out (i - 1) (by omega))
                  refine wp_region_noPanic ?_
                  refine wp_region_scr (S := fun W => Arr W p4 27 g.row ∧ W.rangeAt BK (off + 36 * (i - 1)) p.row) (.take 0 (.take 1 (.take 2 (.take 3 (.take 4 (.take 5 (.take 6 (.take 7 (.take 8 (.take 9 (.take 10 (.take 11 (.take 12 (.take 13 (.take 14 (.take 15 (.take 16 (.take 17 (.take 18 (.take 19 (.take 20 (.take 21 (.take 22 (.take 23 (.take 24 (.take 25 (.take 26 (.take 27 (.take 28 (.take 29 (.take 30 (.take 31 (.take 32 (.take 33 (.take 34 .done))))))))))))))))))))))))))))))))))) (by kernel_rfl) (by kernel_rfl) (fun _ _ _ _ _ h => h) (by simp [Scr.depth]) (by kernel_rfl) (by rw [hU]; exact ⟨HA3.out, HP3.out⟩) ?_
                  simp only [hU]
                  clear hU
                  apply s_val
                  case ho => rfl
                  case hw => rfl
                  case hv => intro w hw; obtain ⟨x0, x1, x2, x3⟩ := gr_cells hw.1; obtain ⟨y0, y1, y2, y3⟩ := gr_nums hw.2; go_simp; first | done | with_reducible rfl | rfl
                  simp only [Act.put, List.getElem_toArray, List.getElem_cons_zero, List.getElem_cons_succ, List.setIfInBounds_toArray, List.set_cons_zero, List.set_cons_succ]
                  apply s_val
                  case ho => rfl
                  case hw => rfl
                  case hv => intro w hw; obtain ⟨x0, x1, x2, x3⟩ := gr_cells hw.1; obtain ⟨y0, y1, y2, y3⟩ := gr_nums hw.2; go_simp; first | done | with_reducible rfl | rfl
                  simp only [Act.put, List.getElem_toArray, List.getElem_cons_zero, List.getElem_cons_succ, List.setIfInBounds_toArray, List.set_cons_zero, List.set_cons_succ]
                  apply s_val
                  case ho => rfl
                  case hw => rfl
                  case hv => intro w hw; obtain ⟨x0, x1, x2, x3⟩ := gr_cells hw.1; obtain ⟨y0, y1, y2, y3⟩ := gr_nums hw.2; go_simp; first | done | with_reducible rfl | rfl
                  simp only [Act.put, List.getElem_toArray, List.getElem_cons_zero, List.getElem_cons_succ, List.setIfInBounds_toArray, List.set_cons_zero, List.set_cons_succ]
                  apply s_val
                  case ho => rfl
                  case hw => rfl
                  case hv => intro w hw; obtain ⟨x0, x1, x2, x3⟩ := gr_cells hw.1; obtain ⟨y0, y1, y2, y3⟩ := gr_nums hw.2; go_simp; first | done | with_reducible rfl | rfl
                  simp only [Act.put, List.getElem_toArray, List.getElem_cons_zero, List.getElem_cons_succ, List.setIfInBounds_toArray, List.set_cons_zero, List.set_cons_succ]
                  apply s_val
                  case ho => rfl
                  case hw => rfl
                  case hv => intro w hw; obtain ⟨x0, x1, x2, x3⟩ := gr_cells hw.1; obtain ⟨y0, y1, y2, y3⟩ := gr_nums hw.2; go_simp; first | done | with_reducible rfl | rfl
                  simp only [Act.put, List.getElem_toArray, List.getElem_cons_zero, List.getElem_cons_succ, List.setIfInBounds_toArray, List.set_cons_zero, List.set_cons_succ]
                  apply s_val
                  case ho => rfl
                  case hw => rfl
                  case hv => intro w hw; obtain ⟨x0, x1, x2, x3⟩ := gr_cells hw.1; obtain ⟨y0, y1, y2, y3⟩ := gr_nums hw.2; go_simp; first | done | with_reducible rfl | rfl
                  simp only [Act.put, List.getElem_toArray, List.getElem_cons_zero, List.getElem_cons_succ, List.setIfInBounds_toArray, List.set_cons_zero, List.set_cons_succ]
                  apply s_val
                  case ho => rfl
                  case hw => rfl
                  case hv => intro w hw; obtain ⟨x0, x1, x2, x3⟩ := gr_cells hw.1; obtain ⟨y0, y1, y2, y3⟩ := gr_nums hw.2; go_simp; first | done | with_reducible rfl | rfl
                  simp only [Act.put, List.getElem_toArray, List.getElem_cons_zero, List.getElem_cons_succ, List.setIfInBounds_toArray, List.set_cons_zero, List.set_cons_succ]
                  apply s_val (v := .int .i64 ((i - 1 : Nat) : Int))
                  case ho => rfl
                  case hw => rfl
                  case hv => intro w hw; have q := hwi; go_simp; first | done | with_reducible rfl | rfl
                  simp only [Act.put, List.getElem_toArray, List.getElem_cons_zero, List.getElem_cons_succ, List.setIfInBounds_toArray, List.set_cons_zero, List.set_cons_succ]
                  refine s_idxR tyG rfl rfl (.tmp 23) (.tmp 25) rfl BK off n _ (i - 1) rfl rfl (by omega) ?_
                  simp only [Act.put, List.getElem_toArray, List.getElem_cons_zero, List.getElem_cons_succ, List.setIfInBounds_toArray, List.set_cons_zero, List.set_cons_succ]
                  apply s_val
                  case ho => rfl
                  case hw => rfl
                  case hv => intro w hw; obtain ⟨x0, x1, x2, x3⟩ := gr_cells hw.1; obtain ⟨y0, y1, y2, y3⟩ := gr_nums hw.2; go_simp; first | done | with_reducible rfl | rfl
                  simp only [Act.put, List.getElem_toArray, List.getElem_cons_zero, List.getElem_cons_succ, List.setIfInBounds_toArray, List.set_cons_zero, List.set_cons_succ]
                  apply s_val
                  case ho => rfl
                  case hw => rfl
                  case hv => intro w hw; obtain ⟨x0, x1, x2, x3⟩ := gr_cells hw.1; obtain ⟨y0, y1, y2, y3⟩ := gr_nums hw.2; go_simp; first | done | with_reducible rfl | rfl
                  simp only [Act.put, List.getElem_toArray, List.getElem_cons_zero, List.getElem_cons_succ, List.setIfInBounds_toArray, List.set_cons_zero, List.set_cons_succ]
                  apply s_val
                  case ho => rfl
                  case hw => rfl
                  case hv => intro w hw; obtain ⟨x0, x1, x2, x3⟩ := gr_cells hw.1; obtain ⟨y0, y1, y2, y3⟩ := gr_nums hw.2; go_simp; first | done | with_reducible rfl | rfl
                  simp only [Act.put, List.getElem_toArray, List.getElem_cons_zero, List.getElem_cons_succ, List.setIfInBounds_toArray, List.set_cons_zero, List.set_cons_succ]
                  apply s_val
                  case ho => rfl
                  case hw => rfl
                  case hv => intro w hw; obtain ⟨x0, x1, x2, x3⟩ := gr_cells hw.1; obtain ⟨y0, y1, y2, y3⟩ := gr_nums hw.2; go_simp; first | done | with_reducible rfl | rfl
                  simp only [Act.put, List.getElem_toArray, List.getElem_cons_zero, List.getElem_cons_succ, List.setIfInBounds_toArray, List.set_cons_zero, List.set_cons_succ]
                  apply s_val
                  case ho => rfl
                  case hw => rfl
                  case hv => intro w hw; obtain ⟨x0, x1, x2, x3⟩ := gr_cells hw.1; obtain ⟨y0, y1, y2, y3⟩ := gr_nums hw.2; go_simp; first | done | with_reducible rfl | rfl
                  simp only [Act.put, List.getElem_toArray, List.getElem_cons_zero, List.getElem_cons_succ, List.setIfInBounds_toArray, List.set_cons_zero, List.set_cons_succ]
                  apply s_val
                  case ho => rfl
                  case hw => rfl
                  case hv => intro w hw; obtain ⟨x0, x1, x2, x3⟩ := gr_cells hw.1; obtain ⟨y0, y1, y2, y3⟩ := gr_nums hw.2; go_simp; first | done | with_reducible rfl | rfl
                  simp only [Act.put, List.getElem_toArray, List.getElem_cons_zero, List.getElem_cons_succ, List.setIfInBounds_toArray, List.set_cons_zero, List.set_cons_succ]
                  apply s_val
                  case ho => rfl
                  case hw => rfl
                  case hv => intro w hw; obtain ⟨x0, x1, x2, x3⟩ := gr_cells hw.1; obtain ⟨y0, y1, y2, y3⟩ := gr_nums hw.2; go_simp; first | done | with_reducible rfl | rfl
                  simp only [Act.put, List.getElem_toArray, List.getElem_cons_zero, List.getElem_cons_succ, List.setIfInBounds_toArray, List.set_cons_zero, List.set_cons_succ]
                  apply s_val
                  case ho => rfl
                  case hw => rfl
                  case hv => intro w hw; obtain ⟨x0, x1, x2, x3⟩ := gr_cells hw.1; obtain ⟨y0, y1, y2, y3⟩ := gr_nums hw.2; go_simp; first | done | with_reducible rfl | rfl
                  simp only [Act.put, List.getElem_toArray, List.getElem_cons_zero, List.getElem_cons_succ, List.setIfInBounds_toArray, List.set_cons_zero, List.set_cons_succ]
                  apply s_val (v := .int .i64 ((i - 1 : Nat) : Int))
                  case ho => rfl
                  case hw => rfl
                  case hv => intro w hw; have q := hwi; go_simp; first | done | with_reducible rfl | rfl
                  simp only [Act.put, List.getElem_toArray, List.getElem_cons_zero, List.getElem_cons_succ, List.setIfInBounds_toArray, List.set_cons_zero, List.set_cons_succ]
                  refine s_idxR tyG rfl rfl (.tmp 33) (.tmp 35) rfl BK off n _ (i - 1) rfl rfl (by omega) ?_
                  simp only [Act.put, List.getElem_toArray, List.getElem_cons_zero, List.getElem_cons_succ, List.setIfInBounds_toArray, List.set_cons_zero, List.set_cons_succ]
                  apply s_val
                  case ho => rfl
                  case hw => rfl
                  case hv => intro w hw; obtain ⟨x0, x1, x2, x3⟩ := gr_cells hw.1; obtain ⟨y0, y1, y2, y3⟩ := gr_nums hw.2; go_simp; first | done | with_reducible rfl | rfl
                  simp only [Act.put, List.getElem_toArray, List.getElem_cons_zero, List.getElem_cons_succ, List.setIfInBounds_toArray, List.set_cons_zero, List.set_cons_succ]
                  apply s_val
                  case ho => rfl
                  case hw => rfl
                  case hv => intro w hw; obtain ⟨x0, x1, x2, x3⟩ := gr_cells hw.1; obtain ⟨y0, y1, y2, y3⟩ := gr_nums hw.2; go_simp; first | done | with_reducible rfl | rfl
                  simp only [Act.put, List.getElem_toArray, List.getElem_cons_zero, List.getElem_cons_succ, List.setIfInBounds_toArray, List.set_cons_zero, List.set_cons_succ]
                  apply s_val
                  case ho => rfl
                  case hw => rfl
                  case hv => intro w hw; obtain ⟨x0, x1, x2, x3⟩ := gr_cells hw.1; obtain ⟨y0, y1, y2, y3⟩ := gr_nums hw.2; go_simp; first | done | with_reducible rfl | rfl
                  simp only [Act.put, List.getElem_toArray, List.getElem_cons_zero, List.getElem_cons_succ, List.setIfInBounds_toArray, List.set_cons_zero, List.set_cons_succ]
                  apply s_val
                  case ho => rfl
                  case hw => rfl
                  case hv => intro w hw; obtain ⟨x0, x1, x2, x3⟩ := gr_cells hw.1; obtain ⟨y0, y1, y2, y3⟩ := gr_nums hw.2; go_simp; first | done | with_reducible rfl | rfl
                  simp only [Act.put, List.getElem_toArray, List.getElem_cons_zero, List.getElem_cons_succ, List.setIfInBounds_toArray, List.set_cons_zero, List.set_cons_succ]
                  apply s_val
                  case ho => rfl
                  case hw => rfl
                  case hv => intro w hw; obtain ⟨x0, x1, x2, x3⟩ := gr_cells hw.1; obtain ⟨y0, y1, y2, y3⟩ := gr_nums hw.2; go_simp; first | done | with_reducible rfl | rfl
                  simp only [Act.put, List.getElem_toArray, List.getElem_cons_zero, List.getElem_cons_succ, List.setIfInBounds_toArray, List.set_cons_zero, List.set_cons_succ]
                  apply s_val
                  case ho => rfl
                  case hw => rfl
                  case hv => intro w hw; obtain ⟨x0, x1, x2, x3⟩ := gr_cells hw.1; obtain ⟨y0, y1, y2, y3⟩ := gr_nums hw.2; go_simp; first | done | with_reducible rfl | rfl
                  simp only [Act.put, List.getElem_toArray, List.getElem_cons_zero, List.getElem_cons_succ, List.setIfInBounds_toArray, List.set_cons_zero, List.set_cons_succ]
                  apply s_val
                  case ho => rfl
                  case hw => rfl
                  case hv => intro w hw; obtain ⟨x0, x1, x2, x3⟩ := gr_cells hw.1; obtain ⟨y0, y1, y2, y3⟩ := gr_nums hw.2; go_simp; first | done | with_reducible rfl | rfl
                  simp only [Act.put, List.getElem_toArray, List.getElem_cons_zero, List.getElem_cons_succ, List.setIfInBounds_toArray, List.set_cons_zero, List.set_cons_succ]
                  apply s_val
                  case ho => rfl
                  case hw => rfl
                  case hv => intro w hw; obtain ⟨x0, x1, x2, x3⟩ := gr_cells hw.1; obtain ⟨y0, y1, y2, y3⟩ := gr_nums hw.2; go_simp; first | done | with_reducible rfl | rfl
                  simp only [Act.put, List.getElem_toArray, List.getElem_cons_zero, List.getElem_cons_succ, List.setIfInBounds_toArray, List.set_cons_zero, List.set_cons_succ]
                  apply s_val (v := .int .i64 ((i - 1 : Nat) : Int))
                  case ho => rfl
                  case hw => rfl
                  case hv => intro w hw; have q := hwi; go_simp; first | done | with_reducible rfl | rfl
                  simp only [Act.put, List.getElem_toArray, List.getElem_cons_zero, List.getElem_cons_succ, List.setIfInBounds_toArray, List.set_cons_zero, List.set_cons_succ]
                  refine s_idxR tyG rfl rfl (.tmp 43) (.tmp 45) rfl BK off n _ (i - 1) rfl rfl (by omega) ?_
                  simp only [Act.put, List.getElem_toArray, List.getElem_cons_zero, List.getElem_cons_succ, List.setIfInBounds_toArray, List.set_cons_zero, List.set_cons_succ]
                  apply s_val
                  case ho => rfl
                  case hw => rfl
                  case hv => intro w hw; obtain ⟨x0, x1, x2, x3⟩ := gr_cells hw.1; obtain ⟨y0, y1, y2, y3⟩ := gr_nums hw.2; go_simp; first | done | with_reducible rfl | rfl
                  simp only [Act.put, List.getElem_toArray, List.getElem_cons_zero, List.getElem_cons_succ, List.setIfInBounds_toArray, List.set_cons_zero, List.set_cons_succ]
                  apply s_val
                  case ho => rfl
                  case hw => rfl
                  case hv => intro w hw; obtain ⟨x0, x1, x2, x3⟩ := gr_cells hw.1; obtain ⟨y0, y1, y2, y3⟩ := gr_nums hw.2; go_simp; first | done | with_reducible rfl | rfl
                  simp only [Act.put, List.getElem_toArray, List.getElem_cons_zero, List.getElem_cons_succ, List.setIfInBounds_toArray, List.set_cons_zero, List.set_cons_succ]
                  apply s_val
                  case ho => rfl
                  case hw => rfl
                  case hv => intro w hw; obtain ⟨x0, x1, x2, x3⟩ := gr_cells hw.1; obtain ⟨y0, y1, y2, y3⟩ := gr_nums hw.2; go_simp; first | done | with_reducible rfl | rfl
                  simp only [Act.put, List.getElem_toArray, List.getElem_cons_zero, List.getElem_cons_succ, List.setIfInBounds_toArray, List.set_cons_zero, List.set_cons_succ]
                  apply s_val
                  case ho => rfl
                  case hw => rfl
                  case hv => intro w hw; obtain ⟨x0, x1, x2, x3⟩ := gr_cells hw.1; obtain ⟨y0, y1, y2, y3⟩ := gr_nums hw.2; go_simp; first | done | with_reducible rfl | rfl
                  simp only [Act.put, List.getElem_toArray, List.getElem_cons_zero, List.getElem_cons_succ, List.setIfInBounds_toArray, List.set_cons_zero, List.set_cons_succ]
                  apply s_val
                  case ho => rfl
                  case hw => rfl
                  case hv => intro w hw; obtain ⟨x0, x1, x2, x3⟩ := gr_cells hw.1; obtain ⟨y0, y1, y2, y3⟩ := gr_nums hw.2; go_simp; first | done | with_reducible rfl | rfl
                  simp only [Act.put, List.getElem_toArray, List.getElem_cons_zero, List.getElem_cons_succ, List.setIfInBounds_toArray, List.set_cons_zero, List.set_cons_succ]
                  apply s_val
                  case ho => rfl
                  case hw => rfl
                  case hv => intro w hw; obtain ⟨x0, x1, x2, x3⟩ := gr_cells hw.1; obtain ⟨y0, y1, y2, y3⟩ := gr_nums hw.2; go_simp; first | done | with_reducible rfl | rfl
                  simp only [Act.put, List.getElem_toArray, List.getElem_cons_zero, List.getElem_cons_succ, List.setIfInBounds_toArray, List.set_cons_zero, List.set_cons_succ]
                  refine NoPanic.normal ?_
                  have HBZ := HB3
                  go_wp2_with fail
                  go_ret
                  exact ⟨by rw [HF.out]; rfl, HBZ.out⟩
                · have d3 : decide (g.f ≤ p.t) = false := decide_eq_false hs3
                  have HOK2 := hidp (show okTo gs (i + 1) = true from by rw [okTo_succ, HOK.out, HAT.out, hv, hpd]; unfold fol; rw [if_pos hs2, decide_eq_true (show p.t < g.f by omega)]; simp)
                  clear hv
                  go_wp2_with (first | (refine wpL_idxR tyG rfl (.tmp 8) (.tmp 10) rfl BK off n _ i rfl rfl hlt ?_) | (refine wpL_atR tyG rfl (.tmp 13) rfl BK (off + 36 * i) g.row rfl (Gr.len hgok.out) HRI.out ?_) | (refine wpL_newR tyG rfl rfl ?_; intro p4 wq1 n1; have HB1 := hidp (HB.out.trans (n1.below.mono HB.out.size)); have hbw := hidp (Nat.le_trans HB.out.size n1.le); have HR1 := hidp (fun i hi => rangeAt_below (HR.out i hi) n1.below hBK.out); have hBb := hidp (show BK < p4 from by have := n1.at_; have := hBK.out; omega)) | (refine wpL_putR tyG rfl (.tmp 4) (.tmp 14) rfl p4 g.row rfl rfl (Gr.len hgok.out) (Gr.one g) zG rfl n1.arr ?_; intro wq2 ha hp; have HA2 := hidp ha; have HB2 := hidp (hp.below' HB1.out hbw.out); have HR2 := hidp (fun i hi => rangeAt_below (HR1.out i hi) (hp.below p4 (Nat.le_refl _)) hBb.out); clear ha hp n1 HB1 HR1) | (refine wpL_getR tyG rfl (.tmp 4) rfl p4 g.row rfl (Gr.len hgok.out) HA2.out ?_))
                  refine (cv.out _).mono ?_
                  rintro e wq3 ⟨rfl, hb3⟩
                  have HA4 := hidp (HA2.out.below hb3 HA2.out.lt); have HB4 := hidp (HB2.out.trans (hb3.mono HB2.out.size)); have HR4 := hidp (fun i hi => rangeAt_below (HR2.out i hi) hb3 (by have := hBb.out; have := HA2.out.lt; omega))
                  clear hb3 HA2 HB2 HR2
                  go_wp2_with fail
                  obtain ⟨U, hU⟩ : ∃ U, ({ wq3 with drawn := wq3.drawn + 1 } : World) = U := ⟨_, rfl⟩
                  have bU : Below wq3.heap.size wq3 U := by rw [← hU]; exact (Below.refl _ _).drew
                  have HA3 := hidp (HA4.out.below bU HA4.out.lt); have HB3 := hidp (HB4.out.trans (bU.mono HB4.out.size)); have HR3 := hidp (fun i hi => rangeAt_below (HR4.out i hi) bU (by have := hBb.out; have := HA4.out.lt; omega))
                  clear bU HA4 HB4 HR4
                  have HP3 := hidp (show U.rangeAt BK (off + 36 * (i - 1)) p.row from by rw [← hpe.out]; exact HR3.out (i - 1) (by omega))
                  refine wp_region_noPanic ?_
                  refine wp_region_scr (S := fun W => Arr W p4 27 g.row ∧ W.rangeAt BK (off + 36 * (i - 1)) p.row) (.take 0 (.take 1 (.take 2 (.take 3 (.take 4 (.take 5 (.take 6 (.take 7 (.take 8 (.take 9 (.take 10 (.take 11 (.take 12 (.take 13 (.take 14 (.take 15 (.take 16 (.take 17 (.take 18 (.take 19 (.take 20 (.take 21 (.take 22 (.take 23 (.take 24 (.take 25 (.take 26 (.take 27 (.take 28 (.take 29 (.take 30 (.take 31 (.take 32 (.take 33 (.take 34 .done))))))))))))))))))))))))))))))))))) (by kernel_rfl) (by kernel_rfl) (fun _ _ _ _ _ h => h) (by simp [Scr.depth]) (by kernel_rfl) (by rw [hU]; exact ⟨HA3.out, HP3.out⟩) ?_
                  simp only [hU]
                  clear hU
                  apply s_val
                  case ho => rfl
                  case hw => rfl
                  case hv => intro w hw; obtain ⟨x0, x1, x2, x3⟩ := gr_cells hw.1; obtain ⟨y0, y1, y2, y3⟩ := gr_nums hw.2; go_simp; first | done | with_reducible rfl | rfl
                  simp only [Act.put, List.getElem_toArray, List.getElem_cons_zero, List.getElem_cons_succ, List.setIfInBounds_toArray, List.set_cons_zero, List.set_cons_succ]
                  apply s_val
                  case ho => rfl
                  case hw => rfl
                  case hv => intro w hw; obtain ⟨x0, x1, x2, x3⟩ := gr_cells hw.1; obtain ⟨y0, y1, y2, y3⟩ := gr_nums hw.2; go_simp; first | done | with_reducible rfl | rfl
                  simp only [Act.put, List.getElem_toArray, List.getElem_cons_zero, List.getElem_cons_succ, List.setIfInBounds_toArray, List.set_cons_zero, List.set_cons_succ]
                  apply s_val
                  case ho => rfl
                  case hw => rfl
                  case hv => intro w hw; obtain ⟨x0, x1, x2, x3⟩ := gr_cells hw.1; obtain ⟨y0, y1, y2, y3⟩ := gr_nums hw.2; go_simp; first | done | with_reducible rfl | rfl
                  simp only [Act.put, List.getElem_toArray, List.getElem_cons_zero, List.getElem_cons_succ, List.setIfInBounds_toArray, List.set_cons_zero, List.set_cons_succ]
                  apply s_val
                  case ho => rfl
                  case hw => rfl
                  case hv => intro w hw; obtain ⟨x0, x1, x2, x3⟩ := gr_cells hw.1; obtain ⟨y0, y1, y2, y3⟩ := gr_nums hw.2; go_simp; first | done | with_reducible rfl | rfl
                  simp only [Act.put, List.getElem_toArray, List.getElem_cons_zero, List.getElem_cons_succ, List.setIfInBounds_toArray, List.set_cons_zero, List.set_cons_succ]
                  apply s_val
                  case ho => rfl
                  case hw => rfl
                  case hv => intro w hw; obtain ⟨x0, x1, x2, x3⟩ := gr_cells hw.1; obtain ⟨y0, y1, y2, y3⟩ := gr_nums hw.2; go_simp; first | done | with_reducible rfl | rfl
                  simp only [Act.put, List.getElem_toArray, List.getElem_cons_zero, List.getElem_cons_succ, List.setIfInBounds_toArray, List.set_cons_zero, List.set_cons_succ]
                  apply s_val
                  case ho => rfl
                  case hw => rfl
                  case hv => intro w hw; obtain ⟨x0, x1, x2, x3⟩ := gr_cells hw.1; obtain ⟨y0, y1, y2, y3⟩ := gr_nums hw.2; go_simp; first | done | with_reducible rfl | rfl
                  simp only [Act.put, List.getElem_toArray, List.getElem_cons_zero, List.getElem_cons_succ, List.setIfInBounds_toArray, List.set_cons_zero, List.set_cons_succ]
                  apply s_val
                  case ho => rfl
                  case hw => rfl
                  case hv => intro w hw; obtain ⟨x0, x1, x2, x3⟩ := gr_cells hw.1; obtain ⟨y0, y1, y2, y3⟩ := gr_nums hw.2; go_simp; first | done | with_reducible rfl | rfl
                  simp only [Act.put, List.getElem_toArray, List.getElem_cons_zero, List.getElem_cons_succ, List.setIfInBounds_toArray, List.set_cons_zero, List.set_cons_succ]
                  apply s_val (v := .int .i64 ((i - 1 : Nat) : Int))
                  case ho => rfl
                  case hw => rfl
                  case hv => intro w hw; have q := hwi; go_simp; first | done | with_reducible rfl | rfl
                  simp only [Act.put, List.getElem_toArray, List.getElem_cons_zero, List.getElem_cons_succ, List.setIfInBounds_toArray, List.set_cons_zero, List.set_cons_succ]
                  refine s_idxR tyG rfl rfl (.tmp 23) (.tmp 25) rfl BK off n _ (i - 1) rfl rfl (by omega) ?_
                  simp only [Act.put, List.getElem_toArray, List.getElem_cons_zero, List.getElem_cons_succ, List.setIfInBounds_toArray, List.set_cons_zero, List.set_cons_succ]
                  apply s_val
                  case ho => rfl
                  case hw => rfl
                  case hv => intro w hw; obtain ⟨x0, x1, x2, x3⟩ := gr_cells hw.1; obtain ⟨y0, y1, y2, y3⟩ := gr_nums hw.2; go_simp; first | done | with_reducible rfl | rfl
                  simp only [Act.put, List.getElem_toArray, List.getElem_cons_zero, List.getElem_cons_succ, List.setIfInBounds_toArray, List.set_cons_zero, List.set_cons_succ]
                  apply s_val
                  case ho => rfl
                  case hw => rfl
                  case hv => intro w hw; obtain ⟨x0, x1, x2, x3⟩ := gr_cells hw.1; obtain ⟨y0, y1, y2, y3⟩ := gr_nums hw.2; go_simp; first | done | with_reducible rfl | rfl
                  simp only [Act.put, List.getElem_toArray, List.getElem_cons_zero, List.getElem_cons_succ, List.setIfInBounds_toArray, List.set_cons_zero, List.set_cons_succ]
                  apply s_val
                  case ho => rfl
                  case hw => rfl
                  case hv => intro w hw; obtain ⟨x0, x1, x2, x3⟩ := gr_cells hw.1; obtain ⟨y0, y1, y2, y3⟩ := gr_nums hw.2; go_simp; first | done | with_reducible rfl | rfl
                  simp only [Act.put, List.getElem_toArray, List.getElem_cons_zero, List.getElem_cons_succ, List.setIfInBounds_toArray, List.set_cons_zero, List.set_cons_succ]
                  apply s_val
                  case ho => rfl
                  case hw => rfl
                  case hv => intro w hw; obtain ⟨x0, x1, x2, x3⟩ := gr_cells hw.1; obtain ⟨y0, y1, y2, y3⟩ := gr_nums hw.2; go_simp; first | done | with_reducible rfl | rfl
                  simp only [Act.put, List.getElem_toArray, List.getElem_cons_zero, List.getElem_cons_succ, List.setIfInBounds_toArray, List.set_cons_zero, List.set_cons_succ]
                  apply s_val
                  case ho => rfl
                  case hw => rfl
                  case hv => intro w hw; obtain ⟨x0, x1, x2, x3⟩ := gr_cells hw.1; obtain ⟨y0, y1, y2, y3⟩ := gr_nums hw.2; go_simp; first | done | with_reducible rfl | rfl
                  simp only [Act.put, List.getElem_toArray, List.getElem_cons_zero, List.getElem_cons_succ, List.setIfInBounds_toArray, List.set_cons_zero, List.set_cons_succ]
                  apply s_val
                  case ho => rfl
                  case hw => rfl
                  case hv => intro w hw; obtain ⟨x0, x1, x2, x3⟩ := gr_cells hw.1; obtain ⟨y0, y1, y2, y3⟩ := gr_nums hw.2; go_simp; first | done | with_reducible rfl | rfl
                  simp only [Act.put, List.getElem_toArray, List.getElem_cons_zero, List.getElem_cons_succ, List.setIfInBounds_toArray, List.set_cons_zero, List.set_cons_succ]
                  apply s_val
                  case ho => rfl
                  case hw => rfl
                  case hv => intro w hw; obtain ⟨x0, x1, x2, x3⟩ := gr_cells hw.1; obtain ⟨y0, y1, y2, y3⟩ := gr_nums hw.2; go_simp; first | done | with_reducible rfl | rfl
                  simp only [Act.put, List.getElem_toArray, List.getElem_cons_zero, List.getElem_cons_succ, List.setIfInBounds_toArray, List.set_cons_zero, List.set_cons_succ]
                  apply s_val
                  case ho => rfl
                  case hw => rfl
                  case hv => intro w hw; obtain ⟨x0, x1, x2, x3⟩ := gr_cells hw.1; obtain ⟨y0, y1, y2, y3⟩ := gr_nums hw.2; go_simp; first | done | with_reducible rfl | rfl
                  simp only [Act.put, List.getElem_toArray, List.getElem_cons_zero, List.getElem_cons_succ, List.setIfInBounds_toArray, List.set_cons_zero, List.set_cons_succ]
                  apply s_val (v := .int .i64 ((i - 1 : Nat) : Int))
                  case ho => rfl
                  case hw => rfl
                  case hv => intro w hw; have q := hwi; go_simp; first | done | with_reducible rfl | rfl
                  simp only [Act.put, List.getElem_toArray, List.getElem_cons_zero, List.getElem_cons_succ, List.setIfInBounds_toArray, List.set_cons_zero, List.set_cons_succ]
                  refine s_idxR tyG rfl rfl (.tmp 33) (.tmp 35) rfl BK off n _ (i - 1) rfl rfl (by omega) ?_
                  simp only [Act.put, List.getElem_toArray, List.getElem_cons_zero, List.getElem_cons_succ, List.setIfInBounds_toArray, List.set_cons_zero, List.set_cons_succ]
                  apply s_val
                  case ho => rfl
                  case hw => rfl
                  case hv => intro w hw; obtain ⟨x0, x1, x2, x3⟩ := gr_cells hw.1; obtain ⟨y0, y1, y2, y3⟩ := gr_nums hw.2; go_simp; first | done | with_reducible rfl | rfl
                  simp only [Act.put, List.getElem_toArray, List.getElem_cons_zero, List.getElem_cons_succ, List.setIfInBounds_toArray, List.set_cons_zero, List.set_cons_succ]
                  apply s_val
                  case ho => rfl
                  case hw => rfl
                  case hv => intro w hw; obtain ⟨x0, x1, x2, x3⟩ := gr_cells hw.1; obtain ⟨y0, y1, y2, y3⟩ := gr_nums hw.2; go_simp; first | done | with_reducible rfl | rfl
                  simp only [Act.put, List.getElem_toArray, List.getElem_cons_zero, List.getElem_cons_succ, List.setIfInBounds_toArray, List.set_cons_zero, List.set_cons_succ]
                  apply s_val
                  case ho => rfl
                  case hw => rfl
                  case hv => intro w hw; obtain ⟨x0, x1, x2, x3⟩ := gr_cells hw.1; obtain ⟨y0, y1, y2, y3⟩ := gr_nums hw.2; go_simp; first | done | with_reducible rfl | rfl
                  simp only [Act.put, List.getElem_toArray, List.getElem_cons_zero, List.getElem_cons_succ, List.setIfInBounds_toArray, List.set_cons_zero, List.set_cons_succ]
                  apply s_val
                  case ho => rfl
                  case hw => rfl
                  case hv => intro w hw; obtain ⟨x0, x1, x2, x3⟩ := gr_cells hw.1; obtain ⟨y0, y1, y2, y3⟩ := gr_nums hw.2; go_simp; first | done | with_reducible rfl | rfl
                  simp only [Act.put, List.getElem_toArray, List.getElem_cons_zero, List.getElem_cons_succ, List.setIfInBounds_toArray, List.set_cons_zero, List.set_cons_succ]
                  apply s_val
                  case ho => rfl
                  case hw => rfl
                  case hv => intro w hw; obtain ⟨x0, x1, x2, x3⟩ := gr_cells hw.1; obtain ⟨y0, y1, y2, y3⟩ := gr_nums hw.2; go_simp; first | done | with_reducible rfl | rfl
                  simp only [Act.put, List.getElem_toArray, List.getElem_cons_zero, List.getElem_cons_succ, List.setIfInBounds_toArray, List.set_cons_zero, List.set_cons_succ]
                  apply s_val
                  case ho => rfl
                  case hw => rfl
                  case hv => intro w hw; obtain ⟨x0, x1, x2, x3⟩ := gr_cells hw.1; obtain ⟨y0, y1, y2, y3⟩ := gr_nums hw.2; go_simp; first | done | with_reducible rfl | rfl
                  simp only [Act.put, List.getElem_toArray, List.getElem_cons_zero, List.getElem_cons_succ, List.setIfInBounds_toArray, List.set_cons_zero, List.set_cons_succ]
                  apply s_val
                  case ho => rfl
                  case hw => rfl
                  case hv => intro w hw; obtain ⟨x0, x1, x2, x3⟩ := gr_cells hw.1; obtain ⟨y0, y1, y2, y3⟩ := gr_nums hw.2; go_simp; first | done | with_reducible rfl | rfl
                  simp only [Act.put, List.getElem_toArray, List.getElem_cons_zero, List.getElem_cons_succ, List.setIfInBounds_toArray, List.set_cons_zero, List.set_cons_succ]
                  apply s_val
                  case ho => rfl
                  case hw => rfl
                  case hv => intro w hw; obtain ⟨x0, x1, x2, x3⟩ := gr_cells hw.1; obtain ⟨y0, y1, y2, y3⟩ := gr_nums hw.2; go_simp; first | done | with_reducible rfl | rfl
                  simp only [Act.put, List.getElem_toArray, List.getElem_cons_zero, List.getElem_cons_succ, List.setIfInBounds_toArray, List.set_cons_zero, List.set_cons_succ]
                  apply s_val (v := .int .i64 ((i - 1 : Nat) : Int))
                  case ho => rfl
                  case hw => rfl
                  case hv => intro w hw; have q := hwi; go_simp; first | done | with_reducible rfl | rfl
                  simp only [Act.put, List.getElem_toArray, List.getElem_cons_zero, List.getElem_cons_succ, List.setIfInBounds_toArray, List.set_cons_zero, List.set_cons_succ]
                  refine s_idxR tyG rfl rfl (.tmp 43) (.tmp 45) rfl BK off n _ (i - 1) rfl rfl (by omega) ?_
                  simp only [Act.put, List.getElem_toArray, List.getElem_cons_zero, List.getElem_cons_succ, List.setIfInBounds_toArray, List.set_cons_zero, List.set_cons_succ]
                  apply s_val
                  case ho => rfl
                  case hw => rfl
                  case hv => intro w hw; obtain ⟨x0, x1, x2, x3⟩ := gr_cells hw.1; obtain ⟨y0, y1, y2, y3⟩ := gr_nums hw.2; go_simp; first | done | with_reducible rfl | rfl
                  simp only [Act.put, List.getElem_toArray, List.getElem_cons_zero, List.getElem_cons_succ, List.setIfInBounds_toArray, List.set_cons_zero, List.set_cons_succ]
                  apply s_val
                  case ho => rfl
                  case hw => rfl
                  case hv => intro w hw; obtain ⟨x0, x1, x2, x3⟩ := gr_cells hw.1; obtain ⟨y0, y1, y2, y3⟩ := gr_nums hw.2; go_simp; first | done | with_reducible rfl | rfl
                  simp only [Act.put, List.getElem_toArray, List.getElem_cons_zero, List.getElem_cons_succ, List.setIfInBounds_toArray, List.set_cons_zero, List.set_cons_succ]
                  apply s_val
                  case ho => rfl
                  case hw => rfl
                  case hv => intro w hw; obtain ⟨x0, x1, x2, x3⟩ := gr_cells hw.1; obtain ⟨y0, y1, y2, y3⟩ := gr_nums hw.2; go_simp; first | done | with_reducible rfl | rfl
                  simp only [Act.put, List.getElem_toArray, List.getElem_cons_zero, List.getElem_cons_succ, List.setIfInBounds_toArray, List.set_cons_zero, List.set_cons_succ]
                  apply s_val
                  case ho => rfl
                  case hw => rfl
                  case hv => intro w hw; obtain ⟨x0, x1, x2, x3⟩ := gr_cells hw.1; obtain ⟨y0, y1, y2, y3⟩ := gr_nums hw.2; go_simp; first | done | with_reducible rfl | rfl
                  simp only [Act.put, List.getElem_toArray, List.getElem_cons_zero, List.getElem_cons_succ, List.setIfInBounds_toArray, List.set_cons_zero, List.set_cons_succ]
                  apply s_val
                  case ho => rfl
                  case hw => rfl
                  case hv => intro w hw; obtain ⟨x0, x1, x2, x3⟩ := gr_cells hw.1; obtain ⟨y0, y1, y2, y3⟩ := gr_nums hw.2; go_simp; first | done | with_reducible rfl | rfl
                  simp only [Act.put, List.getElem_toArray, List.getElem_cons_zero, List.getElem_cons_succ, List.setIfInBounds_toArray, List.set_cons_zero, List.set_cons_succ]
                  apply s_val
                  case ho => rfl
                  case hw => rfl
                  case hv => intro w hw; obtain ⟨x0, x1, x2, x3⟩ := gr_cells hw.1; obtain ⟨y0, y1, y2, y3⟩ := gr_nums hw.2; go_simp; first | done | with_reducible rfl | rfl
                  simp only [Act.put, List.getElem_toArray, List.getElem_cons_zero, List.getElem_cons_succ, List.setIfInBounds_toArray, List.set_cons_zero, List.set_cons_succ]
                  refine NoPanic.normal ?_
                  have HBZ := HB3
                  have HRZ := hidp (fun i hi => rangeAt_below (HR.out i hi) (Below.refl _ _) hBK.out)
                  go_wp2_with fail
                  exact ⟨⟨i + 1, by go_num, by omega, HOK2.out, HBZ.out⟩, by simp [intOf]; omega⟩
              · have d2 : (g.s == p.s) = false := by simpa using hs2
                have HOK2 := hidp (show okTo gs (i + 1) = true from by rw [okTo_succ, HOK.out, HAT.out, hv, hpd]; unfold fol; rw [if_neg hs2, decide_eq_true (show p.s < g.s by omega)]; simp)
                clear hv
                go_wp2_with (first | (refine wpL_idxR tyG rfl (.tmp 8) (.tmp 10) rfl BK off n _ i rfl rfl hlt ?_) | (refine wpL_atR tyG rfl (.tmp 13) rfl BK (off + 36 * i) g.row rfl (Gr.len hgok.out) HRI.out ?_) | (refine wpL_newR tyG rfl rfl ?_; intro p4 wq1 n1; have HB1 := hidp (HB.out.trans (n1.below.mono HB.out.size)); have hbw := hidp (Nat.le_trans HB.out.size n1.le); have HR1 := hidp (fun i hi => rangeAt_below (HR.out i hi) n1.below hBK.out); have hBb := hidp (show BK < p4 from by have := n1.at_; have := hBK.out; omega)) | (refine wpL_putR tyG rfl (.tmp 4) (.tmp 14) rfl p4 g.row rfl rfl (Gr.len hgok.out) (Gr.one g) zG rfl n1.arr ?_; intro wq2 ha hp; have HA2 := hidp ha; have HB2 := hidp (hp.below' HB1.out hbw.out); have HR2 := hidp (fun i hi => rangeAt_below (HR1.out i hi) (hp.below p4 (Nat.le_refl _)) hBb.out); clear ha hp n1 HB1 HR1) | (refine wpL_getR tyG rfl (.tmp 4) rfl p4 g.row rfl (Gr.len hgok.out) HA2.out ?_))
                refine (cv.out _).mono ?_
                rintro e wq3 ⟨rfl, hb3⟩
                have HA4 := hidp (HA2.out.below hb3 HA2.out.lt); have HB4 := hidp (HB2.out.trans (hb3.mono HB2.out.size)); have HR4 := hidp (fun i hi => rangeAt_below (HR2.out i hi) hb3 (by have := hBb.out; have := HA2.out.lt; omega))
                clear hb3 HA2 HB2 HR2
                go_wp2_with fail
                obtain ⟨U, hU⟩ : ∃ U, ({ wq3 with drawn := wq3.drawn + 1 } : World) = U := ⟨_, rfl⟩
                have bU : Below wq3.heap.size wq3 U := by rw [← hU]; exact (Below.refl _ _).drew
                have HA3 := hidp (HA4.out.below bU HA4.out.lt); have HB3 := hidp (HB4.out.trans (bU.mono HB4.out.size)); have HR3 := hidp (fun i hi => rangeAt_below (HR4.out i hi) bU (by have := hBb.out; have := HA4.out.lt; omega))
                clear bU HA4 HB4 HR4
                have HP3 := hidp (show U.rangeAt BK (off + 36 * (i - 1)) p.row from by rw [← hpe.out]; exact HR3.out (i - 1) (by omega))
                refine wp_region_noPanic ?_
                refine wp_region_scr (S := fun W => Arr W p4 27 g.row ∧ W.rangeAt BK (off + 36 * (i - 1)) p.row) (.take 0 (.take 1 (.take 2 (.take 3 (.take 4 (.take 5 (.take 6 (.take 7 (.take 8 (.take 9 (.take 10 (.take 11 (.take 12 (.take 13 (.take 14 (.take 15 (.take 16 (.take 17 (.take 18 (.take 19 (.take 20 (.take 21 (.take 22 (.take 23 (.take 24 (.take 25 (.take 26 (.take 27 (.take 28 (.take 29 (.take 30 (.take 31 (.take 32 (.take 33 (.take 34 .done))))))))))))))))))))))))))))))))))) (by kernel_rfl) (by kernel_rfl) (fun _ _ _ _ _ h => h) (by simp [Scr.depth]) (by kernel_rfl) (by rw [hU]; exact ⟨HA3.out, HP3.out⟩) ?_
                simp only [hU]
                clear hU
                apply s_val
                case ho => rfl
                case hw => rfl
                case hv => intro w hw; obtain ⟨x0, x1, x2, x3⟩ := gr_cells hw.1; obtain ⟨y0, y1, y2, y3⟩ := gr_nums hw.2; go_simp; first | done | with_reducible rfl | rfl
                simp only [Act.put, List.getElem_toArray, List.getElem_cons_zero, List.getElem_cons_succ, List.setIfInBounds_toArray, List.set_cons_zero, List.set_cons_succ]
                apply s_val
                case ho => rfl
                case hw => rfl
                case hv => intro w hw; obtain ⟨x0, x1, x2, x3⟩ := gr_cells hw.1; obtain ⟨y0, y1, y2, y3⟩ := gr_nums hw.2; go_simp; first | done | with_reducible rfl | rfl
                simp only [Act.put, List.getElem_toArray, List.getElem_cons_zero, List.getElem_cons_succ, List.setIfInBounds_toArray, List.set_cons_zero, List.set_cons_succ]
                apply s_val
                case ho => rfl
                case hw => rfl
                case hv => intro w hw; obtain ⟨x0, x1, x2, x3⟩ := gr_cells hw.1; obtain ⟨y0, y1, y2, y3⟩ := gr_nums hw.2; go_simp; first | done | with_reducible rfl | rfl
                simp only [Act.put, List.getElem_toArray, List.getElem_cons_zero, List.getElem_cons_succ, List.setIfInBounds_toArray, List.set_cons_zero, List.set_cons_succ]
                apply s_val
                case ho => rfl
                case hw => rfl
                case hv => intro w hw; obtain ⟨x0, x1, x2, x3⟩ := gr_cells hw.1; obtain ⟨y0, y1, y2, y3⟩ := gr_nums hw.2; go_simp; first | done | with_reducible rfl | rfl
                simp only [Act.put, List.getElem_toArray, List.getElem_cons_zero, List.getElem_cons_succ, List.setIfInBounds_toArray, List.set_cons_zero, List.set_cons_succ]
                apply s_val
                case ho => rfl
                case hw => rfl
                case hv => intro w hw; obtain ⟨x0, x1, x2, x3⟩ := gr_cells hw.1; obtain ⟨y0, y1, y2, y3⟩ := gr_nums hw.2; go_simp; first | done | with_reducible rfl | rfl
                simp only [Act.put, List.getElem_toArray, List.getElem_cons_zero, List.getElem_cons_succ, List.setIfInBounds_toArray, List.set_cons_zero, List.set_cons_succ]
                apply s_val
                case ho => rfl
                case hw => rfl
                case hv => intro w hw; obtain ⟨x0, x1, x2, x3⟩ := gr_cells hw.1; obtain ⟨y0, y1, y2, y3⟩ := gr_nums hw.2; go_simp; first | done | with_reducible rfl | rfl
                simp only [Act.put, List.getElem_toArray, List.getElem_cons_zero, List.getElem_cons_succ, List.setIfInBounds_toArray, List.set_cons_zero, List.set_cons_succ]
                apply s_val
                case ho => rfl
                case hw => rfl
                case hv => intro w hw; obtain ⟨x0, x1, x2, x3⟩ := gr_cells hw.1; obtain ⟨y0, y1, y2, y3⟩ := gr_nums hw.2; go_simp; first | done | with_reducible rfl | rfl
                simp only [Act.put, List.getElem_toArray, List.getElem_cons_zero, List.getElem_cons_succ, List.setIfInBounds_toArray, List.set_cons_zero, List.set_cons_succ]
                apply s_val (v := .int .i64 ((i - 1 : Nat) : Int))
                case ho => rfl
                case hw => rfl
                case hv => intro w hw; have q := hwi; go_simp; first | done | with_reducible rfl | rfl
                simp only [Act.put, List.getElem_toArray, List.getElem_cons_zero, List.getElem_cons_succ, List.setIfInBounds_toArray, List.set_cons_zero, List.set_cons_succ]
                refine s_idxR tyG rfl rfl (.tmp 23) (.tmp 25) rfl BK off n _ (i - 1) rfl rfl (by omega) ?_
                simp only [Act.put, List.getElem_toArray, List.getElem_cons_zero, List.getElem_cons_succ, List.setIfInBounds_toArray, List.set_cons_zero, List.set_cons_succ]
                apply s_val
                case ho => rfl
                case hw => rfl
                case hv => intro w hw; obtain ⟨x0, x1, x2, x3⟩ := gr_cells hw.1; obtain ⟨y0, y1, y2, y3⟩ := gr_nums hw.2; go_simp; first | done | with_reducible rfl | rfl
                simp only [Act.put, List.getElem_toArray, List.getElem_cons_zero, List.getElem_cons_succ, List.setIfInBounds_toArray, List.set_cons_zero, List.set_cons_succ]
                apply s_val
                case ho => rfl
                case hw => rfl
                case hv => intro w hw; obtain ⟨x0, x1, x2, x3⟩ := gr_cells hw.1; obtain ⟨y0, y1, y2, y3⟩ := gr_nums hw.2; go_simp; first | done | with_reducible rfl | rfl
                simp only [Act.put, List.getElem_toArray, List.getElem_cons_zero, List.getElem_cons_succ, List.setIfInBounds_toArray, List.set_cons_zero, List.set_cons_succ]
                apply s_val
                case ho => rfl
                case hw => rfl
                case hv => intro w hw; obtain ⟨x0, x1, x2, x3⟩ := gr_cells hw.1; obtain ⟨y0, y1, y2, y3⟩ := gr_nums hw.2; go_simp; first | done | with_reducible rfl | rfl
                simp only [Act.put, List.getElem_toArray, List.getElem_cons_zero, List.getElem_cons_succ, List.setIfInBounds_toArray, List.set_cons_zero, List.set_cons_succ]
                apply s_val
                case ho => rfl
                case hw => rfl
                case hv => intro w hw; obtain ⟨x0, x1, x2, x3⟩ := gr_cells hw.1; obtain ⟨y0, y1, y2, y3⟩ := gr_nums hw.2; go_simp; first | done | with_reducible rfl | rfl
                simp only [Act.put, List.getElem_toArray, List.getElem_cons_zero, List.getElem_cons_succ, List.setIfInBounds_toArray, List.set_cons_zero, List.set_cons_succ]
                apply s_val
                case ho => rfl
                case hw => rfl
                case hv => intro w hw; obtain ⟨x0, x1, x2, x3⟩ := gr_cells hw.1; obtain ⟨y0, y1, y2, y3⟩ := gr_nums hw.2; go_simp; first | done | with_reducible rfl | rfl
                simp only [Act.put, List.getElem_toArray, List.getElem_cons_zero, List.getElem_cons_succ, List.setIfInBounds_toArray, List.set_cons_zero, List.set_cons_succ]
                apply s_val
                case ho => rfl
                case hw => rfl
                case hv => intro w hw; obtain ⟨x0, x1, x2, x3⟩ := gr_cells hw.1; obtain ⟨y0, y1, y2, y3⟩ := gr_nums hw.2; go_simp; first | done | with_reducible rfl | rfl
                simp only [Act.put, List.getElem_toArray, List.getElem_cons_zero, List.getElem_cons_succ, List.setIfInBounds_toArray, List.set_cons_zero, List.set_cons_succ]
                apply s_val
                case ho => rfl
                case hw => rfl
                case hv => intro w hw; obtain ⟨x0, x1, x2, x3⟩ := gr_cells hw.1; obtain ⟨y0, y1, y2, y3⟩ := gr_nums hw.2; go_simp; first | done | with_reducible rfl | rfl
                simp only [Act.put, List.getElem_toArray, List.getElem_cons_zero, List.getElem_cons_succ, List.setIfInBounds_toArray, List.set_cons_zero, List.set_cons_succ]
                apply s_val
                case ho => rfl
                case hw => rfl
                case hv => intro w hw; obtain ⟨x0, x1, x2, x3⟩ := gr_cells hw.1; obtain ⟨y0, y1, y2, y3⟩ := gr_nums hw.2; go_simp; first | done | with_reducible rfl | rfl
                simp only [Act.put, List.getElem_toArray, List.getElem_cons_zero, List.getElem_cons_succ, List.setIfInBounds_toArray, List.set_cons_zero, List.set_cons_succ]
                apply s_val (v := .int .i64 ((i - 1 : Nat) : Int))
                case ho => rfl
                case hw => rfl
                case hv => intro w hw; have q := hwi; go_simp; first | done | with_reducible rfl | rfl
                simp only [Act.put, List.getElem_toArray, List.getElem_cons_zero, List.getElem_cons_succ, List.setIfInBounds_toArray, List.set_cons_zero, List.set_cons_succ]
                refine s_idxR tyG rfl rfl (.tmp 33) (.tmp 35) rfl BK off n _ (i - 1) rfl rfl (by omega) ?_
                simp only [Act.put, List.getElem_toArray, List.getElem_cons_zero, List.getElem_cons_succ, List.setIfInBounds_toArray, List.set_cons_zero, List.set_cons_succ]
                apply s_val
                case ho => rfl
                case hw => rfl
                case hv => intro w hw; obtain ⟨x0, x1, x2, x3⟩ := gr_cells hw.1; obtain ⟨y0, y1, y2, y3⟩ := gr_nums hw.2; go_simp; first | done | with_reducible rfl | rfl
                simp only [Act.put, List.getElem_toArray, List.getElem_cons_zero, List.getElem_cons_succ, List.setIfInBounds_toArray, List.set_cons_zero, List.set_cons_succ]
                apply s_val
                case ho => rfl
                case hw => rfl
                case hv => intro w hw; obtain ⟨x0, x1, x2, x3⟩ := gr_cells hw.1; obtain ⟨y0, y1, y2, y3⟩ := gr_nums hw.2; go_simp; first | done | with_reducible rfl | rfl
                simp only [Act.put, List.getElem_toArray, List.getElem_cons_zero, List.getElem_cons_succ, List.setIfInBounds_toArray, List.set_cons_zero, List.set_cons_succ]
                apply s_val
                case ho => rfl
                case hw => rfl
                case hv => intro w hw; obtain ⟨x0, x1, x2, x3⟩ := gr_cells hw.1; obtain ⟨y0, y1, y2, y3⟩ := gr_nums hw.2; go_simp; first | done | with_reducible rfl | rfl
                simp only [Act.put, List.getElem_toArray, List.getElem_cons_zero, List.getElem_cons_succ, List.setIfInBounds_toArray, List.set_cons_zero, List.set_cons_succ]
                apply s_val
                case ho => rfl
                case hw => rfl
                case hv => intro w hw; obtain ⟨x0, x1, x2, x3⟩ := gr_cells hw.1; obtain ⟨y0, y1, y2, y3⟩ := gr_nums hw.2; go_simp; first | done | with_reducible rfl | rfl
                simp only [Act.put, List.getElem_toArray, List.getElem_cons_zero, List.getElem_cons_succ, List.setIfInBounds_toArray, List.set_cons_zero, List.set_cons_succ]
                refine s_skip rfl rfl ?_
                simp only [Act.put, List.getElem_toArray, List.getElem_cons_zero, List.getElem_cons_succ, List.setIfInBounds_toArray, List.set_cons_zero, List.set_cons_succ]
                refine s_skip rfl rfl ?_
                simp only [Act.put, List.getElem_toArray, List.getElem_cons_zero, List.getElem_cons_succ, List.setIfInBounds_toArray, List.set_cons_zero, List.set_cons_succ]
                refine s_skip rfl rfl ?_
                simp only [Act.put, List.getElem_toArray, List.getElem_cons_zero, List.getElem_cons_succ, List.setIfInBounds_toArray, List.set_cons_zero, List.set_cons_succ]
                refine s_skip rfl rfl ?_
                simp only [Act.put, List.getElem_toArray, List.getElem_cons_zero, List.getElem_cons_succ, List.setIfInBounds_toArray, List.set_cons_zero, List.set_cons_succ]
                refine s_skip rfl rfl ?_
                simp only [Act.put, List.getElem_toArray, List.getElem_cons_zero, List.getElem_cons_succ, List.setIfInBounds_toArray, List.set_cons_zero, List.set_cons_succ]
                refine s_skip rfl rfl ?_
                simp only [Act.put, List.getElem_toArray, List.getElem_cons_zero, List.getElem_cons_succ, List.setIfInBounds_toArray, List.set_cons_zero, List.set_cons_succ]
                refine s_skip rfl rfl ?_
                simp only [Act.put, List.getElem_toArray, List.getElem_cons_zero, List.getElem_cons_succ, List.setIfInBounds_toArray, List.set_cons_zero, List.set_cons_succ]
                refine s_skip rfl rfl ?_
                simp only [Act.put, List.getElem_toArray, List.getElem_cons_zero, List.getElem_cons_succ, List.setIfInBounds_toArray, List.set_cons_zero, List.set_cons_succ]
                refine s_skip rfl rfl ?_
                simp only [Act.put, List.getElem_toArray, List.getElem_cons_zero, List.getElem_cons_succ, List.setIfInBounds_toArray, List.set_cons_zero, List.set_cons_succ]
                apply s_val
                case ho => rfl
                case hw => rfl
                case hv => intro w hw; obtain ⟨x0, x1, x2, x3⟩ := gr_cells hw.1; obtain ⟨y0, y1, y2, y3⟩ := gr_nums hw.2; go_simp; first | done | with_reducible rfl | rfl
                simp only [Act.put, List.getElem_toArray, List.getElem_cons_zero, List.getElem_cons_succ, List.setIfInBounds_toArray, List.set_cons_zero, List.set_cons_succ]
                apply s_val
                case ho => rfl
                case hw => rfl
                case hv => intro w hw; obtain ⟨x0, x1, x2, x3⟩ := gr_cells hw.1; obtain ⟨y0, y1, y2, y3⟩ := gr_nums hw.2; go_simp; first | done | with_reducible rfl | rfl
                simp only [Act.put, List.getElem_toArray, List.getElem_cons_zero, List.getElem_cons_succ, List.setIfInBounds_toArray, List.set_cons_zero, List.set_cons_succ]
                apply s_val
                case ho => rfl
                case hw => rfl
                case hv => intro w hw; obtain ⟨x0, x1, x2, x3⟩ := gr_cells hw.1; obtain ⟨y0, y1, y2, y3⟩ := gr_nums hw.2; go_simp; first | done | with_reducible rfl | rfl
                simp only [Act.put, List.getElem_toArray, List.getElem_cons_zero, List.getElem_cons_succ, List.setIfInBounds_toArray, List.set_cons_zero, List.set_cons_succ]
                refine NoPanic.normal ?_
                have HBZ := HB3
                have HRZ := hidp (fun i hi => rangeAt_below (HR.out i hi) (Below.refl _ _) hBK.out)
                go_wp2_with fail
                exact ⟨⟨i + 1, by go_num, by omega, HOK2.out, HBZ.out⟩, by simp [intOf]; omega⟩
      · have e1 : decide ((i : Int) < (n : Int)) = false := by simp; omega
        have hin : i = n := by omega
        have HF := hidp (show ckB gs = 0 from if_pos (by unfold okB; rw [Bool.and_eq_true, decide_eq_true_eq, HN.out]; exact ⟨by omega, by rw [← hin]; exact HOK.out⟩))
        go_wp2_with fail
        go_ret
        exact ⟨by rw [HF.out]; rfl, HB.out⟩
end Go.Proofs.YtbgooppmhgaicaaDoor
