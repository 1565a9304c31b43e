/-
  Joined: GrB.
-/
import Derived.Test.YtfenjincbhkodaaDoorYB
namespace Go.Proofs.YtfenjincbhkodaaDoor
set_option maxRecDepth 100000
set_option linter.unusedVariables false
set_option linter.unusedSimpArgs false
open Go.RowKit Rw

theorem gr_cells {w : World} {b t : Nat} {g : Gr} (h : Arr w b t g.row) : w.cell? ⟨b, 0, none⟩ = some (.int .i64 g.s) ∧ w.cell? ⟨b, 1, none⟩ = some (.int .i64 g.f) ∧ w.cell? ⟨b, 2, none⟩ = some (.int .i64 g.t) ∧ w.cell? ⟨b, 3, none⟩ = some (.int .i64 g.h) :=
  ⟨h.cell 0 (by simp [Gr.row]), h.cell 1 (by simp [Gr.row]), h.cell 2 (by simp [Gr.row]), h.cell 3 (by simp [Gr.row])⟩
/-- A grant is valid. -/
def vG (g : Gr) : Bool := decide (0 ≤ g.s) && decide (g.s ≤ 63) && decide (0 ≤ g.f) && decide (g.f ≤ g.t) && decide (g.t ≤ 1099511627776) && decide (0 ≤ g.h) && decide (g.h ≤ 7)
/-- A grant may stand behind another one. -/
def fol (g a : Gr) : Bool := if g.s = a.s then decide (a.t < g.f) else decide (a.s < g.s)
/-- Two grants meet. -/
def mt (g h : Gr) : Bool := decide (g.s = h.s) && decide (g.f ≤ h.t) && decide (h.f ≤ g.t)

set_option maxHeartbeats 16000000 in
theorem valid_any (w : World) (g : Gr) :
    Calls Tryd.prog 33 #[.agg g.row.toArray] w fun e w' => e = .returned (.bool (vG g)) ∧ Below w.heap.size w w' := by
  by_cases c0 : 0 ≤ g.s
  · have d0 : decide (0 ≤ g.s) = true := decide_eq_true c0
    by_cases c1 : g.s ≤ 63
    · have d1 : decide (g.s ≤ 63) = true := decide_eq_true c1
      by_cases c2 : 0 ≤ g.f
      · have d2 : decide (0 ≤ g.f) = true := decide_eq_true c2
        by_cases c3 : g.f ≤ g.t
        · have d3 : decide (g.f ≤ g.t) = true := decide_eq_true c3
          by_cases c4 : g.t ≤ 1099511627776
          · have d4 : decide (g.t ≤ 1099511627776) = true := decide_eq_true c4
            by_cases c5 : 0 ≤ g.h
            · have d5 : decide (0 ≤ g.h) = true := decide_eq_true c5
              by_cases c6 : g.h ≤ 7
              · have d6 : decide (g.h ≤ 7) = true := decide_eq_true c6
                have HF := hidp (show vG g = true from by unfold vG; simp [*])
                go_enter Tryd.func33, Tryd.ntmps33
                go_wp2_with (refine wpL_boxR 26 rfl _ rfl g.row rfl ?_; intro b1 w1 n1; have HB := hidp n1.below; obtain ⟨x0, x1, x2, x3⟩ := gr_cells n1.arr; clear n1)
                go_ret
                exact ⟨by rw [HF.out]; rfl, HB.out⟩
              · have d6 : decide (g.h ≤ 7) = false := decide_eq_false c6
                have HF := hidp (show vG g = false from by unfold vG; simp [*])
                go_enter Tryd.func33, Tryd.ntmps33
                go_wp2_with (refine wpL_boxR 26 rfl _ rfl g.row rfl ?_; intro b1 w1 n1; have HB := hidp n1.below; obtain ⟨x0, x1, x2, x3⟩ := gr_cells n1.arr; clear n1)
                go_ret
                exact ⟨by rw [HF.out]; rfl, HB.out⟩
            · have d5 : decide (0 ≤ g.h) = false := decide_eq_false c5
              have HF := hidp (show vG g = false from by unfold vG; simp [*])
              go_enter Tryd.func33, Tryd.ntmps33
              go_wp2_with (refine wpL_boxR 26 rfl _ rfl g.row rfl ?_; intro b1 w1 n1; have HB := hidp n1.below; obtain ⟨x0, x1, x2, x3⟩ := gr_cells n1.arr; clear n1)
              go_ret
              exact ⟨by rw [HF.out]; rfl, HB.out⟩
          · have d4 : decide (g.t ≤ 1099511627776) = false := decide_eq_false c4
            have HF := hidp (show vG g = false from by unfold vG; simp [*])
            go_enter Tryd.func33, Tryd.ntmps33
            go_wp2_with (refine wpL_boxR 26 rfl _ rfl g.row rfl ?_; intro b1 w1 n1; have HB := hidp n1.below; obtain ⟨x0, x1, x2, x3⟩ := gr_cells n1.arr; clear n1)
            go_ret
            exact ⟨by rw [HF.out]; rfl, HB.out⟩
        · have d3 : decide (g.f ≤ g.t) = false := decide_eq_false c3
          have HF := hidp (show vG g = false from by unfold vG; simp [*])
          go_enter Tryd.func33, Tryd.ntmps33
          go_wp2_with (refine wpL_boxR 26 rfl _ rfl g.row rfl ?_; intro b1 w1 n1; have HB := hidp n1.below; obtain ⟨x0, x1, x2, x3⟩ := gr_cells n1.arr; clear n1)
          go_ret
          exact ⟨by rw [HF.out]; rfl, HB.out⟩
      · have d2 : decide (0 ≤ g.f) = false := decide_eq_false c2
        have HF := hidp (show vG g = false from by unfold vG; simp [*])
        go_enter Tryd.func33, Tryd.ntmps33
        go_wp2_with (refine wpL_boxR 26 rfl _ rfl g.row rfl ?_; intro b1 w1 n1; have HB := hidp n1.below; obtain ⟨x0, x1, x2, x3⟩ := gr_cells n1.arr; clear n1)
        go_ret
        exact ⟨by rw [HF.out]; rfl, HB.out⟩
    · have d1 : decide (g.s ≤ 63) = false := decide_eq_false c1
      have HF := hidp (show vG g = false from by unfold vG; simp [*])
      go_enter Tryd.func33, Tryd.ntmps33
      go_wp2_with (refine wpL_boxR 26 rfl _ rfl g.row rfl ?_; intro b1 w1 n1; have HB := hidp n1.below; obtain ⟨x0, x1, x2, x3⟩ := gr_cells n1.arr; clear n1)
      go_ret
      exact ⟨by rw [HF.out]; rfl, HB.out⟩
  · have d0 : decide (0 ≤ g.s) = false := decide_eq_false c0
    have HF := hidp (show vG g = false from by unfold vG; simp [*])
    go_enter Tryd.func33, Tryd.ntmps33
    go_wp2_with (refine wpL_boxR 26 rfl _ rfl g.row rfl ?_; intro b1 w1 n1; have HB := hidp n1.below; obtain ⟨x0, x1, x2, x3⟩ := gr_cells n1.arr; clear n1)
    go_ret
    exact ⟨by rw [HF.out]; rfl, HB.out⟩

set_option maxHeartbeats 8000000 in
theorem follows_any (w : World) (g a : Gr) :
    Calls Tryd.prog 39 #[.agg g.row.toArray, .agg a.row.toArray] w fun e w' => e = .returned (.bool (fol g a)) ∧ Below w.heap.size w w' := by
  by_cases h : g.s = a.s
  · have e0 : (g.s != a.s) = false := by simp [h]
    have e00 : (g.s == a.s) = true := by simp [h]
    have HF := hidp (show fol g a = decide (a.t < g.f) from if_pos h)
    obtain ⟨D, hD⟩ : ∃ D, decide (a.t < g.f) = D := ⟨_, rfl⟩
    rw [hD] at HF
    have hD2 : decide (g.f > a.t) = D := hD
    clear h
    go_enter Tryd.func39, Tryd.ntmps39
    go_wp2_with (first | (refine wpL_boxR 26 rfl (.tmp 0) rfl g.row rfl ?_; intro b1 w1 n1) | (refine wpL_boxR 26 rfl (.tmp 1) rfl a.row rfl ?_; intro b2 w2 n2; have HB := hidp (n1.below.trans (n2.below.mono n1.below.size)); obtain ⟨x0, x1, x2, x3⟩ := gr_cells (n2.old n1.arr); obtain ⟨y0, y1, y2, y3⟩ := gr_cells n2.arr; clear n1 n2))
    go_ret
    exact ⟨by rw [HF.out]; rfl, HB.out⟩
  · have e0 : (g.s != a.s) = true := by simpa using h
    have e00 : (g.s == a.s) = false := by simpa using h
    have HF := hidp (show fol g a = decide (a.s < g.s) from if_neg h)
    obtain ⟨D, hD⟩ : ∃ D, decide (a.s < g.s) = D := ⟨_, rfl⟩
    rw [hD] at HF
    have hD2 : decide (g.s > a.s) = D := hD
    go_enter Tryd.func39, Tryd.ntmps39
    go_wp2_with (first | (refine wpL_boxR 26 rfl (.tmp 0) rfl g.row rfl ?_; intro b1 w1 n1) | (refine wpL_boxR 26 rfl (.tmp 1) rfl a.row rfl ?_; intro b2 w2 n2; have HB := hidp (n1.below.trans (n2.below.mono n1.below.size)); obtain ⟨x0, x1, x2, x3⟩ := gr_cells (n2.old n1.arr); obtain ⟨y0, y1, y2, y3⟩ := gr_cells n2.arr; clear n1 n2))
    go_ret
    exact ⟨by rw [HF.out]; rfl, HB.out⟩

set_option maxHeartbeats 8000000 in
theorem meet_any (w : World) (g a : Gr) :
    Calls Tryd.prog 36 #[.agg g.row.toArray, .agg a.row.toArray] w fun e w' => e = .returned (.bool (mt g a)) ∧ Below w.heap.size w w' := by
  by_cases h : g.s = a.s
  · have e0 : (g.s == a.s) = true := by simp [h]
    by_cases c1 : g.f ≤ a.t
    · have d1 : decide (g.f ≤ a.t) = true := decide_eq_true c1
      by_cases c2 : a.f ≤ g.t
      · have d2 : decide (a.f ≤ g.t) = true := decide_eq_true c2
        have HF := hidp (show mt g a = true from by unfold mt; simp [*])
        go_enter Tryd.func36, Tryd.ntmps36
        go_wp2_with (first | (refine wpL_boxR 26 rfl (.tmp 0) rfl g.row rfl ?_; intro b1 w1 n1) | (refine wpL_boxR 26 rfl (.tmp 1) rfl a.row rfl ?_; intro b2 w2 n2; have HB := hidp (n1.below.trans (n2.below.mono n1.below.size)); obtain ⟨x0, x1, x2, x3⟩ := gr_cells (n2.old n1.arr); obtain ⟨y0, y1, y2, y3⟩ := gr_cells n2.arr; clear n1 n2))
        go_ret
        exact ⟨by rw [HF.out]; rfl, HB.out⟩
      · have d2 : decide (a.f ≤ g.t) = false := decide_eq_false c2
        have HF := hidp (show mt g a = false from by unfold mt; simp [*])
        go_enter Tryd.func36, Tryd.ntmps36
        go_wp2_with (first | (refine wpL_boxR 26 rfl (.tmp 0) rfl g.row rfl ?_; intro b1 w1 n1) | (refine wpL_boxR 26 rfl (.tmp 1) rfl a.row rfl ?_; intro b2 w2 n2; have HB := hidp (n1.below.trans (n2.below.mono n1.below.size)); obtain ⟨x0, x1, x2, x3⟩ := gr_cells (n2.old n1.arr); obtain ⟨y0, y1, y2, y3⟩ := gr_cells n2.arr; clear n1 n2))
        go_ret
        exact ⟨by rw [HF.out]; rfl, HB.out⟩
    · have d1 : decide (g.f ≤ a.t) = false := decide_eq_false c1
      have HF := hidp (show mt g a = false from by unfold mt; simp [*])
      go_enter Tryd.func36, Tryd.ntmps36
      go_wp2_with (first | (refine wpL_boxR 26 rfl (.tmp 0) rfl g.row rfl ?_; intro b1 w1 n1) | (refine wpL_boxR 26 rfl (.tmp 1) rfl a.row rfl ?_; intro b2 w2 n2; have HB := hidp (n1.below.trans (n2.below.mono n1.below.size)); obtain ⟨x0, x1, x2, x3⟩ := gr_cells (n2.old n1.arr); obtain ⟨y0, y1, y2, y3⟩ := gr_cells n2.arr; clear n1 n2))
      go_ret
      exact ⟨by rw [HF.out]; rfl, HB.out⟩
  · have e0 : (g.s == a.s) = false := by simpa using h
    have HF := hidp (show mt g a = false from by unfold mt; simp [*])
    go_enter Tryd.func36, Tryd.ntmps36
    go_wp2_with (first | (refine wpL_boxR 26 rfl (.tmp 0) rfl g.row rfl ?_; intro b1 w1 n1) | (refine wpL_boxR 26 rfl (.tmp 1) rfl a.row rfl ?_; intro b2 w2 n2; have HB := hidp (n1.below.trans (n2.below.mono n1.below.size)); obtain ⟨x0, x1, x2, x3⟩ := gr_cells (n2.old n1.arr); obtain ⟨y0, y1, y2, y3⟩ := gr_cells n2.arr; clear n1 n2))
    go_ret
    exact ⟨by rw [HF.out]; rfl, HB.out⟩
end Go.Proofs.YtfenjincbhkodaaDoor
