
/-
  power: Change.
-/
import Derived.Test.YtiakfopdohcigaaGreatDoorPwF
namespace Go.Proofs.YtiakfopdohcigaaGreatDoor
set_option maxRecDepth 100000
set_option linter.unusedVariables false
set_option linter.unusedSimpArgs false
open Go.RowKit Rw Go.Shelf
attribute [local go_sem] Oper.semAt_some


/-- One of the six numbers changes, and is above. -/
def nBad (was is : Lv) (lev : Int) (j : Nat) : Bool := ((sixL was).getD j 0 != (sixL is).getD j 0) && decide (max ((sixL was).getD j 0) ((sixL is).getD j 0) > lev)
/-- Somebody whose level may not be changed so. -/
def uBad (was is : Lv) (u : ByteArray) (lev : Int) (x : ByteArray) : Bool := decide (ofL was x > lev) || ((ofL was x == lev) && (x.toList != u.toList)) || decide (ofL is x > lev)
def chE (was is : Lv) (u : ByteArray) : Int :=
  if (lvOk was && lvOk is) = true then (if (List.range 6).any (nBad was is (ofL was u)) = true then 12 else if (chL was.us is.us).any (uBad was is u (ofL was u)) = true then 12 else 0) else 2
theorem _root_.Go.Proofs.YtiakfopdohcigaaGreatDoor.UsAt.to' {w w' : World} {v : Value} {us : List (ByteArray × Int)} (h : UsAt w v us) (hb : Below w.heap.size w w') : UsAt w' v us := h.to hb
theorem arr1 {w : World} {b T : Nat} {x : Value} (h : Arr w b T [x]) : w.cell? ⟨b, 0, none⟩ = some x := h.cell 0 (by simp)
theorem six_cell {w : World} {b : Nat} {l : Lv} {i : Nat} (h : Arr w b 85 [.int .i64 l.a, .int .i64 l.s, .int .i64 l.i, .int .i64 l.k, .int .i64 l.b, .int .i64 l.r]) (hi : i < 6) : w.cell? ⟨b, i, none⟩ = some (.int .i64 ((sixL l).getD i 0)) := by
  match i, hi with
  | 0, _ => exact h.cell 0 (by simp)
  | 1, _ => exact h.cell 1 (by simp)
  | 2, _ => exact h.cell 2 (by simp)
  | 3, _ => exact h.cell 3 (by simp)
  | 4, _ => exact h.cell 4 (by simp)
  | 5, _ => exact h.cell 5 (by simp)
theorem any_range_succ (f : Nat → Bool) (i : Nat) : (List.range (i + 1)).any f = ((List.range i).any f || f i) := by rw [List.range_succ, List.any_append]; simp
theorem any_range_at {f : Nat → Bool} {i n : Nat} (hi : i < n) (h : f i = true) : (List.range n).any f = true := by rw [List.any_eq_true]; exact ⟨i, by simpa using hi, h⟩
set_option maxHeartbeats 4000000 in
theorem changed_any (w : World) (was is : Lv) (vw vi : Value) :
    Calls Tryz.prog 76 #[.agg #[.int .i64 was.a, .int .i64 was.s, .int .i64 was.i, .int .i64 was.k, .int .i64 was.b, .int .i64 was.r, vw], .agg #[.int .i64 is.a, .int .i64 is.s, .int .i64 is.i, .int .i64 is.k, .int .i64 is.b, .int .i64 is.r, vi]] w fun e w' => ∃ bw bi, e = .returned (.func (.func 118) #[] #[.pointer (some ⟨bw, 0, none⟩), .pointer (some ⟨bi, 0, none⟩)]) ∧ Arr w' bw 37 [.int .i64 was.a, .int .i64 was.s, .int .i64 was.i, .int .i64 was.k, .int .i64 was.b, .int .i64 was.r, vw] ∧ Arr w' bi 37 [.int .i64 is.a, .int .i64 is.s, .int .i64 is.i, .int .i64 is.k, .int .i64 is.b, .int .i64 is.r, vi] ∧ Below w.heap.size w w' := by
  go_enter Tryz.func76, Tryz.ntmps76
  go_wp2_with (first | (refine Rt.wpL_box 37 rfl (.tmp 0) rfl [.int .i64 was.a, .int .i64 was.s, .int .i64 was.i, .int .i64 was.k, .int .i64 was.b, .int .i64 was.r, vw] rfl ?_; intro b1 w1 n1; have HB1 := hidp n1.below; have hg_b1 := hidp n1.le; have HA1 := hidp n1.arr; clear n1) | (refine Rt.wpL_box 37 rfl (.tmp 1) rfl [.int .i64 is.a, .int .i64 is.s, .int .i64 is.i, .int .i64 is.k, .int .i64 is.b, .int .i64 is.r, vi] rfl ?_; intro b2 w2 n2; have HB2 := hidp (HB1.out.trans (n2.below.mono HB1.out.size)); have hg_b2 := hidp (Nat.le_trans HB1.out.size n2.le); have HA2 := hidp (n2.old HA1.out); have hl_HA_b2 := hidp (show b1 < b2 from by have := n2.at_; have := HA1.out.lt; omega); have HC2 := hidp n2.arr; clear n2 HA1 HB1))
  go_ret
  exact ⟨_, _, rfl, HA2.out, HC2.out, HB2.out⟩
theorem OwnAndP {β : Type} {I I' : β → World → Prop} (h : Go.Own I) (h' : Go.Own I') : Go.Own (fun s W => I s W ∧ I' s W) := fun s W W' row hs hg hr => ⟨h s W W' row hs.1 hg hr, h' s W W' row hs.2 hg hr⟩
theorem OwnPureP {β : Type} (p : β → Prop) : Go.Own (fun s (_ : World) => p s) := fun _ _ _ _ hs _ _ => hs
/-- Between two rounds. -/
def ICh (bad : ByteArray → Bool) (w0 : World) (pre : List ByteArray) (W : World) : Prop := pre.any bad = false ∧ Below w0.heap.size w0 W
/-- Where a round has left. -/
def IxCh (bad : ByteArray → Bool) (w : World) (b6 : Nat) (c : Code) (pre : List ByteArray) (W : World) : Prop := ((c = .ret ∧ pre.any bad = true) ∧ Boxed W b6 26 (.int .i64 12)) ∧ Below w.heap.size w W
theorem ICh_own (bad : ByteArray → Bool) (w0 : World) : OwnFrom w0.heap.size (ICh bad w0) := OwnFrom.and (Go.Own.from (OwnPureP fun (pre : List ByteArray) => pre.any bad = false) _) (ownFrom_below (Nat.le_refl _) (Nat.le_refl _))
theorem IxCh_own (bad : ByteArray → Bool) (w : World) (b6 : Nat) (c : Code) (B : Nat) (hB : w.heap.size ≤ B) : OwnFrom B (IxCh bad w b6 c) :=
  OwnFrom.and (Go.Own.from (OwnAndP (OwnPureP fun (pre : List ByteArray) => c = .ret ∧ pre.any bad = true) (boxed_own _ _ _)) _) (ownFrom_below (Nat.le_refl _) hB)
theorem others_below {w W : World} (h : Below w.heap.size w W) : KeepsOthers w W := KeepsOthers.of_grownBy (row := none) ⟨h.os, h.tape, h.output, h.size, fun k hk _ => h.block k hk⟩ (fun j o e => by cases e)

set_option maxHeartbeats 32000000 in
theorem change_any (w : World) (was is : Lv) (vw vi : Value) (u : ByteArray) (hvw : UsAt w vw was.us) (hvi : UsAt w vi is.us) (hP : PT w) :
    Calls Tryz.prog 29 #[.agg #[.int .i64 was.a, .int .i64 was.s, .int .i64 was.i, .int .i64 was.k, .int .i64 was.b, .int .i64 was.r, vw], .agg #[.int .i64 is.a, .int .i64 is.s, .int .i64 is.i, .int .i64 is.k, .int .i64 is.b, .int .i64 is.r, vi], .string u] w fun e w' => e = .returned (.int .i64 (chE was is u)) ∧ Below w.heap.size w w' := by
  have HP := hidp hP; have HVw := hidp hvw; have HVi := hidp hvi
  clear hP hvw hvi
  have cw := hidp (fun W h h' => lvCheck_any W was vw h h'); have ci := hidp (fun W h h' => lvCheck_any W is vi h h')
  cases hw : lvOk was with
  | false =>
    have HF := hidp (show chE was is u = 2 from by unfold chE; rw [hw]; rfl)
    rw [show lvE was = 2 from if_neg (by rw [hw]; exact Bool.false_ne_true)] at cw
    clear hw
    refine (callsIn_wide (n := 8)).1 ?_
    refine callsIn_of_wp_marks Tryz.func29 rfl trivial ?_ rfl
    refine wpIn_wide.2 ?_
    simp only [Tryz.ntmps29, List.size_toArray, List.length_cons, List.length_nil, Nat.reduceAdd, Nat.reduceSub, Array.replicate_succ, Array.replicate_zero, List.push_toArray, List.append_toArray, List.nil_append, List.cons_append]
    go_wp2_with (first | (refine Rt.wpL_box 37 rfl (.tmp 0) rfl [.int .i64 was.a, .int .i64 was.s, .int .i64 was.i, .int .i64 was.k, .int .i64 was.b, .int .i64 was.r, vw] rfl ?_; intro b3 w1 n1; have HB1 := hidp n1.below; have hg_b3 := hidp n1.le; have HA1 := hidp n1.arr; clear n1) | (refine Rt.wpL_box 37 rfl (.tmp 1) rfl [.int .i64 is.a, .int .i64 is.s, .int .i64 is.i, .int .i64 is.k, .int .i64 is.b, .int .i64 is.r, vi] rfl ?_; intro b4 w2 n2; have HB2 := hidp (HB1.out.trans (n2.below.mono HB1.out.size)); have hg_b4 := hidp (Nat.le_trans HB1.out.size n2.le); have HA2 := hidp (n2.old HA1.out); have hl_HA_b4 := hidp (show b3 < b4 from by have := n2.at_; have := HA1.out.lt; omega); have HC2 := hidp n2.arr; clear n2 HA1 HB1) | (refine Rt.wpL_box1 9 rfl (.tmp 2) rfl (.string u) rfl rfl ?_; intro b5 w3 n3; have HB3 := hidp (HB2.out.trans (n3.below.mono HB2.out.size)); have hg_b5 := hidp (Nat.le_trans HB2.out.size n3.le); have HA3 := hidp (n3.old HA2.out); have hl_HA_b5 := hidp (show b3 < b5 from by have := n3.at_; have := HA2.out.lt; omega); have HC3 := hidp (n3.old HC2.out); have hl_HC_b5 := hidp (show b4 < b5 from by have := n3.at_; have := HC2.out.lt; omega); have HU3 := hidp n3.arr; clear n3 HA2 HC2 HB2) | (refine Rt.wpL_new1 26 (.int .i64 0) (some 6) rfl (by kernel_rfl) rfl rfl rfl ?_; intro b6 w4 n4; have HB4 := hidp (HB3.out.trans (n4.below.mono HB3.out.size)); have hg_b6 := hidp (Nat.le_trans HB3.out.size n4.le); have HA4 := hidp (n4.old HA3.out); have hl_HA_b6 := hidp (show b3 < b6 from by have := n4.at_; have := HA3.out.lt; omega); have HC4 := hidp (n4.old HC3.out); have hl_HC_b6 := hidp (show b4 < b6 from by have := n4.at_; have := HC3.out.lt; omega); have HU4 := hidp (n4.old HU3.out); have hl_HU_b6 := hidp (show b5 < b6 from by have := n4.at_; have := HU3.out.lt; omega); have HR4 := hidp n4.arr; clear n4 HA3 HC3 HU3 HB3) | (refine Rt.wpL_get tyL rfl (.tmp 3) rfl b3 [.int .i64 was.a, .int .i64 was.s, .int .i64 was.i, .int .i64 was.k, .int .i64 was.b, .int .i64 was.r, vw] rfl rfl HA4.out ?_) | (go_at_call 22; refine (cw.out _ (HVw.out.to HB4.out) (HP.out.below HB4.out (Nat.le_refl _))).mono ?_; rintro e w5 ⟨rfl, hb⟩; have HB5 := hidp (HB4.out.trans (hb.mono HB4.out.size)); have HA5 := hidp (HA4.out.below hb HA4.out.lt); have HC5 := hidp (HC4.out.below hb HC4.out.lt); have HU5 := hidp (HU4.out.below hb HU4.out.lt); have HR5 := hidp (HR4.out.below hb HR4.out.lt); clear hb HB4 HA4 HC4 HU4 HR4; clear cw) | (refine Rt.wpL_putF rfl 26 (.tmp 6) _ rfl b6 0 (.int .i64 2) rfl rfl (by kernel_rfl) rfl [.int .i64 0] HR5.out (by simp) ?_; intro w6 ha hp; have HB6 := hidp (hp.below' HB5.out hg_b6.out); have HR6 := hidp (show Arr w6 b6 26 [.int .i64 2] from ha); clear ha hp HB5 HR5))
    have er := HR6.out.cell 0 (by simp)
    simp only [List.getElem_cons_zero] at er
    refine ⟨_, by simp [results, Tryz.results29, go_sem, er]; rfl, by rw [HF.out], HB6.out⟩
  | true =>
    rw [show lvE was = 0 from if_pos hw] at cw
    cases hi : lvOk is with
    | false =>
      have HF := hidp (show chE was is u = 2 from by unfold chE; rw [hw, hi]; rfl)
      rw [show lvE is = 2 from if_neg (by rw [hi]; exact Bool.false_ne_true)] at ci
      clear hw hi
      refine (callsIn_wide (n := 8)).1 ?_
      refine callsIn_of_wp_marks Tryz.func29 rfl trivial ?_ rfl
      refine wpIn_wide.2 ?_
      simp only [Tryz.ntmps29, List.size_toArray, List.length_cons, List.length_nil, Nat.reduceAdd, Nat.reduceSub, Array.replicate_succ, Array.replicate_zero, List.push_toArray, List.append_toArray, List.nil_append, List.cons_append]
      go_wp2_with (first | (refine Rt.wpL_box 37 rfl (.tmp 0) rfl [.int .i64 was.a, .int .i64 was.s, .int .i64 was.i, .int .i64 was.k, .int .i64 was.b, .int .i64 was.r, vw] rfl ?_; intro b3 w1 n1; have HB1 := hidp n1.below; have hg_b3 := hidp n1.le; have HA1 := hidp n1.arr; clear n1) | (refine Rt.wpL_box 37 rfl (.tmp 1) rfl [.int .i64 is.a, .int .i64 is.s, .int .i64 is.i, .int .i64 is.k, .int .i64 is.b, .int .i64 is.r, vi] rfl ?_; intro b4 w2 n2; have HB2 := hidp (HB1.out.trans (n2.below.mono HB1.out.size)); have hg_b4 := hidp (Nat.le_trans HB1.out.size n2.le); have HA2 := hidp (n2.old HA1.out); have hl_HA_b4 := hidp (show b3 < b4 from by have := n2.at_; have := HA1.out.lt; omega); have HC2 := hidp n2.arr; clear n2 HA1 HB1) | (refine Rt.wpL_box1 9 rfl (.tmp 2) rfl (.string u) rfl rfl ?_; intro b5 w3 n3; have HB3 := hidp (HB2.out.trans (n3.below.mono HB2.out.size)); have hg_b5 := hidp (Nat.le_trans HB2.out.size n3.le); have HA3 := hidp (n3.old HA2.out); have hl_HA_b5 := hidp (show b3 < b5 from by have := n3.at_; have := HA2.out.lt; omega); have HC3 := hidp (n3.old HC2.out); have hl_HC_b5 := hidp (show b4 < b5 from by have := n3.at_; have := HC2.out.lt; omega); have HU3 := hidp n3.arr; clear n3 HA2 HC2 HB2) | (refine Rt.wpL_new1 26 (.int .i64 0) (some 6) rfl (by kernel_rfl) rfl rfl rfl ?_; intro b6 w4 n4; have HB4 := hidp (HB3.out.trans (n4.below.mono HB3.out.size)); have hg_b6 := hidp (Nat.le_trans HB3.out.size n4.le); have HA4 := hidp (n4.old HA3.out); have hl_HA_b6 := hidp (show b3 < b6 from by have := n4.at_; have := HA3.out.lt; omega); have HC4 := hidp (n4.old HC3.out); have hl_HC_b6 := hidp (show b4 < b6 from by have := n4.at_; have := HC3.out.lt; omega); have HU4 := hidp (n4.old HU3.out); have hl_HU_b6 := hidp (show b5 < b6 from by have := n4.at_; have := HU3.out.lt; omega); have HR4 := hidp n4.arr; clear n4 HA3 HC3 HU3 HB3) | (refine Rt.wpL_get tyL rfl (.tmp 3) rfl b3 [.int .i64 was.a, .int .i64 was.s, .int .i64 was.i, .int .i64 was.k, .int .i64 was.b, .int .i64 was.r, vw] rfl rfl HA4.out ?_) | (go_at_call 22; refine (cw.out _ (HVw.out.to HB4.out) (HP.out.below HB4.out (Nat.le_refl _))).mono ?_; rintro e w5 ⟨rfl, hb⟩; have HB5 := hidp (HB4.out.trans (hb.mono HB4.out.size)); have HA5 := hidp (HA4.out.below hb HA4.out.lt); have HC5 := hidp (HC4.out.below hb HC4.out.lt); have HU5 := hidp (HU4.out.below hb HU4.out.lt); have HR5 := hidp (HR4.out.below hb HR4.out.lt); clear hb HB4 HA4 HC4 HU4 HR4; clear cw) | (refine Rt.wpL_get tyL rfl (.tmp 4) rfl b4 [.int .i64 is.a, .int .i64 is.s, .int .i64 is.i, .int .i64 is.k, .int .i64 is.b, .int .i64 is.r, vi] rfl rfl HC5.out ?_) | (go_at_call 22; refine (ci.out _ (HVi.out.to HB5.out) (HP.out.below HB5.out (Nat.le_refl _))).mono ?_; rintro e w6 ⟨rfl, hb⟩; have HB6 := hidp (HB5.out.trans (hb.mono HB5.out.size)); have HA6 := hidp (HA5.out.below hb HA5.out.lt); have HC6 := hidp (HC5.out.below hb HC5.out.lt); have HU6 := hidp (HU5.out.below hb HU5.out.lt); have HR6 := hidp (HR5.out.below hb HR5.out.lt); clear hb HB5 HA5 HC5 HU5 HR5; clear ci) | (refine Rt.wpL_putF rfl 26 (.tmp 6) _ rfl b6 0 (.int .i64 2) rfl rfl (by kernel_rfl) rfl [.int .i64 0] HR6.out (by simp) ?_; intro w7 ha hp; have HB7 := hidp (hp.below' HB6.out hg_b6.out); have HR7 := hidp (show Arr w7 b6 26 [.int .i64 2] from ha); clear ha hp HB6 HR6))
      have er := HR7.out.cell 0 (by simp)
      simp only [List.getElem_cons_zero] at er
      refine ⟨_, by simp [results, Tryz.results29, go_sem, er]; rfl, by rw [HF.out], HB7.out⟩
    | true =>
      rw [show lvE is = 0 from if_pos hi] at ci
      have cf := hidp (fun W h => of_any W was vw u h)
      obtain ⟨lev, hlev⟩ : ∃ x, ofL was u = x := ⟨_, rfl⟩
      have HE := hidp (show chE was is u = if (List.range 6).any (nBad was is lev) = true then 12 else if (chL was.us is.us).any (uBad was is u lev) = true then 12 else 0 from by unfold chE; rw [hw, hi, hlev]; rfl)
      rw [hlev] at cf
      clear hw hi hlev
      have cnw := hidp (fun W => numbersOf_any W was vw); have cni := hidp (fun W => numbersOf_any W is vi)
      refine (callsIn_wide (n := 8)).1 ?_
      refine callsIn_of_wp_marks Tryz.func29 rfl trivial ?_ rfl
      refine wpIn_wide.2 ?_
      simp only [Tryz.ntmps29, List.size_toArray, List.length_cons, List.length_nil, Nat.reduceAdd, Nat.reduceSub, Array.replicate_succ, Array.replicate_zero, List.push_toArray, List.append_toArray, List.nil_append, List.cons_append]
      go_wp2_with (first | (refine Rt.wpL_box 37 rfl (.tmp 0) rfl [.int .i64 was.a, .int .i64 was.s, .int .i64 was.i, .int .i64 was.k, .int .i64 was.b, .int .i64 was.r, vw] rfl ?_; intro b3 w1 n1; have HB1 := hidp n1.below; have hg_b3 := hidp n1.le; have HA1 := hidp n1.arr; clear n1) | (refine Rt.wpL_box 37 rfl (.tmp 1) rfl [.int .i64 is.a, .int .i64 is.s, .int .i64 is.i, .int .i64 is.k, .int .i64 is.b, .int .i64 is.r, vi] rfl ?_; intro b4 w2 n2; have HB2 := hidp (HB1.out.trans (n2.below.mono HB1.out.size)); have hg_b4 := hidp (Nat.le_trans HB1.out.size n2.le); have HA2 := hidp (n2.old HA1.out); have hl_HA_b4 := hidp (show b3 < b4 from by have := n2.at_; have := HA1.out.lt; omega); have HC2 := hidp n2.arr; clear n2 HA1 HB1) | (refine Rt.wpL_box1 9 rfl (.tmp 2) rfl (.string u) rfl rfl ?_; intro b5 w3 n3; have HB3 := hidp (HB2.out.trans (n3.below.mono HB2.out.size)); have hg_b5 := hidp (Nat.le_trans HB2.out.size n3.le); have HA3 := hidp (n3.old HA2.out); have hl_HA_b5 := hidp (show b3 < b5 from by have := n3.at_; have := HA2.out.lt; omega); have HC3 := hidp (n3.old HC2.out); have hl_HC_b5 := hidp (show b4 < b5 from by have := n3.at_; have := HC2.out.lt; omega); have HU3 := hidp n3.arr; clear n3 HA2 HC2 HB2) | (refine Rt.wpL_new1 26 (.int .i64 0) (some 6) rfl (by kernel_rfl) rfl rfl rfl ?_; intro b6 w4 n4; have HB4 := hidp (HB3.out.trans (n4.below.mono HB3.out.size)); have hg_b6 := hidp (Nat.le_trans HB3.out.size n4.le); have HA4 := hidp (n4.old HA3.out); have hl_HA_b6 := hidp (show b3 < b6 from by have := n4.at_; have := HA3.out.lt; omega); have HC4 := hidp (n4.old HC3.out); have hl_HC_b6 := hidp (show b4 < b6 from by have := n4.at_; have := HC3.out.lt; omega); have HU4 := hidp (n4.old HU3.out); have hl_HU_b6 := hidp (show b5 < b6 from by have := n4.at_; have := HU3.out.lt; omega); have HR4 := hidp n4.arr; clear n4 HA3 HC3 HU3 HB3) | (refine Rt.wpL_get tyL rfl (.tmp 3) rfl b3 [.int .i64 was.a, .int .i64 was.s, .int .i64 was.i, .int .i64 was.k, .int .i64 was.b, .int .i64 was.r, vw] rfl rfl HA4.out ?_) | (go_at_call 22; refine (cw.out _ (HVw.out.to HB4.out) (HP.out.below HB4.out (Nat.le_refl _))).mono ?_; rintro e w5 ⟨rfl, hb⟩; have HB5 := hidp (HB4.out.trans (hb.mono HB4.out.size)); have HA5 := hidp (HA4.out.below hb HA4.out.lt); have HC5 := hidp (HC4.out.below hb HC4.out.lt); have HU5 := hidp (HU4.out.below hb HU4.out.lt); have HR5 := hidp (HR4.out.below hb HR4.out.lt); clear hb HB4 HA4 HC4 HU4 HR4; clear cw) | (refine Rt.wpL_get tyL rfl (.tmp 4) rfl b4 [.int .i64 is.a, .int .i64 is.s, .int .i64 is.i, .int .i64 is.k, .int .i64 is.b, .int .i64 is.r, vi] rfl rfl HC5.out ?_) | (go_at_call 22; refine (ci.out _ (HVi.out.to HB5.out) (HP.out.below HB5.out (Nat.le_refl _))).mono ?_; rintro e w6 ⟨rfl, hb⟩; have HB6 := hidp (HB5.out.trans (hb.mono HB5.out.size)); have HA6 := hidp (HA5.out.below hb HA5.out.lt); have HC6 := hidp (HC5.out.below hb HC5.out.lt); have HU6 := hidp (HU5.out.below hb HU5.out.lt); have HR6 := hidp (HR5.out.below hb HR5.out.lt); clear hb HB5 HA5 HC5 HU5 HR5; clear ci; have xu := arr1 HU6.out) | (refine Rt.wpL_get tyL rfl (.tmp 3) rfl b3 [.int .i64 was.a, .int .i64 was.s, .int .i64 was.i, .int .i64 was.k, .int .i64 was.b, .int .i64 was.r, vw] rfl rfl HA6.out ?_) | (go_at_call 27; refine (cf.out _ (HVw.out.to HB6.out)).mono ?_; rintro e w7 ⟨rfl, hb⟩; have HB7 := hidp (HB6.out.trans (hb.mono HB6.out.size)); have HA7 := hidp (HA6.out.below hb HA6.out.lt); have HC7 := hidp (HC6.out.below hb HC6.out.lt); have HU7 := hidp (HU6.out.below hb HU6.out.lt); have HR7 := hidp (HR6.out.below hb HR6.out.lt); clear hb HB6 HA6 HC6 HU6 HR6; clear xu) | (refine Rt.wpL_new1 3 (.int .i64 0) (some 7) rfl (by kernel_rfl) rfl rfl rfl ?_; intro b7 w8 n8; have HB8 := hidp (HB7.out.trans (n8.below.mono HB7.out.size)); have hg_b7 := hidp (Nat.le_trans HB7.out.size n8.le); have HA8 := hidp (n8.old HA7.out); have hl_HA_b7 := hidp (show b3 < b7 from by have := n8.at_; have := HA7.out.lt; omega); have HC8 := hidp (n8.old HC7.out); have hl_HC_b7 := hidp (show b4 < b7 from by have := n8.at_; have := HC7.out.lt; omega); have HU8 := hidp (n8.old HU7.out); have hl_HU_b7 := hidp (show b5 < b7 from by have := n8.at_; have := HU7.out.lt; omega); have HR8 := hidp (n8.old HR7.out); have hl_HR_b7 := hidp (show b6 < b7 from by have := n8.at_; have := HR7.out.lt; omega); have HL8 := hidp n8.arr; clear n8 HA7 HC7 HU7 HR7 HB7) | (refine Rt.wpL_putF rfl 3 (.tmp 7) _ rfl b7 0 (.int .i64 lev) rfl rfl (by kernel_rfl) rfl [.int .i64 0] HL8.out (by simp) ?_; intro w9 ha hp; have HB9 := hidp (hp.below' HB8.out hg_b7.out); have HL9 := hidp (show Arr w9 b7 3 [.int .i64 lev] from ha); have HA9 := hidp (hp.arr (by have := hl_HA_b7.out; omega) HA8.out); have HC9 := hidp (hp.arr (by have := hl_HC_b7.out; omega) HC8.out); have HU9 := hidp (hp.arr (by have := hl_HU_b7.out; omega) HU8.out); have HR9 := hidp (hp.arr (by have := hl_HR_b7.out; omega) HR8.out); clear ha hp HB8 HL8 HA8 HC8 HU8 HR8))
      have HAl := hidp HA9.out.lt; have HCl := hidp HC9.out.lt
      refine Rt.wp_cut2 (fun a b c => (((((((a.put (some 24) (.agg #[.int .i64 was.a, .int .i64 was.s, .int .i64 was.i, .int .i64 was.k, .int .i64 was.b, .int .i64 was.r, vw])).put (some 25) (.agg #[.int .i64 was.a, .int .i64 was.s, .int .i64 was.i, .int .i64 was.k, .int .i64 was.b, .int .i64 was.r])).put (some 26) (.agg #[.int .i64 is.a, .int .i64 is.s, .int .i64 is.i, .int .i64 is.k, .int .i64 is.b, .int .i64 is.r, vi])).put (some 27) (.agg #[.int .i64 is.a, .int .i64 is.s, .int .i64 is.i, .int .i64 is.k, .int .i64 is.b, .int .i64 is.r])).put (some 8) (.pointer (some ⟨b, 0, none⟩))).put (some 9) (.pointer (some ⟨c, 0, none⟩))).put none undef).put none undef) (fun b8 b9 W => Arr W b8 85 [.int .i64 was.a, .int .i64 was.s, .int .i64 was.i, .int .i64 was.k, .int .i64 was.b, .int .i64 was.r] ∧ Arr W b9 85 [.int .i64 is.a, .int .i64 is.s, .int .i64 is.i, .int .i64 is.k, .int .i64 is.b, .int .i64 is.r] ∧ Below w9.heap.size w9 W) ?_ ?_
      · obtain ⟨X0, hU⟩ : ∃ U, ({ w9 with drawn := w9.drawn + 1 } : World) = U := ⟨_, rfl⟩
        have bU : Below w9.heap.size w9 X0 := by rw [← hU]; exact (Below.refl _ _).drew
        have HBx0 := hidp bU
        have HS0 := hidp (show Arr X0 b3 37 [.int .i64 was.a, .int .i64 was.s, .int .i64 was.i, .int .i64 was.k, .int .i64 was.b, .int .i64 was.r, vw] ∧ Arr X0 b4 37 [.int .i64 is.a, .int .i64 is.s, .int .i64 is.i, .int .i64 is.k, .int .i64 is.b, .int .i64 is.r, vi] from ⟨HA9.out.below bU HAl.out, HC9.out.below bU HCl.out⟩)
        clear bU
        refine wp_region_scr (S := fun W => Arr W b3 37 [.int .i64 was.a, .int .i64 was.s, .int .i64 was.i, .int .i64 was.k, .int .i64 was.b, .int .i64 was.r, vw] ∧ Arr W b4 37 [.int .i64 is.a, .int .i64 is.s, .int .i64 is.i, .int .i64 is.k, .int .i64 is.b, .int .i64 is.r, vi]) (.take 0 (.take 2 (.three 1 (.three 3 (.two 4 (.one 5 (.one 6 (.one 7 .done))) 5 (.one 4 (.one 6 (.one 7 .done)))) 4 (.two 3 (.one 5 (.one 6 (.one 7 .done))) 5 (.one 3 (.one 6 (.one 7 .done)))) 5 (.two 3 (.one 4 (.one 6 (.one 7 .done))) 4 (.one 3 (.one 6 (.one 7 .done))))) 4 (.two 1 (.two 3 (.one 5 (.one 6 (.one 7 .done))) 5 (.one 3 (.one 6 (.one 7 .done)))) 5 (.one 1 (.one 3 (.one 6 (.one 7 .done))))) 5 (.two 1 (.two 3 (.one 4 (.one 6 (.one 7 .done))) 4 (.one 3 (.one 6 (.one 7 .done)))) 4 (.one 1 (.one 3 (.one 6 (.one 7 .done)))))))) (by kernel_rfl) (by kernel_rfl) (fun _ _ _ _ _ h => by cases h.1) (by simp [Scr.depth]) (by kernel_rfl) (by rw [hU]; exact HS0.out) ?_
        simp only [hU]
        clear hU
        refine Rt.s_get tyL rfl rfl (.tmp 3) rfl b3 [.int .i64 was.a, .int .i64 was.s, .int .i64 was.i, .int .i64 was.k, .int .i64 was.b, .int .i64 was.r, vw] rfl rfl (fun w h => h.1) ?_
        simp only [Act.put, List.getElem_toArray, List.getElem_cons_zero, List.getElem_cons_succ, List.setIfInBounds_toArray, List.set_cons_zero, List.set_cons_succ]
        refine Rt.s_get tyL rfl rfl (.tmp 4) rfl b4 [.int .i64 is.a, .int .i64 is.s, .int .i64 is.i, .int .i64 is.k, .int .i64 is.b, .int .i64 is.r, vi] rfl rfl (fun w h => h.2) ?_
        simp only [Act.put, List.getElem_toArray, List.getElem_cons_zero, List.getElem_cons_succ, List.setIfInBounds_toArray, List.set_cons_zero, List.set_cons_succ]
        refine ⟨?_, ?_, ?_⟩
        · apply o_call (f := 60) (args := #[.agg #[.int .i64 was.a, .int .i64 was.s, .int .i64 was.i, .int .i64 was.k, .int .i64 was.b, .int .i64 was.r, vw]]) (v := .agg #[.int .i64 was.a, .int .i64 was.s, .int .i64 was.i, .int .i64 was.k, .int .i64 was.b, .int .i64 was.r]) (hc := cnw.out _)
          case ho => rfl
          case hw => rfl
          case hop => go_simp; first | done | rfl
          rintro X1 hb
          have HBx1 := hidp (HBx0.out.trans (hb.mono HBx0.out.size)); have HS1 := hidp (show Arr X1 b3 37 [.int .i64 was.a, .int .i64 was.s, .int .i64 was.i, .int .i64 was.k, .int .i64 was.b, .int .i64 was.r, vw] ∧ Arr X1 b4 37 [.int .i64 is.a, .int .i64 is.s, .int .i64 is.i, .int .i64 is.k, .int .i64 is.b, .int .i64 is.r, vi] from ⟨HS0.out.1.below hb HS0.out.1.lt, HS0.out.2.below hb HS0.out.2.lt⟩)
          refine ⟨HS1.out, ?_⟩
          clear hb HBx0 HS0 
          simp only [Act.put, List.getElem_toArray, List.getElem_cons_zero, List.getElem_cons_succ, List.setIfInBounds_toArray, List.set_cons_zero, List.set_cons_succ]
          refine ⟨?_, ?_, ?_⟩
          · apply o_call (f := 60) (args := #[.agg #[.int .i64 is.a, .int .i64 is.s, .int .i64 is.i, .int .i64 is.k, .int .i64 is.b, .int .i64 is.r, vi]]) (v := .agg #[.int .i64 is.a, .int .i64 is.s, .int .i64 is.i, .int .i64 is.k, .int .i64 is.b, .int .i64 is.r]) (hc := cni.out _)
            case ho => rfl
            case hw => rfl
            case hop => go_simp; first | done | rfl
            rintro X2 hb
            have HBx2 := hidp (HBx1.out.trans (hb.mono HBx1.out.size)); have HS2 := hidp (show Arr X2 b3 37 [.int .i64 was.a, .int .i64 was.s, .int .i64 was.i, .int .i64 was.k, .int .i64 was.b, .int .i64 was.r, vw] ∧ Arr X2 b4 37 [.int .i64 is.a, .int .i64 is.s, .int .i64 is.i, .int .i64 is.k, .int .i64 is.b, .int .i64 is.r, vi] from ⟨HS1.out.1.below hb HS1.out.1.lt, HS1.out.2.below hb HS1.out.2.lt⟩)
            refine ⟨HS2.out, ?_⟩
            clear hb HBx1 HS1 
            simp only [Act.put, List.getElem_toArray, List.getElem_cons_zero, List.getElem_cons_succ, List.setIfInBounds_toArray, List.set_cons_zero, List.set_cons_succ]
            refine ⟨?_, ?_⟩
            · refine Rt.o_new tyN rfl rfl rfl ?_
              intro b8 X3 n1
              have hb := n1.below
              have HBx3 := hidp (HBx2.out.trans (hb.mono HBx2.out.size)); have HS3 := hidp (show Arr X3 b3 37 [.int .i64 was.a, .int .i64 was.s, .int .i64 was.i, .int .i64 was.k, .int .i64 was.b, .int .i64 was.r, vw] ∧ Arr X3 b4 37 [.int .i64 is.a, .int .i64 is.s, .int .i64 is.i, .int .i64 is.k, .int .i64 is.b, .int .i64 is.r, vi] from ⟨HS2.out.1.below hb HS2.out.1.lt, HS2.out.2.below hb HS2.out.2.lt⟩)
              have H83 := hidp n1.arr
              have hg8 := hidp (show w9.heap.size ≤ b8 from by have := HBx2.out.size; have := n1.le; omega)
              refine ⟨HS3.out, ?_⟩
              clear hb HBx2 HS2  n1
              simp only [Act.put, List.getElem_toArray, List.getElem_cons_zero, List.getElem_cons_succ, List.setIfInBounds_toArray, List.set_cons_zero, List.set_cons_succ]
              refine Rt.o_new tyN rfl rfl rfl ?_
              intro b9 X4 n1
              have hb := n1.below
              have HBx4 := hidp (HBx3.out.trans (hb.mono HBx3.out.size)); have HS4 := hidp (show Arr X4 b3 37 [.int .i64 was.a, .int .i64 was.s, .int .i64 was.i, .int .i64 was.k, .int .i64 was.b, .int .i64 was.r, vw] ∧ Arr X4 b4 37 [.int .i64 is.a, .int .i64 is.s, .int .i64 is.i, .int .i64 is.k, .int .i64 is.b, .int .i64 is.r, vi] from ⟨HS3.out.1.below hb HS3.out.1.lt, HS3.out.2.below hb HS3.out.2.lt⟩); have H84 := hidp (H83.out.below hb H83.out.lt)
              have H94 := hidp n1.arr
              have hg9 := hidp (show w9.heap.size ≤ b9 from by have := HBx3.out.size; have := n1.le; omega)
              have h89 := hidp (show b8 ≠ b9 from by have := H83.out.lt; have := n1.at_; omega)
              refine ⟨HS4.out, ?_⟩
              clear hb HBx3 HS3 H83 n1
              simp only [Act.put, List.getElem_toArray, List.getElem_cons_zero, List.getElem_cons_succ, List.setIfInBounds_toArray, List.set_cons_zero, List.set_cons_succ]
              refine Rt.o_put tyN rfl rfl (.tmp 8) (.tmp 25) rfl b8 [.int .i64 was.a, .int .i64 was.s, .int .i64 was.i, .int .i64 was.k, .int .i64 was.b, .int .i64 was.r] rfl rfl rfl (by simp [Value.oneCell']) zN rfl H84.out ?_
              intro X5 ha hp
              have HBx5 := hidp (hp.below' HBx4.out hg8.out)
              have HS5 := hidp (show Arr X5 b3 37 [.int .i64 was.a, .int .i64 was.s, .int .i64 was.i, .int .i64 was.k, .int .i64 was.b, .int .i64 was.r, vw] ∧ Arr X5 b4 37 [.int .i64 is.a, .int .i64 is.s, .int .i64 is.i, .int .i64 is.k, .int .i64 is.b, .int .i64 is.r, vi] from ⟨hp.arr (by have := HAl.out; have := hg8.out; omega) HS4.out.1, hp.arr (by have := HCl.out; have := hg8.out; omega) HS4.out.2⟩)
              have H85 := hidp ha
              have H95 := hidp (hp.arr h89.out.symm H94.out)
              refine ⟨HS5.out, ?_⟩
              clear ha hp HBx4 HS4 H84 H94
              simp only [Act.put, List.getElem_toArray, List.getElem_cons_zero, List.getElem_cons_succ, List.setIfInBounds_toArray, List.set_cons_zero, List.set_cons_succ]
              refine Rt.o_put tyN rfl rfl (.tmp 9) (.tmp 27) rfl b9 [.int .i64 is.a, .int .i64 is.s, .int .i64 is.i, .int .i64 is.k, .int .i64 is.b, .int .i64 is.r] rfl rfl rfl (by simp [Value.oneCell']) zN rfl H95.out ?_
              intro X6 ha hp
              have HBx6 := hidp (hp.below' HBx5.out hg9.out)
              have HS6 := hidp (show Arr X6 b3 37 [.int .i64 was.a, .int .i64 was.s, .int .i64 was.i, .int .i64 was.k, .int .i64 was.b, .int .i64 was.r, vw] ∧ Arr X6 b4 37 [.int .i64 is.a, .int .i64 is.s, .int .i64 is.i, .int .i64 is.k, .int .i64 is.b, .int .i64 is.r, vi] from ⟨hp.arr (by have := HAl.out; have := hg9.out; omega) HS5.out.1, hp.arr (by have := HCl.out; have := hg9.out; omega) HS5.out.2⟩)
              have H96 := hidp ha
              have H86 := hidp (hp.arr h89.out H85.out)
              refine ⟨HS6.out, ?_⟩
              clear ha hp HBx5 HS5 H85 H95
              simp only [Act.put, List.getElem_toArray, List.getElem_cons_zero, List.getElem_cons_succ, List.setIfInBounds_toArray, List.set_cons_zero, List.set_cons_succ]
              exact ⟨rfl, b8, b9, rfl, H86.out, H96.out, HBx6.out⟩
            · refine Rt.o_new tyN rfl rfl rfl ?_
              intro b9 X3 n1
              have hb := n1.below
              have HBx3 := hidp (HBx2.out.trans (hb.mono HBx2.out.size)); have HS3 := hidp (show Arr X3 b3 37 [.int .i64 was.a, .int .i64 was.s, .int .i64 was.i, .int .i64 was.k, .int .i64 was.b, .int .i64 was.r, vw] ∧ Arr X3 b4 37 [.int .i64 is.a, .int .i64 is.s, .int .i64 is.i, .int .i64 is.k, .int .i64 is.b, .int .i64 is.r, vi] from ⟨HS2.out.1.below hb HS2.out.1.lt, HS2.out.2.below hb HS2.out.2.lt⟩)
              have H93 := hidp n1.arr
              have hg9 := hidp (show w9.heap.size ≤ b9 from by have := HBx2.out.size; have := n1.le; omega)
              refine ⟨HS3.out, ?_⟩
              clear hb HBx2 HS2  n1
              simp only [Act.put, List.getElem_toArray, List.getElem_cons_zero, List.getElem_cons_succ, List.setIfInBounds_toArray, List.set_cons_zero, List.set_cons_succ]
              refine Rt.o_new tyN rfl rfl rfl ?_
              intro b8 X4 n1
              have hb := n1.below
              have HBx4 := hidp (HBx3.out.trans (hb.mono HBx3.out.size)); have HS4 := hidp (show Arr X4 b3 37 [.int .i64 was.a, .int .i64 was.s, .int .i64 was.i, .int .i64 was.k, .int .i64 was.b, .int .i64 was.r, vw] ∧ Arr X4 b4 37 [.int .i64 is.a, .int .i64 is.s, .int .i64 is.i, .int .i64 is.k, .int .i64 is.b, .int .i64 is.r, vi] from ⟨HS3.out.1.below hb HS3.out.1.lt, HS3.out.2.below hb HS3.out.2.lt⟩); have H94 := hidp (H93.out.below hb H93.out.lt)
              have H84 := hidp n1.arr
              have hg8 := hidp (show w9.heap.size ≤ b8 from by have := HBx3.out.size; have := n1.le; omega)
              have h89 := hidp (show b8 ≠ b9 from by have := H93.out.lt; have := n1.at_; omega)
              refine ⟨HS4.out, ?_⟩
              clear hb HBx3 HS3 H93 n1
              simp only [Act.put, List.getElem_toArray, List.getElem_cons_zero, List.getElem_cons_succ, List.setIfInBounds_toArray, List.set_cons_zero, List.set_cons_succ]
              refine Rt.o_put tyN rfl rfl (.tmp 8) (.tmp 25) rfl b8 [.int .i64 was.a, .int .i64 was.s, .int .i64 was.i, .int .i64 was.k, .int .i64 was.b, .int .i64 was.r] rfl rfl rfl (by simp [Value.oneCell']) zN rfl H84.out ?_
              intro X5 ha hp
              have HBx5 := hidp (hp.below' HBx4.out hg8.out)
              have HS5 := hidp (show Arr X5 b3 37 [.int .i64 was.a, .int .i64 was.s, .int .i64 was.i, .int .i64 was.k, .int .i64 was.b, .int .i64 was.r, vw] ∧ Arr X5 b4 37 [.int .i64 is.a, .int .i64 is.s, .int .i64 is.i, .int .i64 is.k, .int .i64 is.b, .int .i64 is.r, vi] from ⟨hp.arr (by have := HAl.out; have := hg8.out; omega) HS4.out.1, hp.arr (by have := HCl.out; have := hg8.out; omega) HS4.out.2⟩)
              have H85 := hidp ha
              have H95 := hidp (hp.arr h89.out.symm H94.out)
              refine ⟨HS5.out, ?_⟩
              clear ha hp HBx4 HS4 H84 H94
              simp only [Act.put, List.getElem_toArray, List.getElem_cons_zero, List.getElem_cons_succ, List.setIfInBounds_toArray, List.set_cons_zero, List.set_cons_succ]
              refine Rt.o_put tyN rfl rfl (.tmp 9) (.tmp 27) rfl b9 [.int .i64 is.a, .int .i64 is.s, .int .i64 is.i, .int .i64 is.k, .int .i64 is.b, .int .i64 is.r] rfl rfl rfl (by simp [Value.oneCell']) zN rfl H95.out ?_
              intro X6 ha hp
              have HBx6 := hidp (hp.below' HBx5.out hg9.out)
              have HS6 := hidp (show Arr X6 b3 37 [.int .i64 was.a, .int .i64 was.s, .int .i64 was.i, .int .i64 was.k, .int .i64 was.b, .int .i64 was.r, vw] ∧ Arr X6 b4 37 [.int .i64 is.a, .int .i64 is.s, .int .i64 is.i, .int .i64 is.k, .int .i64 is.b, .int .i64 is.r, vi] from ⟨hp.arr (by have := HAl.out; have := hg9.out; omega) HS5.out.1, hp.arr (by have := HCl.out; have := hg9.out; omega) HS5.out.2⟩)
              have H96 := hidp ha
              have H86 := hidp (hp.arr h89.out H85.out)
              refine ⟨HS6.out, ?_⟩
              clear ha hp HBx5 HS5 H85 H95
              simp only [Act.put, List.getElem_toArray, List.getElem_cons_zero, List.getElem_cons_succ, List.setIfInBounds_toArray, List.set_cons_zero, List.set_cons_succ]
              exact ⟨rfl, b8, b9, rfl, H86.out, H96.out, HBx6.out⟩
          · refine Rt.o_new tyN rfl rfl rfl ?_
            intro b8 X2 n1
            have hb := n1.below
            have HBx2 := hidp (HBx1.out.trans (hb.mono HBx1.out.size)); have HS2 := hidp (show Arr X2 b3 37 [.int .i64 was.a, .int .i64 was.s, .int .i64 was.i, .int .i64 was.k, .int .i64 was.b, .int .i64 was.r, vw] ∧ Arr X2 b4 37 [.int .i64 is.a, .int .i64 is.s, .int .i64 is.i, .int .i64 is.k, .int .i64 is.b, .int .i64 is.r, vi] from ⟨HS1.out.1.below hb HS1.out.1.lt, HS1.out.2.below hb HS1.out.2.lt⟩)
            have H82 := hidp n1.arr
            have hg8 := hidp (show w9.heap.size ≤ b8 from by have := HBx1.out.size; have := n1.le; omega)
            refine ⟨HS2.out, ?_⟩
            clear hb HBx1 HS1  n1
            simp only [Act.put, List.getElem_toArray, List.getElem_cons_zero, List.getElem_cons_succ, List.setIfInBounds_toArray, List.set_cons_zero, List.set_cons_succ]
            refine ⟨?_, ?_⟩
            · apply o_call (f := 60) (args := #[.agg #[.int .i64 is.a, .int .i64 is.s, .int .i64 is.i, .int .i64 is.k, .int .i64 is.b, .int .i64 is.r, vi]]) (v := .agg #[.int .i64 is.a, .int .i64 is.s, .int .i64 is.i, .int .i64 is.k, .int .i64 is.b, .int .i64 is.r]) (hc := cni.out _)
              case ho => rfl
              case hw => rfl
              case hop => go_simp; first | done | rfl
              rintro X3 hb
              have HBx3 := hidp (HBx2.out.trans (hb.mono HBx2.out.size)); have HS3 := hidp (show Arr X3 b3 37 [.int .i64 was.a, .int .i64 was.s, .int .i64 was.i, .int .i64 was.k, .int .i64 was.b, .int .i64 was.r, vw] ∧ Arr X3 b4 37 [.int .i64 is.a, .int .i64 is.s, .int .i64 is.i, .int .i64 is.k, .int .i64 is.b, .int .i64 is.r, vi] from ⟨HS2.out.1.below hb HS2.out.1.lt, HS2.out.2.below hb HS2.out.2.lt⟩); have H83 := hidp (H82.out.below hb H82.out.lt)
              refine ⟨HS3.out, ?_⟩
              clear hb HBx2 HS2 H82
              simp only [Act.put, List.getElem_toArray, List.getElem_cons_zero, List.getElem_cons_succ, List.setIfInBounds_toArray, List.set_cons_zero, List.set_cons_succ]
              refine Rt.o_new tyN rfl rfl rfl ?_
              intro b9 X4 n1
              have hb := n1.below
              have HBx4 := hidp (HBx3.out.trans (hb.mono HBx3.out.size)); have HS4 := hidp (show Arr X4 b3 37 [.int .i64 was.a, .int .i64 was.s, .int .i64 was.i, .int .i64 was.k, .int .i64 was.b, .int .i64 was.r, vw] ∧ Arr X4 b4 37 [.int .i64 is.a, .int .i64 is.s, .int .i64 is.i, .int .i64 is.k, .int .i64 is.b, .int .i64 is.r, vi] from ⟨HS3.out.1.below hb HS3.out.1.lt, HS3.out.2.below hb HS3.out.2.lt⟩); have H84 := hidp (H83.out.below hb H83.out.lt)
              have H94 := hidp n1.arr
              have hg9 := hidp (show w9.heap.size ≤ b9 from by have := HBx3.out.size; have := n1.le; omega)
              have h89 := hidp (show b8 ≠ b9 from by have := H83.out.lt; have := n1.at_; omega)
              refine ⟨HS4.out, ?_⟩
              clear hb HBx3 HS3 H83 n1
              simp only [Act.put, List.getElem_toArray, List.getElem_cons_zero, List.getElem_cons_succ, List.setIfInBounds_toArray, List.set_cons_zero, List.set_cons_succ]
              refine Rt.o_put tyN rfl rfl (.tmp 8) (.tmp 25) rfl b8 [.int .i64 was.a, .int .i64 was.s, .int .i64 was.i, .int .i64 was.k, .int .i64 was.b, .int .i64 was.r] rfl rfl rfl (by simp [Value.oneCell']) zN rfl H84.out ?_
              intro X5 ha hp
              have HBx5 := hidp (hp.below' HBx4.out hg8.out)
              have HS5 := hidp (show Arr X5 b3 37 [.int .i64 was.a, .int .i64 was.s, .int .i64 was.i, .int .i64 was.k, .int .i64 was.b, .int .i64 was.r, vw] ∧ Arr X5 b4 37 [.int .i64 is.a, .int .i64 is.s, .int .i64 is.i, .int .i64 is.k, .int .i64 is.b, .int .i64 is.r, vi] from ⟨hp.arr (by have := HAl.out; have := hg8.out; omega) HS4.out.1, hp.arr (by have := HCl.out; have := hg8.out; omega) HS4.out.2⟩)
              have H85 := hidp ha
              have H95 := hidp (hp.arr h89.out.symm H94.out)
              refine ⟨HS5.out, ?_⟩
              clear ha hp HBx4 HS4 H84 H94
              simp only [Act.put, List.getElem_toArray, List.getElem_cons_zero, List.getElem_cons_succ, List.setIfInBounds_toArray, List.set_cons_zero, List.set_cons_succ]
              refine Rt.o_put tyN rfl rfl (.tmp 9) (.tmp 27) rfl b9 [.int .i64 is.a, .int .i64 is.s, .int .i64 is.i, .int .i64 is.k, .int .i64 is.b, .int .i64 is.r] rfl rfl rfl (by simp [Value.oneCell']) zN rfl H95.out ?_
              intro X6 ha hp
              have HBx6 := hidp (hp.below' HBx5.out hg9.out)
              have HS6 := hidp (show Arr X6 b3 37 [.int .i64 was.a, .int .i64 was.s, .int .i64 was.i, .int .i64 was.k, .int .i64 was.b, .int .i64 was.r, vw] ∧ Arr X6 b4 37 [.int .i64 is.a, .int .i64 is.s, .int .i64 is.i, .int .i64 is.k, .int .i64 is.b, .int .i64 is.r, vi] from ⟨hp.arr (by have := HAl.out; have := hg9.out; omega) HS5.out.1, hp.arr (by have := HCl.out; have := hg9.out; omega) HS5.out.2⟩)
              have H96 := hidp ha
              have H86 := hidp (hp.arr h89.out H85.out)
              refine ⟨HS6.out, ?_⟩
              clear ha hp HBx5 HS5 H85 H95
              simp only [Act.put, List.getElem_toArray, List.getElem_cons_zero, List.getElem_cons_succ, List.setIfInBounds_toArray, List.set_cons_zero, List.set_cons_succ]
              exact ⟨rfl, b8, b9, rfl, H86.out, H96.out, HBx6.out⟩
            · refine Rt.o_new tyN rfl rfl rfl ?_
              intro b9 X3 n1
              have hb := n1.below
              have HBx3 := hidp (HBx2.out.trans (hb.mono HBx2.out.size)); have HS3 := hidp (show Arr X3 b3 37 [.int .i64 was.a, .int .i64 was.s, .int .i64 was.i, .int .i64 was.k, .int .i64 was.b, .int .i64 was.r, vw] ∧ Arr X3 b4 37 [.int .i64 is.a, .int .i64 is.s, .int .i64 is.i, .int .i64 is.k, .int .i64 is.b, .int .i64 is.r, vi] from ⟨HS2.out.1.below hb HS2.out.1.lt, HS2.out.2.below hb HS2.out.2.lt⟩); have H83 := hidp (H82.out.below hb H82.out.lt)
              have H93 := hidp n1.arr
              have hg9 := hidp (show w9.heap.size ≤ b9 from by have := HBx2.out.size; have := n1.le; omega)
              have h89 := hidp (show b8 ≠ b9 from by have := H82.out.lt; have := n1.at_; omega)
              refine ⟨HS3.out, ?_⟩
              clear hb HBx2 HS2 H82 n1
              simp only [Act.put, List.getElem_toArray, List.getElem_cons_zero, List.getElem_cons_succ, List.setIfInBounds_toArray, List.set_cons_zero, List.set_cons_succ]
              apply o_call (f := 60) (args := #[.agg #[.int .i64 is.a, .int .i64 is.s, .int .i64 is.i, .int .i64 is.k, .int .i64 is.b, .int .i64 is.r, vi]]) (v := .agg #[.int .i64 is.a, .int .i64 is.s, .int .i64 is.i, .int .i64 is.k, .int .i64 is.b, .int .i64 is.r]) (hc := cni.out _)
              case ho => rfl
              case hw => rfl
              case hop => go_simp; first | done | rfl
              rintro X4 hb
              have HBx4 := hidp (HBx3.out.trans (hb.mono HBx3.out.size)); have HS4 := hidp (show Arr X4 b3 37 [.int .i64 was.a, .int .i64 was.s, .int .i64 was.i, .int .i64 was.k, .int .i64 was.b, .int .i64 was.r, vw] ∧ Arr X4 b4 37 [.int .i64 is.a, .int .i64 is.s, .int .i64 is.i, .int .i64 is.k, .int .i64 is.b, .int .i64 is.r, vi] from ⟨HS3.out.1.below hb HS3.out.1.lt, HS3.out.2.below hb HS3.out.2.lt⟩); have H84 := hidp (H83.out.below hb H83.out.lt); have H94 := hidp (H93.out.below hb H93.out.lt)
              refine ⟨HS4.out, ?_⟩
              clear hb HBx3 HS3 H83 H93
              simp only [Act.put, List.getElem_toArray, List.getElem_cons_zero, List.getElem_cons_succ, List.setIfInBounds_toArray, List.set_cons_zero, List.set_cons_succ]
              refine Rt.o_put tyN rfl rfl (.tmp 8) (.tmp 25) rfl b8 [.int .i64 was.a, .int .i64 was.s, .int .i64 was.i, .int .i64 was.k, .int .i64 was.b, .int .i64 was.r] rfl rfl rfl (by simp [Value.oneCell']) zN rfl H84.out ?_
              intro X5 ha hp
              have HBx5 := hidp (hp.below' HBx4.out hg8.out)
              have HS5 := hidp (show Arr X5 b3 37 [.int .i64 was.a, .int .i64 was.s, .int .i64 was.i, .int .i64 was.k, .int .i64 was.b, .int .i64 was.r, vw] ∧ Arr X5 b4 37 [.int .i64 is.a, .int .i64 is.s, .int .i64 is.i, .int .i64 is.k, .int .i64 is.b, .int .i64 is.r, vi] from ⟨hp.arr (by have := HAl.out; have := hg8.out; omega) HS4.out.1, hp.arr (by have := HCl.out; have := hg8.out; omega) HS4.out.2⟩)
              have H85 := hidp ha
              have H95 := hidp (hp.arr h89.out.symm H94.out)
              refine ⟨HS5.out, ?_⟩
              clear ha hp HBx4 HS4 H84 H94
              simp only [Act.put, List.getElem_toArray, List.getElem_cons_zero, List.getElem_cons_succ, List.setIfInBounds_toArray, List.set_cons_zero, List.set_cons_succ]
              refine Rt.o_put tyN rfl rfl (.tmp 9) (.tmp 27) rfl b9 [.int .i64 is.a, .int .i64 is.s, .int .i64 is.i, .int .i64 is.k, .int .i64 is.b, .int .i64 is.r] rfl rfl rfl (by simp [Value.oneCell']) zN rfl H95.out ?_
              intro X6 ha hp
              have HBx6 := hidp (hp.below' HBx5.out hg9.out)
              have HS6 := hidp (show Arr X6 b3 37 [.int .i64 was.a, .int .i64 was.s, .int .i64 was.i, .int .i64 was.k, .int .i64 was.b, .int .i64 was.r, vw] ∧ Arr X6 b4 37 [.int .i64 is.a, .int .i64 is.s, .int .i64 is.i, .int .i64 is.k, .int .i64 is.b, .int .i64 is.r, vi] from ⟨hp.arr (by have := HAl.out; have := hg9.out; omega) HS5.out.1, hp.arr (by have := HCl.out; have := hg9.out; omega) HS5.out.2⟩)
              have H96 := hidp ha
              have H86 := hidp (hp.arr h89.out H85.out)
              refine ⟨HS6.out, ?_⟩
              clear ha hp HBx5 HS5 H85 H95
              simp only [Act.put, List.getElem_toArray, List.getElem_cons_zero, List.getElem_cons_succ, List.setIfInBounds_toArray, List.set_cons_zero, List.set_cons_succ]
              exact ⟨rfl, b8, b9, rfl, H86.out, H96.out, HBx6.out⟩
          · refine Rt.o_new tyN rfl rfl rfl ?_
            intro b9 X2 n1
            have hb := n1.below
            have HBx2 := hidp (HBx1.out.trans (hb.mono HBx1.out.size)); have HS2 := hidp (show Arr X2 b3 37 [.int .i64 was.a, .int .i64 was.s, .int .i64 was.i, .int .i64 was.k, .int .i64 was.b, .int .i64 was.r, vw] ∧ Arr X2 b4 37 [.int .i64 is.a, .int .i64 is.s, .int .i64 is.i, .int .i64 is.k, .int .i64 is.b, .int .i64 is.r, vi] from ⟨HS1.out.1.below hb HS1.out.1.lt, HS1.out.2.below hb HS1.out.2.lt⟩)
            have H92 := hidp n1.arr
            have hg9 := hidp (show w9.heap.size ≤ b9 from by have := HBx1.out.size; have := n1.le; omega)
            refine ⟨HS2.out, ?_⟩
            clear hb HBx1 HS1  n1
            simp only [Act.put, List.getElem_toArray, List.getElem_cons_zero, List.getElem_cons_succ, List.setIfInBounds_toArray, List.set_cons_zero, List.set_cons_succ]
            refine ⟨?_, ?_⟩
            · apply o_call (f := 60) (args := #[.agg #[.int .i64 is.a, .int .i64 is.s, .int .i64 is.i, .int .i64 is.k, .int .i64 is.b, .int .i64 is.r, vi]]) (v := .agg #[.int .i64 is.a, .int .i64 is.s, .int .i64 is.i, .int .i64 is.k, .int .i64 is.b, .int .i64 is.r]) (hc := cni.out _)
              case ho => rfl
              case hw => rfl
              case hop => go_simp; first | done | rfl
              rintro X3 hb
              have HBx3 := hidp (HBx2.out.trans (hb.mono HBx2.out.size)); have HS3 := hidp (show Arr X3 b3 37 [.int .i64 was.a, .int .i64 was.s, .int .i64 was.i, .int .i64 was.k, .int .i64 was.b, .int .i64 was.r, vw] ∧ Arr X3 b4 37 [.int .i64 is.a, .int .i64 is.s, .int .i64 is.i, .int .i64 is.k, .int .i64 is.b, .int .i64 is.r, vi] from ⟨HS2.out.1.below hb HS2.out.1.lt, HS2.out.2.below hb HS2.out.2.lt⟩); have H93 := hidp (H92.out.below hb H92.out.lt)
              refine ⟨HS3.out, ?_⟩
              clear hb HBx2 HS2 H92
              simp only [Act.put, List.getElem_toArray, List.getElem_cons_zero, List.getElem_cons_succ, List.setIfInBounds_toArray, List.set_cons_zero, List.set_cons_succ]
              refine Rt.o_new tyN rfl rfl rfl ?_
              intro b8 X4 n1
              have hb := n1.below
              have HBx4 := hidp (HBx3.out.trans (hb.mono HBx3.out.size)); have HS4 := hidp (show Arr X4 b3 37 [.int .i64 was.a, .int .i64 was.s, .int .i64 was.i, .int .i64 was.k, .int .i64 was.b, .int .i64 was.r, vw] ∧ Arr X4 b4 37 [.int .i64 is.a, .int .i64 is.s, .int .i64 is.i, .int .i64 is.k, .int .i64 is.b, .int .i64 is.r, vi] from ⟨HS3.out.1.below hb HS3.out.1.lt, HS3.out.2.below hb HS3.out.2.lt⟩); have H94 := hidp (H93.out.below hb H93.out.lt)
              have H84 := hidp n1.arr
              have hg8 := hidp (show w9.heap.size ≤ b8 from by have := HBx3.out.size; have := n1.le; omega)
              have h89 := hidp (show b8 ≠ b9 from by have := H93.out.lt; have := n1.at_; omega)
              refine ⟨HS4.out, ?_⟩
              clear hb HBx3 HS3 H93 n1
              simp only [Act.put, List.getElem_toArray, List.getElem_cons_zero, List.getElem_cons_succ, List.setIfInBounds_toArray, List.set_cons_zero, List.set_cons_succ]
              refine Rt.o_put tyN rfl rfl (.tmp 8) (.tmp 25) rfl b8 [.int .i64 was.a, .int .i64 was.s, .int .i64 was.i, .int .i64 was.k, .int .i64 was.b, .int .i64 was.r] rfl rfl rfl (by simp [Value.oneCell']) zN rfl H84.out ?_
              intro X5 ha hp
              have HBx5 := hidp (hp.below' HBx4.out hg8.out)
              have HS5 := hidp (show Arr X5 b3 37 [.int .i64 was.a, .int .i64 was.s, .int .i64 was.i, .int .i64 was.k, .int .i64 was.b, .int .i64 was.r, vw] ∧ Arr X5 b4 37 [.int .i64 is.a, .int .i64 is.s, .int .i64 is.i, .int .i64 is.k, .int .i64 is.b, .int .i64 is.r, vi] from ⟨hp.arr (by have := HAl.out; have := hg8.out; omega) HS4.out.1, hp.arr (by have := HCl.out; have := hg8.out; omega) HS4.out.2⟩)
              have H85 := hidp ha
              have H95 := hidp (hp.arr h89.out.symm H94.out)
              refine ⟨HS5.out, ?_⟩
              clear ha hp HBx4 HS4 H84 H94
              simp only [Act.put, List.getElem_toArray, List.getElem_cons_zero, List.getElem_cons_succ, List.setIfInBounds_toArray, List.set_cons_zero, List.set_cons_succ]
              refine Rt.o_put tyN rfl rfl (.tmp 9) (.tmp 27) rfl b9 [.int .i64 is.a, .int .i64 is.s, .int .i64 is.i, .int .i64 is.k, .int .i64 is.b, .int .i64 is.r] rfl rfl rfl (by simp [Value.oneCell']) zN rfl H95.out ?_
              intro X6 ha hp
              have HBx6 := hidp (hp.below' HBx5.out hg9.out)
              have HS6 := hidp (show Arr X6 b3 37 [.int .i64 was.a, .int .i64 was.s, .int .i64 was.i, .int .i64 was.k, .int .i64 was.b, .int .i64 was.r, vw] ∧ Arr X6 b4 37 [.int .i64 is.a, .int .i64 is.s, .int .i64 is.i, .int .i64 is.k, .int .i64 is.b, .int .i64 is.r, vi] from ⟨hp.arr (by have := HAl.out; have := hg9.out; omega) HS5.out.1, hp.arr (by have := HCl.out; have := hg9.out; omega) HS5.out.2⟩)
              have H96 := hidp ha
              have H86 := hidp (hp.arr h89.out H85.out)
              refine ⟨HS6.out, ?_⟩
              clear ha hp HBx5 HS5 H85 H95
              simp only [Act.put, List.getElem_toArray, List.getElem_cons_zero, List.getElem_cons_succ, List.setIfInBounds_toArray, List.set_cons_zero, List.set_cons_succ]
              exact ⟨rfl, b8, b9, rfl, H86.out, H96.out, HBx6.out⟩
            · refine Rt.o_new tyN rfl rfl rfl ?_
              intro b8 X3 n1
              have hb := n1.below
              have HBx3 := hidp (HBx2.out.trans (hb.mono HBx2.out.size)); have HS3 := hidp (show Arr X3 b3 37 [.int .i64 was.a, .int .i64 was.s, .int .i64 was.i, .int .i64 was.k, .int .i64 was.b, .int .i64 was.r, vw] ∧ Arr X3 b4 37 [.int .i64 is.a, .int .i64 is.s, .int .i64 is.i, .int .i64 is.k, .int .i64 is.b, .int .i64 is.r, vi] from ⟨HS2.out.1.below hb HS2.out.1.lt, HS2.out.2.below hb HS2.out.2.lt⟩); have H93 := hidp (H92.out.below hb H92.out.lt)
              have H83 := hidp n1.arr
              have hg8 := hidp (show w9.heap.size ≤ b8 from by have := HBx2.out.size; have := n1.le; omega)
              have h89 := hidp (show b8 ≠ b9 from by have := H92.out.lt; have := n1.at_; omega)
              refine ⟨HS3.out, ?_⟩
              clear hb HBx2 HS2 H92 n1
              simp only [Act.put, List.getElem_toArray, List.getElem_cons_zero, List.getElem_cons_succ, List.setIfInBounds_toArray, List.set_cons_zero, List.set_cons_succ]
              apply o_call (f := 60) (args := #[.agg #[.int .i64 is.a, .int .i64 is.s, .int .i64 is.i, .int .i64 is.k, .int .i64 is.b, .int .i64 is.r, vi]]) (v := .agg #[.int .i64 is.a, .int .i64 is.s, .int .i64 is.i, .int .i64 is.k, .int .i64 is.b, .int .i64 is.r]) (hc := cni.out _)
              case ho => rfl
              case hw => rfl
              case hop => go_simp; first | done | rfl
              rintro X4 hb
              have HBx4 := hidp (HBx3.out.trans (hb.mono HBx3.out.size)); have HS4 := hidp (show Arr X4 b3 37 [.int .i64 was.a, .int .i64 was.s, .int .i64 was.i, .int .i64 was.k, .int .i64 was.b, .int .i64 was.r, vw] ∧ Arr X4 b4 37 [.int .i64 is.a, .int .i64 is.s, .int .i64 is.i, .int .i64 is.k, .int .i64 is.b, .int .i64 is.r, vi] from ⟨HS3.out.1.below hb HS3.out.1.lt, HS3.out.2.below hb HS3.out.2.lt⟩); have H84 := hidp (H83.out.below hb H83.out.lt); have H94 := hidp (H93.out.below hb H93.out.lt)
              refine ⟨HS4.out, ?_⟩
              clear hb HBx3 HS3 H83 H93
              simp only [Act.put, List.getElem_toArray, List.getElem_cons_zero, List.getElem_cons_succ, List.setIfInBounds_toArray, List.set_cons_zero, List.set_cons_succ]
              refine Rt.o_put tyN rfl rfl (.tmp 8) (.tmp 25) rfl b8 [.int .i64 was.a, .int .i64 was.s, .int .i64 was.i, .int .i64 was.k, .int .i64 was.b, .int .i64 was.r] rfl rfl rfl (by simp [Value.oneCell']) zN rfl H84.out ?_
              intro X5 ha hp
              have HBx5 := hidp (hp.below' HBx4.out hg8.out)
              have HS5 := hidp (show Arr X5 b3 37 [.int .i64 was.a, .int .i64 was.s, .int .i64 was.i, .int .i64 was.k, .int .i64 was.b, .int .i64 was.r, vw] ∧ Arr X5 b4 37 [.int .i64 is.a, .int .i64 is.s, .int .i64 is.i, .int .i64 is.k, .int .i64 is.b, .int .i64 is.r, vi] from ⟨hp.arr (by have := HAl.out; have := hg8.out; omega) HS4.out.1, hp.arr (by have := HCl.out; have := hg8.out; omega) HS4.out.2⟩)
              have H85 := hidp ha
              have H95 := hidp (hp.arr h89.out.symm H94.out)
              refine ⟨HS5.out, ?_⟩
              clear ha hp HBx4 HS4 H84 H94
              simp only [Act.put, List.getElem_toArray, List.getElem_cons_zero, List.getElem_cons_succ, List.setIfInBounds_toArray, List.set_cons_zero, List.set_cons_succ]
              refine Rt.o_put tyN rfl rfl (.tmp 9) (.tmp 27) rfl b9 [.int .i64 is.a, .int .i64 is.s, .int .i64 is.i, .int .i64 is.k, .int .i64 is.b, .int .i64 is.r] rfl rfl rfl (by simp [Value.oneCell']) zN rfl H95.out ?_
              intro X6 ha hp
              have HBx6 := hidp (hp.below' HBx5.out hg9.out)
              have HS6 := hidp (show Arr X6 b3 37 [.int .i64 was.a, .int .i64 was.s, .int .i64 was.i, .int .i64 was.k, .int .i64 was.b, .int .i64 was.r, vw] ∧ Arr X6 b4 37 [.int .i64 is.a, .int .i64 is.s, .int .i64 is.i, .int .i64 is.k, .int .i64 is.b, .int .i64 is.r, vi] from ⟨hp.arr (by have := HAl.out; have := hg9.out; omega) HS5.out.1, hp.arr (by have := HCl.out; have := hg9.out; omega) HS5.out.2⟩)
              have H96 := hidp ha
              have H86 := hidp (hp.arr h89.out H85.out)
              refine ⟨HS6.out, ?_⟩
              clear ha hp HBx5 HS5 H85 H95
              simp only [Act.put, List.getElem_toArray, List.getElem_cons_zero, List.getElem_cons_succ, List.setIfInBounds_toArray, List.set_cons_zero, List.set_cons_succ]
              exact ⟨rfl, b8, b9, rfl, H86.out, H96.out, HBx6.out⟩
        · refine Rt.o_new tyN rfl rfl rfl ?_
          intro b8 X1 n1
          have hb := n1.below
          have HBx1 := hidp (HBx0.out.trans (hb.mono HBx0.out.size)); have HS1 := hidp (show Arr X1 b3 37 [.int .i64 was.a, .int .i64 was.s, .int .i64 was.i, .int .i64 was.k, .int .i64 was.b, .int .i64 was.r, vw] ∧ Arr X1 b4 37 [.int .i64 is.a, .int .i64 is.s, .int .i64 is.i, .int .i64 is.k, .int .i64 is.b, .int .i64 is.r, vi] from ⟨HS0.out.1.below hb HS0.out.1.lt, HS0.out.2.below hb HS0.out.2.lt⟩)
          have H81 := hidp n1.arr
          have hg8 := hidp (show w9.heap.size ≤ b8 from by have := HBx0.out.size; have := n1.le; omega)
          refine ⟨HS1.out, ?_⟩
          clear hb HBx0 HS0  n1
          simp only [Act.put, List.getElem_toArray, List.getElem_cons_zero, List.getElem_cons_succ, List.setIfInBounds_toArray, List.set_cons_zero, List.set_cons_succ]
          refine ⟨?_, ?_⟩
          · apply o_call (f := 60) (args := #[.agg #[.int .i64 was.a, .int .i64 was.s, .int .i64 was.i, .int .i64 was.k, .int .i64 was.b, .int .i64 was.r, vw]]) (v := .agg #[.int .i64 was.a, .int .i64 was.s, .int .i64 was.i, .int .i64 was.k, .int .i64 was.b, .int .i64 was.r]) (hc := cnw.out _)
            case ho => rfl
            case hw => rfl
            case hop => go_simp; first | done | rfl
            rintro X2 hb
            have HBx2 := hidp (HBx1.out.trans (hb.mono HBx1.out.size)); have HS2 := hidp (show Arr X2 b3 37 [.int .i64 was.a, .int .i64 was.s, .int .i64 was.i, .int .i64 was.k, .int .i64 was.b, .int .i64 was.r, vw] ∧ Arr X2 b4 37 [.int .i64 is.a, .int .i64 is.s, .int .i64 is.i, .int .i64 is.k, .int .i64 is.b, .int .i64 is.r, vi] from ⟨HS1.out.1.below hb HS1.out.1.lt, HS1.out.2.below hb HS1.out.2.lt⟩); have H82 := hidp (H81.out.below hb H81.out.lt)
            refine ⟨HS2.out, ?_⟩
            clear hb HBx1 HS1 H81
            simp only [Act.put, List.getElem_toArray, List.getElem_cons_zero, List.getElem_cons_succ, List.setIfInBounds_toArray, List.set_cons_zero, List.set_cons_succ]
            refine ⟨?_, ?_⟩
            · apply o_call (f := 60) (args := #[.agg #[.int .i64 is.a, .int .i64 is.s, .int .i64 is.i, .int .i64 is.k, .int .i64 is.b, .int .i64 is.r, vi]]) (v := .agg #[.int .i64 is.a, .int .i64 is.s, .int .i64 is.i, .int .i64 is.k, .int .i64 is.b, .int .i64 is.r]) (hc := cni.out _)
              case ho => rfl
              case hw => rfl
              case hop => go_simp; first | done | rfl
              rintro X3 hb
              have HBx3 := hidp (HBx2.out.trans (hb.mono HBx2.out.size)); have HS3 := hidp (show Arr X3 b3 37 [.int .i64 was.a, .int .i64 was.s, .int .i64 was.i, .int .i64 was.k, .int .i64 was.b, .int .i64 was.r, vw] ∧ Arr X3 b4 37 [.int .i64 is.a, .int .i64 is.s, .int .i64 is.i, .int .i64 is.k, .int .i64 is.b, .int .i64 is.r, vi] from ⟨HS2.out.1.below hb HS2.out.1.lt, HS2.out.2.below hb HS2.out.2.lt⟩); have H83 := hidp (H82.out.below hb H82.out.lt)
              refine ⟨HS3.out, ?_⟩
              clear hb HBx2 HS2 H82
              simp only [Act.put, List.getElem_toArray, List.getElem_cons_zero, List.getElem_cons_succ, List.setIfInBounds_toArray, List.set_cons_zero, List.set_cons_succ]
              refine Rt.o_new tyN rfl rfl rfl ?_
              intro b9 X4 n1
              have hb := n1.below
              have HBx4 := hidp (HBx3.out.trans (hb.mono HBx3.out.size)); have HS4 := hidp (show Arr X4 b3 37 [.int .i64 was.a, .int .i64 was.s, .int .i64 was.i, .int .i64 was.k, .int .i64 was.b, .int .i64 was.r, vw] ∧ Arr X4 b4 37 [.int .i64 is.a, .int .i64 is.s, .int .i64 is.i, .int .i64 is.k, .int .i64 is.b, .int .i64 is.r, vi] from ⟨HS3.out.1.below hb HS3.out.1.lt, HS3.out.2.below hb HS3.out.2.lt⟩); have H84 := hidp (H83.out.below hb H83.out.lt)
              have H94 := hidp n1.arr
              have hg9 := hidp (show w9.heap.size ≤ b9 from by have := HBx3.out.size; have := n1.le; omega)
              have h89 := hidp (show b8 ≠ b9 from by have := H83.out.lt; have := n1.at_; omega)
              refine ⟨HS4.out, ?_⟩
              clear hb HBx3 HS3 H83 n1
              simp only [Act.put, List.getElem_toArray, List.getElem_cons_zero, List.getElem_cons_succ, List.setIfInBounds_toArray, List.set_cons_zero, List.set_cons_succ]
              refine Rt.o_put tyN rfl rfl (.tmp 8) (.tmp 25) rfl b8 [.int .i64 was.a, .int .i64 was.s, .int .i64 was.i, .int .i64 was.k, .int .i64 was.b, .int .i64 was.r] rfl rfl rfl (by simp [Value.oneCell']) zN rfl H84.out ?_
              intro X5 ha hp
              have HBx5 := hidp (hp.below' HBx4.out hg8.out)
              have HS5 := hidp (show Arr X5 b3 37 [.int .i64 was.a, .int .i64 was.s, .int .i64 was.i, .int .i64 was.k, .int .i64 was.b, .int .i64 was.r, vw] ∧ Arr X5 b4 37 [.int .i64 is.a, .int .i64 is.s, .int .i64 is.i, .int .i64 is.k, .int .i64 is.b, .int .i64 is.r, vi] from ⟨hp.arr (by have := HAl.out; have := hg8.out; omega) HS4.out.1, hp.arr (by have := HCl.out; have := hg8.out; omega) HS4.out.2⟩)
              have H85 := hidp ha
              have H95 := hidp (hp.arr h89.out.symm H94.out)
              refine ⟨HS5.out, ?_⟩
              clear ha hp HBx4 HS4 H84 H94
              simp only [Act.put, List.getElem_toArray, List.getElem_cons_zero, List.getElem_cons_succ, List.setIfInBounds_toArray, List.set_cons_zero, List.set_cons_succ]
              refine Rt.o_put tyN rfl rfl (.tmp 9) (.tmp 27) rfl b9 [.int .i64 is.a, .int .i64 is.s, .int .i64 is.i, .int .i64 is.k, .int .i64 is.b, .int .i64 is.r] rfl rfl rfl (by simp [Value.oneCell']) zN rfl H95.out ?_
              intro X6 ha hp
              have HBx6 := hidp (hp.below' HBx5.out hg9.out)
              have HS6 := hidp (show Arr X6 b3 37 [.int .i64 was.a, .int .i64 was.s, .int .i64 was.i, .int .i64 was.k, .int .i64 was.b, .int .i64 was.r, vw] ∧ Arr X6 b4 37 [.int .i64 is.a, .int .i64 is.s, .int .i64 is.i, .int .i64 is.k, .int .i64 is.b, .int .i64 is.r, vi] from ⟨hp.arr (by have := HAl.out; have := hg9.out; omega) HS5.out.1, hp.arr (by have := HCl.out; have := hg9.out; omega) HS5.out.2⟩)
              have H96 := hidp ha
              have H86 := hidp (hp.arr h89.out H85.out)
              refine ⟨HS6.out, ?_⟩
              clear ha hp HBx5 HS5 H85 H95
              simp only [Act.put, List.getElem_toArray, List.getElem_cons_zero, List.getElem_cons_succ, List.setIfInBounds_toArray, List.set_cons_zero, List.set_cons_succ]
              exact ⟨rfl, b8, b9, rfl, H86.out, H96.out, HBx6.out⟩
            · refine Rt.o_new tyN rfl rfl rfl ?_
              intro b9 X3 n1
              have hb := n1.below
              have HBx3 := hidp (HBx2.out.trans (hb.mono HBx2.out.size)); have HS3 := hidp (show Arr X3 b3 37 [.int .i64 was.a, .int .i64 was.s, .int .i64 was.i, .int .i64 was.k, .int .i64 was.b, .int .i64 was.r, vw] ∧ Arr X3 b4 37 [.int .i64 is.a, .int .i64 is.s, .int .i64 is.i, .int .i64 is.k, .int .i64 is.b, .int .i64 is.r, vi] from ⟨HS2.out.1.below hb HS2.out.1.lt, HS2.out.2.below hb HS2.out.2.lt⟩); have H83 := hidp (H82.out.below hb H82.out.lt)
              have H93 := hidp n1.arr
              have hg9 := hidp (show w9.heap.size ≤ b9 from by have := HBx2.out.size; have := n1.le; omega)
              have h89 := hidp (show b8 ≠ b9 from by have := H82.out.lt; have := n1.at_; omega)
              refine ⟨HS3.out, ?_⟩
              clear hb HBx2 HS2 H82 n1
              simp only [Act.put, List.getElem_toArray, List.getElem_cons_zero, List.getElem_cons_succ, List.setIfInBounds_toArray, List.set_cons_zero, List.set_cons_succ]
              apply o_call (f := 60) (args := #[.agg #[.int .i64 is.a, .int .i64 is.s, .int .i64 is.i, .int .i64 is.k, .int .i64 is.b, .int .i64 is.r, vi]]) (v := .agg #[.int .i64 is.a, .int .i64 is.s, .int .i64 is.i, .int .i64 is.k, .int .i64 is.b, .int .i64 is.r]) (hc := cni.out _)
              case ho => rfl
              case hw => rfl
              case hop => go_simp; first | done | rfl
              rintro X4 hb
              have HBx4 := hidp (HBx3.out.trans (hb.mono HBx3.out.size)); have HS4 := hidp (show Arr X4 b3 37 [.int .i64 was.a, .int .i64 was.s, .int .i64 was.i, .int .i64 was.k, .int .i64 was.b, .int .i64 was.r, vw] ∧ Arr X4 b4 37 [.int .i64 is.a, .int .i64 is.s, .int .i64 is.i, .int .i64 is.k, .int .i64 is.b, .int .i64 is.r, vi] from ⟨HS3.out.1.below hb HS3.out.1.lt, HS3.out.2.below hb HS3.out.2.lt⟩); have H84 := hidp (H83.out.below hb H83.out.lt); have H94 := hidp (H93.out.below hb H93.out.lt)
              refine ⟨HS4.out, ?_⟩
              clear hb HBx3 HS3 H83 H93
              simp only [Act.put, List.getElem_toArray, List.getElem_cons_zero, List.getElem_cons_succ, List.setIfInBounds_toArray, List.set_cons_zero, List.set_cons_succ]
              refine Rt.o_put tyN rfl rfl (.tmp 8) (.tmp 25) rfl b8 [.int .i64 was.a, .int .i64 was.s, .int .i64 was.i, .int .i64 was.k, .int .i64 was.b, .int .i64 was.r] rfl rfl rfl (by simp [Value.oneCell']) zN rfl H84.out ?_
              intro X5 ha hp
              have HBx5 := hidp (hp.below' HBx4.out hg8.out)
              have HS5 := hidp (show Arr X5 b3 37 [.int .i64 was.a, .int .i64 was.s, .int .i64 was.i, .int .i64 was.k, .int .i64 was.b, .int .i64 was.r, vw] ∧ Arr X5 b4 37 [.int .i64 is.a, .int .i64 is.s, .int .i64 is.i, .int .i64 is.k, .int .i64 is.b, .int .i64 is.r, vi] from ⟨hp.arr (by have := HAl.out; have := hg8.out; omega) HS4.out.1, hp.arr (by have := HCl.out; have := hg8.out; omega) HS4.out.2⟩)
              have H85 := hidp ha
              have H95 := hidp (hp.arr h89.out.symm H94.out)
              refine ⟨HS5.out, ?_⟩
              clear ha hp HBx4 HS4 H84 H94
              simp only [Act.put, List.getElem_toArray, List.getElem_cons_zero, List.getElem_cons_succ, List.setIfInBounds_toArray, List.set_cons_zero, List.set_cons_succ]
              refine Rt.o_put tyN rfl rfl (.tmp 9) (.tmp 27) rfl b9 [.int .i64 is.a, .int .i64 is.s, .int .i64 is.i, .int .i64 is.k, .int .i64 is.b, .int .i64 is.r] rfl rfl rfl (by simp [Value.oneCell']) zN rfl H95.out ?_
              intro X6 ha hp
              have HBx6 := hidp (hp.below' HBx5.out hg9.out)
              have HS6 := hidp (show Arr X6 b3 37 [.int .i64 was.a, .int .i64 was.s, .int .i64 was.i, .int .i64 was.k, .int .i64 was.b, .int .i64 was.r, vw] ∧ Arr X6 b4 37 [.int .i64 is.a, .int .i64 is.s, .int .i64 is.i, .int .i64 is.k, .int .i64 is.b, .int .i64 is.r, vi] from ⟨hp.arr (by have := HAl.out; have := hg9.out; omega) HS5.out.1, hp.arr (by have := HCl.out; have := hg9.out; omega) HS5.out.2⟩)
              have H96 := hidp ha
              have H86 := hidp (hp.arr h89.out H85.out)
              refine ⟨HS6.out, ?_⟩
              clear ha hp HBx5 HS5 H85 H95
              simp only [Act.put, List.getElem_toArray, List.getElem_cons_zero, List.getElem_cons_succ, List.setIfInBounds_toArray, List.set_cons_zero, List.set_cons_succ]
              exact ⟨rfl, b8, b9, rfl, H86.out, H96.out, HBx6.out⟩
          · refine Rt.o_new tyN rfl rfl rfl ?_
            intro b9 X2 n1
            have hb := n1.below
            have HBx2 := hidp (HBx1.out.trans (hb.mono HBx1.out.size)); have HS2 := hidp (show Arr X2 b3 37 [.int .i64 was.a, .int .i64 was.s, .int .i64 was.i, .int .i64 was.k, .int .i64 was.b, .int .i64 was.r, vw] ∧ Arr X2 b4 37 [.int .i64 is.a, .int .i64 is.s, .int .i64 is.i, .int .i64 is.k, .int .i64 is.b, .int .i64 is.r, vi] from ⟨HS1.out.1.below hb HS1.out.1.lt, HS1.out.2.below hb HS1.out.2.lt⟩); have H82 := hidp (H81.out.below hb H81.out.lt)
            have H92 := hidp n1.arr
            have hg9 := hidp (show w9.heap.size ≤ b9 from by have := HBx1.out.size; have := n1.le; omega)
            have h89 := hidp (show b8 ≠ b9 from by have := H81.out.lt; have := n1.at_; omega)
            refine ⟨HS2.out, ?_⟩
            clear hb HBx1 HS1 H81 n1
            simp only [Act.put, List.getElem_toArray, List.getElem_cons_zero, List.getElem_cons_succ, List.setIfInBounds_toArray, List.set_cons_zero, List.set_cons_succ]
            apply o_call (f := 60) (args := #[.agg #[.int .i64 was.a, .int .i64 was.s, .int .i64 was.i, .int .i64 was.k, .int .i64 was.b, .int .i64 was.r, vw]]) (v := .agg #[.int .i64 was.a, .int .i64 was.s, .int .i64 was.i, .int .i64 was.k, .int .i64 was.b, .int .i64 was.r]) (hc := cnw.out _)
            case ho => rfl
            case hw => rfl
            case hop => go_simp; first | done | rfl
            rintro X3 hb
            have HBx3 := hidp (HBx2.out.trans (hb.mono HBx2.out.size)); have HS3 := hidp (show Arr X3 b3 37 [.int .i64 was.a, .int .i64 was.s, .int .i64 was.i, .int .i64 was.k, .int .i64 was.b, .int .i64 was.r, vw] ∧ Arr X3 b4 37 [.int .i64 is.a, .int .i64 is.s, .int .i64 is.i, .int .i64 is.k, .int .i64 is.b, .int .i64 is.r, vi] from ⟨HS2.out.1.below hb HS2.out.1.lt, HS2.out.2.below hb HS2.out.2.lt⟩); have H83 := hidp (H82.out.below hb H82.out.lt); have H93 := hidp (H92.out.below hb H92.out.lt)
            refine ⟨HS3.out, ?_⟩
            clear hb HBx2 HS2 H82 H92
            simp only [Act.put, List.getElem_toArray, List.getElem_cons_zero, List.getElem_cons_succ, List.setIfInBounds_toArray, List.set_cons_zero, List.set_cons_succ]
            apply o_call (f := 60) (args := #[.agg #[.int .i64 is.a, .int .i64 is.s, .int .i64 is.i, .int .i64 is.k, .int .i64 is.b, .int .i64 is.r, vi]]) (v := .agg #[.int .i64 is.a, .int .i64 is.s, .int .i64 is.i, .int .i64 is.k, .int .i64 is.b, .int .i64 is.r]) (hc := cni.out _)
            case ho => rfl
            case hw => rfl
            case hop => go_simp; first | done | rfl
            rintro X4 hb
            have HBx4 := hidp (HBx3.out.trans (hb.mono HBx3.out.size)); have HS4 := hidp (show Arr X4 b3 37 [.int .i64 was.a, .int .i64 was.s, .int .i64 was.i, .int .i64 was.k, .int .i64 was.b, .int .i64 was.r, vw] ∧ Arr X4 b4 37 [.int .i64 is.a, .int .i64 is.s, .int .i64 is.i, .int .i64 is.k, .int .i64 is.b, .int .i64 is.r, vi] from ⟨HS3.out.1.below hb HS3.out.1.lt, HS3.out.2.below hb HS3.out.2.lt⟩); have H84 := hidp (H83.out.below hb H83.out.lt); have H94 := hidp (H93.out.below hb H93.out.lt)
            refine ⟨HS4.out, ?_⟩
            clear hb HBx3 HS3 H83 H93
            simp only [Act.put, List.getElem_toArray, List.getElem_cons_zero, List.getElem_cons_succ, List.setIfInBounds_toArray, List.set_cons_zero, List.set_cons_succ]
            refine Rt.o_put tyN rfl rfl (.tmp 8) (.tmp 25) rfl b8 [.int .i64 was.a, .int .i64 was.s, .int .i64 was.i, .int .i64 was.k, .int .i64 was.b, .int .i64 was.r] rfl rfl rfl (by simp [Value.oneCell']) zN rfl H84.out ?_
            intro X5 ha hp
            have HBx5 := hidp (hp.below' HBx4.out hg8.out)
            have HS5 := hidp (show Arr X5 b3 37 [.int .i64 was.a, .int .i64 was.s, .int .i64 was.i, .int .i64 was.k, .int .i64 was.b, .int .i64 was.r, vw] ∧ Arr X5 b4 37 [.int .i64 is.a, .int .i64 is.s, .int .i64 is.i, .int .i64 is.k, .int .i64 is.b, .int .i64 is.r, vi] from ⟨hp.arr (by have := HAl.out; have := hg8.out; omega) HS4.out.1, hp.arr (by have := HCl.out; have := hg8.out; omega) HS4.out.2⟩)
            have H85 := hidp ha
            have H95 := hidp (hp.arr h89.out.symm H94.out)
            refine ⟨HS5.out, ?_⟩
            clear ha hp HBx4 HS4 H84 H94
            simp only [Act.put, List.getElem_toArray, List.getElem_cons_zero, List.getElem_cons_succ, List.setIfInBounds_toArray, List.set_cons_zero, List.set_cons_succ]
            refine Rt.o_put tyN rfl rfl (.tmp 9) (.tmp 27) rfl b9 [.int .i64 is.a, .int .i64 is.s, .int .i64 is.i, .int .i64 is.k, .int .i64 is.b, .int .i64 is.r] rfl rfl rfl (by simp [Value.oneCell']) zN rfl H95.out ?_
            intro X6 ha hp
            have HBx6 := hidp (hp.below' HBx5.out hg9.out)
            have HS6 := hidp (show Arr X6 b3 37 [.int .i64 was.a, .int .i64 was.s, .int .i64 was.i, .int .i64 was.k, .int .i64 was.b, .int .i64 was.r, vw] ∧ Arr X6 b4 37 [.int .i64 is.a, .int .i64 is.s, .int .i64 is.i, .int .i64 is.k, .int .i64 is.b, .int .i64 is.r, vi] from ⟨hp.arr (by have := HAl.out; have := hg9.out; omega) HS5.out.1, hp.arr (by have := HCl.out; have := hg9.out; omega) HS5.out.2⟩)
            have H96 := hidp ha
            have H86 := hidp (hp.arr h89.out H85.out)
            refine ⟨HS6.out, ?_⟩
            clear ha hp HBx5 HS5 H85 H95
            simp only [Act.put, List.getElem_toArray, List.getElem_cons_zero, List.getElem_cons_succ, List.setIfInBounds_toArray, List.set_cons_zero, List.set_cons_succ]
            exact ⟨rfl, b8, b9, rfl, H86.out, H96.out, HBx6.out⟩
        · refine Rt.o_new tyN rfl rfl rfl ?_
          intro b9 X1 n1
          have hb := n1.below
          have HBx1 := hidp (HBx0.out.trans (hb.mono HBx0.out.size)); have HS1 := hidp (show Arr X1 b3 37 [.int .i64 was.a, .int .i64 was.s, .int .i64 was.i, .int .i64 was.k, .int .i64 was.b, .int .i64 was.r, vw] ∧ Arr X1 b4 37 [.int .i64 is.a, .int .i64 is.s, .int .i64 is.i, .int .i64 is.k, .int .i64 is.b, .int .i64 is.r, vi] from ⟨HS0.out.1.below hb HS0.out.1.lt, HS0.out.2.below hb HS0.out.2.lt⟩)
          have H91 := hidp n1.arr
          have hg9 := hidp (show w9.heap.size ≤ b9 from by have := HBx0.out.size; have := n1.le; omega)
          refine ⟨HS1.out, ?_⟩
          clear hb HBx0 HS0  n1
          simp only [Act.put, List.getElem_toArray, List.getElem_cons_zero, List.getElem_cons_succ, List.setIfInBounds_toArray, List.set_cons_zero, List.set_cons_succ]
          refine ⟨?_, ?_⟩
          · apply o_call (f := 60) (args := #[.agg #[.int .i64 was.a, .int .i64 was.s, .int .i64 was.i, .int .i64 was.k, .int .i64 was.b, .int .i64 was.r, vw]]) (v := .agg #[.int .i64 was.a, .int .i64 was.s, .int .i64 was.i, .int .i64 was.k, .int .i64 was.b, .int .i64 was.r]) (hc := cnw.out _)
            case ho => rfl
            case hw => rfl
            case hop => go_simp; first | done | rfl
            rintro X2 hb
            have HBx2 := hidp (HBx1.out.trans (hb.mono HBx1.out.size)); have HS2 := hidp (show Arr X2 b3 37 [.int .i64 was.a, .int .i64 was.s, .int .i64 was.i, .int .i64 was.k, .int .i64 was.b, .int .i64 was.r, vw] ∧ Arr X2 b4 37 [.int .i64 is.a, .int .i64 is.s, .int .i64 is.i, .int .i64 is.k, .int .i64 is.b, .int .i64 is.r, vi] from ⟨HS1.out.1.below hb HS1.out.1.lt, HS1.out.2.below hb HS1.out.2.lt⟩); have H92 := hidp (H91.out.below hb H91.out.lt)
            refine ⟨HS2.out, ?_⟩
            clear hb HBx1 HS1 H91
            simp only [Act.put, List.getElem_toArray, List.getElem_cons_zero, List.getElem_cons_succ, List.setIfInBounds_toArray, List.set_cons_zero, List.set_cons_succ]
            refine ⟨?_, ?_⟩
            · apply o_call (f := 60) (args := #[.agg #[.int .i64 is.a, .int .i64 is.s, .int .i64 is.i, .int .i64 is.k, .int .i64 is.b, .int .i64 is.r, vi]]) (v := .agg #[.int .i64 is.a, .int .i64 is.s, .int .i64 is.i, .int .i64 is.k, .int .i64 is.b, .int .i64 is.r]) (hc := cni.out _)
              case ho => rfl
              case hw => rfl
              case hop => go_simp; first | done | rfl
              rintro X3 hb
              have HBx3 := hidp (HBx2.out.trans (hb.mono HBx2.out.size)); have HS3 := hidp (show Arr X3 b3 37 [.int .i64 was.a, .int .i64 was.s, .int .i64 was.i, .int .i64 was.k, .int .i64 was.b, .int .i64 was.r, vw] ∧ Arr X3 b4 37 [.int .i64 is.a, .int .i64 is.s, .int .i64 is.i, .int .i64 is.k, .int .i64 is.b, .int .i64 is.r, vi] from ⟨HS2.out.1.below hb HS2.out.1.lt, HS2.out.2.below hb HS2.out.2.lt⟩); have H93 := hidp (H92.out.below hb H92.out.lt)
              refine ⟨HS3.out, ?_⟩
              clear hb HBx2 HS2 H92
              simp only [Act.put, List.getElem_toArray, List.getElem_cons_zero, List.getElem_cons_succ, List.setIfInBounds_toArray, List.set_cons_zero, List.set_cons_succ]
              refine Rt.o_new tyN rfl rfl rfl ?_
              intro b8 X4 n1
              have hb := n1.below
              have HBx4 := hidp (HBx3.out.trans (hb.mono HBx3.out.size)); have HS4 := hidp (show Arr X4 b3 37 [.int .i64 was.a, .int .i64 was.s, .int .i64 was.i, .int .i64 was.k, .int .i64 was.b, .int .i64 was.r, vw] ∧ Arr X4 b4 37 [.int .i64 is.a, .int .i64 is.s, .int .i64 is.i, .int .i64 is.k, .int .i64 is.b, .int .i64 is.r, vi] from ⟨HS3.out.1.below hb HS3.out.1.lt, HS3.out.2.below hb HS3.out.2.lt⟩); have H94 := hidp (H93.out.below hb H93.out.lt)
              have H84 := hidp n1.arr
              have hg8 := hidp (show w9.heap.size ≤ b8 from by have := HBx3.out.size; have := n1.le; omega)
              have h89 := hidp (show b8 ≠ b9 from by have := H93.out.lt; have := n1.at_; omega)
              refine ⟨HS4.out, ?_⟩
              clear hb HBx3 HS3 H93 n1
              simp only [Act.put, List.getElem_toArray, List.getElem_cons_zero, List.getElem_cons_succ, List.setIfInBounds_toArray, List.set_cons_zero, List.set_cons_succ]
              refine Rt.o_put tyN rfl rfl (.tmp 8) (.tmp 25) rfl b8 [.int .i64 was.a, .int .i64 was.s, .int .i64 was.i, .int .i64 was.k, .int .i64 was.b, .int .i64 was.r] rfl rfl rfl (by simp [Value.oneCell']) zN rfl H84.out ?_
              intro X5 ha hp
              have HBx5 := hidp (hp.below' HBx4.out hg8.out)
              have HS5 := hidp (show Arr X5 b3 37 [.int .i64 was.a, .int .i64 was.s, .int .i64 was.i, .int .i64 was.k, .int .i64 was.b, .int .i64 was.r, vw] ∧ Arr X5 b4 37 [.int .i64 is.a, .int .i64 is.s, .int .i64 is.i, .int .i64 is.k, .int .i64 is.b, .int .i64 is.r, vi] from ⟨hp.arr (by have := HAl.out; have := hg8.out; omega) HS4.out.1, hp.arr (by have := HCl.out; have := hg8.out; omega) HS4.out.2⟩)
              have H85 := hidp ha
              have H95 := hidp (hp.arr h89.out.symm H94.out)
              refine ⟨HS5.out, ?_⟩
              clear ha hp HBx4 HS4 H84 H94
              simp only [Act.put, List.getElem_toArray, List.getElem_cons_zero, List.getElem_cons_succ, List.setIfInBounds_toArray, List.set_cons_zero, List.set_cons_succ]
              refine Rt.o_put tyN rfl rfl (.tmp 9) (.tmp 27) rfl b9 [.int .i64 is.a, .int .i64 is.s, .int .i64 is.i, .int .i64 is.k, .int .i64 is.b, .int .i64 is.r] rfl rfl rfl (by simp [Value.oneCell']) zN rfl H95.out ?_
              intro X6 ha hp
              have HBx6 := hidp (hp.below' HBx5.out hg9.out)
              have HS6 := hidp (show Arr X6 b3 37 [.int .i64 was.a, .int .i64 was.s, .int .i64 was.i, .int .i64 was.k, .int .i64 was.b, .int .i64 was.r, vw] ∧ Arr X6 b4 37 [.int .i64 is.a, .int .i64 is.s, .int .i64 is.i, .int .i64 is.k, .int .i64 is.b, .int .i64 is.r, vi] from ⟨hp.arr (by have := HAl.out; have := hg9.out; omega) HS5.out.1, hp.arr (by have := HCl.out; have := hg9.out; omega) HS5.out.2⟩)
              have H96 := hidp ha
              have H86 := hidp (hp.arr h89.out H85.out)
              refine ⟨HS6.out, ?_⟩
              clear ha hp HBx5 HS5 H85 H95
              simp only [Act.put, List.getElem_toArray, List.getElem_cons_zero, List.getElem_cons_succ, List.setIfInBounds_toArray, List.set_cons_zero, List.set_cons_succ]
              exact ⟨rfl, b8, b9, rfl, H86.out, H96.out, HBx6.out⟩
            · refine Rt.o_new tyN rfl rfl rfl ?_
              intro b8 X3 n1
              have hb := n1.below
              have HBx3 := hidp (HBx2.out.trans (hb.mono HBx2.out.size)); have HS3 := hidp (show Arr X3 b3 37 [.int .i64 was.a, .int .i64 was.s, .int .i64 was.i, .int .i64 was.k, .int .i64 was.b, .int .i64 was.r, vw] ∧ Arr X3 b4 37 [.int .i64 is.a, .int .i64 is.s, .int .i64 is.i, .int .i64 is.k, .int .i64 is.b, .int .i64 is.r, vi] from ⟨HS2.out.1.below hb HS2.out.1.lt, HS2.out.2.below hb HS2.out.2.lt⟩); have H93 := hidp (H92.out.below hb H92.out.lt)
              have H83 := hidp n1.arr
              have hg8 := hidp (show w9.heap.size ≤ b8 from by have := HBx2.out.size; have := n1.le; omega)
              have h89 := hidp (show b8 ≠ b9 from by have := H92.out.lt; have := n1.at_; omega)
              refine ⟨HS3.out, ?_⟩
              clear hb HBx2 HS2 H92 n1
              simp only [Act.put, List.getElem_toArray, List.getElem_cons_zero, List.getElem_cons_succ, List.setIfInBounds_toArray, List.set_cons_zero, List.set_cons_succ]
              apply o_call (f := 60) (args := #[.agg #[.int .i64 is.a, .int .i64 is.s, .int .i64 is.i, .int .i64 is.k, .int .i64 is.b, .int .i64 is.r, vi]]) (v := .agg #[.int .i64 is.a, .int .i64 is.s, .int .i64 is.i, .int .i64 is.k, .int .i64 is.b, .int .i64 is.r]) (hc := cni.out _)
              case ho => rfl
              case hw => rfl
              case hop => go_simp; first | done | rfl
              rintro X4 hb
              have HBx4 := hidp (HBx3.out.trans (hb.mono HBx3.out.size)); have HS4 := hidp (show Arr X4 b3 37 [.int .i64 was.a, .int .i64 was.s, .int .i64 was.i, .int .i64 was.k, .int .i64 was.b, .int .i64 was.r, vw] ∧ Arr X4 b4 37 [.int .i64 is.a, .int .i64 is.s, .int .i64 is.i, .int .i64 is.k, .int .i64 is.b, .int .i64 is.r, vi] from ⟨HS3.out.1.below hb HS3.out.1.lt, HS3.out.2.below hb HS3.out.2.lt⟩); have H84 := hidp (H83.out.below hb H83.out.lt); have H94 := hidp (H93.out.below hb H93.out.lt)
              refine ⟨HS4.out, ?_⟩
              clear hb HBx3 HS3 H83 H93
              simp only [Act.put, List.getElem_toArray, List.getElem_cons_zero, List.getElem_cons_succ, List.setIfInBounds_toArray, List.set_cons_zero, List.set_cons_succ]
              refine Rt.o_put tyN rfl rfl (.tmp 8) (.tmp 25) rfl b8 [.int .i64 was.a, .int .i64 was.s, .int .i64 was.i, .int .i64 was.k, .int .i64 was.b, .int .i64 was.r] rfl rfl rfl (by simp [Value.oneCell']) zN rfl H84.out ?_
              intro X5 ha hp
              have HBx5 := hidp (hp.below' HBx4.out hg8.out)
              have HS5 := hidp (show Arr X5 b3 37 [.int .i64 was.a, .int .i64 was.s, .int .i64 was.i, .int .i64 was.k, .int .i64 was.b, .int .i64 was.r, vw] ∧ Arr X5 b4 37 [.int .i64 is.a, .int .i64 is.s, .int .i64 is.i, .int .i64 is.k, .int .i64 is.b, .int .i64 is.r, vi] from ⟨hp.arr (by have := HAl.out; have := hg8.out; omega) HS4.out.1, hp.arr (by have := HCl.out; have := hg8.out; omega) HS4.out.2⟩)
              have H85 := hidp ha
              have H95 := hidp (hp.arr h89.out.symm H94.out)
              refine ⟨HS5.out, ?_⟩
              clear ha hp HBx4 HS4 H84 H94
              simp only [Act.put, List.getElem_toArray, List.getElem_cons_zero, List.getElem_cons_succ, List.setIfInBounds_toArray, List.set_cons_zero, List.set_cons_succ]
              refine Rt.o_put tyN rfl rfl (.tmp 9) (.tmp 27) rfl b9 [.int .i64 is.a, .int .i64 is.s, .int .i64 is.i, .int .i64 is.k, .int .i64 is.b, .int .i64 is.r] rfl rfl rfl (by simp [Value.oneCell']) zN rfl H95.out ?_
              intro X6 ha hp
              have HBx6 := hidp (hp.below' HBx5.out hg9.out)
              have HS6 := hidp (show Arr X6 b3 37 [.int .i64 was.a, .int .i64 was.s, .int .i64 was.i, .int .i64 was.k, .int .i64 was.b, .int .i64 was.r, vw] ∧ Arr X6 b4 37 [.int .i64 is.a, .int .i64 is.s, .int .i64 is.i, .int .i64 is.k, .int .i64 is.b, .int .i64 is.r, vi] from ⟨hp.arr (by have := HAl.out; have := hg9.out; omega) HS5.out.1, hp.arr (by have := HCl.out; have := hg9.out; omega) HS5.out.2⟩)
              have H96 := hidp ha
              have H86 := hidp (hp.arr h89.out H85.out)
              refine ⟨HS6.out, ?_⟩
              clear ha hp HBx5 HS5 H85 H95
              simp only [Act.put, List.getElem_toArray, List.getElem_cons_zero, List.getElem_cons_succ, List.setIfInBounds_toArray, List.set_cons_zero, List.set_cons_succ]
              exact ⟨rfl, b8, b9, rfl, H86.out, H96.out, HBx6.out⟩
          · refine Rt.o_new tyN rfl rfl rfl ?_
            intro b8 X2 n1
            have hb := n1.below
            have HBx2 := hidp (HBx1.out.trans (hb.mono HBx1.out.size)); have HS2 := hidp (show Arr X2 b3 37 [.int .i64 was.a, .int .i64 was.s, .int .i64 was.i, .int .i64 was.k, .int .i64 was.b, .int .i64 was.r, vw] ∧ Arr X2 b4 37 [.int .i64 is.a, .int .i64 is.s, .int .i64 is.i, .int .i64 is.k, .int .i64 is.b, .int .i64 is.r, vi] from ⟨HS1.out.1.below hb HS1.out.1.lt, HS1.out.2.below hb HS1.out.2.lt⟩); have H92 := hidp (H91.out.below hb H91.out.lt)
            have H82 := hidp n1.arr
            have hg8 := hidp (show w9.heap.size ≤ b8 from by have := HBx1.out.size; have := n1.le; omega)
            have h89 := hidp (show b8 ≠ b9 from by have := H91.out.lt; have := n1.at_; omega)
            refine ⟨HS2.out, ?_⟩
            clear hb HBx1 HS1 H91 n1
            simp only [Act.put, List.getElem_toArray, List.getElem_cons_zero, List.getElem_cons_succ, List.setIfInBounds_toArray, List.set_cons_zero, List.set_cons_succ]
            apply o_call (f := 60) (args := #[.agg #[.int .i64 was.a, .int .i64 was.s, .int .i64 was.i, .int .i64 was.k, .int .i64 was.b, .int .i64 was.r, vw]]) (v := .agg #[.int .i64 was.a, .int .i64 was.s, .int .i64 was.i, .int .i64 was.k, .int .i64 was.b, .int .i64 was.r]) (hc := cnw.out _)
            case ho => rfl
            case hw => rfl
            case hop => go_simp; first | done | rfl
            rintro X3 hb
            have HBx3 := hidp (HBx2.out.trans (hb.mono HBx2.out.size)); have HS3 := hidp (show Arr X3 b3 37 [.int .i64 was.a, .int .i64 was.s, .int .i64 was.i, .int .i64 was.k, .int .i64 was.b, .int .i64 was.r, vw] ∧ Arr X3 b4 37 [.int .i64 is.a, .int .i64 is.s, .int .i64 is.i, .int .i64 is.k, .int .i64 is.b, .int .i64 is.r, vi] from ⟨HS2.out.1.below hb HS2.out.1.lt, HS2.out.2.below hb HS2.out.2.lt⟩); have H83 := hidp (H82.out.below hb H82.out.lt); have H93 := hidp (H92.out.below hb H92.out.lt)
            refine ⟨HS3.out, ?_⟩
            clear hb HBx2 HS2 H82 H92
            simp only [Act.put, List.getElem_toArray, List.getElem_cons_zero, List.getElem_cons_succ, List.setIfInBounds_toArray, List.set_cons_zero, List.set_cons_succ]
            apply o_call (f := 60) (args := #[.agg #[.int .i64 is.a, .int .i64 is.s, .int .i64 is.i, .int .i64 is.k, .int .i64 is.b, .int .i64 is.r, vi]]) (v := .agg #[.int .i64 is.a, .int .i64 is.s, .int .i64 is.i, .int .i64 is.k, .int .i64 is.b, .int .i64 is.r]) (hc := cni.out _)
            case ho => rfl
            case hw => rfl
            case hop => go_simp; first | done | rfl
            rintro X4 hb
            have HBx4 := hidp (HBx3.out.trans (hb.mono HBx3.out.size)); have HS4 := hidp (show Arr X4 b3 37 [.int .i64 was.a, .int .i64 was.s, .int .i64 was.i, .int .i64 was.k, .int .i64 was.b, .int .i64 was.r, vw] ∧ Arr X4 b4 37 [.int .i64 is.a, .int .i64 is.s, .int .i64 is.i, .int .i64 is.k, .int .i64 is.b, .int .i64 is.r, vi] from ⟨HS3.out.1.below hb HS3.out.1.lt, HS3.out.2.below hb HS3.out.2.lt⟩); have H84 := hidp (H83.out.below hb H83.out.lt); have H94 := hidp (H93.out.below hb H93.out.lt)
            refine ⟨HS4.out, ?_⟩
            clear hb HBx3 HS3 H83 H93
            simp only [Act.put, List.getElem_toArray, List.getElem_cons_zero, List.getElem_cons_succ, List.setIfInBounds_toArray, List.set_cons_zero, List.set_cons_succ]
            refine Rt.o_put tyN rfl rfl (.tmp 8) (.tmp 25) rfl b8 [.int .i64 was.a, .int .i64 was.s, .int .i64 was.i, .int .i64 was.k, .int .i64 was.b, .int .i64 was.r] rfl rfl rfl (by simp [Value.oneCell']) zN rfl H84.out ?_
            intro X5 ha hp
            have HBx5 := hidp (hp.below' HBx4.out hg8.out)
            have HS5 := hidp (show Arr X5 b3 37 [.int .i64 was.a, .int .i64 was.s, .int .i64 was.i, .int .i64 was.k, .int .i64 was.b, .int .i64 was.r, vw] ∧ Arr X5 b4 37 [.int .i64 is.a, .int .i64 is.s, .int .i64 is.i, .int .i64 is.k, .int .i64 is.b, .int .i64 is.r, vi] from ⟨hp.arr (by have := HAl.out; have := hg8.out; omega) HS4.out.1, hp.arr (by have := HCl.out; have := hg8.out; omega) HS4.out.2⟩)
            have H85 := hidp ha
            have H95 := hidp (hp.arr h89.out.symm H94.out)
            refine ⟨HS5.out, ?_⟩
            clear ha hp HBx4 HS4 H84 H94
            simp only [Act.put, List.getElem_toArray, List.getElem_cons_zero, List.getElem_cons_succ, List.setIfInBounds_toArray, List.set_cons_zero, List.set_cons_succ]
            refine Rt.o_put tyN rfl rfl (.tmp 9) (.tmp 27) rfl b9 [.int .i64 is.a, .int .i64 is.s, .int .i64 is.i, .int .i64 is.k, .int .i64 is.b, .int .i64 is.r] rfl rfl rfl (by simp [Value.oneCell']) zN rfl H95.out ?_
            intro X6 ha hp
            have HBx6 := hidp (hp.below' HBx5.out hg9.out)
            have HS6 := hidp (show Arr X6 b3 37 [.int .i64 was.a, .int .i64 was.s, .int .i64 was.i, .int .i64 was.k, .int .i64 was.b, .int .i64 was.r, vw] ∧ Arr X6 b4 37 [.int .i64 is.a, .int .i64 is.s, .int .i64 is.i, .int .i64 is.k, .int .i64 is.b, .int .i64 is.r, vi] from ⟨hp.arr (by have := HAl.out; have := hg9.out; omega) HS5.out.1, hp.arr (by have := HCl.out; have := hg9.out; omega) HS5.out.2⟩)
            have H96 := hidp ha
            have H86 := hidp (hp.arr h89.out H85.out)
            refine ⟨HS6.out, ?_⟩
            clear ha hp HBx5 HS5 H85 H95
            simp only [Act.put, List.getElem_toArray, List.getElem_cons_zero, List.getElem_cons_succ, List.setIfInBounds_toArray, List.set_cons_zero, List.set_cons_succ]
            exact ⟨rfl, b8, b9, rfl, H86.out, H96.out, HBx6.out⟩
      · rintro b8 b9 WG ⟨h8, h9, hbg⟩
        have H8 := hidp h8; have H9 := hidp h9; have HBG := hidp (HB9.out.trans (hbg.mono HB9.out.size))
        have HAg := hidp (HA9.out.below hbg HA9.out.lt); have HCg := hidp (HC9.out.below hbg HC9.out.lt); have HUg := hidp (HU9.out.below hbg HU9.out.lt); have HRg := hidp (HR9.out.below hbg HR9.out.lt); have HLg := hidp (HL9.out.below hbg HL9.out.lt)
        clear h8 h9 hbg HB9 HA9 HC9 HU9 HR9 HL9 HAl HCl
        simp only [Act.put, List.getElem_toArray, List.getElem_cons_zero, List.getElem_cons_succ, List.setIfInBounds_toArray, List.set_cons_zero, List.set_cons_succ]
        go_wp2_with fail
        go_loopw [28] (fun t28 wr => ∃ i : Nat, t28 = .int .i64 (i : Int) ∧ i ≤ 6 ∧ (List.range i).any (nBad was is lev) = false ∧ Below WG.heap.size WG wr) (fun t28 _ => 6 - (intOf t28).toNat)
        case atStart => exact ⟨0, rfl, by omega, rfl, Below.refl _ _⟩
        case round =>
          obtain ⟨i, rfl, hi, hok, hb⟩ := hrel
          have HOK := hidp hok; have HB := hidp hb
          clear hok hb
          by_cases hlt : i < 6
          · have e1 : decide ((i : Int) < 6) = true := by simp; omega
            have e1n : (i : Int) < 6 := by omega
            have e1z : (0 : Int) ≤ (i : Int) := by omega
            have HX8 := hidp (show ∀ W, Below WG.heap.size WG W → W.cell? ⟨b8, i, none⟩ = some (.int .i64 ((sixL was).getD i 0)) from fun W h => six_cell (H8.out.below h H8.out.lt) hlt)
            have HX9 := hidp (show ∀ W, Below WG.heap.size WG W → W.cell? ⟨b9, i, none⟩ = some (.int .i64 ((sixL is).getD i 0)) from fun W h => six_cell (H9.out.below h H9.out.lt) hlt)
            have HBD := hidp (show nBad was is lev i = (((sixL was).getD i 0 != (sixL is).getD i 0) && decide (max ((sixL was).getD i 0) ((sixL is).getD i 0) > lev)) from rfl)
            obtain ⟨x, hx⟩ : ∃ x, (sixL was).getD i 0 = x := ⟨_, rfl⟩
            obtain ⟨y, hy⟩ : ∃ x, (sixL is).getD i 0 = x := ⟨_, rfl⟩
            rw [hx] at HX8 HBD
            rw [hy] at HX9 HBD
            clear hx hy
            cases hq : (x != y) with
            | false =>
              have HOK2 := hidp (show (List.range (i + 1)).any (nBad was is lev) = false from by rw [any_range_succ, HOK.out, HBD.out, hq]; rfl)
              go_wp2_with fail
              obtain ⟨U, hU⟩ : ∃ U, ({ wr with drawn := wr.drawn + 1 } : World) = U := ⟨_, rfl⟩
              have bU : Below wr.heap.size wr U := by rw [← hU]; exact (Below.refl _ _).drew
              have HBU := hidp (HB.out.trans (bU.mono HB.out.size))
              have HSU := hidp (show U.cell? ⟨b8, i, none⟩ = some (.int .i64 x) ∧ U.cell? ⟨b9, i, none⟩ = some (.int .i64 y) ∧ U.cell? ⟨b7, 0, none⟩ = some (.int .i64 lev) from ⟨HX8.out U HBU.out, HX9.out U HBU.out, arr1 (HLg.out.below HBU.out HLg.out.lt)⟩)
              clear bU
              refine wp_region_noPanic ?_
              refine wp_region_scr (S := fun W => W.cell? ⟨b8, i, none⟩ = some (.int .i64 x) ∧ W.cell? ⟨b9, i, none⟩ = some (.int .i64 y) ∧ W.cell? ⟨b7, 0, none⟩ = some (.int .i64 lev)) (.take 0 (.take 1 (.take 2 (.take 3 (.take 4 (.take 5 (.take 6 (.take 7 (.take 8 (.take 9 (.take 10 (.take 11 (.take 12 (.take 13 (.take 14 (.take 15 (.take 16 (.take 17 .done)))))))))))))))))) (by kernel_rfl) (by kernel_rfl) (fun _ _ _ _ _ h => h) (by simp [Scr.depth]) (by kernel_rfl) (by rw [hU]; exact HSU.out) ?_
              simp only [hU]
              clear hU
              apply s_val
              case ho => rfl
              case hw => rfl
              case hv => intro w hw; obtain ⟨z0, z1, z2⟩ := hw; go_simp; first | done | with_reducible rfl | rfl
              simp only [Act.put, List.getElem_toArray, List.getElem_cons_zero, List.getElem_cons_succ, List.setIfInBounds_toArray, List.set_cons_zero, List.set_cons_succ]
              apply s_val
              case ho => rfl
              case hw => rfl
              case hv => intro w hw; obtain ⟨z0, z1, z2⟩ := hw; go_simp; first | done | with_reducible rfl | rfl
              simp only [Act.put, List.getElem_toArray, List.getElem_cons_zero, List.getElem_cons_succ, List.setIfInBounds_toArray, List.set_cons_zero, List.set_cons_succ]
              apply s_val
              case ho => rfl
              case hw => rfl
              case hv => intro w hw; obtain ⟨z0, z1, z2⟩ := hw; go_simp; first | done | with_reducible rfl | rfl
              simp only [Act.put, List.getElem_toArray, List.getElem_cons_zero, List.getElem_cons_succ, List.setIfInBounds_toArray, List.set_cons_zero, List.set_cons_succ]
              apply s_val
              case ho => rfl
              case hw => rfl
              case hv => intro w hw; obtain ⟨z0, z1, z2⟩ := hw; go_simp; first | done | with_reducible rfl | rfl
              simp only [Act.put, List.getElem_toArray, List.getElem_cons_zero, List.getElem_cons_succ, List.setIfInBounds_toArray, List.set_cons_zero, List.set_cons_succ]
              apply s_val
              case ho => rfl
              case hw => rfl
              case hv => intro w hw; obtain ⟨z0, z1, z2⟩ := hw; go_simp; first | done | with_reducible rfl | rfl
              simp only [Act.put, List.getElem_toArray, List.getElem_cons_zero, List.getElem_cons_succ, List.setIfInBounds_toArray, List.set_cons_zero, List.set_cons_succ]
              apply s_val
              case ho => rfl
              case hw => rfl
              case hv => intro w hw; obtain ⟨z0, z1, z2⟩ := hw; go_simp; first | done | with_reducible rfl | rfl
              simp only [Act.put, List.getElem_toArray, List.getElem_cons_zero, List.getElem_cons_succ, List.setIfInBounds_toArray, List.set_cons_zero, List.set_cons_succ]
              apply s_val
              case ho => rfl
              case hw => rfl
              case hv => intro w hw; obtain ⟨z0, z1, z2⟩ := hw; go_simp; first | done | with_reducible rfl | rfl
              simp only [Act.put, List.getElem_toArray, List.getElem_cons_zero, List.getElem_cons_succ, List.setIfInBounds_toArray, List.set_cons_zero, List.set_cons_succ]
              apply s_val
              case ho => rfl
              case hw => rfl
              case hv => intro w hw; obtain ⟨z0, z1, z2⟩ := hw; go_simp; first | done | with_reducible rfl | rfl
              simp only [Act.put, List.getElem_toArray, List.getElem_cons_zero, List.getElem_cons_succ, List.setIfInBounds_toArray, List.set_cons_zero, List.set_cons_succ]
              refine Rt.s_skip rfl rfl ?_
              simp only [Act.put, List.getElem_toArray, List.getElem_cons_zero, List.getElem_cons_succ, List.setIfInBounds_toArray, List.set_cons_zero, List.set_cons_succ]
              refine Rt.s_skip rfl rfl ?_
              simp only [Act.put, List.getElem_toArray, List.getElem_cons_zero, List.getElem_cons_succ, List.setIfInBounds_toArray, List.set_cons_zero, List.set_cons_succ]
              refine Rt.s_skip rfl rfl ?_
              simp only [Act.put, List.getElem_toArray, List.getElem_cons_zero, List.getElem_cons_succ, List.setIfInBounds_toArray, List.set_cons_zero, List.set_cons_succ]
              refine Rt.s_skip rfl rfl ?_
              simp only [Act.put, List.getElem_toArray, List.getElem_cons_zero, List.getElem_cons_succ, List.setIfInBounds_toArray, List.set_cons_zero, List.set_cons_succ]
              refine Rt.s_skip rfl rfl ?_
              simp only [Act.put, List.getElem_toArray, List.getElem_cons_zero, List.getElem_cons_succ, List.setIfInBounds_toArray, List.set_cons_zero, List.set_cons_succ]
              refine Rt.s_skip rfl rfl ?_
              simp only [Act.put, List.getElem_toArray, List.getElem_cons_zero, List.getElem_cons_succ, List.setIfInBounds_toArray, List.set_cons_zero, List.set_cons_succ]
              refine Rt.s_skip rfl rfl ?_
              simp only [Act.put, List.getElem_toArray, List.getElem_cons_zero, List.getElem_cons_succ, List.setIfInBounds_toArray, List.set_cons_zero, List.set_cons_succ]
              refine Rt.s_skip rfl rfl ?_
              simp only [Act.put, List.getElem_toArray, List.getElem_cons_zero, List.getElem_cons_succ, List.setIfInBounds_toArray, List.set_cons_zero, List.set_cons_succ]
              refine Rt.s_skip rfl rfl ?_
              simp only [Act.put, List.getElem_toArray, List.getElem_cons_zero, List.getElem_cons_succ, List.setIfInBounds_toArray, List.set_cons_zero, List.set_cons_succ]
              apply s_val
              case ho => rfl
              case hw => rfl
              case hv => intro w hw; obtain ⟨z0, z1, z2⟩ := hw; go_simp; first | done | with_reducible rfl | rfl
              simp only [Act.put, List.getElem_toArray, List.getElem_cons_zero, List.getElem_cons_succ, List.setIfInBounds_toArray, List.set_cons_zero, List.set_cons_succ]
              refine NoPanic.normal ?_
              go_wp2_with fail
              exact ⟨⟨i + 1, by go_num, by omega, HOK2.out, HBU.out⟩, by simp [intOf]; omega⟩
            | true =>
              have hmx : ∀ W ts, (Builtin.max_ ts 3 #[.int .i64 x, .int .i64 y]).run Tryz.prog W = .ok (.int .i64 (max x y)) W := fun W ts => by
                rw [run_max_int2]; congr 2; by_cases h : y > x <;> simp [h] <;> omega
              obtain ⟨M, hM⟩ : ∃ M, max x y = M := ⟨_, rfl⟩
              rw [hM] at hmx HBD
              clear hM
              cases hm : decide (M > lev) with
              | false =>
                have HOK2 := hidp (show (List.range (i + 1)).any (nBad was is lev) = false from by rw [any_range_succ, HOK.out, HBD.out, hq, hm]; rfl)
                go_wp2_with fail
                obtain ⟨U, hU⟩ : ∃ U, ({ wr with drawn := wr.drawn + 1 } : World) = U := ⟨_, rfl⟩
                have bU : Below wr.heap.size wr U := by rw [← hU]; exact (Below.refl _ _).drew
                have HBU := hidp (HB.out.trans (bU.mono HB.out.size))
                have HSU := hidp (show U.cell? ⟨b8, i, none⟩ = some (.int .i64 x) ∧ U.cell? ⟨b9, i, none⟩ = some (.int .i64 y) ∧ U.cell? ⟨b7, 0, none⟩ = some (.int .i64 lev) from ⟨HX8.out U HBU.out, HX9.out U HBU.out, arr1 (HLg.out.below HBU.out HLg.out.lt)⟩)
                clear bU
                refine wp_region_noPanic ?_
                refine wp_region_scr (S := fun W => W.cell? ⟨b8, i, none⟩ = some (.int .i64 x) ∧ W.cell? ⟨b9, i, none⟩ = some (.int .i64 y) ∧ W.cell? ⟨b7, 0, none⟩ = some (.int .i64 lev)) (.take 0 (.take 1 (.take 2 (.take 3 (.take 4 (.take 5 (.take 6 (.take 7 (.take 8 (.take 9 (.take 10 (.take 11 (.take 12 (.take 13 (.take 14 (.take 15 (.take 16 (.take 17 .done)))))))))))))))))) (by kernel_rfl) (by kernel_rfl) (fun _ _ _ _ _ h => h) (by simp [Scr.depth]) (by kernel_rfl) (by rw [hU]; exact HSU.out) ?_
                simp only [hU]
                clear hU
                apply s_val
                case ho => rfl
                case hw => rfl
                case hv => intro w hw; obtain ⟨z0, z1, z2⟩ := hw; go_simp; first | done | with_reducible rfl | rfl
                simp only [Act.put, List.getElem_toArray, List.getElem_cons_zero, List.getElem_cons_succ, List.setIfInBounds_toArray, List.set_cons_zero, List.set_cons_succ]
                apply s_val
                case ho => rfl
                case hw => rfl
                case hv => intro w hw; obtain ⟨z0, z1, z2⟩ := hw; go_simp; first | done | with_reducible rfl | rfl
                simp only [Act.put, List.getElem_toArray, List.getElem_cons_zero, List.getElem_cons_succ, List.setIfInBounds_toArray, List.set_cons_zero, List.set_cons_succ]
                apply s_val
                case ho => rfl
                case hw => rfl
                case hv => intro w hw; obtain ⟨z0, z1, z2⟩ := hw; go_simp; first | done | with_reducible rfl | rfl
                simp only [Act.put, List.getElem_toArray, List.getElem_cons_zero, List.getElem_cons_succ, List.setIfInBounds_toArray, List.set_cons_zero, List.set_cons_succ]
                apply s_val
                case ho => rfl
                case hw => rfl
                case hv => intro w hw; obtain ⟨z0, z1, z2⟩ := hw; go_simp; first | done | with_reducible rfl | rfl
                simp only [Act.put, List.getElem_toArray, List.getElem_cons_zero, List.getElem_cons_succ, List.setIfInBounds_toArray, List.set_cons_zero, List.set_cons_succ]
                apply s_val
                case ho => rfl
                case hw => rfl
                case hv => intro w hw; obtain ⟨z0, z1, z2⟩ := hw; go_simp; first | done | with_reducible rfl | rfl
                simp only [Act.put, List.getElem_toArray, List.getElem_cons_zero, List.getElem_cons_succ, List.setIfInBounds_toArray, List.set_cons_zero, List.set_cons_succ]
                apply s_val
                case ho => rfl
                case hw => rfl
                case hv => intro w hw; obtain ⟨z0, z1, z2⟩ := hw; go_simp; first | done | with_reducible rfl | rfl
                simp only [Act.put, List.getElem_toArray, List.getElem_cons_zero, List.getElem_cons_succ, List.setIfInBounds_toArray, List.set_cons_zero, List.set_cons_succ]
                apply s_val
                case ho => rfl
                case hw => rfl
                case hv => intro w hw; obtain ⟨z0, z1, z2⟩ := hw; go_simp; first | done | with_reducible rfl | rfl
                simp only [Act.put, List.getElem_toArray, List.getElem_cons_zero, List.getElem_cons_succ, List.setIfInBounds_toArray, List.set_cons_zero, List.set_cons_succ]
                apply s_val
                case ho => rfl
                case hw => rfl
                case hv => intro w hw; obtain ⟨z0, z1, z2⟩ := hw; go_simp; first | done | with_reducible rfl | rfl
                simp only [Act.put, List.getElem_toArray, List.getElem_cons_zero, List.getElem_cons_succ, List.setIfInBounds_toArray, List.set_cons_zero, List.set_cons_succ]
                apply s_val
                case ho => rfl
                case hw => rfl
                case hv => intro w hw; obtain ⟨z0, z1, z2⟩ := hw; go_simp; first | done | with_reducible rfl | rfl
                simp only [Act.put, List.getElem_toArray, List.getElem_cons_zero, List.getElem_cons_succ, List.setIfInBounds_toArray, List.set_cons_zero, List.set_cons_succ]
                apply s_val
                case ho => rfl
                case hw => rfl
                case hv => intro w hw; obtain ⟨z0, z1, z2⟩ := hw; go_simp; first | done | with_reducible rfl | rfl
                simp only [Act.put, List.getElem_toArray, List.getElem_cons_zero, List.getElem_cons_succ, List.setIfInBounds_toArray, List.set_cons_zero, List.set_cons_succ]
                apply s_val
                case ho => rfl
                case hw => rfl
                case hv => intro w hw; obtain ⟨z0, z1, z2⟩ := hw; go_simp; first | done | with_reducible rfl | rfl
                simp only [Act.put, List.getElem_toArray, List.getElem_cons_zero, List.getElem_cons_succ, List.setIfInBounds_toArray, List.set_cons_zero, List.set_cons_succ]
                apply s_val
                case ho => rfl
                case hw => rfl
                case hv => intro w hw; obtain ⟨z0, z1, z2⟩ := hw; go_simp; first | done | with_reducible rfl | rfl
                simp only [Act.put, List.getElem_toArray, List.getElem_cons_zero, List.getElem_cons_succ, List.setIfInBounds_toArray, List.set_cons_zero, List.set_cons_succ]
                apply s_val
                case ho => rfl
                case hw => rfl
                case hv => intro w hw; obtain ⟨z0, z1, z2⟩ := hw; go_simp; first | done | with_reducible rfl | rfl
                simp only [Act.put, List.getElem_toArray, List.getElem_cons_zero, List.getElem_cons_succ, List.setIfInBounds_toArray, List.set_cons_zero, List.set_cons_succ]
                apply s_val
                case ho => rfl
                case hw => rfl
                case hv => intro w hw; obtain ⟨z0, z1, z2⟩ := hw; go_simp; first | done | with_reducible rfl | rfl
                simp only [Act.put, List.getElem_toArray, List.getElem_cons_zero, List.getElem_cons_succ, List.setIfInBounds_toArray, List.set_cons_zero, List.set_cons_succ]
                apply s_val
                case ho => rfl
                case hw => rfl
                case hv => intro w hw; have q0 := hmx; go_simp; first | done | with_reducible rfl | rfl
                simp only [Act.put, List.getElem_toArray, List.getElem_cons_zero, List.getElem_cons_succ, List.setIfInBounds_toArray, List.set_cons_zero, List.set_cons_succ]
                apply s_val
                case ho => rfl
                case hw => rfl
                case hv => intro w hw; obtain ⟨z0, z1, z2⟩ := hw; go_simp; first | done | with_reducible rfl | rfl
                simp only [Act.put, List.getElem_toArray, List.getElem_cons_zero, List.getElem_cons_succ, List.setIfInBounds_toArray, List.set_cons_zero, List.set_cons_succ]
                apply s_val
                case ho => rfl
                case hw => rfl
                case hv => intro w hw; obtain ⟨z0, z1, z2⟩ := hw; go_simp; first | done | with_reducible rfl | rfl
                simp only [Act.put, List.getElem_toArray, List.getElem_cons_zero, List.getElem_cons_succ, List.setIfInBounds_toArray, List.set_cons_zero, List.set_cons_succ]
                apply s_val
                case ho => rfl
                case hw => rfl
                case hv => intro w hw; obtain ⟨z0, z1, z2⟩ := hw; go_simp; first | done | with_reducible rfl | rfl
                simp only [Act.put, List.getElem_toArray, List.getElem_cons_zero, List.getElem_cons_succ, List.setIfInBounds_toArray, List.set_cons_zero, List.set_cons_succ]
                refine NoPanic.normal ?_
                go_wp2_with fail
                exact ⟨⟨i + 1, by go_num, by omega, HOK2.out, HBU.out⟩, by simp [intOf]; omega⟩
              | true =>
                have HF := hidp (show chE was is u = 12 from by rw [HE.out, if_pos (any_range_at hlt (by rw [HBD.out, hq, hm]; rfl))])
                go_wp2_with fail
                obtain ⟨U, hU⟩ : ∃ U, ({ wr with drawn := wr.drawn + 1 } : World) = U := ⟨_, rfl⟩
                have bU : Below wr.heap.size wr U := by rw [← hU]; exact (Below.refl _ _).drew
                have HBU := hidp (HB.out.trans (bU.mono HB.out.size))
                have HSU := hidp (show U.cell? ⟨b8, i, none⟩ = some (.int .i64 x) ∧ U.cell? ⟨b9, i, none⟩ = some (.int .i64 y) ∧ U.cell? ⟨b7, 0, none⟩ = some (.int .i64 lev) from ⟨HX8.out U HBU.out, HX9.out U HBU.out, arr1 (HLg.out.below HBU.out HLg.out.lt)⟩)
                clear bU
                refine wp_region_noPanic ?_
                refine wp_region_scr (S := fun W => W.cell? ⟨b8, i, none⟩ = some (.int .i64 x) ∧ W.cell? ⟨b9, i, none⟩ = some (.int .i64 y) ∧ W.cell? ⟨b7, 0, none⟩ = some (.int .i64 lev)) (.take 0 (.take 1 (.take 2 (.take 3 (.take 4 (.take 5 (.take 6 (.take 7 (.take 8 (.take 9 (.take 10 (.take 11 (.take 12 (.take 13 (.take 14 (.take 15 (.take 16 (.take 17 .done)))))))))))))))))) (by kernel_rfl) (by kernel_rfl) (fun _ _ _ _ _ h => h) (by simp [Scr.depth]) (by kernel_rfl) (by rw [hU]; exact HSU.out) ?_
                simp only [hU]
                clear hU
                apply s_val
                case ho => rfl
                case hw => rfl
                case hv => intro w hw; obtain ⟨z0, z1, z2⟩ := hw; go_simp; first | done | with_reducible rfl | rfl
                simp only [Act.put, List.getElem_toArray, List.getElem_cons_zero, List.getElem_cons_succ, List.setIfInBounds_toArray, List.set_cons_zero, List.set_cons_succ]
                apply s_val
                case ho => rfl
                case hw => rfl
                case hv => intro w hw; obtain ⟨z0, z1, z2⟩ := hw; go_simp; first | done | with_reducible rfl | rfl
                simp only [Act.put, List.getElem_toArray, List.getElem_cons_zero, List.getElem_cons_succ, List.setIfInBounds_toArray, List.set_cons_zero, List.set_cons_succ]
                apply s_val
                case ho => rfl
                case hw => rfl
                case hv => intro w hw; obtain ⟨z0, z1, z2⟩ := hw; go_simp; first | done | with_reducible rfl | rfl
                simp only [Act.put, List.getElem_toArray, List.getElem_cons_zero, List.getElem_cons_succ, List.setIfInBounds_toArray, List.set_cons_zero, List.set_cons_succ]
                apply s_val
                case ho => rfl
                case hw => rfl
                case hv => intro w hw; obtain ⟨z0, z1, z2⟩ := hw; go_simp; first | done | with_reducible rfl | rfl
                simp only [Act.put, List.getElem_toArray, List.getElem_cons_zero, List.getElem_cons_succ, List.setIfInBounds_toArray, List.set_cons_zero, List.set_cons_succ]
                apply s_val
                case ho => rfl
                case hw => rfl
                case hv => intro w hw; obtain ⟨z0, z1, z2⟩ := hw; go_simp; first | done | with_reducible rfl | rfl
                simp only [Act.put, List.getElem_toArray, List.getElem_cons_zero, List.getElem_cons_succ, List.setIfInBounds_toArray, List.set_cons_zero, List.set_cons_succ]
                apply s_val
                case ho => rfl
                case hw => rfl
                case hv => intro w hw; obtain ⟨z0, z1, z2⟩ := hw; go_simp; first | done | with_reducible rfl | rfl
                simp only [Act.put, List.getElem_toArray, List.getElem_cons_zero, List.getElem_cons_succ, List.setIfInBounds_toArray, List.set_cons_zero, List.set_cons_succ]
                apply s_val
                case ho => rfl
                case hw => rfl
                case hv => intro w hw; obtain ⟨z0, z1, z2⟩ := hw; go_simp; first | done | with_reducible rfl | rfl
                simp only [Act.put, List.getElem_toArray, List.getElem_cons_zero, List.getElem_cons_succ, List.setIfInBounds_toArray, List.set_cons_zero, List.set_cons_succ]
                apply s_val
                case ho => rfl
                case hw => rfl
                case hv => intro w hw; obtain ⟨z0, z1, z2⟩ := hw; go_simp; first | done | with_reducible rfl | rfl
                simp only [Act.put, List.getElem_toArray, List.getElem_cons_zero, List.getElem_cons_succ, List.setIfInBounds_toArray, List.set_cons_zero, List.set_cons_succ]
                apply s_val
                case ho => rfl
                case hw => rfl
                case hv => intro w hw; obtain ⟨z0, z1, z2⟩ := hw; go_simp; first | done | with_reducible rfl | rfl
                simp only [Act.put, List.getElem_toArray, List.getElem_cons_zero, List.getElem_cons_succ, List.setIfInBounds_toArray, List.set_cons_zero, List.set_cons_succ]
                apply s_val
                case ho => rfl
                case hw => rfl
                case hv => intro w hw; obtain ⟨z0, z1, z2⟩ := hw; go_simp; first | done | with_reducible rfl | rfl
                simp only [Act.put, List.getElem_toArray, List.getElem_cons_zero, List.getElem_cons_succ, List.setIfInBounds_toArray, List.set_cons_zero, List.set_cons_succ]
                apply s_val
                case ho => rfl
                case hw => rfl
                case hv => intro w hw; obtain ⟨z0, z1, z2⟩ := hw; go_simp; first | done | with_reducible rfl | rfl
                simp only [Act.put, List.getElem_toArray, List.getElem_cons_zero, List.getElem_cons_succ, List.setIfInBounds_toArray, List.set_cons_zero, List.set_cons_succ]
                apply s_val
                case ho => rfl
                case hw => rfl
                case hv => intro w hw; obtain ⟨z0, z1, z2⟩ := hw; go_simp; first | done | with_reducible rfl | rfl
                simp only [Act.put, List.getElem_toArray, List.getElem_cons_zero, List.getElem_cons_succ, List.setIfInBounds_toArray, List.set_cons_zero, List.set_cons_succ]
                apply s_val
                case ho => rfl
                case hw => rfl
                case hv => intro w hw; obtain ⟨z0, z1, z2⟩ := hw; go_simp; first | done | with_reducible rfl | rfl
                simp only [Act.put, List.getElem_toArray, List.getElem_cons_zero, List.getElem_cons_succ, List.setIfInBounds_toArray, List.set_cons_zero, List.set_cons_succ]
                apply s_val
                case ho => rfl
                case hw => rfl
                case hv => intro w hw; obtain ⟨z0, z1, z2⟩ := hw; go_simp; first | done | with_reducible rfl | rfl
                simp only [Act.put, List.getElem_toArray, List.getElem_cons_zero, List.getElem_cons_succ, List.setIfInBounds_toArray, List.set_cons_zero, List.set_cons_succ]
                apply s_val
                case ho => rfl
                case hw => rfl
                case hv => intro w hw; have q0 := hmx; go_simp; first | done | with_reducible rfl | rfl
                simp only [Act.put, List.getElem_toArray, List.getElem_cons_zero, List.getElem_cons_succ, List.setIfInBounds_toArray, List.set_cons_zero, List.set_cons_succ]
                apply s_val
                case ho => rfl
                case hw => rfl
                case hv => intro w hw; obtain ⟨z0, z1, z2⟩ := hw; go_simp; first | done | with_reducible rfl | rfl
                simp only [Act.put, List.getElem_toArray, List.getElem_cons_zero, List.getElem_cons_succ, List.setIfInBounds_toArray, List.set_cons_zero, List.set_cons_succ]
                apply s_val
                case ho => rfl
                case hw => rfl
                case hv => intro w hw; obtain ⟨z0, z1, z2⟩ := hw; go_simp; first | done | with_reducible rfl | rfl
                simp only [Act.put, List.getElem_toArray, List.getElem_cons_zero, List.getElem_cons_succ, List.setIfInBounds_toArray, List.set_cons_zero, List.set_cons_succ]
                apply s_val
                case ho => rfl
                case hw => rfl
                case hv => intro w hw; obtain ⟨z0, z1, z2⟩ := hw; go_simp; first | done | with_reducible rfl | rfl
                simp only [Act.put, List.getElem_toArray, List.getElem_cons_zero, List.getElem_cons_succ, List.setIfInBounds_toArray, List.set_cons_zero, List.set_cons_succ]
                refine NoPanic.normal ?_
                have HRU := hidp (HRg.out.below HBU.out HRg.out.lt)
                go_wp2_with (refine Rt.wpL_putF rfl 26 (.tmp 6) _ rfl b6 0 (.int .i64 12) rfl rfl (by kernel_rfl) rfl [.int .i64 0] HRU.out (by simp) ?_; intro wz ha hp; have HBZ := hidp (hp.below' (HBG.out.trans (HBU.out.mono HBG.out.size)) hg_b6.out); have HRZ := hidp (show Arr wz b6 26 [.int .i64 12] from ha); clear ha hp)
                have er := arr1 HRZ.out
                refine ⟨_, by simp [results, Tryz.results29, go_sem, er]; rfl, by rw [HF.out], HBZ.out⟩
          · have e1 : decide ((i : Int) < 6) = false := by simp; omega
            obtain rfl : i = 6 := by omega
            have HE2 := hidp (show chE was is u = if (chL was.us is.us).any (uBad was is u lev) = true then 12 else 0 from by rw [HE.out, if_neg (by rw [HOK.out]; exact Bool.false_ne_true)])
            have HAr := hidp (HAg.out.below HB.out HAg.out.lt); have HCr := hidp (HCg.out.below HB.out HCg.out.lt)
            have HBr := hidp (HBG.out.trans (HB.out.mono HBG.out.size))
            have cch := hidp (fun W => changed_any W was is vw vi)
            clear HOK HE e1 hlt hi
            go_wp2_with (first | (refine Rt.wpL_get tyL rfl (.tmp 3) rfl b3 [.int .i64 was.a, .int .i64 was.s, .int .i64 was.i, .int .i64 was.k, .int .i64 was.b, .int .i64 was.r, vw] rfl rfl HAr.out ?_) | (refine Rt.wpL_get tyL rfl (.tmp 4) rfl b4 [.int .i64 is.a, .int .i64 is.s, .int .i64 is.i, .int .i64 is.k, .int .i64 is.b, .int .i64 is.r, vi] rfl rfl HCr.out ?_) | (go_at_call 76; refine (cch.out _).mono ?_; rintro e w9 ⟨bw, bi, rfl, h1, h2, h3⟩; have HBw := hidp h1; have HBi := hidp h2; have HB9 := hidp (HBr.out.trans (h3.mono HBr.out.size)); have HGR := hidp (HB.out.trans (h3.mono HB.out.size)); clear h1 h2 h3))
            have hg := HB9.out.size
            refine Rnd.range_F (α := ByteArray) 8 (fun a x => { tmps := (a.tmps.setIfInBounds 53 (.string x)).setIfInBounds 11 (.string x), defers := [] }) (by omega) (gf := 118) (lb := #[.pointer (some ⟨bw, 0, none⟩), .pointer (some ⟨bi, 0, none⟩)]) rfl (enters_of Tryz.func118 (by kernel_rfl) rfl)
              (encs := encU) (S := fun ys => ys = chL was.us is.us) (Sp := fun pre => pre <+: chL was.us is.us) (N := (chL was.us is.us).length)
              (changed_stops (8 - 1) (by omega) bw bi was is vw vi w9 HBw.out HBi.out (HVw.out.to' HB9.out) (HVi.out.to' HB9.out)) (fun _ => rfl)
              (ICh (uBad was is u lev) w9) (IxCh (uBad was is u lev) w b6) (ICh_own _ _) (fun c => IxCh_own _ _ _ c _ hg) ⟨rfl, Below.refl _ _⟩ ?assign ?body ?done ?stop
            case assign =>
              intro l x W K hK
              have HK := hidp hK
              clear hK
              simp only [encU]
              gi_wp2
              exact HK.out
            case body =>
              rintro l pre x W ⟨hpre, hB⟩ hlt
              have HPRE := hidp hpre; have HBW := hidp hB
              clear hpre hB hlt
              have HLW := hidp (HLg.out.below (HGR.out.trans (HBW.out.mono HGR.out.size)) HLg.out.lt); have HUW := hidp (HUg.out.below (HGR.out.trans (HBW.out.mono HGR.out.size)) HUg.out.lt); have HRW := hidp (HRg.out.below (HGR.out.trans (HBW.out.mono HGR.out.size)) HRg.out.lt); have HAW := hidp (HAg.out.below (HGR.out.trans (HBW.out.mono HGR.out.size)) HAg.out.lt); have HCW := hidp (HCg.out.below (HGR.out.trans (HBW.out.mono HGR.out.size)) HCg.out.lt)
              have HB0 := hidp (HB9.out.trans (HBW.out.mono HB9.out.size))
              have c1 := hidp (fun W h => of_any W was vw x h); have c2 := hidp (fun W h => of_any W is vi x h)
              have HBAD := hidp (show (pre ++ [x]).any (uBad was is u lev) = (decide (ofL was x > lev) || ((ofL was x == lev) && (x.toList != u.toList)) || decide (ofL is x > lev)) from by
                rw [List.any_append, HPRE.out]; simp [uBad])
              obtain ⟨h1, hh1⟩ : ∃ k, ofL was x = k := ⟨_, rfl⟩
              obtain ⟨h2, hh2⟩ : ∃ k, ofL is x = k := ⟨_, rfl⟩
              rw [hh1] at c1 HBAD
              rw [hh2] at c2 HBAD
              clear hh1 hh2
              simp only [List.setIfInBounds_toArray, List.set_cons_zero, List.set_cons_succ]
              cases g1 : decide (h1 > lev) with
              | true =>
                have HBV := hidp (show (pre ++ [x]).any (uBad was is u lev) = true from by rw [HBAD.out]; simp [*])
                gi_wp2_with (refine Rnd.to_in (Rnd.roundF l) rfl ?_; refine Rt.wpL_get tyL rfl (.tmp 3) rfl b3 [.int .i64 was.a, .int .i64 was.s, .int .i64 was.i, .int .i64 was.k, .int .i64 was.b, .int .i64 was.r, vw] rfl rfl HAW.out ?_; refine ⟨rfl, ?_⟩)
                refine ⟨trivial, CallsIn.inRound l ((callsIn_wide.2 (c1.out _ (HVw.out.to' HB0.out))).mono ?_)⟩
                rintro e w2 ⟨rfl, hb2⟩
                have HBx := hidp hb2
                clear hb2
                gi_wp2_with fail
                obtain ⟨U, hU⟩ : ∃ U, ({ w2 with drawn := w2.drawn + 1 } : World) = U := ⟨_, rfl⟩
                have bU : Below w2.heap.size w2 U := by rw [← hU]; exact (Below.refl _ _).drew
                have HBx0 := hidp (HBx.out.trans (bU.mono HBx.out.size))
                have HSU := hidp (show U.cell? ⟨b7, 0, none⟩ = some (.int .i64 lev) ∧ U.cell? ⟨b5, 0, none⟩ = some (.string u) ∧ Arr U b4 37 [.int .i64 is.a, .int .i64 is.s, .int .i64 is.i, .int .i64 is.k, .int .i64 is.b, .int .i64 is.r, vi] from ⟨arr1 (HLW.out.below HBx0.out HLW.out.lt), arr1 (HUW.out.below HBx0.out HUW.out.lt), HCW.out.below HBx0.out HCW.out.lt⟩)
                clear bU HBx
                refine Rnd.in_region_scr (S := fun W => W.cell? ⟨b7, 0, none⟩ = some (.int .i64 lev) ∧ W.cell? ⟨b5, 0, none⟩ = some (.string u) ∧ Arr W b4 37 [.int .i64 is.a, .int .i64 is.s, .int .i64 is.i, .int .i64 is.k, .int .i64 is.b, .int .i64 is.r, vi]) (.take 0 (.take 1 (.take 2 (.take 3 (.take 4 (.take 5 (.take 6 (.take 7 (.take 8 (.take 9 (.take 10 (.take 11 (.take 12 (.take 13 (.take 14 (.take 15 (.take 16 (.take 17 (.take 18 (.take 19 .done)))))))))))))))))))) (Rnd.roundF l) (fun a w h => h) (by kernel_rfl) (by kernel_rfl) (by kernel_rfl) (fun _ _ _ _ _ h => h) (by simp [Scr.depth]) (by kernel_rfl) (by rw [hU]; exact HSU.out) ?_
                simp only [hU]
                clear hU
                apply s_val
                case ho => rfl
                case hw => rfl
                case hv => intro w hw; obtain ⟨z0, z1, z2⟩ := hw; go_simp; first | done | with_reducible rfl | rfl
                simp only [Act.put, List.getElem_toArray, List.getElem_cons_zero, List.getElem_cons_succ, List.setIfInBounds_toArray, List.set_cons_zero, List.set_cons_succ]
                apply s_val
                case ho => rfl
                case hw => rfl
                case hv => intro w hw; obtain ⟨z0, z1, z2⟩ := hw; go_simp; first | done | with_reducible rfl | rfl
                simp only [Act.put, List.getElem_toArray, List.getElem_cons_zero, List.getElem_cons_succ, List.setIfInBounds_toArray, List.set_cons_zero, List.set_cons_succ]
                apply s_val (v := .bool true)
                case ho => rfl
                case hw => rfl
                case hv => intro w hw; obtain ⟨z0, z1, z2⟩ := hw; go_simp; first | done | assumption | (simpa using g3) | with_reducible rfl | rfl
                simp only [Act.put, List.getElem_toArray, List.getElem_cons_zero, List.getElem_cons_succ, List.setIfInBounds_toArray, List.set_cons_zero, List.set_cons_succ]
                apply s_val
                case ho => rfl
                case hw => rfl
                case hv => intro w hw; obtain ⟨z0, z1, z2⟩ := hw; go_simp; first | done | with_reducible rfl | rfl
                simp only [Act.put, List.getElem_toArray, List.getElem_cons_zero, List.getElem_cons_succ, List.setIfInBounds_toArray, List.set_cons_zero, List.set_cons_succ]
                refine Rt.s_skip rfl rfl ?_
                simp only [Act.put, List.getElem_toArray, List.getElem_cons_zero, List.getElem_cons_succ, List.setIfInBounds_toArray, List.set_cons_zero, List.set_cons_succ]
                refine Rt.s_skip rfl rfl ?_
                simp only [Act.put, List.getElem_toArray, List.getElem_cons_zero, List.getElem_cons_succ, List.setIfInBounds_toArray, List.set_cons_zero, List.set_cons_succ]
                refine Rt.s_skip rfl rfl ?_
                simp only [Act.put, List.getElem_toArray, List.getElem_cons_zero, List.getElem_cons_succ, List.setIfInBounds_toArray, List.set_cons_zero, List.set_cons_succ]
                refine Rt.s_skip rfl rfl ?_
                simp only [Act.put, List.getElem_toArray, List.getElem_cons_zero, List.getElem_cons_succ, List.setIfInBounds_toArray, List.set_cons_zero, List.set_cons_succ]
                refine Rt.s_skip rfl rfl ?_
                simp only [Act.put, List.getElem_toArray, List.getElem_cons_zero, List.getElem_cons_succ, List.setIfInBounds_toArray, List.set_cons_zero, List.set_cons_succ]
                refine Rt.s_skip rfl rfl ?_
                simp only [Act.put, List.getElem_toArray, List.getElem_cons_zero, List.getElem_cons_succ, List.setIfInBounds_toArray, List.set_cons_zero, List.set_cons_succ]
                refine Rt.s_skip rfl rfl ?_
                simp only [Act.put, List.getElem_toArray, List.getElem_cons_zero, List.getElem_cons_succ, List.setIfInBounds_toArray, List.set_cons_zero, List.set_cons_succ]
                refine Rt.s_skip rfl rfl ?_
                simp only [Act.put, List.getElem_toArray, List.getElem_cons_zero, List.getElem_cons_succ, List.setIfInBounds_toArray, List.set_cons_zero, List.set_cons_succ]
                apply s_val
                case ho => rfl
                case hw => rfl
                case hv => intro w hw; obtain ⟨z0, z1, z2⟩ := hw; go_simp; first | done | with_reducible rfl | rfl
                simp only [Act.put, List.getElem_toArray, List.getElem_cons_zero, List.getElem_cons_succ, List.setIfInBounds_toArray, List.set_cons_zero, List.set_cons_succ]
                apply s_val
                case ho => rfl
                case hw => rfl
                case hv => intro w hw; obtain ⟨z0, z1, z2⟩ := hw; go_simp; first | done | with_reducible rfl | rfl
                simp only [Act.put, List.getElem_toArray, List.getElem_cons_zero, List.getElem_cons_succ, List.setIfInBounds_toArray, List.set_cons_zero, List.set_cons_succ]
                refine Rt.s_skip rfl rfl ?_
                simp only [Act.put, List.getElem_toArray, List.getElem_cons_zero, List.getElem_cons_succ, List.setIfInBounds_toArray, List.set_cons_zero, List.set_cons_succ]
                refine Rt.s_skip rfl rfl ?_
                simp only [Act.put, List.getElem_toArray, List.getElem_cons_zero, List.getElem_cons_succ, List.setIfInBounds_toArray, List.set_cons_zero, List.set_cons_succ]
                refine Rt.s_skip rfl rfl ?_
                simp only [Act.put, List.getElem_toArray, List.getElem_cons_zero, List.getElem_cons_succ, List.setIfInBounds_toArray, List.set_cons_zero, List.set_cons_succ]
                refine Rt.s_skip rfl rfl ?_
                simp only [Act.put, List.getElem_toArray, List.getElem_cons_zero, List.getElem_cons_succ, List.setIfInBounds_toArray, List.set_cons_zero, List.set_cons_succ]
                refine Rt.s_skip rfl rfl ?_
                simp only [Act.put, List.getElem_toArray, List.getElem_cons_zero, List.getElem_cons_succ, List.setIfInBounds_toArray, List.set_cons_zero, List.set_cons_succ]
                apply s_val
                case ho => rfl
                case hw => rfl
                case hv => intro w hw; obtain ⟨z0, z1, z2⟩ := hw; go_simp; first | done | with_reducible rfl | rfl
                simp only [Act.put, List.getElem_toArray, List.getElem_cons_zero, List.getElem_cons_succ, List.setIfInBounds_toArray, List.set_cons_zero, List.set_cons_succ]
                refine Rnd.scr_done ?_
                have HBX := HBx0
                have HRX := hidp (HRW.out.below HBX.out HRW.out.lt)
                gi_wp2_with (refine Rnd.to_in (Rnd.roundF l) rfl ?_; refine Rt.wpL_putF rfl 26 (.tmp 6) _ rfl b6 0 (.int .i64 12) rfl rfl (by kernel_rfl) rfl [.int .i64 0] HRX.out (by simp) ?_; intro wz ha hp; refine ⟨rfl, ?_⟩; have HKO := hidp ((others_below HBX.out).trans (Rnd.others_stp hp HRX.out)); have HBZ := hidp (hp.below' (HB0.out.trans (HBX.out.mono HB0.out.size)) hg_b6.out); have HRZ := hidp (show Arr wz b6 26 [.int .i64 12] from ha); clear ha hp)
                exact ⟨HKO.out, ⟨⟨rfl, HBV.out⟩, HRZ.out⟩, HBZ.out⟩
              | false =>
                cases g2 : (h1 == lev) with
                | true =>
                  cases g3 : (x.toList != u.toList) with
                  | true =>
                    have HBV := hidp (show (pre ++ [x]).any (uBad was is u lev) = true from by rw [HBAD.out]; simp [*])
                    gi_wp2_with (refine Rnd.to_in (Rnd.roundF l) rfl ?_; refine Rt.wpL_get tyL rfl (.tmp 3) rfl b3 [.int .i64 was.a, .int .i64 was.s, .int .i64 was.i, .int .i64 was.k, .int .i64 was.b, .int .i64 was.r, vw] rfl rfl HAW.out ?_; refine ⟨rfl, ?_⟩)
                    refine ⟨trivial, CallsIn.inRound l ((callsIn_wide.2 (c1.out _ (HVw.out.to' HB0.out))).mono ?_)⟩
                    rintro e w2 ⟨rfl, hb2⟩
                    have HBx := hidp hb2
                    clear hb2
                    gi_wp2_with fail
                    obtain ⟨U, hU⟩ : ∃ U, ({ w2 with drawn := w2.drawn + 1 } : World) = U := ⟨_, rfl⟩
                    have bU : Below w2.heap.size w2 U := by rw [← hU]; exact (Below.refl _ _).drew
                    have HBx0 := hidp (HBx.out.trans (bU.mono HBx.out.size))
                    have HSU := hidp (show U.cell? ⟨b7, 0, none⟩ = some (.int .i64 lev) ∧ U.cell? ⟨b5, 0, none⟩ = some (.string u) ∧ Arr U b4 37 [.int .i64 is.a, .int .i64 is.s, .int .i64 is.i, .int .i64 is.k, .int .i64 is.b, .int .i64 is.r, vi] from ⟨arr1 (HLW.out.below HBx0.out HLW.out.lt), arr1 (HUW.out.below HBx0.out HUW.out.lt), HCW.out.below HBx0.out HCW.out.lt⟩)
                    clear bU HBx
                    refine Rnd.in_region_scr (S := fun W => W.cell? ⟨b7, 0, none⟩ = some (.int .i64 lev) ∧ W.cell? ⟨b5, 0, none⟩ = some (.string u) ∧ Arr W b4 37 [.int .i64 is.a, .int .i64 is.s, .int .i64 is.i, .int .i64 is.k, .int .i64 is.b, .int .i64 is.r, vi]) (.take 0 (.take 1 (.take 2 (.take 3 (.take 4 (.take 5 (.take 6 (.take 7 (.take 8 (.take 9 (.take 10 (.take 11 (.take 12 (.take 13 (.take 14 (.take 15 (.take 16 (.take 17 (.take 18 (.take 19 .done)))))))))))))))))))) (Rnd.roundF l) (fun a w h => h) (by kernel_rfl) (by kernel_rfl) (by kernel_rfl) (fun _ _ _ _ _ h => h) (by simp [Scr.depth]) (by kernel_rfl) (by rw [hU]; exact HSU.out) ?_
                    simp only [hU]
                    clear hU
                    apply s_val
                    case ho => rfl
                    case hw => rfl
                    case hv => intro w hw; obtain ⟨z0, z1, z2⟩ := hw; go_simp; first | done | with_reducible rfl | rfl
                    simp only [Act.put, List.getElem_toArray, List.getElem_cons_zero, List.getElem_cons_succ, List.setIfInBounds_toArray, List.set_cons_zero, List.set_cons_succ]
                    apply s_val
                    case ho => rfl
                    case hw => rfl
                    case hv => intro w hw; obtain ⟨z0, z1, z2⟩ := hw; go_simp; first | done | with_reducible rfl | rfl
                    simp only [Act.put, List.getElem_toArray, List.getElem_cons_zero, List.getElem_cons_succ, List.setIfInBounds_toArray, List.set_cons_zero, List.set_cons_succ]
                    apply s_val (v := .bool false)
                    case ho => rfl
                    case hw => rfl
                    case hv => intro w hw; obtain ⟨z0, z1, z2⟩ := hw; go_simp; first | done | assumption | (simpa using g3) | with_reducible rfl | rfl
                    simp only [Act.put, List.getElem_toArray, List.getElem_cons_zero, List.getElem_cons_succ, List.setIfInBounds_toArray, List.set_cons_zero, List.set_cons_succ]
                    apply s_val
                    case ho => rfl
                    case hw => rfl
                    case hv => intro w hw; obtain ⟨z0, z1, z2⟩ := hw; go_simp; first | done | with_reducible rfl | rfl
                    simp only [Act.put, List.getElem_toArray, List.getElem_cons_zero, List.getElem_cons_succ, List.setIfInBounds_toArray, List.set_cons_zero, List.set_cons_succ]
                    apply s_val
                    case ho => rfl
                    case hw => rfl
                    case hv => intro w hw; obtain ⟨z0, z1, z2⟩ := hw; go_simp; first | done | with_reducible rfl | rfl
                    simp only [Act.put, List.getElem_toArray, List.getElem_cons_zero, List.getElem_cons_succ, List.setIfInBounds_toArray, List.set_cons_zero, List.set_cons_succ]
                    apply s_val
                    case ho => rfl
                    case hw => rfl
                    case hv => intro w hw; obtain ⟨z0, z1, z2⟩ := hw; go_simp; first | done | with_reducible rfl | rfl
                    simp only [Act.put, List.getElem_toArray, List.getElem_cons_zero, List.getElem_cons_succ, List.setIfInBounds_toArray, List.set_cons_zero, List.set_cons_succ]
                    apply s_val (v := .bool true)
                    case ho => rfl
                    case hw => rfl
                    case hv => intro w hw; obtain ⟨z0, z1, z2⟩ := hw; go_simp; first | done | assumption | (simpa using g3) | with_reducible rfl | rfl
                    simp only [Act.put, List.getElem_toArray, List.getElem_cons_zero, List.getElem_cons_succ, List.setIfInBounds_toArray, List.set_cons_zero, List.set_cons_succ]
                    apply s_val
                    case ho => rfl
                    case hw => rfl
                    case hv => intro w hw; obtain ⟨z0, z1, z2⟩ := hw; go_simp; first | done | with_reducible rfl | rfl
                    simp only [Act.put, List.getElem_toArray, List.getElem_cons_zero, List.getElem_cons_succ, List.setIfInBounds_toArray, List.set_cons_zero, List.set_cons_succ]
                    apply s_val
                    case ho => rfl
                    case hw => rfl
                    case hv => intro w hw; obtain ⟨z0, z1, z2⟩ := hw; go_simp; first | done | with_reducible rfl | rfl
                    simp only [Act.put, List.getElem_toArray, List.getElem_cons_zero, List.getElem_cons_succ, List.setIfInBounds_toArray, List.set_cons_zero, List.set_cons_succ]
                    apply s_val
                    case ho => rfl
                    case hw => rfl
                    case hv => intro w hw; obtain ⟨z0, z1, z2⟩ := hw; go_simp; first | done | with_reducible rfl | rfl
                    simp only [Act.put, List.getElem_toArray, List.getElem_cons_zero, List.getElem_cons_succ, List.setIfInBounds_toArray, List.set_cons_zero, List.set_cons_succ]
                    apply s_val (v := .bool true)
                    case ho => rfl
                    case hw => rfl
                    case hv => intro w hw; obtain ⟨z0, z1, z2⟩ := hw; go_simp; first | done | assumption | (simpa using g3) | with_reducible rfl | rfl
                    simp only [Act.put, List.getElem_toArray, List.getElem_cons_zero, List.getElem_cons_succ, List.setIfInBounds_toArray, List.set_cons_zero, List.set_cons_succ]
                    apply s_val
                    case ho => rfl
                    case hw => rfl
                    case hv => intro w hw; obtain ⟨z0, z1, z2⟩ := hw; go_simp; first | done | with_reducible rfl | rfl
                    simp only [Act.put, List.getElem_toArray, List.getElem_cons_zero, List.getElem_cons_succ, List.setIfInBounds_toArray, List.set_cons_zero, List.set_cons_succ]
                    apply s_val
                    case ho => rfl
                    case hw => rfl
                    case hv => intro w hw; obtain ⟨z0, z1, z2⟩ := hw; go_simp; first | done | with_reducible rfl | rfl
                    simp only [Act.put, List.getElem_toArray, List.getElem_cons_zero, List.getElem_cons_succ, List.setIfInBounds_toArray, List.set_cons_zero, List.set_cons_succ]
                    apply s_val
                    case ho => rfl
                    case hw => rfl
                    case hv => intro w hw; obtain ⟨z0, z1, z2⟩ := hw; go_simp; first | done | with_reducible rfl | rfl
                    simp only [Act.put, List.getElem_toArray, List.getElem_cons_zero, List.getElem_cons_succ, List.setIfInBounds_toArray, List.set_cons_zero, List.set_cons_succ]
                    refine Rt.s_skip rfl rfl ?_
                    simp only [Act.put, List.getElem_toArray, List.getElem_cons_zero, List.getElem_cons_succ, List.setIfInBounds_toArray, List.set_cons_zero, List.set_cons_succ]
                    refine Rt.s_skip rfl rfl ?_
                    simp only [Act.put, List.getElem_toArray, List.getElem_cons_zero, List.getElem_cons_succ, List.setIfInBounds_toArray, List.set_cons_zero, List.set_cons_succ]
                    refine Rt.s_skip rfl rfl ?_
                    simp only [Act.put, List.getElem_toArray, List.getElem_cons_zero, List.getElem_cons_succ, List.setIfInBounds_toArray, List.set_cons_zero, List.set_cons_succ]
                    refine Rt.s_skip rfl rfl ?_
                    simp only [Act.put, List.getElem_toArray, List.getElem_cons_zero, List.getElem_cons_succ, List.setIfInBounds_toArray, List.set_cons_zero, List.set_cons_succ]
                    refine Rt.s_skip rfl rfl ?_
                    simp only [Act.put, List.getElem_toArray, List.getElem_cons_zero, List.getElem_cons_succ, List.setIfInBounds_toArray, List.set_cons_zero, List.set_cons_succ]
                    apply s_val
                    case ho => rfl
                    case hw => rfl
                    case hv => intro w hw; obtain ⟨z0, z1, z2⟩ := hw; go_simp; first | done | with_reducible rfl | rfl
                    simp only [Act.put, List.getElem_toArray, List.getElem_cons_zero, List.getElem_cons_succ, List.setIfInBounds_toArray, List.set_cons_zero, List.set_cons_succ]
                    refine Rnd.scr_done ?_
                    have HBX := HBx0
                    have HRX := hidp (HRW.out.below HBX.out HRW.out.lt)
                    gi_wp2_with (refine Rnd.to_in (Rnd.roundF l) rfl ?_; refine Rt.wpL_putF rfl 26 (.tmp 6) _ rfl b6 0 (.int .i64 12) rfl rfl (by kernel_rfl) rfl [.int .i64 0] HRX.out (by simp) ?_; intro wz ha hp; refine ⟨rfl, ?_⟩; have HKO := hidp ((others_below HBX.out).trans (Rnd.others_stp hp HRX.out)); have HBZ := hidp (hp.below' (HB0.out.trans (HBX.out.mono HB0.out.size)) hg_b6.out); have HRZ := hidp (show Arr wz b6 26 [.int .i64 12] from ha); clear ha hp)
                    exact ⟨HKO.out, ⟨⟨rfl, HBV.out⟩, HRZ.out⟩, HBZ.out⟩
                  | false =>
                    cases g4 : decide (h2 > lev) with
                    | true =>
                      have HBV := hidp (show (pre ++ [x]).any (uBad was is u lev) = true from by rw [HBAD.out]; simp [*])
                      gi_wp2_with (refine Rnd.to_in (Rnd.roundF l) rfl ?_; refine Rt.wpL_get tyL rfl (.tmp 3) rfl b3 [.int .i64 was.a, .int .i64 was.s, .int .i64 was.i, .int .i64 was.k, .int .i64 was.b, .int .i64 was.r, vw] rfl rfl HAW.out ?_; refine ⟨rfl, ?_⟩)
                      refine ⟨trivial, CallsIn.inRound l ((callsIn_wide.2 (c1.out _ (HVw.out.to' HB0.out))).mono ?_)⟩
                      rintro e w2 ⟨rfl, hb2⟩
                      have HBx := hidp hb2
                      clear hb2
                      gi_wp2_with fail
                      obtain ⟨U, hU⟩ : ∃ U, ({ w2 with drawn := w2.drawn + 1 } : World) = U := ⟨_, rfl⟩
                      have bU : Below w2.heap.size w2 U := by rw [← hU]; exact (Below.refl _ _).drew
                      have HBx0 := hidp (HBx.out.trans (bU.mono HBx.out.size))
                      have HSU := hidp (show U.cell? ⟨b7, 0, none⟩ = some (.int .i64 lev) ∧ U.cell? ⟨b5, 0, none⟩ = some (.string u) ∧ Arr U b4 37 [.int .i64 is.a, .int .i64 is.s, .int .i64 is.i, .int .i64 is.k, .int .i64 is.b, .int .i64 is.r, vi] from ⟨arr1 (HLW.out.below HBx0.out HLW.out.lt), arr1 (HUW.out.below HBx0.out HUW.out.lt), HCW.out.below HBx0.out HCW.out.lt⟩)
                      clear bU HBx
                      refine Rnd.in_region_scr (S := fun W => W.cell? ⟨b7, 0, none⟩ = some (.int .i64 lev) ∧ W.cell? ⟨b5, 0, none⟩ = some (.string u) ∧ Arr W b4 37 [.int .i64 is.a, .int .i64 is.s, .int .i64 is.i, .int .i64 is.k, .int .i64 is.b, .int .i64 is.r, vi]) (.take 0 (.take 1 (.take 2 (.take 3 (.take 4 (.take 5 (.take 6 (.take 7 (.take 8 (.take 9 (.take 10 (.take 11 (.take 12 (.take 13 (.take 14 (.take 15 (.take 17 (.one 16 (.take 18 (.take 19 .done)))))))))))))))))))) (Rnd.roundF l) (fun a w h => h) (by kernel_rfl) (by kernel_rfl) (by kernel_rfl) (fun _ _ _ _ _ h => h) (by simp [Scr.depth]) (by kernel_rfl) (by rw [hU]; exact HSU.out) ?_
                      simp only [hU]
                      clear hU
                      apply s_val
                      case ho => rfl
                      case hw => rfl
                      case hv => intro w hw; obtain ⟨z0, z1, z2⟩ := hw; go_simp; first | done | with_reducible rfl | rfl
                      simp only [Act.put, List.getElem_toArray, List.getElem_cons_zero, List.getElem_cons_succ, List.setIfInBounds_toArray, List.set_cons_zero, List.set_cons_succ]
                      apply s_val
                      case ho => rfl
                      case hw => rfl
                      case hv => intro w hw; obtain ⟨z0, z1, z2⟩ := hw; go_simp; first | done | with_reducible rfl | rfl
                      simp only [Act.put, List.getElem_toArray, List.getElem_cons_zero, List.getElem_cons_succ, List.setIfInBounds_toArray, List.set_cons_zero, List.set_cons_succ]
                      apply s_val (v := .bool false)
                      case ho => rfl
                      case hw => rfl
                      case hv => intro w hw; obtain ⟨z0, z1, z2⟩ := hw; go_simp; first | done | assumption | (simpa using g3) | with_reducible rfl | rfl
                      simp only [Act.put, List.getElem_toArray, List.getElem_cons_zero, List.getElem_cons_succ, List.setIfInBounds_toArray, List.set_cons_zero, List.set_cons_succ]
                      apply s_val
                      case ho => rfl
                      case hw => rfl
                      case hv => intro w hw; obtain ⟨z0, z1, z2⟩ := hw; go_simp; first | done | with_reducible rfl | rfl
                      simp only [Act.put, List.getElem_toArray, List.getElem_cons_zero, List.getElem_cons_succ, List.setIfInBounds_toArray, List.set_cons_zero, List.set_cons_succ]
                      apply s_val
                      case ho => rfl
                      case hw => rfl
                      case hv => intro w hw; obtain ⟨z0, z1, z2⟩ := hw; go_simp; first | done | with_reducible rfl | rfl
                      simp only [Act.put, List.getElem_toArray, List.getElem_cons_zero, List.getElem_cons_succ, List.setIfInBounds_toArray, List.set_cons_zero, List.set_cons_succ]
                      apply s_val
                      case ho => rfl
                      case hw => rfl
                      case hv => intro w hw; obtain ⟨z0, z1, z2⟩ := hw; go_simp; first | done | with_reducible rfl | rfl
                      simp only [Act.put, List.getElem_toArray, List.getElem_cons_zero, List.getElem_cons_succ, List.setIfInBounds_toArray, List.set_cons_zero, List.set_cons_succ]
                      apply s_val (v := .bool true)
                      case ho => rfl
                      case hw => rfl
                      case hv => intro w hw; obtain ⟨z0, z1, z2⟩ := hw; go_simp; first | done | assumption | (simpa using g3) | with_reducible rfl | rfl
                      simp only [Act.put, List.getElem_toArray, List.getElem_cons_zero, List.getElem_cons_succ, List.setIfInBounds_toArray, List.set_cons_zero, List.set_cons_succ]
                      apply s_val
                      case ho => rfl
                      case hw => rfl
                      case hv => intro w hw; obtain ⟨z0, z1, z2⟩ := hw; go_simp; first | done | with_reducible rfl | rfl
                      simp only [Act.put, List.getElem_toArray, List.getElem_cons_zero, List.getElem_cons_succ, List.setIfInBounds_toArray, List.set_cons_zero, List.set_cons_succ]
                      apply s_val
                      case ho => rfl
                      case hw => rfl
                      case hv => intro w hw; obtain ⟨z0, z1, z2⟩ := hw; go_simp; first | done | with_reducible rfl | rfl
                      simp only [Act.put, List.getElem_toArray, List.getElem_cons_zero, List.getElem_cons_succ, List.setIfInBounds_toArray, List.set_cons_zero, List.set_cons_succ]
                      apply s_val
                      case ho => rfl
                      case hw => rfl
                      case hv => intro w hw; obtain ⟨z0, z1, z2⟩ := hw; go_simp; first | done | with_reducible rfl | rfl
                      simp only [Act.put, List.getElem_toArray, List.getElem_cons_zero, List.getElem_cons_succ, List.setIfInBounds_toArray, List.set_cons_zero, List.set_cons_succ]
                      apply s_val (v := .bool false)
                      case ho => rfl
                      case hw => rfl
                      case hv => intro w hw; obtain ⟨z0, z1, z2⟩ := hw; go_simp; first | done | assumption | (simpa using g3) | with_reducible rfl | rfl
                      simp only [Act.put, List.getElem_toArray, List.getElem_cons_zero, List.getElem_cons_succ, List.setIfInBounds_toArray, List.set_cons_zero, List.set_cons_succ]
                      apply s_val
                      case ho => rfl
                      case hw => rfl
                      case hv => intro w hw; obtain ⟨z0, z1, z2⟩ := hw; go_simp; first | done | with_reducible rfl | rfl
                      simp only [Act.put, List.getElem_toArray, List.getElem_cons_zero, List.getElem_cons_succ, List.setIfInBounds_toArray, List.set_cons_zero, List.set_cons_succ]
                      apply s_val
                      case ho => rfl
                      case hw => rfl
                      case hv => intro w hw; obtain ⟨z0, z1, z2⟩ := hw; go_simp; first | done | with_reducible rfl | rfl
                      simp only [Act.put, List.getElem_toArray, List.getElem_cons_zero, List.getElem_cons_succ, List.setIfInBounds_toArray, List.set_cons_zero, List.set_cons_succ]
                      apply s_val
                      case ho => rfl
                      case hw => rfl
                      case hv => intro w hw; obtain ⟨z0, z1, z2⟩ := hw; go_simp; first | done | with_reducible rfl | rfl
                      simp only [Act.put, List.getElem_toArray, List.getElem_cons_zero, List.getElem_cons_succ, List.setIfInBounds_toArray, List.set_cons_zero, List.set_cons_succ]
                      refine Rt.s_get tyL rfl rfl (.tmp 4) rfl b4 [.int .i64 is.a, .int .i64 is.s, .int .i64 is.i, .int .i64 is.k, .int .i64 is.b, .int .i64 is.r, vi] rfl rfl (fun w h => h.2.2) ?_
                      simp only [Act.put, List.getElem_toArray, List.getElem_cons_zero, List.getElem_cons_succ, List.setIfInBounds_toArray, List.set_cons_zero, List.set_cons_succ]
                      apply s_val
                      case ho => rfl
                      case hw => rfl
                      case hv => intro w hw; obtain ⟨z0, z1, z2⟩ := hw; go_simp; first | done | with_reducible rfl | rfl
                      simp only [Act.put, List.getElem_toArray, List.getElem_cons_zero, List.getElem_cons_succ, List.setIfInBounds_toArray, List.set_cons_zero, List.set_cons_succ]
                      apply s_val
                      case ho => rfl
                      case hw => rfl
                      case hv => intro w hw; obtain ⟨z0, z1, z2⟩ := hw; go_simp; first | done | with_reducible rfl | rfl
                      simp only [Act.put, List.getElem_toArray, List.getElem_cons_zero, List.getElem_cons_succ, List.setIfInBounds_toArray, List.set_cons_zero, List.set_cons_succ]
                      apply o_call (f := 27) (args := #[.agg #[.int .i64 is.a, .int .i64 is.s, .int .i64 is.i, .int .i64 is.k, .int .i64 is.b, .int .i64 is.r, vi], .string x]) (v := .int .i64 h2) (hc := c2.out _ (HVi.out.to' (HB0.out.trans (HBx0.out.mono HB0.out.size))))
                      case ho => rfl
                      case hw => rfl
                      case hop => go_simp; first | done | rfl
                      rintro X1 hb
                      have HBx1 := hidp (HBx0.out.trans (hb.mono HBx0.out.size))
                      refine ⟨⟨arr1 (HLW.out.below HBx1.out HLW.out.lt), arr1 (HUW.out.below HBx1.out HUW.out.lt), HCW.out.below HBx1.out HCW.out.lt⟩, ?_⟩
                      clear hb HBx0
                      simp only [Act.put, List.getElem_toArray, List.getElem_cons_zero, List.getElem_cons_succ, List.setIfInBounds_toArray, List.set_cons_zero, List.set_cons_succ]
                      apply s_val (v := .bool true)
                      case ho => rfl
                      case hw => rfl
                      case hv => intro w hw; obtain ⟨z0, z1, z2⟩ := hw; go_simp; first | done | assumption | (simpa using g3) | with_reducible rfl | rfl
                      simp only [Act.put, List.getElem_toArray, List.getElem_cons_zero, List.getElem_cons_succ, List.setIfInBounds_toArray, List.set_cons_zero, List.set_cons_succ]
                      apply s_val
                      case ho => rfl
                      case hw => rfl
                      case hv => intro w hw; obtain ⟨z0, z1, z2⟩ := hw; go_simp; first | done | with_reducible rfl | rfl
                      simp only [Act.put, List.getElem_toArray, List.getElem_cons_zero, List.getElem_cons_succ, List.setIfInBounds_toArray, List.set_cons_zero, List.set_cons_succ]
                      refine Rnd.scr_done ?_
                      have HBX := HBx1
                      have HRX := hidp (HRW.out.below HBX.out HRW.out.lt)
                      gi_wp2_with (refine Rnd.to_in (Rnd.roundF l) rfl ?_; refine Rt.wpL_putF rfl 26 (.tmp 6) _ rfl b6 0 (.int .i64 12) rfl rfl (by kernel_rfl) rfl [.int .i64 0] HRX.out (by simp) ?_; intro wz ha hp; refine ⟨rfl, ?_⟩; have HKO := hidp ((others_below HBX.out).trans (Rnd.others_stp hp HRX.out)); have HBZ := hidp (hp.below' (HB0.out.trans (HBX.out.mono HB0.out.size)) hg_b6.out); have HRZ := hidp (show Arr wz b6 26 [.int .i64 12] from ha); clear ha hp)
                      exact ⟨HKO.out, ⟨⟨rfl, HBV.out⟩, HRZ.out⟩, HBZ.out⟩
                    | false =>
                      have HBV := hidp (show (pre ++ [x]).any (uBad was is u lev) = false from by rw [HBAD.out]; simp [*])
                      gi_wp2_with (refine Rnd.to_in (Rnd.roundF l) rfl ?_; refine Rt.wpL_get tyL rfl (.tmp 3) rfl b3 [.int .i64 was.a, .int .i64 was.s, .int .i64 was.i, .int .i64 was.k, .int .i64 was.b, .int .i64 was.r, vw] rfl rfl HAW.out ?_; refine ⟨rfl, ?_⟩)
                      refine ⟨trivial, CallsIn.inRound l ((callsIn_wide.2 (c1.out _ (HVw.out.to' HB0.out))).mono ?_)⟩
                      rintro e w2 ⟨rfl, hb2⟩
                      have HBx := hidp hb2
                      clear hb2
                      gi_wp2_with fail
                      obtain ⟨U, hU⟩ : ∃ U, ({ w2 with drawn := w2.drawn + 1 } : World) = U := ⟨_, rfl⟩
                      have bU : Below w2.heap.size w2 U := by rw [← hU]; exact (Below.refl _ _).drew
                      have HBx0 := hidp (HBx.out.trans (bU.mono HBx.out.size))
                      have HSU := hidp (show U.cell? ⟨b7, 0, none⟩ = some (.int .i64 lev) ∧ U.cell? ⟨b5, 0, none⟩ = some (.string u) ∧ Arr U b4 37 [.int .i64 is.a, .int .i64 is.s, .int .i64 is.i, .int .i64 is.k, .int .i64 is.b, .int .i64 is.r, vi] from ⟨arr1 (HLW.out.below HBx0.out HLW.out.lt), arr1 (HUW.out.below HBx0.out HUW.out.lt), HCW.out.below HBx0.out HCW.out.lt⟩)
                      clear bU HBx
                      refine Rnd.in_region_scr (S := fun W => W.cell? ⟨b7, 0, none⟩ = some (.int .i64 lev) ∧ W.cell? ⟨b5, 0, none⟩ = some (.string u) ∧ Arr W b4 37 [.int .i64 is.a, .int .i64 is.s, .int .i64 is.i, .int .i64 is.k, .int .i64 is.b, .int .i64 is.r, vi]) (.take 0 (.take 1 (.take 2 (.take 3 (.take 4 (.take 5 (.take 6 (.take 7 (.take 8 (.take 9 (.take 10 (.take 11 (.take 12 (.take 13 (.take 14 (.take 15 (.take 17 (.one 16 (.take 18 (.take 19 .done)))))))))))))))))))) (Rnd.roundF l) (fun a w h => h) (by kernel_rfl) (by kernel_rfl) (by kernel_rfl) (fun _ _ _ _ _ h => h) (by simp [Scr.depth]) (by kernel_rfl) (by rw [hU]; exact HSU.out) ?_
                      simp only [hU]
                      clear hU
                      apply s_val
                      case ho => rfl
                      case hw => rfl
                      case hv => intro w hw; obtain ⟨z0, z1, z2⟩ := hw; go_simp; first | done | with_reducible rfl | rfl
                      simp only [Act.put, List.getElem_toArray, List.getElem_cons_zero, List.getElem_cons_succ, List.setIfInBounds_toArray, List.set_cons_zero, List.set_cons_succ]
                      apply s_val
                      case ho => rfl
                      case hw => rfl
                      case hv => intro w hw; obtain ⟨z0, z1, z2⟩ := hw; go_simp; first | done | with_reducible rfl | rfl
                      simp only [Act.put, List.getElem_toArray, List.getElem_cons_zero, List.getElem_cons_succ, List.setIfInBounds_toArray, List.set_cons_zero, List.set_cons_succ]
                      apply s_val (v := .bool false)
                      case ho => rfl
                      case hw => rfl
                      case hv => intro w hw; obtain ⟨z0, z1, z2⟩ := hw; go_simp; first | done | assumption | (simpa using g3) | with_reducible rfl | rfl
                      simp only [Act.put, List.getElem_toArray, List.getElem_cons_zero, List.getElem_cons_succ, List.setIfInBounds_toArray, List.set_cons_zero, List.set_cons_succ]
                      apply s_val
                      case ho => rfl
                      case hw => rfl
                      case hv => intro w hw; obtain ⟨z0, z1, z2⟩ := hw; go_simp; first | done | with_reducible rfl | rfl
                      simp only [Act.put, List.getElem_toArray, List.getElem_cons_zero, List.getElem_cons_succ, List.setIfInBounds_toArray, List.set_cons_zero, List.set_cons_succ]
                      apply s_val
                      case ho => rfl
                      case hw => rfl
                      case hv => intro w hw; obtain ⟨z0, z1, z2⟩ := hw; go_simp; first | done | with_reducible rfl | rfl
                      simp only [Act.put, List.getElem_toArray, List.getElem_cons_zero, List.getElem_cons_succ, List.setIfInBounds_toArray, List.set_cons_zero, List.set_cons_succ]
                      apply s_val
                      case ho => rfl
                      case hw => rfl
                      case hv => intro w hw; obtain ⟨z0, z1, z2⟩ := hw; go_simp; first | done | with_reducible rfl | rfl
                      simp only [Act.put, List.getElem_toArray, List.getElem_cons_zero, List.getElem_cons_succ, List.setIfInBounds_toArray, List.set_cons_zero, List.set_cons_succ]
                      apply s_val (v := .bool true)
                      case ho => rfl
                      case hw => rfl
                      case hv => intro w hw; obtain ⟨z0, z1, z2⟩ := hw; go_simp; first | done | assumption | (simpa using g3) | with_reducible rfl | rfl
                      simp only [Act.put, List.getElem_toArray, List.getElem_cons_zero, List.getElem_cons_succ, List.setIfInBounds_toArray, List.set_cons_zero, List.set_cons_succ]
                      apply s_val
                      case ho => rfl
                      case hw => rfl
                      case hv => intro w hw; obtain ⟨z0, z1, z2⟩ := hw; go_simp; first | done | with_reducible rfl | rfl
                      simp only [Act.put, List.getElem_toArray, List.getElem_cons_zero, List.getElem_cons_succ, List.setIfInBounds_toArray, List.set_cons_zero, List.set_cons_succ]
                      apply s_val
                      case ho => rfl
                      case hw => rfl
                      case hv => intro w hw; obtain ⟨z0, z1, z2⟩ := hw; go_simp; first | done | with_reducible rfl | rfl
                      simp only [Act.put, List.getElem_toArray, List.getElem_cons_zero, List.getElem_cons_succ, List.setIfInBounds_toArray, List.set_cons_zero, List.set_cons_succ]
                      apply s_val
                      case ho => rfl
                      case hw => rfl
                      case hv => intro w hw; obtain ⟨z0, z1, z2⟩ := hw; go_simp; first | done | with_reducible rfl | rfl
                      simp only [Act.put, List.getElem_toArray, List.getElem_cons_zero, List.getElem_cons_succ, List.setIfInBounds_toArray, List.set_cons_zero, List.set_cons_succ]
                      apply s_val (v := .bool false)
                      case ho => rfl
                      case hw => rfl
                      case hv => intro w hw; obtain ⟨z0, z1, z2⟩ := hw; go_simp; first | done | assumption | (simpa using g3) | with_reducible rfl | rfl
                      simp only [Act.put, List.getElem_toArray, List.getElem_cons_zero, List.getElem_cons_succ, List.setIfInBounds_toArray, List.set_cons_zero, List.set_cons_succ]
                      apply s_val
                      case ho => rfl
                      case hw => rfl
                      case hv => intro w hw; obtain ⟨z0, z1, z2⟩ := hw; go_simp; first | done | with_reducible rfl | rfl
                      simp only [Act.put, List.getElem_toArray, List.getElem_cons_zero, List.getElem_cons_succ, List.setIfInBounds_toArray, List.set_cons_zero, List.set_cons_succ]
                      apply s_val
                      case ho => rfl
                      case hw => rfl
                      case hv => intro w hw; obtain ⟨z0, z1, z2⟩ := hw; go_simp; first | done | with_reducible rfl | rfl
                      simp only [Act.put, List.getElem_toArray, List.getElem_cons_zero, List.getElem_cons_succ, List.setIfInBounds_toArray, List.set_cons_zero, List.set_cons_succ]
                      apply s_val
                      case ho => rfl
                      case hw => rfl
                      case hv => intro w hw; obtain ⟨z0, z1, z2⟩ := hw; go_simp; first | done | with_reducible rfl | rfl
                      simp only [Act.put, List.getElem_toArray, List.getElem_cons_zero, List.getElem_cons_succ, List.setIfInBounds_toArray, List.set_cons_zero, List.set_cons_succ]
                      refine Rt.s_get tyL rfl rfl (.tmp 4) rfl b4 [.int .i64 is.a, .int .i64 is.s, .int .i64 is.i, .int .i64 is.k, .int .i64 is.b, .int .i64 is.r, vi] rfl rfl (fun w h => h.2.2) ?_
                      simp only [Act.put, List.getElem_toArray, List.getElem_cons_zero, List.getElem_cons_succ, List.setIfInBounds_toArray, List.set_cons_zero, List.set_cons_succ]
                      apply s_val
                      case ho => rfl
                      case hw => rfl
                      case hv => intro w hw; obtain ⟨z0, z1, z2⟩ := hw; go_simp; first | done | with_reducible rfl | rfl
                      simp only [Act.put, List.getElem_toArray, List.getElem_cons_zero, List.getElem_cons_succ, List.setIfInBounds_toArray, List.set_cons_zero, List.set_cons_succ]
                      apply s_val
                      case ho => rfl
                      case hw => rfl
                      case hv => intro w hw; obtain ⟨z0, z1, z2⟩ := hw; go_simp; first | done | with_reducible rfl | rfl
                      simp only [Act.put, List.getElem_toArray, List.getElem_cons_zero, List.getElem_cons_succ, List.setIfInBounds_toArray, List.set_cons_zero, List.set_cons_succ]
                      apply o_call (f := 27) (args := #[.agg #[.int .i64 is.a, .int .i64 is.s, .int .i64 is.i, .int .i64 is.k, .int .i64 is.b, .int .i64 is.r, vi], .string x]) (v := .int .i64 h2) (hc := c2.out _ (HVi.out.to' (HB0.out.trans (HBx0.out.mono HB0.out.size))))
                      case ho => rfl
                      case hw => rfl
                      case hop => go_simp; first | done | rfl
                      rintro X1 hb
                      have HBx1 := hidp (HBx0.out.trans (hb.mono HBx0.out.size))
                      refine ⟨⟨arr1 (HLW.out.below HBx1.out HLW.out.lt), arr1 (HUW.out.below HBx1.out HUW.out.lt), HCW.out.below HBx1.out HCW.out.lt⟩, ?_⟩
                      clear hb HBx0
                      simp only [Act.put, List.getElem_toArray, List.getElem_cons_zero, List.getElem_cons_succ, List.setIfInBounds_toArray, List.set_cons_zero, List.set_cons_succ]
                      apply s_val (v := .bool false)
                      case ho => rfl
                      case hw => rfl
                      case hv => intro w hw; obtain ⟨z0, z1, z2⟩ := hw; go_simp; first | done | assumption | (simpa using g3) | with_reducible rfl | rfl
                      simp only [Act.put, List.getElem_toArray, List.getElem_cons_zero, List.getElem_cons_succ, List.setIfInBounds_toArray, List.set_cons_zero, List.set_cons_succ]
                      apply s_val
                      case ho => rfl
                      case hw => rfl
                      case hv => intro w hw; obtain ⟨z0, z1, z2⟩ := hw; go_simp; first | done | with_reducible rfl | rfl
                      simp only [Act.put, List.getElem_toArray, List.getElem_cons_zero, List.getElem_cons_succ, List.setIfInBounds_toArray, List.set_cons_zero, List.set_cons_succ]
                      refine Rnd.scr_done ?_
                      have HBX := HBx1
                      gi_wp2_with fail
                      exact ⟨others_below HBX.out, HBX.out.mono HBW.out.size, HBV.out, HBW.out.trans (HBX.out.mono HBW.out.size)⟩
                | false =>
                  cases g4 : decide (h2 > lev) with
                  | true =>
                    have HBV := hidp (show (pre ++ [x]).any (uBad was is u lev) = true from by rw [HBAD.out]; simp [*])
                    gi_wp2_with (refine Rnd.to_in (Rnd.roundF l) rfl ?_; refine Rt.wpL_get tyL rfl (.tmp 3) rfl b3 [.int .i64 was.a, .int .i64 was.s, .int .i64 was.i, .int .i64 was.k, .int .i64 was.b, .int .i64 was.r, vw] rfl rfl HAW.out ?_; refine ⟨rfl, ?_⟩)
                    refine ⟨trivial, CallsIn.inRound l ((callsIn_wide.2 (c1.out _ (HVw.out.to' HB0.out))).mono ?_)⟩
                    rintro e w2 ⟨rfl, hb2⟩
                    have HBx := hidp hb2
                    clear hb2
                    gi_wp2_with fail
                    obtain ⟨U, hU⟩ : ∃ U, ({ w2 with drawn := w2.drawn + 1 } : World) = U := ⟨_, rfl⟩
                    have bU : Below w2.heap.size w2 U := by rw [← hU]; exact (Below.refl _ _).drew
                    have HBx0 := hidp (HBx.out.trans (bU.mono HBx.out.size))
                    have HSU := hidp (show U.cell? ⟨b7, 0, none⟩ = some (.int .i64 lev) ∧ U.cell? ⟨b5, 0, none⟩ = some (.string u) ∧ Arr U b4 37 [.int .i64 is.a, .int .i64 is.s, .int .i64 is.i, .int .i64 is.k, .int .i64 is.b, .int .i64 is.r, vi] from ⟨arr1 (HLW.out.below HBx0.out HLW.out.lt), arr1 (HUW.out.below HBx0.out HUW.out.lt), HCW.out.below HBx0.out HCW.out.lt⟩)
                    clear bU HBx
                    refine Rnd.in_region_scr (S := fun W => W.cell? ⟨b7, 0, none⟩ = some (.int .i64 lev) ∧ W.cell? ⟨b5, 0, none⟩ = some (.string u) ∧ Arr W b4 37 [.int .i64 is.a, .int .i64 is.s, .int .i64 is.i, .int .i64 is.k, .int .i64 is.b, .int .i64 is.r, vi]) (.take 0 (.take 1 (.take 2 (.take 3 (.take 4 (.take 5 (.take 6 (.take 7 (.take 8 (.take 9 (.take 10 (.take 11 (.take 12 (.take 13 (.take 14 (.take 15 (.take 17 (.one 16 (.take 18 (.take 19 .done)))))))))))))))))))) (Rnd.roundF l) (fun a w h => h) (by kernel_rfl) (by kernel_rfl) (by kernel_rfl) (fun _ _ _ _ _ h => h) (by simp [Scr.depth]) (by kernel_rfl) (by rw [hU]; exact HSU.out) ?_
                    simp only [hU]
                    clear hU
                    apply s_val
                    case ho => rfl
                    case hw => rfl
                    case hv => intro w hw; obtain ⟨z0, z1, z2⟩ := hw; go_simp; first | done | with_reducible rfl | rfl
                    simp only [Act.put, List.getElem_toArray, List.getElem_cons_zero, List.getElem_cons_succ, List.setIfInBounds_toArray, List.set_cons_zero, List.set_cons_succ]
                    apply s_val
                    case ho => rfl
                    case hw => rfl
                    case hv => intro w hw; obtain ⟨z0, z1, z2⟩ := hw; go_simp; first | done | with_reducible rfl | rfl
                    simp only [Act.put, List.getElem_toArray, List.getElem_cons_zero, List.getElem_cons_succ, List.setIfInBounds_toArray, List.set_cons_zero, List.set_cons_succ]
                    apply s_val (v := .bool false)
                    case ho => rfl
                    case hw => rfl
                    case hv => intro w hw; obtain ⟨z0, z1, z2⟩ := hw; go_simp; first | done | assumption | (simpa using g3) | with_reducible rfl | rfl
                    simp only [Act.put, List.getElem_toArray, List.getElem_cons_zero, List.getElem_cons_succ, List.setIfInBounds_toArray, List.set_cons_zero, List.set_cons_succ]
                    apply s_val
                    case ho => rfl
                    case hw => rfl
                    case hv => intro w hw; obtain ⟨z0, z1, z2⟩ := hw; go_simp; first | done | with_reducible rfl | rfl
                    simp only [Act.put, List.getElem_toArray, List.getElem_cons_zero, List.getElem_cons_succ, List.setIfInBounds_toArray, List.set_cons_zero, List.set_cons_succ]
                    apply s_val
                    case ho => rfl
                    case hw => rfl
                    case hv => intro w hw; obtain ⟨z0, z1, z2⟩ := hw; go_simp; first | done | with_reducible rfl | rfl
                    simp only [Act.put, List.getElem_toArray, List.getElem_cons_zero, List.getElem_cons_succ, List.setIfInBounds_toArray, List.set_cons_zero, List.set_cons_succ]
                    apply s_val
                    case ho => rfl
                    case hw => rfl
                    case hv => intro w hw; obtain ⟨z0, z1, z2⟩ := hw; go_simp; first | done | with_reducible rfl | rfl
                    simp only [Act.put, List.getElem_toArray, List.getElem_cons_zero, List.getElem_cons_succ, List.setIfInBounds_toArray, List.set_cons_zero, List.set_cons_succ]
                    apply s_val (v := .bool false)
                    case ho => rfl
                    case hw => rfl
                    case hv => intro w hw; obtain ⟨z0, z1, z2⟩ := hw; go_simp; first | done | assumption | (simpa using g3) | with_reducible rfl | rfl
                    simp only [Act.put, List.getElem_toArray, List.getElem_cons_zero, List.getElem_cons_succ, List.setIfInBounds_toArray, List.set_cons_zero, List.set_cons_succ]
                    apply s_val
                    case ho => rfl
                    case hw => rfl
                    case hv => intro w hw; obtain ⟨z0, z1, z2⟩ := hw; go_simp; first | done | with_reducible rfl | rfl
                    simp only [Act.put, List.getElem_toArray, List.getElem_cons_zero, List.getElem_cons_succ, List.setIfInBounds_toArray, List.set_cons_zero, List.set_cons_succ]
                    refine Rt.s_skip rfl rfl ?_
                    simp only [Act.put, List.getElem_toArray, List.getElem_cons_zero, List.getElem_cons_succ, List.setIfInBounds_toArray, List.set_cons_zero, List.set_cons_succ]
                    refine Rt.s_skip rfl rfl ?_
                    simp only [Act.put, List.getElem_toArray, List.getElem_cons_zero, List.getElem_cons_succ, List.setIfInBounds_toArray, List.set_cons_zero, List.set_cons_succ]
                    refine Rt.s_skip rfl rfl ?_
                    simp only [Act.put, List.getElem_toArray, List.getElem_cons_zero, List.getElem_cons_succ, List.setIfInBounds_toArray, List.set_cons_zero, List.set_cons_succ]
                    apply s_val
                    case ho => rfl
                    case hw => rfl
                    case hv => intro w hw; obtain ⟨z0, z1, z2⟩ := hw; go_simp; first | done | with_reducible rfl | rfl
                    simp only [Act.put, List.getElem_toArray, List.getElem_cons_zero, List.getElem_cons_succ, List.setIfInBounds_toArray, List.set_cons_zero, List.set_cons_succ]
                    apply s_val
                    case ho => rfl
                    case hw => rfl
                    case hv => intro w hw; obtain ⟨z0, z1, z2⟩ := hw; go_simp; first | done | with_reducible rfl | rfl
                    simp only [Act.put, List.getElem_toArray, List.getElem_cons_zero, List.getElem_cons_succ, List.setIfInBounds_toArray, List.set_cons_zero, List.set_cons_succ]
                    apply s_val
                    case ho => rfl
                    case hw => rfl
                    case hv => intro w hw; obtain ⟨z0, z1, z2⟩ := hw; go_simp; first | done | with_reducible rfl | rfl
                    simp only [Act.put, List.getElem_toArray, List.getElem_cons_zero, List.getElem_cons_succ, List.setIfInBounds_toArray, List.set_cons_zero, List.set_cons_succ]
                    refine Rt.s_get tyL rfl rfl (.tmp 4) rfl b4 [.int .i64 is.a, .int .i64 is.s, .int .i64 is.i, .int .i64 is.k, .int .i64 is.b, .int .i64 is.r, vi] rfl rfl (fun w h => h.2.2) ?_
                    simp only [Act.put, List.getElem_toArray, List.getElem_cons_zero, List.getElem_cons_succ, List.setIfInBounds_toArray, List.set_cons_zero, List.set_cons_succ]
                    apply s_val
                    case ho => rfl
                    case hw => rfl
                    case hv => intro w hw; obtain ⟨z0, z1, z2⟩ := hw; go_simp; first | done | with_reducible rfl | rfl
                    simp only [Act.put, List.getElem_toArray, List.getElem_cons_zero, List.getElem_cons_succ, List.setIfInBounds_toArray, List.set_cons_zero, List.set_cons_succ]
                    apply s_val
                    case ho => rfl
                    case hw => rfl
                    case hv => intro w hw; obtain ⟨z0, z1, z2⟩ := hw; go_simp; first | done | with_reducible rfl | rfl
                    simp only [Act.put, List.getElem_toArray, List.getElem_cons_zero, List.getElem_cons_succ, List.setIfInBounds_toArray, List.set_cons_zero, List.set_cons_succ]
                    apply o_call (f := 27) (args := #[.agg #[.int .i64 is.a, .int .i64 is.s, .int .i64 is.i, .int .i64 is.k, .int .i64 is.b, .int .i64 is.r, vi], .string x]) (v := .int .i64 h2) (hc := c2.out _ (HVi.out.to' (HB0.out.trans (HBx0.out.mono HB0.out.size))))
                    case ho => rfl
                    case hw => rfl
                    case hop => go_simp; first | done | rfl
                    rintro X1 hb
                    have HBx1 := hidp (HBx0.out.trans (hb.mono HBx0.out.size))
                    refine ⟨⟨arr1 (HLW.out.below HBx1.out HLW.out.lt), arr1 (HUW.out.below HBx1.out HUW.out.lt), HCW.out.below HBx1.out HCW.out.lt⟩, ?_⟩
                    clear hb HBx0
                    simp only [Act.put, List.getElem_toArray, List.getElem_cons_zero, List.getElem_cons_succ, List.setIfInBounds_toArray, List.set_cons_zero, List.set_cons_succ]
                    apply s_val (v := .bool true)
                    case ho => rfl
                    case hw => rfl
                    case hv => intro w hw; obtain ⟨z0, z1, z2⟩ := hw; go_simp; first | done | assumption | (simpa using g3) | with_reducible rfl | rfl
                    simp only [Act.put, List.getElem_toArray, List.getElem_cons_zero, List.getElem_cons_succ, List.setIfInBounds_toArray, List.set_cons_zero, List.set_cons_succ]
                    apply s_val
                    case ho => rfl
                    case hw => rfl
                    case hv => intro w hw; obtain ⟨z0, z1, z2⟩ := hw; go_simp; first | done | with_reducible rfl | rfl
                    simp only [Act.put, List.getElem_toArray, List.getElem_cons_zero, List.getElem_cons_succ, List.setIfInBounds_toArray, List.set_cons_zero, List.set_cons_succ]
                    refine Rnd.scr_done ?_
                    have HBX := HBx1
                    have HRX := hidp (HRW.out.below HBX.out HRW.out.lt)
                    gi_wp2_with (refine Rnd.to_in (Rnd.roundF l) rfl ?_; refine Rt.wpL_putF rfl 26 (.tmp 6) _ rfl b6 0 (.int .i64 12) rfl rfl (by kernel_rfl) rfl [.int .i64 0] HRX.out (by simp) ?_; intro wz ha hp; refine ⟨rfl, ?_⟩; have HKO := hidp ((others_below HBX.out).trans (Rnd.others_stp hp HRX.out)); have HBZ := hidp (hp.below' (HB0.out.trans (HBX.out.mono HB0.out.size)) hg_b6.out); have HRZ := hidp (show Arr wz b6 26 [.int .i64 12] from ha); clear ha hp)
                    exact ⟨HKO.out, ⟨⟨rfl, HBV.out⟩, HRZ.out⟩, HBZ.out⟩
                  | false =>
                    have HBV := hidp (show (pre ++ [x]).any (uBad was is u lev) = false from by rw [HBAD.out]; simp [*])
                    gi_wp2_with (refine Rnd.to_in (Rnd.roundF l) rfl ?_; refine Rt.wpL_get tyL rfl (.tmp 3) rfl b3 [.int .i64 was.a, .int .i64 was.s, .int .i64 was.i, .int .i64 was.k, .int .i64 was.b, .int .i64 was.r, vw] rfl rfl HAW.out ?_; refine ⟨rfl, ?_⟩)
                    refine ⟨trivial, CallsIn.inRound l ((callsIn_wide.2 (c1.out _ (HVw.out.to' HB0.out))).mono ?_)⟩
                    rintro e w2 ⟨rfl, hb2⟩
                    have HBx := hidp hb2
                    clear hb2
                    gi_wp2_with fail
                    obtain ⟨U, hU⟩ : ∃ U, ({ w2 with drawn := w2.drawn + 1 } : World) = U := ⟨_, rfl⟩
                    have bU : Below w2.heap.size w2 U := by rw [← hU]; exact (Below.refl _ _).drew
                    have HBx0 := hidp (HBx.out.trans (bU.mono HBx.out.size))
                    have HSU := hidp (show U.cell? ⟨b7, 0, none⟩ = some (.int .i64 lev) ∧ U.cell? ⟨b5, 0, none⟩ = some (.string u) ∧ Arr U b4 37 [.int .i64 is.a, .int .i64 is.s, .int .i64 is.i, .int .i64 is.k, .int .i64 is.b, .int .i64 is.r, vi] from ⟨arr1 (HLW.out.below HBx0.out HLW.out.lt), arr1 (HUW.out.below HBx0.out HUW.out.lt), HCW.out.below HBx0.out HCW.out.lt⟩)
                    clear bU HBx
                    refine Rnd.in_region_scr (S := fun W => W.cell? ⟨b7, 0, none⟩ = some (.int .i64 lev) ∧ W.cell? ⟨b5, 0, none⟩ = some (.string u) ∧ Arr W b4 37 [.int .i64 is.a, .int .i64 is.s, .int .i64 is.i, .int .i64 is.k, .int .i64 is.b, .int .i64 is.r, vi]) (.take 0 (.take 1 (.take 2 (.take 3 (.take 4 (.take 5 (.take 6 (.take 7 (.take 8 (.take 9 (.take 10 (.take 11 (.take 12 (.take 13 (.take 14 (.take 15 (.take 17 (.one 16 (.take 18 (.take 19 .done)))))))))))))))))))) (Rnd.roundF l) (fun a w h => h) (by kernel_rfl) (by kernel_rfl) (by kernel_rfl) (fun _ _ _ _ _ h => h) (by simp [Scr.depth]) (by kernel_rfl) (by rw [hU]; exact HSU.out) ?_
                    simp only [hU]
                    clear hU
                    apply s_val
                    case ho => rfl
                    case hw => rfl
                    case hv => intro w hw; obtain ⟨z0, z1, z2⟩ := hw; go_simp; first | done | with_reducible rfl | rfl
                    simp only [Act.put, List.getElem_toArray, List.getElem_cons_zero, List.getElem_cons_succ, List.setIfInBounds_toArray, List.set_cons_zero, List.set_cons_succ]
                    apply s_val
                    case ho => rfl
                    case hw => rfl
                    case hv => intro w hw; obtain ⟨z0, z1, z2⟩ := hw; go_simp; first | done | with_reducible rfl | rfl
                    simp only [Act.put, List.getElem_toArray, List.getElem_cons_zero, List.getElem_cons_succ, List.setIfInBounds_toArray, List.set_cons_zero, List.set_cons_succ]
                    apply s_val (v := .bool false)
                    case ho => rfl
                    case hw => rfl
                    case hv => intro w hw; obtain ⟨z0, z1, z2⟩ := hw; go_simp; first | done | assumption | (simpa using g3) | with_reducible rfl | rfl
                    simp only [Act.put, List.getElem_toArray, List.getElem_cons_zero, List.getElem_cons_succ, List.setIfInBounds_toArray, List.set_cons_zero, List.set_cons_succ]
                    apply s_val
                    case ho => rfl
                    case hw => rfl
                    case hv => intro w hw; obtain ⟨z0, z1, z2⟩ := hw; go_simp; first | done | with_reducible rfl | rfl
                    simp only [Act.put, List.getElem_toArray, List.getElem_cons_zero, List.getElem_cons_succ, List.setIfInBounds_toArray, List.set_cons_zero, List.set_cons_succ]
                    apply s_val
                    case ho => rfl
                    case hw => rfl
                    case hv => intro w hw; obtain ⟨z0, z1, z2⟩ := hw; go_simp; first | done | with_reducible rfl | rfl
                    simp only [Act.put, List.getElem_toArray, List.getElem_cons_zero, List.getElem_cons_succ, List.setIfInBounds_toArray, List.set_cons_zero, List.set_cons_succ]
                    apply s_val
                    case ho => rfl
                    case hw => rfl
                    case hv => intro w hw; obtain ⟨z0, z1, z2⟩ := hw; go_simp; first | done | with_reducible rfl | rfl
                    simp only [Act.put, List.getElem_toArray, List.getElem_cons_zero, List.getElem_cons_succ, List.setIfInBounds_toArray, List.set_cons_zero, List.set_cons_succ]
                    apply s_val (v := .bool false)
                    case ho => rfl
                    case hw => rfl
                    case hv => intro w hw; obtain ⟨z0, z1, z2⟩ := hw; go_simp; first | done | assumption | (simpa using g3) | with_reducible rfl | rfl
                    simp only [Act.put, List.getElem_toArray, List.getElem_cons_zero, List.getElem_cons_succ, List.setIfInBounds_toArray, List.set_cons_zero, List.set_cons_succ]
                    apply s_val
                    case ho => rfl
                    case hw => rfl
                    case hv => intro w hw; obtain ⟨z0, z1, z2⟩ := hw; go_simp; first | done | with_reducible rfl | rfl
                    simp only [Act.put, List.getElem_toArray, List.getElem_cons_zero, List.getElem_cons_succ, List.setIfInBounds_toArray, List.set_cons_zero, List.set_cons_succ]
                    refine Rt.s_skip rfl rfl ?_
                    simp only [Act.put, List.getElem_toArray, List.getElem_cons_zero, List.getElem_cons_succ, List.setIfInBounds_toArray, List.set_cons_zero, List.set_cons_succ]
                    refine Rt.s_skip rfl rfl ?_
                    simp only [Act.put, List.getElem_toArray, List.getElem_cons_zero, List.getElem_cons_succ, List.setIfInBounds_toArray, List.set_cons_zero, List.set_cons_succ]
                    refine Rt.s_skip rfl rfl ?_
                    simp only [Act.put, List.getElem_toArray, List.getElem_cons_zero, List.getElem_cons_succ, List.setIfInBounds_toArray, List.set_cons_zero, List.set_cons_succ]
                    apply s_val
                    case ho => rfl
                    case hw => rfl
                    case hv => intro w hw; obtain ⟨z0, z1, z2⟩ := hw; go_simp; first | done | with_reducible rfl | rfl
                    simp only [Act.put, List.getElem_toArray, List.getElem_cons_zero, List.getElem_cons_succ, List.setIfInBounds_toArray, List.set_cons_zero, List.set_cons_succ]
                    apply s_val
                    case ho => rfl
                    case hw => rfl
                    case hv => intro w hw; obtain ⟨z0, z1, z2⟩ := hw; go_simp; first | done | with_reducible rfl | rfl
                    simp only [Act.put, List.getElem_toArray, List.getElem_cons_zero, List.getElem_cons_succ, List.setIfInBounds_toArray, List.set_cons_zero, List.set_cons_succ]
                    apply s_val
                    case ho => rfl
                    case hw => rfl
                    case hv => intro w hw; obtain ⟨z0, z1, z2⟩ := hw; go_simp; first | done | with_reducible rfl | rfl
                    simp only [Act.put, List.getElem_toArray, List.getElem_cons_zero, List.getElem_cons_succ, List.setIfInBounds_toArray, List.set_cons_zero, List.set_cons_succ]
                    refine Rt.s_get tyL rfl rfl (.tmp 4) rfl b4 [.int .i64 is.a, .int .i64 is.s, .int .i64 is.i, .int .i64 is.k, .int .i64 is.b, .int .i64 is.r, vi] rfl rfl (fun w h => h.2.2) ?_
                    simp only [Act.put, List.getElem_toArray, List.getElem_cons_zero, List.getElem_cons_succ, List.setIfInBounds_toArray, List.set_cons_zero, List.set_cons_succ]
                    apply s_val
                    case ho => rfl
                    case hw => rfl
                    case hv => intro w hw; obtain ⟨z0, z1, z2⟩ := hw; go_simp; first | done | with_reducible rfl | rfl
                    simp only [Act.put, List.getElem_toArray, List.getElem_cons_zero, List.getElem_cons_succ, List.setIfInBounds_toArray, List.set_cons_zero, List.set_cons_succ]
                    apply s_val
                    case ho => rfl
                    case hw => rfl
                    case hv => intro w hw; obtain ⟨z0, z1, z2⟩ := hw; go_simp; first | done | with_reducible rfl | rfl
                    simp only [Act.put, List.getElem_toArray, List.getElem_cons_zero, List.getElem_cons_succ, List.setIfInBounds_toArray, List.set_cons_zero, List.set_cons_succ]
                    apply o_call (f := 27) (args := #[.agg #[.int .i64 is.a, .int .i64 is.s, .int .i64 is.i, .int .i64 is.k, .int .i64 is.b, .int .i64 is.r, vi], .string x]) (v := .int .i64 h2) (hc := c2.out _ (HVi.out.to' (HB0.out.trans (HBx0.out.mono HB0.out.size))))
                    case ho => rfl
                    case hw => rfl
                    case hop => go_simp; first | done | rfl
                    rintro X1 hb
                    have HBx1 := hidp (HBx0.out.trans (hb.mono HBx0.out.size))
                    refine ⟨⟨arr1 (HLW.out.below HBx1.out HLW.out.lt), arr1 (HUW.out.below HBx1.out HUW.out.lt), HCW.out.below HBx1.out HCW.out.lt⟩, ?_⟩
                    clear hb HBx0
                    simp only [Act.put, List.getElem_toArray, List.getElem_cons_zero, List.getElem_cons_succ, List.setIfInBounds_toArray, List.set_cons_zero, List.set_cons_succ]
                    apply s_val (v := .bool false)
                    case ho => rfl
                    case hw => rfl
                    case hv => intro w hw; obtain ⟨z0, z1, z2⟩ := hw; go_simp; first | done | assumption | (simpa using g3) | with_reducible rfl | rfl
                    simp only [Act.put, List.getElem_toArray, List.getElem_cons_zero, List.getElem_cons_succ, List.setIfInBounds_toArray, List.set_cons_zero, List.set_cons_succ]
                    apply s_val
                    case ho => rfl
                    case hw => rfl
                    case hv => intro w hw; obtain ⟨z0, z1, z2⟩ := hw; go_simp; first | done | with_reducible rfl | rfl
                    simp only [Act.put, List.getElem_toArray, List.getElem_cons_zero, List.getElem_cons_succ, List.setIfInBounds_toArray, List.set_cons_zero, List.set_cons_succ]
                    refine Rnd.scr_done ?_
                    have HBX := HBx1
                    gi_wp2_with fail
                    exact ⟨others_below HBX.out, HBX.out.mono HBW.out.size, HBV.out, HBW.out.trans (HBX.out.mono HBW.out.size)⟩
            case done =>
              rintro D xs W hD rfl ⟨hpre, hB⟩ hK
              have HF := hidp (show chE was is u = 0 from by rw [HE2.out, hpre]; rfl)
              have HBW := hidp (HB9.out.trans (hB.mono HB9.out.size)); have HRW := hidp (HRg.out.below (HGR.out.trans (hB.mono HGR.out.size)) HRg.out.lt); have HK := hidp hK
              have hb6D := hidp (show b6 < D from by have := HRg.out.lt; have := HGR.out.size; omega)
              clear hpre hB hK
              go_wp2_with (refine Rt.wpL_putF rfl 26 (.tmp 6) _ rfl b6 0 (.int .i64 0) rfl rfl (by kernel_rfl) rfl [.int .i64 0] HRW.out (by simp) ?_; intro wz ha hp; have HBZ := hidp (hp.below' HBW.out hg_b6.out); have HRZ := hidp (show Arr wz b6 26 [.int .i64 0] from ha); have HDZ := hidp ((hp.other D (by have := hb6D.out; omega)).trans HK.out); clear ha hp)
              have hput : (wz.putObj D (.deferred none)).cell? ⟨b6, 0, none⟩ = wz.cell? ⟨b6, 0, none⟩ := by
                have := (grownBy_putObj' wz D (.deferred none)).block b6 (HRZ.out.lt) (fun e => by cases e; have := hb6D.out; omega)
                simp only [World.cell?, this]
              have er := hput.trans (arr1 HRZ.out)
              refine ⟨by simp [Act.put], .inl ⟨_, _, rfl, run_takeDeferred HDZ.out, ?_⟩⟩
              refine ⟨_, by simp [results, Tryz.results29, go_sem, er]; rfl, by rw [HF.out], HBZ.out.grown (grownBy_putObj' wz D (.deferred none)) HBZ.out.size (fun k e => by cases e; have := HB9.out.size; omega)⟩
            case stop =>
              rintro D c pre W hD hsp ⟨⟨⟨rfl, hbad⟩, hbx⟩, hB⟩ hK
              have HF := hidp (show chE was is u = 12 from by
                rw [HE2.out, if_pos]
                obtain ⟨t, ht⟩ := hsp
                rw [← ht, List.any_append, hbad]; rfl)
              have HBZ := hidp hB; have HRZ := hidp (show Arr W b6 26 [.int .i64 12] from hbx); have HDZ := hidp hK
              have hb6D := hidp (show b6 < D from by have := HRg.out.lt; have := HGR.out.size; omega)
              clear hbad hbx hB hK
              refine wp_ret ?_
              have hput : (W.putObj D (.deferred none)).cell? ⟨b6, 0, none⟩ = W.cell? ⟨b6, 0, none⟩ := by
                have := (grownBy_putObj' W D (.deferred none)).block b6 (HRZ.out.lt) (fun e => by cases e; have := hb6D.out; omega)
                simp only [World.cell?, this]
              have er := hput.trans (arr1 HRZ.out)
              refine ⟨by simp [Act.put], .inl ⟨_, _, rfl, run_takeDeferred HDZ.out, ?_⟩⟩
              refine ⟨_, by simp [results, Tryz.results29, go_sem, er]; rfl, by rw [HF.out], HBZ.out.grown (grownBy_putObj' W D (.deferred none)) HBZ.out.size (fun k e => by cases e; have := HB9.out.size; omega)⟩
end Go.Proofs.YtiakfopdohcigaaGreatDoor
