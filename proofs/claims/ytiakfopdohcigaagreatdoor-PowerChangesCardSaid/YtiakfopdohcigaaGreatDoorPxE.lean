
/-
  power: what may be changed.
-/
import Derived.Test.YtiakfopdohcigaaGreatDoorPxD
import Derived.Test.YtiakfopdohcigaaGreatDoorPwN
import Derived.Test.YtiakfopdohcigaaGreatDoorPwQ
namespace Go.Proofs.YtiakfopdohcigaaGreatDoor
set_option maxRecDepth 100000
set_option linter.unusedVariables false
set_option linter.unusedSimpArgs false
open Go.RowKit Rw
open List (getElem_toArray getElem_cons_zero getElem_cons_succ setIfInBounds_toArray set_cons_zero set_cons_succ)

set_option maxHeartbeats 16000000 in
theorem walk_powerChanges (w : World) (was : Lv) (vw : Value) (hvw : UsAt w vw was.us) (is : Lv) (vi : Value) (hvi : UsAt w vi is.us) (u : ByteArray) (hu : u.size ≤ 140737488351232) (hP : PT w) :
    Calls Tryz.prog 5 #[.agg #[.int .i64 was.a, .int .i64 was.s, .int .i64 was.i, .int .i64 was.k, .int .i64 was.b, .int .i64 was.r, vw], .agg #[.int .i64 is.a, .int .i64 is.s, .int .i64 is.i, .int .i64 is.k, .int .i64 is.b, .int .i64 is.r, vi], .string u] w fun e w' => e = .returned (.bool true) ∧ Below w.heap.size w w' := by
  have HVW := hidp hvw; have HVI := hidp hvi; have HP := hidp hP
  have li := hidp (fun W h => lives15_any W h)
  have c1 := hidp (fun W h h' hp => change_any W was is vw vi u h h' hp); have c2 := hidp (fun W h h' => rchange_any W was is vw vi u h h')
  obtain ⟨E, hE⟩ : ∃ z, chE was is u = z := ⟨_, rfl⟩
  rw [hE] at c1 c2
  have eE : (E == E) = true := by simp
  clear hvw hvi hP hE
  have H := hidp (Mm.M.nil w)
  go_enter Tryz.func5, Tryz.ntmps5
  have tk0 := hidp trivial
  go_wp2_with (first | (clear tk0; (refine Mm.box 37 H rfl (.tmp 0) rfl [.int .i64 was.a, .int .i64 was.s, .int .i64 was.i, .int .i64 was.k, .int .i64 was.b, .int .i64 was.r, vw] rfl ?_; clear H; intro b3 _ H nw; have hb := nw.below; clear hb nw); (try simp only [Act.put, setIfInBounds_toArray, set_cons_zero, set_cons_succ]); have tk1 := hidp trivial) | (clear tk1; (refine Mm.box 37 H rfl (.tmp 1) rfl [.int .i64 is.a, .int .i64 is.s, .int .i64 is.i, .int .i64 is.k, .int .i64 is.b, .int .i64 is.r, vi] rfl ?_; clear H; intro b4 _ H nw; have hb := nw.below; clear hb nw); (try simp only [Act.put, setIfInBounds_toArray, set_cons_zero, set_cons_succ]); have tk2 := hidp trivial))
  try clear tk2
  refine Mm.region H (.one 0 (.take 1 (.take 2 (.take 3 (.take 4 (.take 6 (.take 7 (.take 8 (.one 5 (.one 9 (.take 10 (.take 11 (.take 12 .done))))))))))))) (by kernel_rfl) (by kernel_rfl) (by simp [Scr.depth]) (by kernel_rfl) ?_
  clear H
  intro _ H hb
  clear hb
  refine Mm.o_callH (v := .bool true) H (fun W h => h) rfl rfl 17 (#[]) (by go_simp; first | done | rfl) (li.out _ (HP.out.below H.out.below (Nat.le_refl _))) ?_
  clear H
  intro _ H hb
  clear hb
  simp only [Act.put, getElem_toArray, getElem_cons_zero, getElem_cons_succ, setIfInBounds_toArray, set_cons_zero, set_cons_succ]
  apply s_val
  case ho | hw => rfl
  case hv => intro w hw; go_simp; first | done | rfl
  simp only [Act.put, getElem_toArray, getElem_cons_zero, getElem_cons_succ, setIfInBounds_toArray, set_cons_zero, set_cons_succ]
  refine Mm.sget1 tyL (fun w h => h) rfl rfl (.tmp 3) rfl rfl rfl ?_
  simp only [Act.put, getElem_toArray, getElem_cons_zero, getElem_cons_succ, setIfInBounds_toArray, set_cons_zero, set_cons_succ]
  refine Mm.sget0 tyL (fun w h => h) rfl rfl (.tmp 4) rfl rfl rfl ?_
  simp only [Act.put, getElem_toArray, getElem_cons_zero, getElem_cons_succ, setIfInBounds_toArray, set_cons_zero, set_cons_succ]
  apply s_val
  case ho | hw => rfl
  case hv => intro w hw; go_simp; first | done | rfl
  simp only [Act.put, getElem_toArray, getElem_cons_zero, getElem_cons_succ, setIfInBounds_toArray, set_cons_zero, set_cons_succ]
  refine Mm.sget1 tyL (fun w h => h) rfl rfl (.tmp 3) rfl rfl rfl ?_
  simp only [Act.put, getElem_toArray, getElem_cons_zero, getElem_cons_succ, setIfInBounds_toArray, set_cons_zero, set_cons_succ]
  refine Mm.sget0 tyL (fun w h => h) rfl rfl (.tmp 4) rfl rfl rfl ?_
  simp only [Act.put, getElem_toArray, getElem_cons_zero, getElem_cons_succ, setIfInBounds_toArray, set_cons_zero, set_cons_succ]
  apply s_val
  case ho | hw => rfl
  case hv => intro w hw; go_simp; first | done | rfl
  simp only [Act.put, getElem_toArray, getElem_cons_zero, getElem_cons_succ, setIfInBounds_toArray, set_cons_zero, set_cons_succ]
  refine Mm.o_callH (v := .int .i64 E) H (fun W h => h) rfl rfl 29 (#[.agg #[.int .i64 was.a, .int .i64 was.s, .int .i64 was.i, .int .i64 was.k, .int .i64 was.b, .int .i64 was.r, vw], .agg #[.int .i64 is.a, .int .i64 is.s, .int .i64 is.i, .int .i64 is.k, .int .i64 is.b, .int .i64 is.r, vi], .string u]) (by go_simp; first | done | rfl) (c1.out _ (HVW.out.to H.out.below) (HVI.out.to H.out.below) (HP.out.below H.out.below (Nat.le_refl _))) ?_
  clear H
  intro _ H hb
  clear hb
  simp only [Act.put, getElem_toArray, getElem_cons_zero, getElem_cons_succ, setIfInBounds_toArray, set_cons_zero, set_cons_succ]
  refine Mm.o_callH (v := .int .i64 E) H (fun W h => h) rfl rfl 30 (#[.agg #[.int .i64 was.a, .int .i64 was.s, .int .i64 was.i, .int .i64 was.k, .int .i64 was.b, .int .i64 was.r, vw], .agg #[.int .i64 is.a, .int .i64 is.s, .int .i64 is.i, .int .i64 is.k, .int .i64 is.b, .int .i64 is.r, vi], .string u]) (by go_simp; first | done | rfl) (c2.out _ (HVW.out.to H.out.below) (HVI.out.to H.out.below)) ?_
  clear H
  intro _ H hb
  clear hb
  simp only [Act.put, getElem_toArray, getElem_cons_zero, getElem_cons_succ, setIfInBounds_toArray, set_cons_zero, set_cons_succ]
  apply s_val
  case ho | hw => rfl
  case hv => intro w hw; have q := eE; go_simp; first | done | rfl
  simp only [Act.put, getElem_toArray, getElem_cons_zero, getElem_cons_succ, setIfInBounds_toArray, set_cons_zero, set_cons_succ]
  apply s_val
  case ho | hw => rfl
  case hv => intro w hw; go_simp; first | done | rfl
  simp only [Act.put, getElem_toArray, getElem_cons_zero, getElem_cons_succ, setIfInBounds_toArray, set_cons_zero, set_cons_succ]
  apply s_val
  case ho | hw => rfl
  case hv => intro w hw; go_simp; first | done | rfl
  simp only [Act.put, getElem_toArray, getElem_cons_zero, getElem_cons_succ, setIfInBounds_toArray, set_cons_zero, set_cons_succ]
  refine NoPanic.normal ?_
  go_wp2_with fail
  go_ret
  exact ⟨rfl, H.out.below⟩
end Go.Proofs.YtiakfopdohcigaaGreatDoor
