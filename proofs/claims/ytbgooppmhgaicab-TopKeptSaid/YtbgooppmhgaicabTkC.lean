
/-
  TopKept: the law; numbers among its arguments.
-/
import Derived.Test.YtbgooppmhgaicabTkB
import Derived.Test.YtbgooppmhgaicabOctP
import Derived.ChangeSlices
namespace Go.Proofs.Ytbgooppmhgaicab.Tk
set_option maxRecDepth 100000
set_option linter.unusedVariables false
set_option linter.unusedSimpArgs false
open Go.RowKit Rw
open List (getElem_toArray getElem_cons_zero getElem_cons_succ setIfInBounds_toArray set_cons_zero set_cons_succ)

open Go.ChangeShapes
theorem cn_nil (w : World) : CnAt w (.slice none 0 0) [] := ⟨⟨_, _, rfl⟩, fun h => absurd h (by decide)⟩
theorem cn_open {w : World} {x : Addr} {l c : Nat} {zs : List Int} (hl : l ≤ c) (hz : zs.length = c) (hcell : ∀ i, i < zs.length → w.cell? (x.add i) = some (.int .i64 (zs.getD i 0))) : CnAt w (.slice (some x) l c) (zs.take l) := by
  have e0 : (zs.take l).length = l := by rw [List.length_take]; omega
  refine ⟨⟨_, _, by rw [e0]⟩, fun h0 => ?_⟩
  rw [e0] at h0
  have hx : x.spot = none := by
    have h0 := hcell 0 (by omega)
    obtain ⟨b, o, sp⟩ := x
    cases sp with
    | none => rfl
    | some q =>
      simp [Addr.add, World.cell?] at h0
      split at h0 <;> simp_all
  obtain ⟨b, o, sp⟩ := x
  simp only at hx
  subst hx
  have key : ∀ k, k < l → w.cell? ⟨b, o + k, none⟩ = some (.int .i64 ((zs.take l).getD k 0)) := fun k hk => by
    have h1 := hcell k (by omega)
    have e : (⟨b, o, none⟩ : Addr).add k = ⟨b, o + k, none⟩ := by unfold Addr.add; split <;> simp_all
    rw [e] at h1
    rw [h1, List.getD_eq_getElem?_getD, List.getD_eq_getElem?_getD, List.getElem?_take_of_lt hk]
  refine ⟨b, o, c, by rw [e0], ?_, by rw [e0]; exact key⟩
  have h1 := key 0 h0
  unfold World.cell? at h1
  by_cases hb : b < w.heap.size
  · exact hb
  · rw [show w.heap[b]? = none from by rw [Array.getElem?_eq_none_iff]; omega] at h1
    simp at h1
set_option maxHeartbeats 16000000 in
theorem walk_topKept (w : World) (v0 : Value) (es : List ByteArray) (h0 : StrsAt w v0 es) (hn0 : es.length ≤ 140737488351232) (hz0 : ∀ s ∈ es, s.size ≤ 140737488351232) (v1 : Value) (ns : List Int) (h1 : CnAt w v1 ns) (hn1 : ns.length ≤ 9223372036854775807) (tl : ByteArray) (htl : tl.size ≤ 140737488351232) (kp : Int) (wk : (Lit.int .i64 kp).wf) (bt : Int) (wb : (Lit.int .u8 bt).wf) :
    Calls Try.prog 3 #[v0, v1, .string tl, .int .i64 kp, .int .u8 bt] w fun e w' => e = .returned (.bool true) ∧ Below w.heap.size w w' := by
  obtain ⟨b, rfl⟩ : ∃ b : UInt8, bt = b.toNat := by
    have m0 : IntKind.u8.min = 0 := rfl
    have m1 : IntKind.u8.max = 255 := rfl
    simp [Lit.wf, m0, m1] at wb
    refine ⟨UInt8.ofNat bt.toNat, ?_⟩
    rw [UInt8.toNat_ofNat']
    omega
  by_cases g0 : es.length ≤ 20
  · by_cases g1 : ns.length ≤ 20
    · by_cases g2 : tl.size ≤ 16384
      · exact main_topKept w v0 v1 es ns h0 h1 g0 g1 tl g2 kp b
      · obtain ⟨a0, c0, rfl⟩ := Sl.strs_form h0
        obtain ⟨⟨a1, c1, rfl⟩, -⟩ := h1
        obtain ⟨n0, hl0⟩ : ∃ n, es.length = n := ⟨_, rfl⟩
        obtain ⟨n1, hl1⟩ : ∃ n, ns.length = n := ⟨_, rfl⟩
        rw [hl0, hl1]
        rw [hl0] at g0
        rw [hl1] at g1
        have d0 : decide ((20 : Int) < (n0 : Int)) = false := by rw [decide_eq_false_iff_not]; omega
        have d1 : decide ((20 : Int) < (n1 : Int)) = false := by rw [decide_eq_false_iff_not]; omega
        have d2 : decide ((16384 : Int) < (tl.size : Int)) = true := by rw [decide_eq_true_eq]; omega
        have H := hidp (Mm.M.nil w)
        clear h0 hl0 hl1 hn0 hz0 hn1 wk wb
        go_enter Try.func3, Try.ntmps3
        have tk0 := hidp trivial
        go_wp2_with (first | (clear tk0; (go_at_call 4; refine (begins_any _).mono ?_; rintro e _ ⟨rfl, hb⟩; replace H := hidp (H.out.call hb); clear hb); (try simp only [Act.put, setIfInBounds_toArray, set_cons_zero, set_cons_succ]); have tk1 := hidp trivial))
        try clear tk1
        go_ret
        exact ⟨rfl, H.out.below⟩
    · obtain ⟨a0, c0, rfl⟩ := Sl.strs_form h0
      obtain ⟨⟨a1, c1, rfl⟩, -⟩ := h1
      obtain ⟨n0, hl0⟩ : ∃ n, es.length = n := ⟨_, rfl⟩
      obtain ⟨n1, hl1⟩ : ∃ n, ns.length = n := ⟨_, rfl⟩
      rw [hl0, hl1]
      rw [hl0] at g0
      rw [hl1] at g1
      have d0 : decide ((20 : Int) < (n0 : Int)) = false := by rw [decide_eq_false_iff_not]; omega
      have d1 : decide ((20 : Int) < (n1 : Int)) = true := by rw [decide_eq_true_eq]; omega
      have H := hidp (Mm.M.nil w)
      clear h0 hl0 hl1 hn0 hz0 hn1 wk wb
      go_enter Try.func3, Try.ntmps3
      have tk0 := hidp trivial
      go_wp2_with (first | (clear tk0; (go_at_call 4; refine (begins_any _).mono ?_; rintro e _ ⟨rfl, hb⟩; replace H := hidp (H.out.call hb); clear hb); (try simp only [Act.put, setIfInBounds_toArray, set_cons_zero, set_cons_succ]); have tk1 := hidp trivial))
      try clear tk1
      go_ret
      exact ⟨rfl, H.out.below⟩
  · obtain ⟨a0, c0, rfl⟩ := Sl.strs_form h0
    obtain ⟨⟨a1, c1, rfl⟩, -⟩ := h1
    obtain ⟨n0, hl0⟩ : ∃ n, es.length = n := ⟨_, rfl⟩
    rw [hl0]
    rw [hl0] at g0
    have d0 : decide ((20 : Int) < (n0 : Int)) = true := by rw [decide_eq_true_eq]; omega
    have H := hidp (Mm.M.nil w)
    clear h0 hl0 hn0 hz0 hn1 wk wb
    go_enter Try.func3, Try.ntmps3
    have tk0 := hidp trivial
    go_wp2_with (first | (clear tk0; (go_at_call 4; refine (begins_any _).mono ?_; rintro e _ ⟨rfl, hb⟩; replace H := hidp (H.out.call hb); clear hb); (try simp only [Act.put, setIfInBounds_toArray, set_cons_zero, set_cons_succ]); have tk1 := hidp trivial))
    try clear tk1
    go_ret
    exact ⟨rfl, H.out.below⟩
end Go.Proofs.Ytbgooppmhgaicab.Tk
