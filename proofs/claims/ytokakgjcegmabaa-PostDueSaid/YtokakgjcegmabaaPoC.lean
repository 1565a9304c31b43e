/-
  post: a queue's turn.
-/
import Derived.Test.YtokakgjcegmabaaPoB
import Derived.Conc.LoneSelectN
import Derived.Shelf.RegionOpenPlain
namespace Go.Proofs.Ytokakgjcegmabaa.Po
set_option maxRecDepth 100000
set_option linter.unusedVariables false
set_option linter.unusedSimpArgs false
open Go.RowKit
open List (getElem_toArray getElem_cons_zero getElem_cons_succ setIfInBounds_toArray set_cons_zero set_cons_succ)

open Go.Conc
def Lt.val (x : Lt) : Value := .agg x.row.toArray
theorem Im.toLv {c : Nat} {lv : Nat → Nat → Prop} {w W : World} (h : Ch c w W) : Im all c lv w W := ⟨h.os, h.tape, h.output, h.size, fun k o hk hc _ _ => h.same k o hk hc (fun h => by cases o <;> first | exact h.elim | exact h) trivial⟩
/-- What is in the queue when i were turned. -/
def tq (L : List Lt) (f : Lt → Lt) (g : Lt → Bool) (i : Nat) : List Value := (L.drop i).map Lt.val ++ ((L.take i).filter fun x => !g x).map fun x => (f x).val
theorem tq_head {L : List Lt} {f : Lt → Lt} {g : Lt → Bool} {i : Nat} {x : Lt} (h : i < L.length) (hx : L[i] = x) : tq L f g i = x.val :: ((L.drop (i + 1)).map Lt.val ++ ((L.take i).filter fun x => !g x).map fun x => (f x).val) := by
  unfold tq
  rw [List.drop_eq_getElem_cons h, hx]; rfl
theorem tq_gone {L : List Lt} {f : Lt → Lt} {g : Lt → Bool} {i : Nat} {x : Lt} (h : i < L.length) (hx : L[i] = x) (hg : g x = true) : tq L f g (i + 1) = (L.drop (i + 1)).map Lt.val ++ ((L.take i).filter fun x => !g x).map fun x => (f x).val := by
  unfold tq
  rw [List.take_add_one, List.getElem?_eq_getElem h, hx, List.filter_append]
  simp [hg]
theorem tq_stay {L : List Lt} {f : Lt → Lt} {g : Lt → Bool} {i : Nat} {x : Lt} (h : i < L.length) (hx : L[i] = x) (hg : g x = false) : tq L f g (i + 1) = ((L.drop (i + 1)).map Lt.val ++ ((L.take i).filter fun x => !g x).map fun x => (f x).val) ++ [(f x).val] := by
  unfold tq
  rw [List.take_add_one, List.getElem?_eq_getElem h, hx, List.filter_append]
  simp [hg]
theorem tq_len (L : List Lt) (f : Lt → Lt) (g : Lt → Bool) (i : Nat) : (tq L f g i).length ≤ L.length := by
  unfold tq
  have := List.length_filter_le (fun x => !g x) (L.take i)
  simp at this ⊢; omega
set_option maxHeartbeats 8000000 in
theorem turn_any (w : World) (c cap : Nat) (L : List Lt) (f : Lt → Lt) (g : Lt → Bool) (gf : Nat) (lb : Array Value) (lv : Nat → Nat → Prop) (eg : ∀ args w, (callFunc gf args).run Try.prog w = .ok (.enter gf args) w)
    (J : List Lt → World → Prop) (hJ : ∀ pre W W', J pre W → Im all c lv W W' → J pre W')
    (hY : ∀ pre x B W, J pre W → pre ++ [x] <+: L → w.heap.size ≤ B → Arr W B 96 x.row → ChAt W c cap ((L.drop (pre.length + 1)).map Lt.val ++ ((L.take pre.length).filter fun x => !g x).map fun x => (f x).val) → Calls Try.prog gf (#[.pointer (some ⟨B, 0, none⟩)] ++ lb) W fun e W' => e = .returned (.bool (g x)) ∧ J (pre ++ [x]) W' ∧ Arr W' B 96 (f x).row ∧ W'.heap[c]? = W.heap[c]? ∧ W.heap.size ≤ W'.heap.size)
    (h0 : J [] w) (hc : ChAt w c cap (L.map Lt.val)) (hcap : L.length ≤ cap) (hL : L.length ≤ 1048576) :
    Calls Try.prog 49 #[.chan (some c), .func (.func gf) #[] lb] w fun e w' => e = .returned (.int .i64 ((L.filter g).length : Int)) ∧ J L w' ∧ ChAt w' c cap ((L.filter fun x => !g x).map fun x => (f x).val) ∧ w.heap.size ≤ w'.heap.size := by
  have HC0 := hidp hc
  have h00 := hidp h0
  clear h0 hc
  obtain ⟨n, hn⟩ : ∃ n, L.length = n := ⟨_, rfl⟩
  have hlen : ∀ ty, (Builtin.len_ #[88] ty #[.chan (some c)]).run Try.prog w = .ok (.int .i64 (n : Int)) w := by
    intro ty
    obtain ⟨s, r, h⟩ := HC0.out
    rw [run_len_chan 88 ty Try.underlying88 h]
    simp [goInt, hn]
  rw [hn] at hcap hL
  go_enter Try.func49, Try.ntmps49
  go_wp2
  clear hlen
  have HN := hidp hn
  clear hn
  go_loopw [5, 9] (fun t5 t9 wr => ∃ i : Nat, t9 = .int .i64 (i : Int) ∧ t5 = .int .i64 (((L.take i).filter g).length : Int) ∧ i ≤ n ∧ J (L.take i) wr ∧ ChAt wr c cap (tq L f g i) ∧ w.heap.size ≤ wr.heap.size) (fun _ t9 _ => n - (intOf t9).toNat)
  case atStart => exact ⟨0, rfl, rfl, by omega, by rw [List.take_zero]; exact h00.out, by unfold tq; rw [List.take_zero, List.drop_zero, List.filter_nil, List.map_nil, List.append_nil]; exact HC0.out, Nat.le_refl _⟩
  case round =>
    obtain ⟨i, rfl, rfl, hi, hJs, hcs, hss⟩ := hrel
    have HJW := hidp hJs; have HC := hidp hcs; have hsz := hidp hss; have HI := hidp (Im.refl (p := all) (c := c) (lv := lv) wr)
    clear hJs hcs hss
    obtain ⟨m, hm⟩ : ∃ m, ((L.take i).filter g).length = m := ⟨_, rfl⟩
    have hm2 : m ≤ 1048576 := by rw [← hm]; have := List.length_filter_le g (L.take i); simp at this; have := HN.out; omega
    have HM := hidp hm
    rw [hm]
    clear hm
    by_cases hlt : i < n
    · have e1 : decide ((i : Int) < (n : Int)) = true := by simp; omega
      have hgl : i < L.length := by rw [HN.out]; exact hlt
      obtain ⟨x, hge⟩ : ∃ x, L[i] = x := ⟨_, rfl⟩
      have HT := hidp (show L.take (i + 1) = L.take i ++ [x] from by rw [List.take_add_one, List.getElem?_eq_getElem hgl, hge]; rfl)
      have hpx := hidp (show L.take i ++ [x] <+: L from by rw [← HT.out]; exact List.take_prefix _ _)
      have HTL := hidp (show (L.take i).length = i from by rw [List.length_take]; omega)
      rw [tq_head hgl hge] at HC
      cases hq : g x with
      | true =>
        have HQ := hidp (tq_gone (f := f) hgl hge hq)
        have HF := hidp (show ((L.take (i + 1)).filter g).length = m + 1 from by rw [HT.out, List.filter_append, List.length_append, HM.out]; simp [hq])
        have hw1 : IntKind.i64.wrap ((m : Int) + 1) = (m : Int) + 1 := by rw [IntKind.wrap_i64]; omega
        clear hge hgl
        have tk0 := hidp trivial
        go_wp2_with (first | (clear tk0; (go_at_call 56; refine (take_any wr c cap _ x HC.out).mono ?_; rintro e W1 ⟨rfl, hch1, hk1⟩; have HC1 := hidp hch1; have HJ1 := hidp (HI.out.trans (Im.toLv (lv := lv) hk1)); clear hch1 hk1); (try simp only [Act.put, setIfInBounds_toArray, set_cons_zero, set_cons_succ]); have tk1 := hidp trivial) | (clear tk1; (refine Rt.wpL_new rtL (some 6) rfl rfl rfl ?_; intro b6 W2 n2); (try simp only [Act.put, setIfInBounds_toArray, set_cons_zero, set_cons_succ]); have tk2 := hidp trivial) | (clear tk2; (refine Rt.wpL_put rtL rfl (.tmp 6) (.tmp 12) rfl b6 x.row rfl rfl rfl (Lt.one x) zL rfl n2.arr ?_; intro W3 ha3 st3; have HB3 := hidp (n2.put st3); have HA3 := hidp ha3; have HC3 := hidp (HC1.out.to (HB3.out.block c HC1.out.lt)); have hI3 := HJ1.out.trans (Im.of_below HB3.out); have hcall := hY (L.take i) x b6 W3 (hJ _ _ _ HJW.out hI3) hpx.out (Nat.le_trans hsz.out (Nat.le_trans HJ1.out.size n2.le)) ha3 (by rw [HTL.out]; exact HC3.out); rw [hq] at hcall; have HI3 := hidp hI3; clear hI3 ha3 st3 n2); (try simp only [Act.put, setIfInBounds_toArray, set_cons_zero, set_cons_succ]); have tk3 := hidp trivial) | (clear tk3; (go_at_fn gf; refine hcall.mono ?_; rintro e W4 ⟨rfl, hJ4, ha4, hc4, hs4⟩; have HJ4 := hidp hJ4; have HA4 := hidp ha4; have HC4 := hidp (HC3.out.to hc4); have HS4 := hidp (Nat.le_trans (Nat.le_trans hsz.out HI3.out.size) hs4); clear hJ4 ha4 hc4 hs4 hcall); (try simp only [Act.put, setIfInBounds_toArray, set_cons_zero, set_cons_succ]); have tk4 := hidp trivial))
        try clear tk4
        exact ⟨⟨i + 1, by go_num, by rw [HF.out]; rfl, by omega, by rw [HT.out]; exact HJ4.out, by rw [HQ.out]; exact HC4.out, HS4.out⟩, by simp [intOf]; omega⟩
      | false =>
        have HR := hidp (show ((L.drop (i + 1)).map Lt.val ++ ((L.take i).filter fun x => !g x).map fun x => (f x).val).length < cap from by
          have h1 := tq_len L f g i
          rw [tq_head hgl hge] at h1
          rw [List.length_cons] at h1
          have := HN.out; omega)
        have HQ := hidp (tq_stay (f := f) hgl hge hq)
        have HF := hidp (show ((L.take (i + 1)).filter g).length = m from by rw [HT.out, List.filter_append, List.length_append, HM.out]; simp [hq])
        clear hge hgl
        have tk0 := hidp trivial
        go_wp2_with (first | (clear tk0; (go_at_call 56; refine (take_any wr c cap _ x HC.out).mono ?_; rintro e W1 ⟨rfl, hch1, hk1⟩; have HC1 := hidp hch1; have HJ1 := hidp (HI.out.trans (Im.toLv (lv := lv) hk1)); clear hch1 hk1); (try simp only [Act.put, setIfInBounds_toArray, set_cons_zero, set_cons_succ]); have tk1 := hidp trivial) | (clear tk1; (refine Rt.wpL_new rtL (some 6) rfl rfl rfl ?_; intro b6 W2 n2); (try simp only [Act.put, setIfInBounds_toArray, set_cons_zero, set_cons_succ]); have tk2 := hidp trivial) | (clear tk2; (refine Rt.wpL_put rtL rfl (.tmp 6) (.tmp 12) rfl b6 x.row rfl rfl rfl (Lt.one x) zL rfl n2.arr ?_; intro W3 ha3 st3; have HB3 := hidp (n2.put st3); have HA3 := hidp ha3; have HC3 := hidp (HC1.out.to (HB3.out.block c HC1.out.lt)); have hI3 := HJ1.out.trans (Im.of_below HB3.out); have hcall := hY (L.take i) x b6 W3 (hJ _ _ _ HJW.out hI3) hpx.out (Nat.le_trans hsz.out (Nat.le_trans HJ1.out.size n2.le)) ha3 (by rw [HTL.out]; exact HC3.out); rw [hq] at hcall; have HI3 := hidp hI3; clear hI3 ha3 st3 n2); (try simp only [Act.put, setIfInBounds_toArray, set_cons_zero, set_cons_succ]); have tk3 := hidp trivial) | (clear tk3; (go_at_fn gf; refine hcall.mono ?_; rintro e W4 ⟨rfl, hJ4, ha4, hc4, hs4⟩; have HJ4 := hidp hJ4; have HA4 := hidp ha4; have HC4 := hidp (HC3.out.to hc4); have HS4 := hidp (Nat.le_trans (Nat.le_trans hsz.out HI3.out.size) hs4); clear hJ4 ha4 hc4 hs4 hcall); (try simp only [Act.put, setIfInBounds_toArray, set_cons_zero, set_cons_succ]); have tk4 := hidp trivial) | (clear tk4; (refine Rt.wpL_get rtL rfl (.tmp 6) rfl b6 (f x).row rfl rfl HA4.out ?_); (try simp only [Act.put, setIfInBounds_toArray, set_cons_zero, set_cons_succ]); have tk5 := hidp trivial) | (clear tk5; (go_at_call 45; refine (put_room W4 c cap _ (f x) HC4.out HR.out).mono ?_; rintro e W5 ⟨rfl, hch5, hk5⟩; have HC5 := hidp hch5; have HJ5 := hidp (hJ _ _ _ HJ4.out (Im.toLv (lv := lv) hk5)); have HS5 := hidp (Nat.le_trans HS4.out hk5.size); clear hch5 hk5); (try simp only [Act.put, setIfInBounds_toArray, set_cons_zero, set_cons_succ]); have tk6 := hidp trivial))
        try clear tk6
        exact ⟨⟨i + 1, by go_num, by rw [HF.out], by omega, by rw [HT.out]; exact HJ5.out, by rw [HQ.out]; exact HC5.out, HS5.out⟩, by simp [intOf]; omega⟩
    · have e1 : decide ((i : Int) < (n : Int)) = false := by simp; omega
      have hin : i = L.length := by have := HN.out; omega
      have HX := hidp (show L.take i = L from by rw [hin, List.take_length])
      have HY := hidp (show tq L f g i = (L.filter fun x => !g x).map fun x => (f x).val from by unfold tq; rw [HX.out, hin, List.drop_length, List.map_nil, List.nil_append])
      clear hin
      go_wp2_with fail
      go_ret
      exact ⟨by rw [show ((L.filter g).length : Int) = (m : Int) from by rw [← HM.out, HX.out]]; rfl, by rw [HX.out] at HJW; exact HJW.out, by rw [← HY.out]; exact HC.out, hsz.out⟩
end Go.Proofs.Ytokakgjcegmabaa.Po
