/-
  net: New, Len, Lost, All.
-/
import Derived.Test.YtokakgjcegmabaaNtC
namespace Go.Proofs.Ytokakgjcegmabaa.Nt
set_option maxRecDepth 100000
set_option linter.unusedVariables false
set_option linter.unusedSimpArgs false
open Go.RowKit
open List (getElem_toArray getElem_cons_zero getElem_cons_succ setIfInBounds_toArray set_cons_zero set_cons_succ)

set_option maxHeartbeats 4000000 in
theorem len_any (w : World) (b B : Nat) (v : Value) (L : List ByteArray) (m n : Int) (h : NetAt w b B v L m n) : Calls Try.prog 18 #[.pointer (some ⟨b, 0, none⟩)] w fun e w' => e = .returned (.int .i64 (L.length : Int)) ∧ w = w' := by
  obtain ⟨a, c, hv⟩ := Sl.own_form h.own
  rw [strV_length] at hv
  have c0 := h.arr.cell 0 (by simp [nR]); have c1 := h.arr.cell 1 (by simp [nR]); have c2 := h.arr.cell 2 (by simp [nR])
  simp only [nR, List.getElem_cons_zero, List.getElem_cons_succ] at c0 c1 c2
  subst hv
  have ckn := hidp (fun W => known_any W b)
  go_enter Try.func18, Try.ntmps18
  go_wp2_with (first | (go_at_call 36; refine (ckn.out _).mono ?_; rintro e _ ⟨rfl, rfl⟩; clear ckn))
  go_ret
  exact ⟨rfl, rfl⟩
set_option maxHeartbeats 4000000 in
theorem lost_any (w : World) (b B : Nat) (v : Value) (L : List ByteArray) (m n : Int) (h : NetAt w b B v L m n) : Calls Try.prog 19 #[.pointer (some ⟨b, 0, none⟩)] w fun e w' => e = .returned (.int .i64 n) ∧ w = w' := by
  obtain ⟨a, c, hv⟩ := Sl.own_form h.own
  rw [strV_length] at hv
  have c0 := h.arr.cell 0 (by simp [nR]); have c1 := h.arr.cell 1 (by simp [nR]); have c2 := h.arr.cell 2 (by simp [nR])
  simp only [nR, List.getElem_cons_zero, List.getElem_cons_succ] at c0 c1 c2
  have ckn := hidp (fun W => known_any W b)
  go_enter Try.func19, Try.ntmps19
  go_wp2_with (first | (go_at_call 36; refine (ckn.out _).mono ?_; rintro e _ ⟨rfl, rfl⟩; clear ckn))
  go_ret
  exact ⟨rfl, rfl⟩
/-- A row of one's own, one element of which is written. -/
theorem own_set {w : World} {B T : Nat} {v : Value} {l : List Value} (h : OwnV w B T v l) (i : Nat) (hi : i < l.length) : ∃ g cap xs, v = .slice (some ⟨g, 0, none⟩) l.length cap ∧ B ≤ g ∧ Arr w g T xs ∧ i < xs.length ∧ ∀ W u, Arr W g T (xs.set i u) → OwnV W B T v (l.set i u) := by
  have h' := h
  rcases h'.2 with ⟨rfl, hn⟩ | ⟨g, cap, cur, rfl, hB, hg, hle, hmax, hcs, htk⟩
  · omega
  have hcl : cur.toList.length = cap := by simpa using hcs
  refine ⟨g, cap, cur.toList, rfl, hB, by unfold Arr; simpa using hg, by omega, fun W u ha => ⟨by simp, .inr ⟨g, cap, (cur.toList.set i u).toArray, by rw [List.length_set], hB, ha, by rw [List.length_set]; exact hle, hmax, by simp; omega, ?_⟩⟩⟩
  rw [List.length_set]
  have e : cur.toList.take (l.length * 1) = l := htk
  rw [Nat.mul_one] at e ⊢
  show List.take l.length (cur.toList.set i u) = l.set i u
  rw [List.take_set, e]
theorem clone_strs (w : World) (B : Nat) (v : Value) (L : List ByteArray) (h : OwnV w B 9 v (strV L)) (hL : L.length ≤ 1048576) : Calls Try.prog 43 #[v] w fun e w' => ∃ v', e = .returned v' ∧ OwnV w' w.heap.size 9 v' (strV L) ∧ Below w.heap.size w w' := by
  by_cases hp : 0 < L.length
  · obtain ⟨g, c, hv, -, -, hc⟩ := Sl.own_cells h (by rw [strV_length]; exact hp)
    rw [strV_length] at hv
    subst hv
    refine (Try.slices_Clone_string g 0 L.length c L w (Nat.le_refl _) (by omega) (fun j hj => ?_)).mono ?_
    · rw [Nat.zero_add, hc j (by rw [strV_length]; exact hj)]
      simp [strV, List.getD_eq_getElem?_getD, hj]
    · rintro e w' ⟨v', rfl, ho, -, hb⟩
      refine ⟨v', rfl, ?_, hb⟩
      unfold OwnV
      rw [strV_length]
      rw [List.take_length] at ho
      exact ho
  · obtain rfl : L = [] := List.eq_nil_of_length_eq_zero (by omega)
    have hs : strV [] = [] := rfl
    rw [hs] at h ⊢
    rcases h.2 with ⟨rfl, -⟩ | ⟨g, cap, cur, rfl, -⟩
    · refine (Try.slices_Clone_string_nil 0 0 w).mono ?_
      rintro e w' ⟨rfl, rfl⟩
      exact ⟨_, rfl, OwnV.nil _ _ _, Below.refl _ _⟩
    · refine (Try.slices_Clone_string g 0 0 cap [] w (Nat.le_refl _) (by omega) (fun j hj => by simp at hj)).mono ?_
      rintro e w' ⟨v', rfl, ho, -, hb⟩
      exact ⟨v', rfl, ho, hb⟩
set_option maxHeartbeats 8000000 in
theorem all_any (w : World) (b B : Nat) (v : Value) (L : List ByteArray) (m n : Int) (h : NetAt w b B v L m n) (hL : L.length ≤ 1048576) (hsz : ∀ k, (Sl.sAt L k).size ≤ 140737488351232) :
    Calls Try.prog 21 #[.pointer (some ⟨b, 0, none⟩)] w fun e w' => ∃ v', e = .returned v' ∧ OwnV w' w.heap.size 9 v' (strV L) ∧ Below w.heap.size w w' := by
  have HN := hidp h
  have ckn := hidp (fun W => known_any W b)
  have csl := hidp (fun W (hn : NetAt W b B v L m n) => clone_strs W B v L hn.own hL)
  have ccl := hidp (fun W k => clone (Sl.sAt L k) W (hsz k))
  clear hsz
  go_enter Try.func21, Try.ntmps21
  go_wp2_with (first
    | (go_at_call 36; refine (ckn.out _).mono ?_; rintro e _ ⟨rfl, rfl⟩; clear ckn)
    | (refine Mm.ldc naSS rfl (.tmp 10) ⟨b, 0, none⟩ v rfl rfl (HN.out.arr.cell 0 (by simp [nR])) ?_)
    | (go_at_call 43; refine (csl.out _ HN.out).mono ?_; rintro e W1 ⟨v3, rfl, ho, hb⟩; obtain ⟨a3, c3, hv3⟩ := Sl.own_form ho; rw [strV_length] at hv3; subst hv3; have HO := hidp ho; have HB := hidp hb; clear ho hb csl))
  have HB0 := HB
  go_loopw [15] (fun t15 wr => ∃ i : Nat, t15 = .int .i64 (i : Int) ∧ i ≤ L.length ∧ OwnV wr w.heap.size 9 (.slice a3 L.length c3) (strV L) ∧ Below w.heap.size w wr) (fun t15 _ => L.length - (intOf t15).toNat)
  case atStart => exact ⟨0, rfl, by omega, HO.out, HB.out⟩
  case round =>
    obtain ⟨i, rfl, hi, ho, hb⟩ := hrel
    clear HO HB HB0
    have HO := hidp ho; have HB := hidp hb
    clear ho hb
    by_cases hlt : i < L.length
    · have e1 : decide ((i : Int) < (L.length : Int)) = true := by simp; omega
      obtain ⟨g, cap, xs, hv, hg, ha, hix, hset⟩ := own_set HO.out i (by rw [strV_length]; exact hlt)
      have hcell := Sl.own_cells HO.out (by rw [strV_length]; omega)
      obtain ⟨g', c', hv', -, -, hcc⟩ := hcell
      rw [strV_length] at hv hv'
      rw [hv] at hv'
      simp only [Value.slice.injEq, Option.some.injEq, Addr.mk.injEq, and_true, true_and] at hv'
      obtain ⟨rfl, rfl⟩ := hv'
      simp only [Value.slice.injEq, true_and] at hv
      obtain ⟨rfl, rfl⟩ := hv
      have HC := hidp (show wr.cell? ⟨g, i, none⟩ = some (.string (Sl.sAt L i)) from by rw [hcc i (by rw [strV_length]; exact hlt), Sl.sAt_get hlt]; simp [strV])
      have HA := hidp ha; have HS := hidp hset
      have cc := hidp (fun W => ccl.out W i)
      obtain ⟨X, hX⟩ : ∃ X, Sl.sAt L i = X := ⟨_, rfl⟩
      rw [hX] at HC cc
      have HX := hidp hX
      have HG := hidp hg
      obtain ⟨l, hl⟩ : ∃ l, L.length = l := ⟨_, rfl⟩
      have HLL := hidp hl
      rw [hl] at HO HS e1 hlt hi hL
      rw [hl]
      clear hcc ha hset hX hg hl
      go_wp2_with (first
        | (refine Sl.wpL_idx1 Sl.tyS (by kernel_rfl) rfl (.tmp 13) (.tmp 15) rfl g 0 l c3 i rfl rfl hlt ?_; rw [Nat.zero_add])
        | (refine Mm.ldc naS rfl (.tmp 18) ⟨g, i, none⟩ (.string X) rfl rfl HC.out ?_)
        | (go_at_call 39; refine (cc.out _).mono ?_; rintro e W2 ⟨rfl, hb2⟩; have HA2 := hidp (HA.out.below hb2 HA.out.lt); have HB2 := hidp (HB.out.trans (hb2.mono HB.out.size)); clear hb2 cc)
        | (refine Sl.wpL_idx1 Sl.tyS (by kernel_rfl) rfl (.tmp 20) (.tmp 21) rfl g 0 l c3 i rfl rfl hlt ?_; rw [Nat.zero_add])
        | (refine Rt.wpL_putF rfl 9 (.tmp 24) (.tmp 23) rfl g i (.string X) rfl rfl (by kernel_rfl) rfl xs HA2.out hix ?_; intro W3 ha3 st3; have HA3 := hidp ha3; have HB3 := hidp (st3.below' HB2.out HG.out); clear ha3 st3))
      exact ⟨⟨i + 1, by go_num, by omega, by have := HS.out W3 _ HA3.out; rw [show (strV L).set i (.string X) = strV L from by rw [← HX.out, Sl.sAt_get (by rw [HLL.out]; exact hlt)]; unfold strV; rw [← List.map_set, List.set_getElem_self]] at this; exact this, HB3.out⟩, by simp [intOf]; omega⟩
    · have e1 : decide ((i : Int) < (L.length : Int)) = false := by simp; omega
      go_wp2_with fail
      go_ret
      exact ⟨_, rfl, HO.out, HB.out⟩
set_option maxHeartbeats 4000000 in
theorem new_yes (w : World) (m : Int) (h1 : 1 ≤ m) (h2 : m ≤ 1024) : Calls Try.prog 8 #[.int .i64 m] w fun e w' => ∃ b, e = .returned (.tuple #[.pointer (some ⟨b, 0, none⟩), .int .i64 0]) ∧ NetAt w' b w.heap.size (.slice none 0 0) [] m 0 ∧ w.heap.size ≤ b ∧ Below w.heap.size w w' := by
  have e1 : decide (m < 1) = false := by simp; omega
  have e2 : decide (m > 1024) = false := by simp; omega
  go_enter Try.func8, Try.ntmps8
  go_wp2_with (first
    | (refine Rt.wpL_build rfl 78 _ rfl [.slice none 0 0, .int .i64 m] (by kernel_rfl) ?_)
    | (refine Rt.wpL_build rfl 80 _ rfl (nR (.slice none 0 0) m 0) (by kernel_rfl) ?_)
    | (refine Rt.wpL_box 80 rfl _ rfl (nR (.slice none 0 0) m 0) rfl ?_; intro b W nw; have HW := hidp nw; clear nw))
  go_ret2
  exact ⟨b, rfl, ⟨HW.out.arr, OwnV.nil _ _ _⟩, HW.out.le, HW.out.below⟩
set_option maxHeartbeats 4000000 in
theorem new_no (w : World) (m : Int) (h : ¬ (1 ≤ m ∧ m ≤ 1024)) : Calls Try.prog 8 #[.int .i64 m] w fun e w' => e = .returned (.tuple #[.pointer none, .int .i64 1]) ∧ w = w' := by
  by_cases h1 : m < 1
  · have e1 : decide (m < 1) = true := decide_eq_true h1
    go_enter Try.func8, Try.ntmps8
    go_wp2
    go_ret2
    exact ⟨rfl, rfl⟩
  · have e1 : decide (m < 1) = false := decide_eq_false h1
    have e2 : decide (m > 1024) = true := by simp; omega
    go_enter Try.func8, Try.ntmps8
    go_wp2
    go_ret2
    exact ⟨rfl, rfl⟩
end Go.Proofs.Ytokakgjcegmabaa.Nt
