/-
  post: Done, Clear, Lost.
-/
import Derived.Test.YtokakgjcegmabaaPoF
namespace Go.Proofs.Ytokakgjcegmabaa.Po
set_option maxRecDepth 100000
set_option linter.unusedVariables false
set_option linter.unusedSimpArgs false
open Go.RowKit
open List (getElem_toArray getElem_cons_zero getElem_cons_succ setIfInBounds_toArray set_cons_zero set_cons_succ)

open Go.Conc Go.Shelf
theorem arr_ne {w : World} {b c T U : Nat} {xs ys : List Value} (h : Arr w b T xs) (k : Arr w c U ys) (hn : T ≠ U) : b ≠ c := by
  rintro rfl
  have h1 : w.heap[b]? = _ := h
  rw [show w.heap[b]? = _ from k] at h1
  cases h1; exact hn rfl
set_option maxHeartbeats 4000000 in
theorem done1_any (w : World) (B b3 : Nat) (x : Lt) (i : Int) (hB : Arr w B 96 x.row) (h3 : Arr w b3 3 [.int .i64 i]) : Calls Try.prog 50 #[.pointer (some ⟨B, 0, none⟩), .pointer (some ⟨b3, 0, none⟩)] w fun e w' => e = .returned (.bool (x.id == i)) ∧ Below w.heap.size w w' := by
  have c0 := hB.cell 0 (by simp [Lt.row])
  have c3 := h3.cell 0 (by simp)
  simp only [Lt.row, List.getElem_cons_zero] at c0 c3
  go_enter Try.func50, Try.ntmps50
  go_wp2_with fail
  go_region
  all_goals (go_wp2; go_ret; exact ⟨rfl, by first | exact Below.refl _ _ | exact (Below.refl _ _).drew⟩)
theorem clear1_any (w : World) (B : Nat) : Calls Try.prog 51 #[.pointer (some ⟨B, 0, none⟩)] w fun e w' => e = .returned (.bool true) ∧ Below w.heap.size w w' := by
  go_enter Try.func51, Try.ntmps51
  go_wp2
  go_ret
  exact ⟨rfl, Below.refl _ _⟩
def dnL (L : List Lt) (i : Int) : List Lt := L.filter fun x => !(x.id == i)
def dnE (L : List Lt) (i : Int) : Int := if (L.filter fun x => x.id == i).length = 0 then 3 else 0
set_option maxHeartbeats 8000000 in
theorem done_any (w : World) (b c cap : Nat) (L : List Lt) (gap last lost : Int) (hp : PostAt w b c cap L gap last lost) (hcap : L.length ≤ cap) (hL : L.length ≤ 1048576) (i : Int) :
    Calls Try.prog 31 #[(.pointer (some ⟨b, 0, none⟩)), .int .i64 i] w fun e w' => e = .returned (.int .i64 (dnE L i)) ∧ PostAt w' b c cap (dnL L i) gap last lost ∧ Pk b c w w' := by
  have HP := hidp hp
  have H := hidp (Mm.M.nil w)
  have ct := hidp (fun U b3 (h3 : Arr U b3 3 [.int .i64 i]) (hq : PostAt U b c cap L gap last lost) (hlt : b3 < U.heap.size) =>
    turn_any U c cap L (fun x => x) (fun x => x.id == i) 50 #[.pointer (some ⟨b3, 0, none⟩)] lvN (enters_of Try.func50 (by kernel_rfl) rfl)
      (fun _ W => Im all c lvN U W) (fun _ _ _ h k => h.trans k)
      (fun pre x B W hj _ _ ha hch => (done1_any W B b3 x i ha (hj.arr h3 (hq.ch.ne h3) (fun h => h) trivial)).mono (by
        rintro e W' ⟨rfl, hb⟩
        exact ⟨rfl, hj.trans (Im.of_below hb), ha.below hb ha.lt, hb.block c hch.lt, hb.size⟩))
      (Im.refl U) hq.ch hcap hL)
  clear hp
  obtain ⟨n, hn⟩ : ∃ n, (L.filter fun x => x.id == i).length = n := ⟨_, rfl⟩
  rw [hn] at ct
  by_cases h0 : n = 0
  · have HE := hidp (show dnE L i = 3 from if_pos (hn.trans h0))
    subst h0
    clear hn
    rw [HE.out]
    go_enter Try.func31, Try.ntmps31
    have tk0 := hidp trivial
    go_wp2_with (first | (clear tk0; (refine Mm.box1 3 H rfl (.tmp 1) rfl (.int .i64 i) rfl rfl ?_; clear H; intro b3 _ H nw; have hb := nw.below; clear hb nw); (try simp only [Act.put, setIfInBounds_toArray, set_cons_zero, set_cons_succ]); have tk1 := hidp trivial) | (clear tk1; (go_at_call 44; refine (known_any _ b).mono ?_; rintro e _ ⟨rfl, rfl⟩); (try simp only [Act.put, setIfInBounds_toArray, set_cons_zero, set_cons_succ]); have tk2 := hidp trivial) | (clear tk2; (refine Mm.ldc naQ rfl (.tmp 8) ⟨b, 0, none⟩ (.chan (some c)) rfl rfl ((HP.out.to H.out.below).arr.cell 0 (by simp [pR])) ?_); (try simp only [Act.put, setIfInBounds_toArray, set_cons_zero, set_cons_succ]); have tk3 := hidp trivial) | (clear tk3; (go_at_call 49; refine (ct.out _ b3 H.out.at0 (HP.out.to H.out.below) H.out.at0.lt).mono ?_; rintro e W9 ⟨rfl, hj9, hc9, hs9⟩; have HJ9 := hidp hj9; have HC9 := hidp hc9; clear hj9 hc9 ct); (try simp only [Act.put, setIfInBounds_toArray, set_cons_zero, set_cons_succ]); have tk4 := hidp trivial))
    try clear tk4
    go_ret
    exact ⟨rfl, ⟨(HJ9.out.arr (HP.out.to H.out.below).arr ((HP.out.to H.out.below).ch.ne (HP.out.to H.out.below).arr) (fun h => h) trivial), HC9.out⟩, (Pk.of_below H.out.below).trans (Pk.of_im HJ9.out (fun _ _ _ h => h))⟩
  · have HE := hidp (show dnE L i = 0 from if_neg (fun h => h0 (hn.symm.trans h)))
    have e0 : ((n : Int) == 0) = false := by rw [beq_eq_false_iff_ne]; omega
    clear hn h0
    rw [HE.out]
    go_enter Try.func31, Try.ntmps31
    have tk0 := hidp trivial
    go_wp2_with (first | (clear tk0; (refine Mm.box1 3 H rfl (.tmp 1) rfl (.int .i64 i) rfl rfl ?_; clear H; intro b3 _ H nw; have hb := nw.below; clear hb nw); (try simp only [Act.put, setIfInBounds_toArray, set_cons_zero, set_cons_succ]); have tk1 := hidp trivial) | (clear tk1; (go_at_call 44; refine (known_any _ b).mono ?_; rintro e _ ⟨rfl, rfl⟩); (try simp only [Act.put, setIfInBounds_toArray, set_cons_zero, set_cons_succ]); have tk2 := hidp trivial) | (clear tk2; (refine Mm.ldc naQ rfl (.tmp 8) ⟨b, 0, none⟩ (.chan (some c)) rfl rfl ((HP.out.to H.out.below).arr.cell 0 (by simp [pR])) ?_); (try simp only [Act.put, setIfInBounds_toArray, set_cons_zero, set_cons_succ]); have tk3 := hidp trivial) | (clear tk3; (go_at_call 49; refine (ct.out _ b3 H.out.at0 (HP.out.to H.out.below) H.out.at0.lt).mono ?_; rintro e W9 ⟨rfl, hj9, hc9, hs9⟩; have HJ9 := hidp hj9; have HC9 := hidp hc9; clear hj9 hc9 ct); (try simp only [Act.put, setIfInBounds_toArray, set_cons_zero, set_cons_succ]); have tk4 := hidp trivial))
    try clear tk4
    go_ret
    exact ⟨rfl, ⟨(HJ9.out.arr (HP.out.to H.out.below).arr ((HP.out.to H.out.below).ch.ne (HP.out.to H.out.below).arr) (fun h => h) trivial), HC9.out⟩, (Pk.of_below H.out.below).trans (Pk.of_im HJ9.out (fun _ _ _ h => h))⟩

set_option maxHeartbeats 8000000 in
theorem clear_any (w : World) (b c cap : Nat) (L : List Lt) (gap last lost : Int) (hp : PostAt w b c cap L gap last lost) (hcap : L.length ≤ cap) (hL : L.length ≤ 1048576) :
    Calls Try.prog 32 #[(.pointer (some ⟨b, 0, none⟩))] w fun e w' => e = .returned (.int .i64 (L.length : Int)) ∧ PostAt w' b c cap [] gap last lost ∧ Pk b c w w' := by
  have HP := hidp hp
  have ct := hidp (fun U (hq : PostAt U b c cap L gap last lost) =>
    turn_any U c cap L (fun x => x) (fun _ => true) 51 #[] lvN (enters_of Try.func51 (by kernel_rfl) rfl)
      (fun _ W => Im all c lvN U W) (fun _ _ _ h k => h.trans k)
      (fun pre x B W hj _ _ ha hch => (clear1_any W B).mono (by
        rintro e W' ⟨rfl, hb⟩
        exact ⟨rfl, hj.trans (Im.of_below hb), ha.below hb ha.lt, hb.block c hch.lt, hb.size⟩))
      (Im.refl U) hq.ch hcap hL)
  have HN := hidp (show (L.filter fun _ => true).length = L.length from by rw [List.filter_eq_self.2 (fun _ _ => rfl)])
  have HZ := hidp (show (L.filter fun _ => !true) = [] from List.filter_eq_nil_iff.2 (fun _ _ h => Bool.false_ne_true h))
  rw [HN.out] at ct
  clear hp
  go_enter Try.func32, Try.ntmps32
  have tk0 := hidp trivial
  go_wp2_with (first | (clear tk0; (go_at_call 44; refine (known_any _ b).mono ?_; rintro e _ ⟨rfl, rfl⟩); (try simp only [Act.put, setIfInBounds_toArray, set_cons_zero, set_cons_succ]); have tk1 := hidp trivial) | (clear tk1; (refine Mm.ldc naQ rfl (.tmp 6) ⟨b, 0, none⟩ (.chan (some c)) rfl rfl (HP.out.arr.cell 0 (by simp [pR])) ?_); (try simp only [Act.put, setIfInBounds_toArray, set_cons_zero, set_cons_succ]); have tk2 := hidp trivial) | (clear tk2; (go_at_call 49; refine (ct.out _ HP.out).mono ?_; rintro e W9 ⟨rfl, hj9, hc9, hs9⟩; have HJ9 := hidp hj9; have HC9 := hidp hc9; clear hj9 hc9 ct); (try simp only [Act.put, setIfInBounds_toArray, set_cons_zero, set_cons_succ]); have tk3 := hidp trivial))
  try clear tk3
  go_ret
  exact ⟨by rw [HN.out] at *; rfl, ⟨(HJ9.out.arr HP.out.arr (HP.out.ch.ne HP.out.arr) (fun h => h) trivial), by have := HC9.out; rw [HZ.out] at this; exact this⟩, (Pk.of_im HJ9.out (fun _ _ _ h => h))⟩

set_option maxHeartbeats 4000000 in
theorem lost_any (w : World) (b c cap : Nat) (L : List Lt) (gap last lost : Int) (hp : PostAt w b c cap L gap last lost) : Calls Try.prog 35 #[(.pointer (some ⟨b, 0, none⟩))] w fun e w' => e = .returned (.int .i64 lost) ∧ Below w.heap.size w w' := by
  have HP := hidp hp
  clear hp
  go_enter Try.func35, Try.ntmps35
  have tk0 := hidp trivial
  go_wp2_with (first | (clear tk0; (go_at_call 44; refine (known_any _ b).mono ?_; rintro e _ ⟨rfl, rfl⟩); (try simp only [Act.put, setIfInBounds_toArray, set_cons_zero, set_cons_succ]); have tk1 := hidp trivial) | (clear tk1; (refine Mm.ldc naI rfl (.tmp 6) ⟨b, 3, none⟩ (.int .i64 lost) rfl rfl (HP.out.arr.cell 3 (by simp [pR])) ?_); (try simp only [Act.put, setIfInBounds_toArray, set_cons_zero, set_cons_succ]); have tk2 := hidp trivial))
  try clear tk2
  go_ret
  exact ⟨rfl, Below.refl _ _⟩
end Go.Proofs.Ytokakgjcegmabaa.Po
