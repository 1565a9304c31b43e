/-
  Joined: EnR.
-/
import Derived.Test.YtbgooppmhgaicaaGreatDoorCW
import Derived.Test.YtbgooppmhgaicaaGreatDoorCC2
namespace Go.Proofs.YtbgooppmhgaicaaGreatDoor.En
set_option maxRecDepth 100000
set_option linter.unusedVariables false
set_option linter.unusedSimpArgs false
open Go.RowKit
open List (getElem_toArray getElem_cons_zero getElem_cons_succ setIfInBounds_toArray set_cons_zero set_cons_succ)

open Ho (inE inV in_zero in_not al_sz)
theorem y_gn {s : ByteArray} {n j c : Nat} (h : gn s.data.toList = (n, j, c)) : (inE s 4096 = 0 ↔ c = 0 ∧ j = s.size ∧ n ≤ 4096) ∧ (inE s 4096 = 0 → inV s 4096 = n) := by
  have hb := gn_bd s.data.toList
  have hz := size_toList s
  rw [h] at hb
  simp only at hb
  have hn : numOf s = if c = 0 ∧ j = s.size then some n else none := by unfold numOf; rw [h]
  have key : inE s 4096 = 0 → c = 0 ∧ j = s.size ∧ n ≤ 4096 ∧ inV s 4096 = n := by
    intro h0
    obtain ⟨h1, h2⟩ := in_zero h0
    rw [hn] at h1
    split at h1
    · rename_i hh
      simp only [Option.some.injEq] at h1
      exact ⟨hh.1, hh.2, by omega, h1.symm⟩
    · cases h1
  refine ⟨⟨fun h0 => ⟨(key h0).1, (key h0).2.1, (key h0).2.2.1⟩, fun ⟨h1, h2, h3⟩ => ?_⟩, fun h0 => (key h0).2.2.2⟩
  cases hq : decide (inE s 4096 = 0) with
  | true => exact of_decide_eq_true hq
  | false =>
    have := in_not (of_decide_eq_false hq) n (by rw [hn, if_pos ⟨h1, h2⟩])
    omega


set_option maxHeartbeats 8000000 in
theorem rcheck_any (w : World) (x : En) (hx : x.ok) : Calls Tryz.prog 54 #[.agg x.row.toArray] w fun e w' => e = .returned (.int .i64 (eE x)) ∧ Below w.heap.size w w' := by
  have H := hidp (Mm.M.nil w)
  have HP := hidp hx.p
  have cr := hidp (fun W => rroom_any W x.r (by have := hx.r; omega))
  clear hx
  have HOK := hidp (show eOk x = ((who 2 x.r).isSome && cnt x.e && cnt x.i && decide (x.v.size ≤ 8192) && decide (x.g.size ≤ 8192)) from rfl)
  cases hw : who 2 x.r with
  | none =>
    have HF := hidp (show eE x = 2 from eE_of (by rw [HOK.out, hw]; simp))
    rw [hw] at cr; unfold whoV at cr
    clear hw
    go_enter Tryz.func54, Tryz.ntmps54
    have tk0 := hidp trivial
    go_wp2_with (first | (clear tk0; (refine Mm.box 27 H rfl (.tmp 0) rfl x.row rfl ?_; clear H; intro b1 _ H nw; have hb := nw.below; clear hb nw); (try simp only [Act.put, setIfInBounds_toArray, set_cons_zero, set_cons_succ]); have tk1 := hidp trivial) | (clear tk1; (refine Mm.ld0 naS H rfl (.tmp 6) 0 (.string x.r) rfl rfl (En.get0 _) ?_); (try simp only [Act.put, setIfInBounds_toArray, set_cons_zero, set_cons_succ]); have tk2 := hidp trivial) | (clear tk2; (go_at_call 73; refine (cr.out _).mono ?_; rintro e _ ⟨rfl, hb⟩; replace H := hidp (H.out.call hb); clear hb); (try simp only [Act.put, setIfInBounds_toArray, set_cons_zero, set_cons_succ]); have tk3 := hidp trivial))
    try clear tk3
    go_ret
    exact ⟨by rw [HF.out]; first | done | rfl, H.out.below⟩
  | some nn =>
    rw [hw] at cr; unfold whoV at cr
    by_cases a1 : x.e < 0
    · have HF := hidp (show eE x = 2 from eE_of (by rw [HOK.out, show cnt x.e = false from decide_eq_false (by omega)]; simp))
      have e1 : decide (x.e < 0) = true := by simpa using a1
      clear hw
      go_enter Tryz.func54, Tryz.ntmps54
      have tk0 := hidp trivial
      go_wp2_with (first | (clear tk0; (refine Mm.box 27 H rfl (.tmp 0) rfl x.row rfl ?_; clear H; intro b1 _ H nw; have hb := nw.below; clear hb nw); (try simp only [Act.put, setIfInBounds_toArray, set_cons_zero, set_cons_succ]); have tk1 := hidp trivial) | (clear tk1; (refine Mm.ld0 naS H rfl (.tmp 6) 0 (.string x.r) rfl rfl (En.get0 _) ?_); (try simp only [Act.put, setIfInBounds_toArray, set_cons_zero, set_cons_succ]); have tk2 := hidp trivial) | (clear tk2; (go_at_call 73; refine (cr.out _).mono ?_; rintro e _ ⟨rfl, hb⟩; replace H := hidp (H.out.call hb); clear hb); (try simp only [Act.put, setIfInBounds_toArray, set_cons_zero, set_cons_succ]); have tk3 := hidp trivial) | (clear tk3; (refine Mm.ld0 naI H rfl (.tmp 14) 1 (.int .i64 x.e) rfl rfl (En.get1 _) ?_); (try simp only [Act.put, setIfInBounds_toArray, set_cons_zero, set_cons_succ]); have tk4 := hidp trivial))
      try clear tk4
      go_ret
      exact ⟨by rw [HF.out]; first | done | rfl, H.out.below⟩
    have e1 : decide (x.e < 0) = false := by simpa using a1
    by_cases a2 : x.e > 4096
    · have HF := hidp (show eE x = 2 from eE_of (by rw [HOK.out, show cnt x.e = false from decide_eq_false (by omega)]; simp))
      have e2 : decide (x.e > 4096) = true := by simpa using a2
      have n2 : (4096 : Int) < x.e := a2
      clear hw
      go_enter Tryz.func54, Tryz.ntmps54
      have tk0 := hidp trivial
      go_wp2_with (first | (clear tk0; (refine Mm.box 27 H rfl (.tmp 0) rfl x.row rfl ?_; clear H; intro b1 _ H nw; have hb := nw.below; clear hb nw); (try simp only [Act.put, setIfInBounds_toArray, set_cons_zero, set_cons_succ]); have tk1 := hidp trivial) | (clear tk1; (refine Mm.ld0 naS H rfl (.tmp 6) 0 (.string x.r) rfl rfl (En.get0 _) ?_); (try simp only [Act.put, setIfInBounds_toArray, set_cons_zero, set_cons_succ]); have tk2 := hidp trivial) | (clear tk2; (go_at_call 73; refine (cr.out _).mono ?_; rintro e _ ⟨rfl, hb⟩; replace H := hidp (H.out.call hb); clear hb); (try simp only [Act.put, setIfInBounds_toArray, set_cons_zero, set_cons_succ]); have tk3 := hidp trivial) | (clear tk3; (refine Mm.ld0 naI H rfl (.tmp 14) 1 (.int .i64 x.e) rfl rfl (En.get1 _) ?_); (try simp only [Act.put, setIfInBounds_toArray, set_cons_zero, set_cons_succ]); have tk4 := hidp trivial) | (clear tk4; (refine Mm.ld0 naI H rfl (.tmp 19) 1 (.int .i64 x.e) rfl rfl (En.get1 _) ?_); (try simp only [Act.put, setIfInBounds_toArray, set_cons_zero, set_cons_succ]); have tk5 := hidp trivial))
      try clear tk5
      go_ret
      exact ⟨by rw [HF.out]; first | done | rfl, H.out.below⟩
    have e2 : decide (x.e > 4096) = false := by simpa using a2
    have n2 : ¬ (4096 : Int) < x.e := a2
    by_cases a3 : x.i < 0
    · have HF := hidp (show eE x = 2 from eE_of (by rw [HOK.out, show cnt x.i = false from decide_eq_false (by omega)]; simp))
      have e3 : decide (x.i < 0) = true := by simpa using a3
      clear hw
      go_enter Tryz.func54, Tryz.ntmps54
      have tk0 := hidp trivial
      go_wp2_with (first | (clear tk0; (refine Mm.box 27 H rfl (.tmp 0) rfl x.row rfl ?_; clear H; intro b1 _ H nw; have hb := nw.below; clear hb nw); (try simp only [Act.put, setIfInBounds_toArray, set_cons_zero, set_cons_succ]); have tk1 := hidp trivial) | (clear tk1; (refine Mm.ld0 naS H rfl (.tmp 6) 0 (.string x.r) rfl rfl (En.get0 _) ?_); (try simp only [Act.put, setIfInBounds_toArray, set_cons_zero, set_cons_succ]); have tk2 := hidp trivial) | (clear tk2; (go_at_call 73; refine (cr.out _).mono ?_; rintro e _ ⟨rfl, hb⟩; replace H := hidp (H.out.call hb); clear hb); (try simp only [Act.put, setIfInBounds_toArray, set_cons_zero, set_cons_succ]); have tk3 := hidp trivial) | (clear tk3; (refine Mm.ld0 naI H rfl (.tmp 14) 1 (.int .i64 x.e) rfl rfl (En.get1 _) ?_); (try simp only [Act.put, setIfInBounds_toArray, set_cons_zero, set_cons_succ]); have tk4 := hidp trivial) | (clear tk4; (refine Mm.ld0 naI H rfl (.tmp 19) 1 (.int .i64 x.e) rfl rfl (En.get1 _) ?_); (try simp only [Act.put, setIfInBounds_toArray, set_cons_zero, set_cons_succ]); have tk5 := hidp trivial) | (clear tk5; (refine Mm.ld0 naI H rfl (.tmp 24) 2 (.int .i64 x.i) rfl rfl (En.get2 _) ?_); (try simp only [Act.put, setIfInBounds_toArray, set_cons_zero, set_cons_succ]); have tk6 := hidp trivial))
      try clear tk6
      go_ret
      exact ⟨by rw [HF.out]; first | done | rfl, H.out.below⟩
    have e3 : decide (x.i < 0) = false := by simpa using a3
    by_cases a4 : x.i > 4096
    · have HF := hidp (show eE x = 2 from eE_of (by rw [HOK.out, show cnt x.i = false from decide_eq_false (by omega)]; simp))
      have e4 : decide (x.i > 4096) = true := by simpa using a4
      have n4 : (4096 : Int) < x.i := a4
      clear hw
      go_enter Tryz.func54, Tryz.ntmps54
      have tk0 := hidp trivial
      go_wp2_with (first | (clear tk0; (refine Mm.box 27 H rfl (.tmp 0) rfl x.row rfl ?_; clear H; intro b1 _ H nw; have hb := nw.below; clear hb nw); (try simp only [Act.put, setIfInBounds_toArray, set_cons_zero, set_cons_succ]); have tk1 := hidp trivial) | (clear tk1; (refine Mm.ld0 naS H rfl (.tmp 6) 0 (.string x.r) rfl rfl (En.get0 _) ?_); (try simp only [Act.put, setIfInBounds_toArray, set_cons_zero, set_cons_succ]); have tk2 := hidp trivial) | (clear tk2; (go_at_call 73; refine (cr.out _).mono ?_; rintro e _ ⟨rfl, hb⟩; replace H := hidp (H.out.call hb); clear hb); (try simp only [Act.put, setIfInBounds_toArray, set_cons_zero, set_cons_succ]); have tk3 := hidp trivial) | (clear tk3; (refine Mm.ld0 naI H rfl (.tmp 14) 1 (.int .i64 x.e) rfl rfl (En.get1 _) ?_); (try simp only [Act.put, setIfInBounds_toArray, set_cons_zero, set_cons_succ]); have tk4 := hidp trivial) | (clear tk4; (refine Mm.ld0 naI H rfl (.tmp 19) 1 (.int .i64 x.e) rfl rfl (En.get1 _) ?_); (try simp only [Act.put, setIfInBounds_toArray, set_cons_zero, set_cons_succ]); have tk5 := hidp trivial) | (clear tk5; (refine Mm.ld0 naI H rfl (.tmp 24) 2 (.int .i64 x.i) rfl rfl (En.get2 _) ?_); (try simp only [Act.put, setIfInBounds_toArray, set_cons_zero, set_cons_succ]); have tk6 := hidp trivial) | (clear tk6; (refine Mm.ld0 naI H rfl (.tmp 29) 2 (.int .i64 x.i) rfl rfl (En.get2 _) ?_); (try simp only [Act.put, setIfInBounds_toArray, set_cons_zero, set_cons_succ]); have tk7 := hidp trivial))
      try clear tk7
      go_ret
      exact ⟨by rw [HF.out]; first | done | rfl, H.out.below⟩
    have e4 : decide (x.i > 4096) = false := by simpa using a4
    have n4 : ¬ (4096 : Int) < x.i := a4
    by_cases hv : x.v.size ≤ 8192
    · have e5 : decide ((x.v.size : Int) > 8192) = false := by simp; omega
      have n5 : ¬ (8192 : Int) < (x.v.size : Int) := by omega
      by_cases hg : x.g.size ≤ 8192
      · have e6 : decide ((x.g.size : Int) > 8192) = false := by simp; omega
        have n6 : ¬ (8192 : Int) < (x.g.size : Int) := by omega
        have HF := hidp (show eE x = 0 from eE_yes (by rw [HOK.out, hw, show cnt x.e = true from decide_eq_true (by omega), show cnt x.i = true from decide_eq_true (by omega)]; simp [hv, hg]))
        clear hw hv hg
        go_enter Tryz.func54, Tryz.ntmps54
        have tk0 := hidp trivial
        go_wp2_with (first | (clear tk0; (refine Mm.box 27 H rfl (.tmp 0) rfl x.row rfl ?_; clear H; intro b1 _ H nw; have hb := nw.below; clear hb nw); (try simp only [Act.put, setIfInBounds_toArray, set_cons_zero, set_cons_succ]); have tk1 := hidp trivial) | (clear tk1; (refine Mm.ld0 naS H rfl (.tmp 6) 0 (.string x.r) rfl rfl (En.get0 _) ?_); (try simp only [Act.put, setIfInBounds_toArray, set_cons_zero, set_cons_succ]); have tk2 := hidp trivial) | (clear tk2; (go_at_call 73; refine (cr.out _).mono ?_; rintro e _ ⟨rfl, hb⟩; replace H := hidp (H.out.call hb); clear hb); (try simp only [Act.put, setIfInBounds_toArray, set_cons_zero, set_cons_succ]); have tk3 := hidp trivial) | (clear tk3; (refine Mm.ld0 naI H rfl (.tmp 14) 1 (.int .i64 x.e) rfl rfl (En.get1 _) ?_); (try simp only [Act.put, setIfInBounds_toArray, set_cons_zero, set_cons_succ]); have tk4 := hidp trivial) | (clear tk4; (refine Mm.ld0 naI H rfl (.tmp 19) 1 (.int .i64 x.e) rfl rfl (En.get1 _) ?_); (try simp only [Act.put, setIfInBounds_toArray, set_cons_zero, set_cons_succ]); have tk5 := hidp trivial) | (clear tk5; (refine Mm.ld0 naI H rfl (.tmp 24) 2 (.int .i64 x.i) rfl rfl (En.get2 _) ?_); (try simp only [Act.put, setIfInBounds_toArray, set_cons_zero, set_cons_succ]); have tk6 := hidp trivial) | (clear tk6; (refine Mm.ld0 naI H rfl (.tmp 29) 2 (.int .i64 x.i) rfl rfl (En.get2 _) ?_); (try simp only [Act.put, setIfInBounds_toArray, set_cons_zero, set_cons_succ]); have tk7 := hidp trivial) | (clear tk7; (refine Mm.ld0 naS H rfl (.tmp 34) 35 (.string x.v) rfl rfl (En.get35 HP.out) ?_); (try simp only [Act.put, setIfInBounds_toArray, set_cons_zero, set_cons_succ]); have tk8 := hidp trivial) | (clear tk8; (refine Mm.ld0 naS H rfl (.tmp 40) 36 (.string x.g) rfl rfl (En.get36 HP.out) ?_); (try simp only [Act.put, setIfInBounds_toArray, set_cons_zero, set_cons_succ]); have tk9 := hidp trivial))
        try clear tk9
        go_ret
        exact ⟨by rw [HF.out]; first | done | rfl, H.out.below⟩
      · have e6 : decide ((x.g.size : Int) > 8192) = true := by simp; omega
        have n6 : (8192 : Int) < (x.g.size : Int) := by omega
        have HF := hidp (show eE x = 2 from eE_of (by rw [HOK.out]; simp [hg]))
        clear hw hv hg
        go_enter Tryz.func54, Tryz.ntmps54
        have tk0 := hidp trivial
        go_wp2_with (first | (clear tk0; (refine Mm.box 27 H rfl (.tmp 0) rfl x.row rfl ?_; clear H; intro b1 _ H nw; have hb := nw.below; clear hb nw); (try simp only [Act.put, setIfInBounds_toArray, set_cons_zero, set_cons_succ]); have tk1 := hidp trivial) | (clear tk1; (refine Mm.ld0 naS H rfl (.tmp 6) 0 (.string x.r) rfl rfl (En.get0 _) ?_); (try simp only [Act.put, setIfInBounds_toArray, set_cons_zero, set_cons_succ]); have tk2 := hidp trivial) | (clear tk2; (go_at_call 73; refine (cr.out _).mono ?_; rintro e _ ⟨rfl, hb⟩; replace H := hidp (H.out.call hb); clear hb); (try simp only [Act.put, setIfInBounds_toArray, set_cons_zero, set_cons_succ]); have tk3 := hidp trivial) | (clear tk3; (refine Mm.ld0 naI H rfl (.tmp 14) 1 (.int .i64 x.e) rfl rfl (En.get1 _) ?_); (try simp only [Act.put, setIfInBounds_toArray, set_cons_zero, set_cons_succ]); have tk4 := hidp trivial) | (clear tk4; (refine Mm.ld0 naI H rfl (.tmp 19) 1 (.int .i64 x.e) rfl rfl (En.get1 _) ?_); (try simp only [Act.put, setIfInBounds_toArray, set_cons_zero, set_cons_succ]); have tk5 := hidp trivial) | (clear tk5; (refine Mm.ld0 naI H rfl (.tmp 24) 2 (.int .i64 x.i) rfl rfl (En.get2 _) ?_); (try simp only [Act.put, setIfInBounds_toArray, set_cons_zero, set_cons_succ]); have tk6 := hidp trivial) | (clear tk6; (refine Mm.ld0 naI H rfl (.tmp 29) 2 (.int .i64 x.i) rfl rfl (En.get2 _) ?_); (try simp only [Act.put, setIfInBounds_toArray, set_cons_zero, set_cons_succ]); have tk7 := hidp trivial) | (clear tk7; (refine Mm.ld0 naS H rfl (.tmp 34) 35 (.string x.v) rfl rfl (En.get35 HP.out) ?_); (try simp only [Act.put, setIfInBounds_toArray, set_cons_zero, set_cons_succ]); have tk8 := hidp trivial) | (clear tk8; (refine Mm.ld0 naS H rfl (.tmp 40) 36 (.string x.g) rfl rfl (En.get36 HP.out) ?_); (try simp only [Act.put, setIfInBounds_toArray, set_cons_zero, set_cons_succ]); have tk9 := hidp trivial))
        try clear tk9
        go_ret
        exact ⟨by rw [HF.out]; first | done | rfl, H.out.below⟩
    · have e5 : decide ((x.v.size : Int) > 8192) = true := by simp; omega
      have n5 : (8192 : Int) < (x.v.size : Int) := by omega
      have HF := hidp (show eE x = 2 from eE_of (by rw [HOK.out]; simp [hv]))
      clear hw hv
      go_enter Tryz.func54, Tryz.ntmps54
      have tk0 := hidp trivial
      go_wp2_with (first | (clear tk0; (refine Mm.box 27 H rfl (.tmp 0) rfl x.row rfl ?_; clear H; intro b1 _ H nw; have hb := nw.below; clear hb nw); (try simp only [Act.put, setIfInBounds_toArray, set_cons_zero, set_cons_succ]); have tk1 := hidp trivial) | (clear tk1; (refine Mm.ld0 naS H rfl (.tmp 6) 0 (.string x.r) rfl rfl (En.get0 _) ?_); (try simp only [Act.put, setIfInBounds_toArray, set_cons_zero, set_cons_succ]); have tk2 := hidp trivial) | (clear tk2; (go_at_call 73; refine (cr.out _).mono ?_; rintro e _ ⟨rfl, hb⟩; replace H := hidp (H.out.call hb); clear hb); (try simp only [Act.put, setIfInBounds_toArray, set_cons_zero, set_cons_succ]); have tk3 := hidp trivial) | (clear tk3; (refine Mm.ld0 naI H rfl (.tmp 14) 1 (.int .i64 x.e) rfl rfl (En.get1 _) ?_); (try simp only [Act.put, setIfInBounds_toArray, set_cons_zero, set_cons_succ]); have tk4 := hidp trivial) | (clear tk4; (refine Mm.ld0 naI H rfl (.tmp 19) 1 (.int .i64 x.e) rfl rfl (En.get1 _) ?_); (try simp only [Act.put, setIfInBounds_toArray, set_cons_zero, set_cons_succ]); have tk5 := hidp trivial) | (clear tk5; (refine Mm.ld0 naI H rfl (.tmp 24) 2 (.int .i64 x.i) rfl rfl (En.get2 _) ?_); (try simp only [Act.put, setIfInBounds_toArray, set_cons_zero, set_cons_succ]); have tk6 := hidp trivial) | (clear tk6; (refine Mm.ld0 naI H rfl (.tmp 29) 2 (.int .i64 x.i) rfl rfl (En.get2 _) ?_); (try simp only [Act.put, setIfInBounds_toArray, set_cons_zero, set_cons_succ]); have tk7 := hidp trivial) | (clear tk7; (refine Mm.ld0 naS H rfl (.tmp 34) 35 (.string x.v) rfl rfl (En.get35 HP.out) ?_); (try simp only [Act.put, setIfInBounds_toArray, set_cons_zero, set_cons_succ]); have tk8 := hidp trivial))
      try clear tk8
      go_ret
      exact ⟨by rw [HF.out]; first | done | rfl, H.out.below⟩

set_option maxHeartbeats 16000000 in
theorem rtext_any (w : World) (x : En) (hx : x.ok) : Calls Tryz.prog 18 #[.agg x.row.toArray] w fun e w' => e = .returned (.tuple #[.string (eT x), .int .i64 (eE x)]) ∧ Below w.heap.size w w' := by
  have H := hidp (Mm.M.nil w)
  have HP := hidp hx.p
  have cc := hidp (fun W => rcheck_any W x hx)
  clear hx
  cases hok : eOk x with
  | false =>
    rw [eE_no hok] at cc ⊢
    rw [eT_no hok]
    clear hok
    go_enter Tryz.func18, Tryz.ntmps18
    have tk0 := hidp trivial
    go_wp2_with (first | (clear tk0; (refine Mm.box 27 H rfl (.tmp 0) rfl x.row rfl ?_; clear H; intro b1 _ H nw; have hb := nw.below; clear hb nw); (try simp only [Act.put, setIfInBounds_toArray, set_cons_zero, set_cons_succ]); have tk1 := hidp trivial) | (clear tk1; (refine Mm.get0 rtE H rfl (.tmp 1) rfl rfl (En.len HP.out) ?_); (try simp only [Act.put, setIfInBounds_toArray, set_cons_zero, set_cons_succ]); have tk2 := hidp trivial) | (clear tk2; (go_at_call 54; refine (cc.out _).mono ?_; rintro e _ ⟨rfl, hb⟩; replace H := hidp (H.out.call hb); clear cc; clear hb); (try simp only [Act.put, setIfInBounds_toArray, set_cons_zero, set_cons_succ]); have tk3 := hidp trivial))
    try clear tk3
    go_ret2
    exact ⟨rfl, H.out.below⟩
  | true =>
    rw [eE_yes hok] at cc ⊢
    obtain ⟨-, h2, h3, -, -⟩ := eOk_parts hok
    obtain ⟨ne, hne⟩ := Int.eq_ofNat_of_zero_le h2.1
    obtain ⟨ni, hni⟩ := Int.eq_ofNat_of_zero_le h3.1
    have hlok := eL_ok hok HP.out
    have hT : eT x = listS (eL x) ∧ (0 : Int) = listE (eL x) := by rw [eT_yes hok, listS_yes hlok, listE_yes hlok]; exact ⟨rfl, rfl⟩
    have hL : eL x = [wEntry, x.r, mkS (encN ne), mkS (encN ni), mkS x.p, x.v] := by unfold eL; rw [hne, hni]; rfl
    have HE1 := hidp (show x.row[1]? = some (.int .i64 (ne : Int)) from by rw [En.get1, hne])
    have HI1 := hidp (show x.row[2]? = some (.int .i64 (ni : Int)) from by rw [En.get2, hni])
    have ce := hidp (fun W => refNum_any W ne (by omega))
    rw [numS_yes (by omega), numE_yes (by omega)] at ce
    have ci := hidp (fun W => refNum_any W ni (by omega))
    rw [numS_yes (by omega), numE_yes (by omega)] at ci
    have w1 : IntKind.u64.wrap (ne : Int) = (ne : Int) := by unfold IntKind.wrap; simp [IntKind.bits, IntKind.signed]; omega
    have w2 : IntKind.u64.wrap (ni : Int) = (ni : Int) := by unfold IntKind.wrap; simp [IntKind.bits, IntKind.signed]; omega
    rw [hL] at hlok hT
    have cl := hidp (fun W v (hat : StrsAt W v [wEntry, x.r, mkS (encN ne), mkS (encN ni), mkS x.p, x.v]) => refList_any W v _ hat (by simp) (fun s hs => by have := hlok.2 s hs; omega))
    rw [← hT.1, ← hT.2] at cl
    obtain ⟨T, hTT⟩ : ∃ T, eT x = T := ⟨_, rfl⟩
    rw [hTT] at cl ⊢
    clear hok h2 h3 hne hni hlok hT hL hTT
    go_enter Tryz.func18, Tryz.ntmps18
    have tk0 := hidp trivial
    go_wp2_with (first | (clear tk0; (refine Mm.box 27 H rfl (.tmp 0) rfl x.row rfl ?_; clear H; intro b1 _ H nw; have hb := nw.below; clear hb nw); (try simp only [Act.put, setIfInBounds_toArray, set_cons_zero, set_cons_succ]); have tk1 := hidp trivial) | (clear tk1; (refine Mm.get0 rtE H rfl (.tmp 1) rfl rfl (En.len HP.out) ?_); (try simp only [Act.put, setIfInBounds_toArray, set_cons_zero, set_cons_succ]); have tk2 := hidp trivial) | (clear tk2; (go_at_call 54; refine (cc.out _).mono ?_; rintro e _ ⟨rfl, hb⟩; replace H := hidp (H.out.call hb); clear cc; clear hb); (try simp only [Act.put, setIfInBounds_toArray, set_cons_zero, set_cons_succ]); have tk3 := hidp trivial) | (clear tk3; (refine Mm.ld0 naI H rfl (.tmp 12) 1 (.int .i64 (ne : Int)) rfl rfl HE1.out ?_); (try simp only [Act.put, setIfInBounds_toArray, set_cons_zero, set_cons_succ]); have tk4 := hidp trivial) | (clear tk4; (go_at_call 55; refine (ce.out _).mono ?_; rintro e _ ⟨rfl, hb⟩; replace H := hidp (H.out.call hb); clear hb); (try simp only [Act.put, setIfInBounds_toArray, set_cons_zero, set_cons_succ]); have tk5 := hidp trivial) | (clear tk5; (refine Mm.ld0 naI H rfl (.tmp 19) 2 (.int .i64 (ni : Int)) rfl rfl HI1.out ?_); (try simp only [Act.put, setIfInBounds_toArray, set_cons_zero, set_cons_succ]); have tk6 := hidp trivial) | (clear tk6; (go_at_call 55; refine (ci.out _).mono ?_; rintro e _ ⟨rfl, hb⟩; replace H := hidp (H.out.call hb); clear hb); (try simp only [Act.put, setIfInBounds_toArray, set_cons_zero, set_cons_succ]); have tk7 := hidp trivial))
    try clear tk7
    refine Mm.region H (.take 0 (.take 1 (.take 2 (.take 3 (.take 4 (.take 5 (.take 6 (.take 7 (.take 8 (.one 9 (.one 10 (.take 11 (.take 12 (.take 13 (.take 14 .done))))))))))))))) (by kernel_rfl) (by kernel_rfl) (by simp [Scr.depth]) (by kernel_rfl) ?_
    clear H
    intro _ H hb
    clear hb
    apply s_val
    case ho | hw => rfl
    case hv => intro w hw; go_simp; first | done | rfl
    simp only [Act.put, getElem_toArray, getElem_cons_zero, getElem_cons_succ, setIfInBounds_toArray, set_cons_zero, set_cons_succ]
    refine Mm.sld0 naS (fun w h => h) rfl rfl (.tmp 25) 0 (.string x.r) rfl rfl (En.get0 _) ?_
    simp only [Act.put, getElem_toArray, getElem_cons_zero, getElem_cons_succ, setIfInBounds_toArray, set_cons_zero, set_cons_succ]
    apply s_val
    case ho | hw => rfl
    case hv => intro w hw; go_simp; first | done | rfl
    simp only [Act.put, getElem_toArray, getElem_cons_zero, getElem_cons_succ, setIfInBounds_toArray, set_cons_zero, set_cons_succ]
    apply s_val
    case ho | hw => rfl
    case hv => intro w hw; go_simp; first | done | rfl
    simp only [Act.put, getElem_toArray, getElem_cons_zero, getElem_cons_succ, setIfInBounds_toArray, set_cons_zero, set_cons_succ]
    apply s_val
    case ho | hw => rfl
    case hv => intro w hw; go_simp; first | done | rfl
    simp only [Act.put, getElem_toArray, getElem_cons_zero, getElem_cons_succ, setIfInBounds_toArray, set_cons_zero, set_cons_succ]
    refine s_slc rfl rfl (.tmp 29) rfl b1 3 rfl ?_
    simp only [Act.put, getElem_toArray, getElem_cons_zero, getElem_cons_succ, setIfInBounds_toArray, set_cons_zero, set_cons_succ]
    refine s_cnv rfl rfl (.tmp 30) rfl _ (mkS x.p) rfl (fun W hW => conv32 W b1 x HP.out hW.at0) ?_
    simp only [Act.put, getElem_toArray, getElem_cons_zero, getElem_cons_succ, setIfInBounds_toArray, set_cons_zero, set_cons_succ]
    apply s_val
    case ho | hw => rfl
    case hv => intro w hw; go_simp; first | done | rfl
    simp only [Act.put, getElem_toArray, getElem_cons_zero, getElem_cons_succ, setIfInBounds_toArray, set_cons_zero, set_cons_succ]
    refine Mm.sld0 naS (fun w h => h) rfl rfl (.tmp 32) 35 (.string x.v) rfl rfl (En.get35 HP.out) ?_
    simp only [Act.put, getElem_toArray, getElem_cons_zero, getElem_cons_succ, setIfInBounds_toArray, set_cons_zero, set_cons_succ]
    refine o_bsS6 H (fun W h => h) rfl rfl _ _ _ _ _ _ wEntry x.r (mkS (encN ne)) (mkS (encN ni)) (mkS x.p) x.v rfl rfl rfl rfl rfl rfl rfl ?_
    clear H
    intro b9 _ H nw
    have hb := nw.below
    clear hb nw
    simp only [Act.put, getElem_toArray, getElem_cons_zero, getElem_cons_succ, setIfInBounds_toArray, set_cons_zero, set_cons_succ]
    have hsl := (Sl.own_arr (B := 0) (row := strV [wEntry, x.r, mkS (encN ne), mkS (encN ni), mkS x.p, x.v]) H.out.at0 (Nat.zero_le _) (by simp [strV])).strs
    refine Mm.o_callH (v := .tuple #[.string T, .int .i64 0]) H (fun W h => h.tail) rfl rfl 56 (#[.slice (some ⟨b9, 0, none⟩) 6 6]) (by go_simp; first | done | rfl) (cl.out _ _ hsl) ?_
    clear H
    intro _ H hb
    clear hsl cl
    clear hb
    simp only [Act.put, getElem_toArray, getElem_cons_zero, getElem_cons_succ, setIfInBounds_toArray, set_cons_zero, set_cons_succ]
    apply s_val
    case ho | hw => rfl
    case hv => intro w hw; go_simp; first | done | rfl
    simp only [Act.put, getElem_toArray, getElem_cons_zero, getElem_cons_succ, setIfInBounds_toArray, set_cons_zero, set_cons_succ]
    apply s_val
    case ho | hw => rfl
    case hv => intro w hw; go_simp; first | done | rfl
    simp only [Act.put, getElem_toArray, getElem_cons_zero, getElem_cons_succ, setIfInBounds_toArray, set_cons_zero, set_cons_succ]
    apply s_val
    case ho | hw => rfl
    case hv => intro w hw; go_simp; first | done | rfl
    simp only [Act.put, getElem_toArray, getElem_cons_zero, getElem_cons_succ, setIfInBounds_toArray, set_cons_zero, set_cons_succ]
    apply s_val
    case ho | hw => rfl
    case hv => intro w hw; go_simp; first | done | rfl
    simp only [Act.put, getElem_toArray, getElem_cons_zero, getElem_cons_succ, setIfInBounds_toArray, set_cons_zero, set_cons_succ]
    refine NoPanic.normal ?_
    go_wp2
    go_ret2
    exact ⟨rfl, H.out.below⟩

def esmV (x : En) : List UInt8 := if eOk x = true then shaL (eT x).data.toList else z32

set_option maxHeartbeats 8000000 in
theorem esum_any (w : World) (x : En) (hx : x.ok) (hI : IT w) (hK : KT w) : Calls Tryz.prog 17 #[.agg x.row.toArray] w fun e w' => e = .returned (.tuple #[.agg (u8s (esmV x)).toArray, .int .i64 (eE x)]) ∧ Below w.heap.size w w' := by
  have H := hidp (Mm.M.nil w)
  have HP := hidp hx.p
  have hts := eT_size x hx.p
  have hkp := hK.pos
  have ct := hidp (fun W (h : IT W) => etext_any W x hx h)
  have cs := hidp (fun W (h : KT W) => sum_any W (eT x) (by omega) h)
  have HI := hidp hI; have HK := hidp hK; clear hI hK hx
  cases hok : eOk x with
  | false =>
    have HV := hidp (show esmV x = z32 from by unfold esmV; rw [hok]; rfl)
    rw [eE_no hok] at ct ⊢
    obtain ⟨T, hT⟩ : ∃ T, eT x = T := ⟨_, rfl⟩
    rw [hT] at ct
    clear hok hT hts cs
    go_enter Tryz.func17, Tryz.ntmps17
    have tk0 := hidp trivial
    go_wp2_with (first | (clear tk0; (refine Mm.box 27 H rfl (.tmp 0) rfl x.row rfl ?_; clear H; intro b1 _ H nw; have hb := nw.below; clear hb nw); (try simp only [Act.put, setIfInBounds_toArray, set_cons_zero, set_cons_succ]); have tk1 := hidp trivial) | (clear tk1; (refine Mm.new rtH H (some 2) rfl rfl rfl ?_; clear H; intro b2 _ H nw; have hb := nw.below; clear hb nw); (try simp only [Act.put, setIfInBounds_toArray, set_cons_zero, set_cons_succ]); have tk2 := hidp trivial) | (clear tk2; (refine Mm.get1 rtE H rfl (.tmp 1) rfl rfl (En.len HP.out) ?_); (try simp only [Act.put, setIfInBounds_toArray, set_cons_zero, set_cons_succ]); have tk3 := hidp trivial) | (clear tk3; (go_at_call 37; refine (ct.out _ (HI.out.below H.out.below (Nat.le_refl _))).mono ?_; rintro e _ ⟨rfl, hb⟩; replace H := hidp (H.out.call hb); clear ct; clear hb); (try simp only [Act.put, setIfInBounds_toArray, set_cons_zero, set_cons_succ]); have tk4 := hidp trivial) | (clear tk4; (refine Rt.wpL_build rfl 25 _ rfl (u8s z32) (by kernel_rfl) ?_); (try simp only [Act.put, setIfInBounds_toArray, set_cons_zero, set_cons_succ]); have tk5 := hidp trivial) | (clear tk5; (refine Mm.put0 rtH H rfl (.tmp 2) (.tmp 13) (u8s z32) rfl rfl rfl rfl (u8_one z32) rfl ?_; intro _ H2 st; clear st H; have H := H2; clear H2); (try simp only [Act.put, setIfInBounds_toArray, set_cons_zero, set_cons_succ]); have tk6 := hidp trivial))
    try clear tk6
    refine bodyPost_ret (Mm.ret_rowv rtH Tryz.results17 _ b2 _ _ rfl rfl H.out.at0 rfl) rfl ⟨by rw [HV.out]; first | done | rfl, H.out.below⟩
  | true =>
    have hv : esmV x = shaL (eT x).data.toList := by unfold esmV; rw [hok]; rfl
    rw [eE_yes hok] at ct ⊢
    obtain ⟨T, hT⟩ : ∃ T, eT x = T := ⟨_, rfl⟩
    rw [hT] at ct cs hv
    have HV := hidp hv
    have HL := hidp (show (u8s (shaL T.data.toList)).length = 32 from by rw [u8s_length]; exact shaL_len _)
    clear hok hT hts hv
    go_enter Tryz.func17, Tryz.ntmps17
    have tk0 := hidp trivial
    go_wp2_with (first | (clear tk0; (refine Mm.box 27 H rfl (.tmp 0) rfl x.row rfl ?_; clear H; intro b1 _ H nw; have hb := nw.below; clear hb nw); (try simp only [Act.put, setIfInBounds_toArray, set_cons_zero, set_cons_succ]); have tk1 := hidp trivial) | (clear tk1; (refine Mm.new rtH H (some 2) rfl rfl rfl ?_; clear H; intro b2 _ H nw; have hb := nw.below; clear hb nw); (try simp only [Act.put, setIfInBounds_toArray, set_cons_zero, set_cons_succ]); have tk2 := hidp trivial) | (clear tk2; (refine Mm.get1 rtE H rfl (.tmp 1) rfl rfl (En.len HP.out) ?_); (try simp only [Act.put, setIfInBounds_toArray, set_cons_zero, set_cons_succ]); have tk3 := hidp trivial) | (clear tk3; (go_at_call 37; refine (ct.out _ (HI.out.below H.out.below (Nat.le_refl _))).mono ?_; rintro e _ ⟨rfl, hb⟩; replace H := hidp (H.out.call hb); clear ct; clear hb); (try simp only [Act.put, setIfInBounds_toArray, set_cons_zero, set_cons_succ]); have tk4 := hidp trivial) | (clear tk4; (go_at_call 53; refine (cs.out _ (HK.out.below H.out.below hkp)).mono ?_; rintro e _ ⟨rfl, hb⟩; replace H := hidp (H.out.call hb); clear cs; clear hb); (try simp only [Act.put, setIfInBounds_toArray, set_cons_zero, set_cons_succ]); have tk5 := hidp trivial) | (clear tk5; (refine Mm.put0 rtH H rfl (.tmp 2) (.tmp 16) (u8s (shaL T.data.toList)) rfl rfl rfl HL.out (u8_one _) rfl ?_; intro _ H2 st; clear st H; have H := H2; clear H2); (try simp only [Act.put, setIfInBounds_toArray, set_cons_zero, set_cons_succ]); have tk6 := hidp trivial))
    try clear tk6
    refine bodyPost_ret (Mm.ret_rowv rtH Tryz.results17 _ b2 _ _ rfl rfl H.out.at0 HL.out) rfl ⟨by rw [HV.out]; first | done | rfl, H.out.below⟩

set_option maxHeartbeats 8000000 in
theorem rsum19_any (w : World) (x : En) (hx : x.ok) : Calls Tryz.prog 71 #[.agg x.row.toArray] w fun e w' => e = .returned (.tuple #[.agg (u8s (esmV x)).toArray, .int .i64 (eE x)]) ∧ Below w.heap.size w w' := by
  have H := hidp (Mm.M.nil w)
  have HP := hidp hx.p
  have hts := eT_size x hx.p
  have ct := hidp (fun W => rtext_any W x hx)
  have cs := hidp (fun W => rsum_any W (eT x) (by omega))
  clear hx
  cases hok : eOk x with
  | false =>
    have HV := hidp (show esmV x = z32 from by unfold esmV; rw [hok]; rfl)
    rw [eE_no hok] at ct ⊢
    obtain ⟨T, hT⟩ : ∃ T, eT x = T := ⟨_, rfl⟩
    rw [hT] at ct
    clear hok hT hts cs
    go_enter Tryz.func71, Tryz.ntmps71
    have tk0 := hidp trivial
    go_wp2_with (first | (clear tk0; (refine Mm.box 27 H rfl (.tmp 0) rfl x.row rfl ?_; clear H; intro b1 _ H nw; have hb := nw.below; clear hb nw); (try simp only [Act.put, setIfInBounds_toArray, set_cons_zero, set_cons_succ]); have tk1 := hidp trivial) | (clear tk1; (refine Mm.new rtH H (some 2) rfl rfl rfl ?_; clear H; intro b2 _ H nw; have hb := nw.below; clear hb nw); (try simp only [Act.put, setIfInBounds_toArray, set_cons_zero, set_cons_succ]); have tk2 := hidp trivial) | (clear tk2; (refine Mm.get1 rtE H rfl (.tmp 1) rfl rfl (En.len HP.out) ?_); (try simp only [Act.put, setIfInBounds_toArray, set_cons_zero, set_cons_succ]); have tk3 := hidp trivial) | (clear tk3; (go_at_call 18; refine (ct.out _).mono ?_; rintro e _ ⟨rfl, hb⟩; replace H := hidp (H.out.call hb); clear ct; clear hb); (try simp only [Act.put, setIfInBounds_toArray, set_cons_zero, set_cons_succ]); have tk4 := hidp trivial) | (clear tk4; (refine Rt.wpL_build rfl 25 _ rfl (u8s z32) (by kernel_rfl) ?_); (try simp only [Act.put, setIfInBounds_toArray, set_cons_zero, set_cons_succ]); have tk5 := hidp trivial) | (clear tk5; (refine Mm.put0 rtH H rfl (.tmp 2) (.tmp 13) (u8s z32) rfl rfl rfl rfl (u8_one z32) rfl ?_; intro _ H2 st; clear st H; have H := H2; clear H2); (try simp only [Act.put, setIfInBounds_toArray, set_cons_zero, set_cons_succ]); have tk6 := hidp trivial))
    try clear tk6
    refine bodyPost_ret (Mm.ret_rowv rtH Tryz.results71 _ b2 _ _ rfl rfl H.out.at0 rfl) rfl ⟨by rw [HV.out]; first | done | rfl, H.out.below⟩
  | true =>
    have hv : esmV x = shaL (eT x).data.toList := by unfold esmV; rw [hok]; rfl
    rw [eE_yes hok] at ct ⊢
    obtain ⟨T, hT⟩ : ∃ T, eT x = T := ⟨_, rfl⟩
    rw [hT] at ct cs hv
    have HV := hidp hv
    have HL := hidp (show (u8s (shaL T.data.toList)).length = 32 from by rw [u8s_length]; exact shaL_len _)
    clear hok hT hts hv
    go_enter Tryz.func71, Tryz.ntmps71
    have tk0 := hidp trivial
    go_wp2_with (first | (clear tk0; (refine Mm.box 27 H rfl (.tmp 0) rfl x.row rfl ?_; clear H; intro b1 _ H nw; have hb := nw.below; clear hb nw); (try simp only [Act.put, setIfInBounds_toArray, set_cons_zero, set_cons_succ]); have tk1 := hidp trivial) | (clear tk1; (refine Mm.new rtH H (some 2) rfl rfl rfl ?_; clear H; intro b2 _ H nw; have hb := nw.below; clear hb nw); (try simp only [Act.put, setIfInBounds_toArray, set_cons_zero, set_cons_succ]); have tk2 := hidp trivial) | (clear tk2; (refine Mm.get1 rtE H rfl (.tmp 1) rfl rfl (En.len HP.out) ?_); (try simp only [Act.put, setIfInBounds_toArray, set_cons_zero, set_cons_succ]); have tk3 := hidp trivial) | (clear tk3; (go_at_call 18; refine (ct.out _).mono ?_; rintro e _ ⟨rfl, hb⟩; replace H := hidp (H.out.call hb); clear ct; clear hb); (try simp only [Act.put, setIfInBounds_toArray, set_cons_zero, set_cons_succ]); have tk4 := hidp trivial) | (clear tk4; (go_at_call 19; refine (cs.out _).mono ?_; rintro e _ ⟨rfl, hb⟩; replace H := hidp (H.out.call hb); clear cs; clear hb); (try simp only [Act.put, setIfInBounds_toArray, set_cons_zero, set_cons_succ]); have tk5 := hidp trivial) | (clear tk5; (refine Mm.put0 rtH H rfl (.tmp 2) (.tmp 16) (u8s (shaL T.data.toList)) rfl rfl rfl HL.out (u8_one _) rfl ?_; intro _ H2 st; clear st H; have H := H2; clear H2); (try simp only [Act.put, setIfInBounds_toArray, set_cons_zero, set_cons_succ]); have tk6 := hidp trivial))
    try clear tk6
    refine bodyPost_ret (Mm.ret_rowv rtH Tryz.results71 _ b2 _ _ rfl rfl H.out.at0 HL.out) rfl ⟨by rw [HV.out]; first | done | rfl, H.out.below⟩

def smN (s : ByteArray) : Nat := (gn s.data.toList).1
def smB (s : ByteArray) : Bool := decide (inE s 4096 = 0)
theorem En.cp {x : En} (hp : x.p.length = 32) (t : ByteArray) (ht : t.size = 32) : (x.row.take 3 ++ Lib.byteCells (t.data.toList.take 32) ++ x.row.drop (3 + 32)) = (⟨x.r, x.e, x.i, t.data.toList, x.v, x.g⟩ : En).row := by
  rw [show Lib.byteCells (t.data.toList.take 32) = u8s t.data.toList from by rw [List.take_of_length_le (by rw [size_toList]; omega)]; rfl]
  have e1 : x.row.take 3 = [.string x.r, .int .i64 x.e, .int .i64 x.i] := rfl
  have e2 : x.row.drop (3 + 32) = [.string x.v, .string x.g] := by
    rw [← List.drop_drop, En.mid, List.drop_left' (by rw [u8s_length]; exact hp)]
  rw [e1, e2]; rfl
def x1 (b c d e f : ByteArray) : En := ⟨b, smN c, smN d, e.data.toList, f, ⟨#[]⟩⟩
theorem smN_in {s : ByteArray} (h : inE s 4096 = 0) : inV s 4096 = smN s := by
  obtain ⟨⟨n, j, c⟩, hr⟩ : ∃ r, gn s.data.toList = r := ⟨_, rfl⟩
  rw [(y_gn hr).2 h]; unfold smN; rw [hr]
end Go.Proofs.YtbgooppmhgaicaaGreatDoor.En
