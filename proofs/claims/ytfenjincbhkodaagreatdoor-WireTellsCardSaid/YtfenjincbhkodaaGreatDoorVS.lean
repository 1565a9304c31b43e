/-
  Joined: HoR HoQ HoS.
-/
import Derived.Test.YtfenjincbhkodaaGreatDoorVH
import Derived.Test.YtfenjincbhkodaaGreatDoorVI
import Derived.Test.YtfenjincbhkodaaGreatDoorVA
import Derived.Test.YtfenjincbhkodaaGreatDoorVE
namespace Go.Proofs.YtfenjincbhkodaaGreatDoor.Ho
set_option maxRecDepth 100000
set_option linter.unusedVariables false
set_option linter.unusedSimpArgs false
open Go.RowKit
open List (getElem_toArray getElem_cons_zero getElem_cons_succ setIfInBounds_toArray set_cons_zero set_cons_succ)

section
variable {P : Program} {ops : Array Oper} {rest : List Oper} {o : Oper} {a : Act} {w : World} {Q : Exit → Act → World → Prop}
theorem run_idxU {ST T : Nat} (hu : P.underlying ST = some (.slice T)) (hs : (P.info? T).map (·.size) = some 1) (B off n c i : Nat) (hi : i < n) (w : World) : (Instr.indexAt ST (.slice (some ⟨B, off, none⟩) n c) (.int .u8 (i : Int))).run P w = .ok (.pointer (some ⟨B, off + i, none⟩)) w := by
  obtain ⟨i0, hi0, hz⟩ := Option.map_eq_some_iff.1 hs
  have e : (⟨B, off, none⟩ : Addr).add i = ⟨B, off + i, none⟩ := by unfold Addr.add; split <;> simp_all
  have h1 : (0 : Int) ≤ (i : Int) ∧ (i : Int) < ((n : Nat) : Int) := by omega
  simp [Instr.indexAt, run_underlying hu, sizeOf, typeInfo, hi0, hz, asIntOf, hi, e, go_sem]
theorem wpL_idxU {ST T : Nat} (hu : P.underlying ST = some (.slice T)) (hs : (P.info? T).map (·.size) = some 1) (hw : Region.wanted o (yielded ops a.tmps) = true) (x y : Operand) (ho : o.op = .indexAddr ST x y) (B off n c i : Nat) (hx : a.eval x = .slice (some ⟨B, off, none⟩) n c) (hy : a.eval y = .int .u8 (i : Int)) (hi : i < n)
    (h : wpList P ops Q rest (a.put o.dst (.pointer (some ⟨B, off + i, none⟩))) w) : wpList P ops Q (o :: rest) a w := by
  refine wpList_step fun K hK => ?_
  rw [if_pos hw]
  have := hK _ _ h
  unfold Oper.wp execOp
  simp only [ho, hx, hy, run_idxU hu hs B off n c i hi w, Sem.run_bind, Result.andThen_ok]
  exact this
end
theorem dwd_out {k : Nat} (h : ¬ k < 3) : dwd k = ⟨#[]⟩ := by
  unfold dwd hWords; rw [List.getD_eq_getElem?_getD, List.getElem?_eq_none (by simp; omega)]; rfl
theorem dwd_empty {k : Nat} : (dwd k).toList = [] ↔ ¬ (1 ≤ k ∧ k ≤ 2) := by
  by_cases h : k < 3
  · rcases (by omega : k = 0 ∨ k = 1 ∨ k = 2) with rfl | rfl | rfl <;> decide +kernel
  · rw [dwd_out h]
    constructor
    · intro _; omega
    · intro _; decide +kernel

set_option maxHeartbeats 8000000 in
theorem rword_any (w : World) (k : Nat) (hk : k < 256) : Calls Tryz.prog 83 #[.int .u8 (k : Int)] w fun e w' => e = .returned (.string (dwd k)) ∧ Below w.heap.size w w' := by
  have H := hidp (Mm.M.nil w)
  have w1 : IntKind.i64.wrap (k : Int) = (k : Int) := by unfold IntKind.wrap; simp [IntKind.bits, IntKind.signed]; omega
  by_cases hk3 : k < 3
  · have e1 : decide ((k : Int) ≥ 3) = false := by simp; omega
    have g1 : ¬ (3 : Int) ≤ (k : Int) := by omega
    have HC := hidp (show ∀ h : k < [Value.string ⟨#[]⟩, Value.string ⟨#[111, 102, 102, 101, 114]⟩, Value.string ⟨#[97, 99, 99, 101, 112, 116]⟩].length, [Value.string ⟨#[]⟩, Value.string ⟨#[111, 102, 102, 101, 114]⟩, Value.string ⟨#[97, 99, 99, 101, 112, 116]⟩][k]'h = .string (dwd k) from by
      intro h
      rcases (by omega : k = 0 ∨ k = 1 ∨ k = 2) with rfl | rfl | rfl <;> rfl)
    go_enter Tryz.func83, Tryz.ntmps83
    have tk0 := hidp trivial
    go_wp2_with (first | (clear tk0; (refine Sl.wpL_bsS3 H rfl _ _ _ ⟨#[]⟩ ⟨#[111, 102, 102, 101, 114]⟩ ⟨#[97, 99, 99, 101, 112, 116]⟩ rfl rfl rfl rfl ?_; clear H; intro b4 _ H nw; clear nw); (try simp only [Act.put, setIfInBounds_toArray, set_cons_zero, set_cons_succ]); have tk1 := hidp trivial) | (clear tk1; (refine wpL_idxU Sl.tyS (by kernel_rfl) rfl (.tmp 10) (.tmp 11) rfl b4 0 3 3 k rfl rfl hk3 ?_); (try simp only [Act.put, setIfInBounds_toArray, set_cons_zero, set_cons_succ]); have tk2 := hidp trivial) | (clear tk2; (refine Mm.ldc naS rfl (.tmp 12) _ (.string (dwd k)) rfl rfl (by rw [Nat.zero_add]; exact (H.out.at0.cell k (by simp; omega)).trans (by rw [HC.out])) ?_); (try simp only [Act.put, setIfInBounds_toArray, set_cons_zero, set_cons_succ]); have tk3 := hidp trivial))
    try clear tk3
    go_ret
    exact ⟨rfl, H.out.below⟩
  · have e1 : decide ((k : Int) ≥ 3) = true := by simp; omega
    have g1 : (3 : Int) ≤ (k : Int) := by omega
    rw [dwd_out hk3]
    go_enter Tryz.func83, Tryz.ntmps83
    have tk0 := hidp trivial
    go_wp2_with (first | (clear tk0; (refine Sl.wpL_bsS3 H rfl _ _ _ ⟨#[]⟩ ⟨#[111, 102, 102, 101, 114]⟩ ⟨#[97, 99, 99, 101, 112, 116]⟩ rfl rfl rfl rfl ?_; clear H; intro b4 _ H nw; clear nw); (try simp only [Act.put, setIfInBounds_toArray, set_cons_zero, set_cons_succ]); have tk1 := hidp trivial))
    try clear tk1
    go_ret
    exact ⟨rfl, H.out.below⟩

def ok2 (a b m : Int) (i : Nat) : Bool := decide (0 ≤ [a, b].getD i 0 ∧ [a, b].getD i 0 ≤ m)
theorem prm_two {a b c d : Int} (h : ∀ j, j < 2 → ok2 a b 4096 j = true) (g : ∀ j, j < 2 → ok2 c d 63 j = true) : prm a b c d = true := by
  have h0 := of_decide_eq_true (h 0 (by omega)); have h1 := of_decide_eq_true (h 1 (by omega)); have h2 := of_decide_eq_true (g 0 (by omega)); have h3 := of_decide_eq_true (g 1 (by omega))
  exact decide_eq_true ⟨h0, h1, h2, h3⟩
theorem prm_n1 {a b c d : Int} {i : Nat} (hi : i < 2) (h : ok2 a b 4096 i = false) : prm a b c d = false := by
  unfold prm; rw [decide_eq_false_iff_not]
  intro g
  have h' := of_decide_eq_false h
  rcases (by omega : i = 0 ∨ i = 1) with rfl | rfl
  · exact h' g.1
  · exact h' g.2.1
theorem prm_n2 {a b c d : Int} {i : Nat} (hi : i < 2) (h : ok2 c d 63 i = false) : prm a b c d = false := by
  unfold prm; rw [decide_eq_false_iff_not]
  intro g
  have h' := of_decide_eq_false h
  rcases (by omega : i = 0 ∨ i = 1) with rfl | rfl
  · exact h' g.2.2.1
  · exact h' g.2.2.2
set_option maxHeartbeats 16000000 in
theorem rdcheck_any (w : World) (d : De) (hd : d.ok) :
    Calls Tryz.prog 84 #[.agg d.row.toArray] w fun e w' => e = .returned (.int .i64 (dE d)) ∧ Below w.heap.size w w' := by
  obtain ⟨k, r, ep, ix, hu, nx, sg⟩ := d
  obtain ⟨hk, hr, hs⟩ : k < 256 ∧ r.size ≤ 140737488351232 ∧ sg.size ≤ 140737488351232 := hd
  show Calls Tryz.prog 84 #[.agg #[.int .u8 (k : Int), .string r, .int .i64 ep, .int .i64 ix, .int .i64 hu, .int .i64 nx, .string sg]] w _
  have cr := hidp (fun W => rroom_any W r (by omega))
  have ck := hidp (fun W => rword_any W k hk)
  obtain ⟨E, hE⟩ : ∃ E, dE (⟨k, r, ep, ix, hu, nx, sg⟩ : De) = E := ⟨_, rfl⟩
  rw [hE]
  have hok : dOk (⟨k, r, ep, ix, hu, nx, sg⟩ : De) = (kB k && (who 2 r).isSome && prm ep ix hu nx && decide (hu ≠ nx) && decide (sg.size ≤ 8192)) := rfl
  have HNO0 : Hid (dOk (⟨k, r, ep, ix, hu, nx, sg⟩ : De) = false → E = 2) := hidp (fun h => by rw [← hE, dE_no h])
  have HYE0 : Hid (dOk (⟨k, r, ep, ix, hu, nx, sg⟩ : De) = true → E = 0) := hidp (fun h => by rw [← hE, dE_yes h])
  clear hE
  have H := hidp (Mm.M.nil w)
  obtain ⟨X, hX⟩ : ∃ X, dwd k = X := ⟨_, rfl⟩
  have hXe : X.toList = [] ↔ ¬ (1 ≤ k ∧ k ≤ 2) := by rw [← hX]; exact dwd_empty
  rw [hX] at ck
  clear hX
  by_cases hkb : 1 ≤ k ∧ k ≤ 2
  · have n1 : ¬ X.toList = [] := fun g => hXe.1 g hkb
    have e1 : (X.toList == []) = false := by rw [beq_eq_false_iff_ne]; exact n1
    have e2 : X.toList.isEmpty = false := by cases h : X.toList with | nil => exact absurd h n1 | cons a l => rfl
    have e3 : (X.toList == (⟨#[]⟩ : ByteArray).toList) = false := by rw [show (⟨#[]⟩ : ByteArray).toList = [] from by decide +kernel]; exact e1
    clear hXe
    cases hR : who 2 r with
    | none =>
      rw [hR] at cr
      have HF := hidp (HNO0.out (by rw [hok, hR]; simp))
      clear hok hkb hR
      unfold whoV at cr
      go_enter Tryz.func84, Tryz.ntmps84
      have tk0 := hidp trivial
      go_wp2_with (first | (clear tk0; (refine Mm.box 91 H rfl (.tmp 0) rfl [.int .u8 (k : Int), .string r, .int .i64 ep, .int .i64 ix, .int .i64 hu, .int .i64 nx, .string sg] rfl ?_; clear H; intro b1 _ H nw; have hb := nw.below; clear hb nw); (try simp only [Act.put, setIfInBounds_toArray, set_cons_zero, set_cons_succ]); have tk1 := hidp trivial) | (clear tk1; (refine Mm.ld0 naS H rfl (.tmp 10) 1 _ rfl rfl rfl ?_); (try simp only [Act.put, setIfInBounds_toArray, set_cons_zero, set_cons_succ]); have tk2 := hidp trivial) | (clear tk2; (go_at_call 77; refine (cr.out _).mono ?_; rintro e _ ⟨rfl, hb⟩; replace H := hidp (H.out.call hb); clear cr; clear hb); (try simp only [Act.put, setIfInBounds_toArray, set_cons_zero, set_cons_succ]); have tk3 := hidp trivial) | (clear tk3; (refine Mm.ld0 naDK H rfl (.tmp 15) 0 (.int .u8 (k : Int)) rfl rfl rfl ?_); (try simp only [Act.put, setIfInBounds_toArray, set_cons_zero, set_cons_succ]); have tk4 := hidp trivial) | (clear tk4; (go_at_call 83; refine (ck.out _).mono ?_; rintro e _ ⟨rfl, hb⟩; replace H := hidp (H.out.call hb); clear ck; clear hb); (try simp only [Act.put, setIfInBounds_toArray, set_cons_zero, set_cons_succ]); have tk5 := hidp trivial))
      try clear tk5
      go_ret
      exact ⟨by rw [HF.out]; rfl, H.out.below⟩
    | some n0 =>
      rw [hR] at cr
      unfold whoV at cr
      by_cases hg : sg.size ≤ 8192
      · have d2 : decide ((sg.size : Int) > 8192) = false := by simp; omega
        have g2 : ¬ 8192 < (sg.size : Int) := by omega
        by_cases he : hu = nx
        · have d1 : (hu == nx) = true := by rw [he]; simp
          have HF := hidp (HNO0.out (by rw [hok, decide_eq_false (fun g => g he)]; simp))
          clear hok hkb hR he hg
          go_enter Tryz.func84, Tryz.ntmps84
          have tk0 := hidp trivial
          go_wp2_with (first | (clear tk0; (refine Mm.box 91 H rfl (.tmp 0) rfl [.int .u8 (k : Int), .string r, .int .i64 ep, .int .i64 ix, .int .i64 hu, .int .i64 nx, .string sg] rfl ?_; clear H; intro b1 _ H nw; have hb := nw.below; clear hb nw); (try simp only [Act.put, setIfInBounds_toArray, set_cons_zero, set_cons_succ]); have tk1 := hidp trivial) | (clear tk1; (refine Mm.ld0 naS H rfl (.tmp 10) 1 _ rfl rfl rfl ?_); (try simp only [Act.put, setIfInBounds_toArray, set_cons_zero, set_cons_succ]); have tk2 := hidp trivial) | (clear tk2; (go_at_call 77; refine (cr.out _).mono ?_; rintro e _ ⟨rfl, hb⟩; replace H := hidp (H.out.call hb); clear cr; clear hb); (try simp only [Act.put, setIfInBounds_toArray, set_cons_zero, set_cons_succ]); have tk3 := hidp trivial) | (clear tk3; (refine Mm.ld0 naDK H rfl (.tmp 15) 0 (.int .u8 (k : Int)) rfl rfl rfl ?_); (try simp only [Act.put, setIfInBounds_toArray, set_cons_zero, set_cons_succ]); have tk4 := hidp trivial) | (clear tk4; (go_at_call 83; refine (ck.out _).mono ?_; rintro e _ ⟨rfl, hb⟩; replace H := hidp (H.out.call hb); clear ck; clear hb); (try simp only [Act.put, setIfInBounds_toArray, set_cons_zero, set_cons_succ]); have tk5 := hidp trivial) | (clear tk5; (refine Mm.ld0 naS H rfl (.tmp 24) 6 _ rfl rfl rfl ?_); (try simp only [Act.put, setIfInBounds_toArray, set_cons_zero, set_cons_succ]); have tk6 := hidp trivial) | (clear tk6; (refine Mm.ld0 naI H rfl (.tmp 30) 4 _ rfl rfl rfl ?_); (try simp only [Act.put, setIfInBounds_toArray, set_cons_zero, set_cons_succ]); have tk7 := hidp trivial) | (clear tk7; (refine Mm.ld0 naI H rfl (.tmp 32) 5 _ rfl rfl rfl ?_); (try simp only [Act.put, setIfInBounds_toArray, set_cons_zero, set_cons_succ]); have tk8 := hidp trivial))
          try clear tk8
          go_ret
          exact ⟨by rw [HF.out]; rfl, H.out.below⟩
        · have d1 : (hu == nx) = false := by rw [beq_eq_false_iff_ne]; exact he
          have HNO := hidp (show prm ep ix hu nx = false → E = 2 from fun g => HNO0.out (by rw [hok, g]; simp))
          have HN1 := hidp (fun (i : Nat) (hi : i < 2) h => prm_n1 (a := ep) (b := ix) (c := hu) (d := nx) hi h)
          have HN2 := hidp (fun (i : Nat) (hi : i < 2) h => prm_n2 (a := ep) (b := ix) (c := hu) (d := nx) hi h)
          have HYES := hidp (fun h1 h2 => HYE0.out (by rw [hok, show kB k = true from decide_eq_true hkb, hR, prm_two (a := ep) (b := ix) (c := hu) (d := nx) h1 h2, decide_eq_true he, decide_eq_true hg]; rfl))
          clear hok hkb hR he hg HNO0 HYE0
          go_enter Tryz.func84, Tryz.ntmps84
          have tk0 := hidp trivial
          go_wp2_with (first | (clear tk0; (refine Mm.box 91 H rfl (.tmp 0) rfl [.int .u8 (k : Int), .string r, .int .i64 ep, .int .i64 ix, .int .i64 hu, .int .i64 nx, .string sg] rfl ?_; clear H; intro b1 _ H nw; have hb := nw.below; clear hb nw); (try simp only [Act.put, setIfInBounds_toArray, set_cons_zero, set_cons_succ]); have tk1 := hidp trivial) | (clear tk1; (refine Mm.ld0 naS H rfl (.tmp 10) 1 _ rfl rfl rfl ?_); (try simp only [Act.put, setIfInBounds_toArray, set_cons_zero, set_cons_succ]); have tk2 := hidp trivial) | (clear tk2; (go_at_call 77; refine (cr.out _).mono ?_; rintro e _ ⟨rfl, hb⟩; replace H := hidp (H.out.call hb); clear cr; clear hb); (try simp only [Act.put, setIfInBounds_toArray, set_cons_zero, set_cons_succ]); have tk3 := hidp trivial) | (clear tk3; (refine Mm.ld0 naDK H rfl (.tmp 15) 0 (.int .u8 (k : Int)) rfl rfl rfl ?_); (try simp only [Act.put, setIfInBounds_toArray, set_cons_zero, set_cons_succ]); have tk4 := hidp trivial) | (clear tk4; (go_at_call 83; refine (ck.out _).mono ?_; rintro e _ ⟨rfl, hb⟩; replace H := hidp (H.out.call hb); clear ck; clear hb); (try simp only [Act.put, setIfInBounds_toArray, set_cons_zero, set_cons_succ]); have tk5 := hidp trivial) | (clear tk5; (refine Mm.ld0 naS H rfl (.tmp 24) 6 _ rfl rfl rfl ?_); (try simp only [Act.put, setIfInBounds_toArray, set_cons_zero, set_cons_succ]); have tk6 := hidp trivial) | (clear tk6; (refine Mm.ld0 naI H rfl (.tmp 30) 4 _ rfl rfl rfl ?_); (try simp only [Act.put, setIfInBounds_toArray, set_cons_zero, set_cons_succ]); have tk7 := hidp trivial) | (clear tk7; (refine Mm.ld0 naI H rfl (.tmp 32) 5 _ rfl rfl rfl ?_); (try simp only [Act.put, setIfInBounds_toArray, set_cons_zero, set_cons_succ]); have tk8 := hidp trivial) | (clear tk8; (refine Mm.ld0 naI H rfl (.tmp 36) 2 _ rfl rfl rfl ?_); (try simp only [Act.put, setIfInBounds_toArray, set_cons_zero, set_cons_succ]); have tk9 := hidp trivial) | (clear tk9; (refine Mm.ld0 naI H rfl (.tmp 38) 3 _ rfl rfl rfl ?_); (try simp only [Act.put, setIfInBounds_toArray, set_cons_zero, set_cons_succ]); have tk10 := hidp trivial) | (clear tk10; (refine Sl.wpL_bsI2 H rfl (.tmp 37) (.tmp 39) ep ix rfl rfl rfl ?_; clear H; intro b4 _ H nw; clear nw); (try simp only [Act.put, setIfInBounds_toArray, set_cons_zero, set_cons_succ]); have tk11 := hidp trivial))
          try clear tk11
          go_loopw [42] (fun t42 wr => ∃ i : Nat, t42 = .int .i64 (i : Int) ∧ i ≤ 2 ∧ (∀ j, j < i → ok2 ep ix 4096 j = true) ∧ Mm.M w.heap.size w wr ([⟨b4, 3, [.int .i64 ep, .int .i64 ix]⟩, ⟨b1, 91, [.int .u8 (k : Int), .string r, .int .i64 ep, .int .i64 ix, .int .i64 hu, .int .i64 nx, .string sg]⟩])) (fun t42 _ => 2 - (intOf t42).toNat)
          case atStart => exact ⟨0, rfl, by omega, fun j h => by omega, H.out⟩
          case round =>
            clear H
            obtain ⟨i, rfl, hi, hal, hM⟩ := hrel
            have HAL := hidp hal; have H := hidp hM
            clear hal hM
            by_cases hlt : i < 2
            · have e5 : decide ((i : Int) < 2) = true := by simp; omega
              obtain ⟨x, hx⟩ : ∃ x, [ep, ix].getD i 0 = x := ⟨_, rfl⟩
              have HX := hidp (show ∀ h : i < [Value.int .i64 ep, Value.int .i64 ix].length, [Value.int .i64 ep, Value.int .i64 ix][i]'h = .int .i64 x from by
                intro h; rw [← hx]
                rcases (by omega : i = 0 ∨ i = 1) with rfl | rfl <;> rfl)
              have hok : ok2 ep ix 4096 i = decide (0 ≤ x ∧ x ≤ 4096) := by unfold ok2; rw [hx]
              clear hx
              by_cases h0 : x < 0
              · have e6 : decide (x < 0) = true := decide_eq_true h0
                have HF := hidp (HNO.out (HN1.out i hlt (hok.trans (decide_eq_false fun g => by omega))))
                clear hok h0
                have tk0 := hidp trivial
                go_wp2_with (first | (clear tk0; (refine Sl.wpL_idx1 Sl.tyI (by kernel_rfl) rfl (.tmp 40) (.tmp 42) rfl b4 0 2 2 i rfl rfl hlt ?_); (try simp only [Act.put, setIfInBounds_toArray, set_cons_zero, set_cons_succ]); have tk1 := hidp trivial) | (clear tk1; (refine Mm.ldc naI rfl (.tmp 44) _ (.int .i64 x) rfl rfl (by rw [Nat.zero_add]; exact (H.out.at0.cell i (by simp; omega)).trans (by rw [HX.out])) ?_); (try simp only [Act.put, setIfInBounds_toArray, set_cons_zero, set_cons_succ]); have tk2 := hidp trivial))
                try clear tk2
                go_ret
                exact ⟨by rw [HF.out]; rfl, H.out.below⟩
              · have e6 : decide (x < 0) = false := decide_eq_false h0
                by_cases h1 : x > 4096
                · have e7 : decide (x > 4096) = true := decide_eq_true h1
                  have HF := hidp (HNO.out (HN1.out i hlt (hok.trans (decide_eq_false fun g => by omega))))
                  clear hok h0 h1
                  have tk0 := hidp trivial
                  go_wp2_with (first | (clear tk0; (refine Sl.wpL_idx1 Sl.tyI (by kernel_rfl) rfl (.tmp 40) (.tmp 42) rfl b4 0 2 2 i rfl rfl hlt ?_); (try simp only [Act.put, setIfInBounds_toArray, set_cons_zero, set_cons_succ]); have tk1 := hidp trivial) | (clear tk1; (refine Mm.ldc naI rfl (.tmp 44) _ (.int .i64 x) rfl rfl (by rw [Nat.zero_add]; exact (H.out.at0.cell i (by simp; omega)).trans (by rw [HX.out])) ?_); (try simp only [Act.put, setIfInBounds_toArray, set_cons_zero, set_cons_succ]); have tk2 := hidp trivial))
                  try clear tk2
                  go_ret
                  exact ⟨by rw [HF.out]; rfl, H.out.below⟩
                · have e7 : decide (x > 4096) = false := decide_eq_false h1
                  have HO := hidp (hok.trans (decide_eq_true ⟨by omega, by omega⟩))
                  clear hok h0 h1
                  have tk0 := hidp trivial
                  go_wp2_with (first | (clear tk0; (refine Sl.wpL_idx1 Sl.tyI (by kernel_rfl) rfl (.tmp 40) (.tmp 42) rfl b4 0 2 2 i rfl rfl hlt ?_); (try simp only [Act.put, setIfInBounds_toArray, set_cons_zero, set_cons_succ]); have tk1 := hidp trivial) | (clear tk1; (refine Mm.ldc naI rfl (.tmp 44) _ (.int .i64 x) rfl rfl (by rw [Nat.zero_add]; exact (H.out.at0.cell i (by simp; omega)).trans (by rw [HX.out])) ?_); (try simp only [Act.put, setIfInBounds_toArray, set_cons_zero, set_cons_succ]); have tk2 := hidp trivial))
                  try clear tk2
                  exact ⟨⟨i + 1, by go_num, by omega, fun j g => (by
                    by_cases hj : j = i
                    · subst hj; exact HO.out
                    · exact HAL.out j (by omega)), H.out⟩, by simp [intOf]; omega⟩
            · have e5 : decide ((i : Int) < 2) = false := by simp; omega
              have HA42 := hidp (show ∀ j, j < 2 → ok2 ep ix 4096 j = true from fun j g => HAL.out j (by omega))
              clear HAL
              have tk0 := hidp trivial
              go_wp2_with (first | (clear tk0; (refine Mm.ld1 naI H rfl (.tmp 53) 4 _ rfl rfl rfl ?_); (try simp only [Act.put, setIfInBounds_toArray, set_cons_zero, set_cons_succ]); have tk1 := hidp trivial) | (clear tk1; (refine Mm.ld1 naI H rfl (.tmp 55) 5 _ rfl rfl rfl ?_); (try simp only [Act.put, setIfInBounds_toArray, set_cons_zero, set_cons_succ]); have tk2 := hidp trivial) | (clear tk2; (refine Sl.wpL_bsI2 H rfl (.tmp 54) (.tmp 56) hu nx rfl rfl rfl ?_; clear H; intro b5 _ H nw; clear nw); (try simp only [Act.put, setIfInBounds_toArray, set_cons_zero, set_cons_succ]); have tk3 := hidp trivial))
              try clear tk3
              go_loopw [59] (fun t59 wr => ∃ i : Nat, t59 = .int .i64 (i : Int) ∧ i ≤ 2 ∧ (∀ j, j < i → ok2 hu nx 63 j = true) ∧ Mm.M w.heap.size w wr ([⟨b5, 3, [.int .i64 hu, .int .i64 nx]⟩, ⟨b4, 3, [.int .i64 ep, .int .i64 ix]⟩, ⟨b1, 91, [.int .u8 (k : Int), .string r, .int .i64 ep, .int .i64 ix, .int .i64 hu, .int .i64 nx, .string sg]⟩])) (fun t59 _ => 2 - (intOf t59).toNat)
              case atStart => exact ⟨0, rfl, by omega, fun j h => by omega, H.out⟩
              case round =>
                clear H
                obtain ⟨i, rfl, hi, hal, hM⟩ := hrel
                have HAL := hidp hal; have H := hidp hM
                clear hal hM
                by_cases hlt : i < 2
                · have e5 : decide ((i : Int) < 2) = true := by simp; omega
                  obtain ⟨x, hx⟩ : ∃ x, [hu, nx].getD i 0 = x := ⟨_, rfl⟩
                  have HX := hidp (show ∀ h : i < [Value.int .i64 hu, Value.int .i64 nx].length, [Value.int .i64 hu, Value.int .i64 nx][i]'h = .int .i64 x from by
                    intro h; rw [← hx]
                    rcases (by omega : i = 0 ∨ i = 1) with rfl | rfl <;> rfl)
                  have hok : ok2 hu nx 63 i = decide (0 ≤ x ∧ x ≤ 63) := by unfold ok2; rw [hx]
                  clear hx
                  by_cases h0 : x < 0
                  · have e6 : decide (x < 0) = true := decide_eq_true h0
                    have HF := hidp (HNO.out (HN2.out i hlt (hok.trans (decide_eq_false fun g => by omega))))
                    clear hok h0
                    have tk0 := hidp trivial
                    go_wp2_with (first | (clear tk0; (refine Sl.wpL_idx1 Sl.tyI (by kernel_rfl) rfl (.tmp 57) (.tmp 59) rfl b5 0 2 2 i rfl rfl hlt ?_); (try simp only [Act.put, setIfInBounds_toArray, set_cons_zero, set_cons_succ]); have tk1 := hidp trivial) | (clear tk1; (refine Mm.ldc naI rfl (.tmp 61) _ (.int .i64 x) rfl rfl (by rw [Nat.zero_add]; exact (H.out.at0.cell i (by simp; omega)).trans (by rw [HX.out])) ?_); (try simp only [Act.put, setIfInBounds_toArray, set_cons_zero, set_cons_succ]); have tk2 := hidp trivial))
                    try clear tk2
                    go_ret
                    exact ⟨by rw [HF.out]; rfl, H.out.below⟩
                  · have e6 : decide (x < 0) = false := decide_eq_false h0
                    by_cases h1 : x > 63
                    · have e7 : decide (x > 63) = true := decide_eq_true h1
                      have HF := hidp (HNO.out (HN2.out i hlt (hok.trans (decide_eq_false fun g => by omega))))
                      clear hok h0 h1
                      have tk0 := hidp trivial
                      go_wp2_with (first | (clear tk0; (refine Sl.wpL_idx1 Sl.tyI (by kernel_rfl) rfl (.tmp 57) (.tmp 59) rfl b5 0 2 2 i rfl rfl hlt ?_); (try simp only [Act.put, setIfInBounds_toArray, set_cons_zero, set_cons_succ]); have tk1 := hidp trivial) | (clear tk1; (refine Mm.ldc naI rfl (.tmp 61) _ (.int .i64 x) rfl rfl (by rw [Nat.zero_add]; exact (H.out.at0.cell i (by simp; omega)).trans (by rw [HX.out])) ?_); (try simp only [Act.put, setIfInBounds_toArray, set_cons_zero, set_cons_succ]); have tk2 := hidp trivial))
                      try clear tk2
                      go_ret
                      exact ⟨by rw [HF.out]; rfl, H.out.below⟩
                    · have e7 : decide (x > 63) = false := decide_eq_false h1
                      have HO := hidp (hok.trans (decide_eq_true ⟨by omega, by omega⟩))
                      clear hok h0 h1
                      have tk0 := hidp trivial
                      go_wp2_with (first | (clear tk0; (refine Sl.wpL_idx1 Sl.tyI (by kernel_rfl) rfl (.tmp 57) (.tmp 59) rfl b5 0 2 2 i rfl rfl hlt ?_); (try simp only [Act.put, setIfInBounds_toArray, set_cons_zero, set_cons_succ]); have tk1 := hidp trivial) | (clear tk1; (refine Mm.ldc naI rfl (.tmp 61) _ (.int .i64 x) rfl rfl (by rw [Nat.zero_add]; exact (H.out.at0.cell i (by simp; omega)).trans (by rw [HX.out])) ?_); (try simp only [Act.put, setIfInBounds_toArray, set_cons_zero, set_cons_succ]); have tk2 := hidp trivial))
                      try clear tk2
                      exact ⟨⟨i + 1, by go_num, by omega, fun j g => (by
                        by_cases hj : j = i
                        · subst hj; exact HO.out
                        · exact HAL.out j (by omega)), H.out⟩, by simp [intOf]; omega⟩
                · have e5 : decide ((i : Int) < 2) = false := by simp; omega
                  have HA59 := hidp (show ∀ j, j < 2 → ok2 hu nx 63 j = true from fun j g => HAL.out j (by omega))
                  clear HAL
                  have HF := hidp (HYES.out HA42.out HA59.out)
                  go_wp2
                  go_ret
                  exact ⟨by rw [HF.out]; rfl, H.out.below⟩
      · have d2 : decide ((sg.size : Int) > 8192) = true := by simp; omega
        have g2 : 8192 < (sg.size : Int) := by omega
        have HF := hidp (HNO0.out (by rw [hok, decide_eq_false hg]; simp))
        clear hok hkb hR hg
        go_enter Tryz.func84, Tryz.ntmps84
        have tk0 := hidp trivial
        go_wp2_with (first | (clear tk0; (refine Mm.box 91 H rfl (.tmp 0) rfl [.int .u8 (k : Int), .string r, .int .i64 ep, .int .i64 ix, .int .i64 hu, .int .i64 nx, .string sg] rfl ?_; clear H; intro b1 _ H nw; have hb := nw.below; clear hb nw); (try simp only [Act.put, setIfInBounds_toArray, set_cons_zero, set_cons_succ]); have tk1 := hidp trivial) | (clear tk1; (refine Mm.ld0 naS H rfl (.tmp 10) 1 _ rfl rfl rfl ?_); (try simp only [Act.put, setIfInBounds_toArray, set_cons_zero, set_cons_succ]); have tk2 := hidp trivial) | (clear tk2; (go_at_call 77; refine (cr.out _).mono ?_; rintro e _ ⟨rfl, hb⟩; replace H := hidp (H.out.call hb); clear cr; clear hb); (try simp only [Act.put, setIfInBounds_toArray, set_cons_zero, set_cons_succ]); have tk3 := hidp trivial) | (clear tk3; (refine Mm.ld0 naDK H rfl (.tmp 15) 0 (.int .u8 (k : Int)) rfl rfl rfl ?_); (try simp only [Act.put, setIfInBounds_toArray, set_cons_zero, set_cons_succ]); have tk4 := hidp trivial) | (clear tk4; (go_at_call 83; refine (ck.out _).mono ?_; rintro e _ ⟨rfl, hb⟩; replace H := hidp (H.out.call hb); clear ck; clear hb); (try simp only [Act.put, setIfInBounds_toArray, set_cons_zero, set_cons_succ]); have tk5 := hidp trivial) | (clear tk5; (refine Mm.ld0 naS H rfl (.tmp 24) 6 _ rfl rfl rfl ?_); (try simp only [Act.put, setIfInBounds_toArray, set_cons_zero, set_cons_succ]); have tk6 := hidp trivial))
        try clear tk6
        go_ret
        exact ⟨by rw [HF.out]; rfl, H.out.below⟩
  · have n1 : X.toList = [] := hXe.2 hkb
    have e1 : (X.toList == []) = true := by rw [n1]; rfl
    have e2 : X.toList.isEmpty = true := by rw [n1]; rfl
    have e3 : (X.toList == (⟨#[]⟩ : ByteArray).toList) = true := by rw [n1]; decide +kernel
    have HF := hidp (HNO0.out (by rw [hok, show kB k = false from decide_eq_false hkb]; rfl))
    obtain ⟨R, hR⟩ : ∃ R, who 2 r = R := ⟨_, rfl⟩
    rw [hR] at cr
    clear hok hkb hR hXe n1
    obtain ⟨n0, q0, hq0⟩ : ∃ (n0 : Int) (q0 : Bool), whoV R = .tuple #[.int .i64 n0, .bool q0] := by cases R <;> exact ⟨_, _, rfl⟩
    rw [hq0] at cr
    clear hq0
    go_enter Tryz.func84, Tryz.ntmps84
    have tk0 := hidp trivial
    go_wp2_with (first | (clear tk0; (refine Mm.box 91 H rfl (.tmp 0) rfl [.int .u8 (k : Int), .string r, .int .i64 ep, .int .i64 ix, .int .i64 hu, .int .i64 nx, .string sg] rfl ?_; clear H; intro b1 _ H nw; have hb := nw.below; clear hb nw); (try simp only [Act.put, setIfInBounds_toArray, set_cons_zero, set_cons_succ]); have tk1 := hidp trivial) | (clear tk1; (refine Mm.ld0 naS H rfl (.tmp 10) 1 _ rfl rfl rfl ?_); (try simp only [Act.put, setIfInBounds_toArray, set_cons_zero, set_cons_succ]); have tk2 := hidp trivial) | (clear tk2; (go_at_call 77; refine (cr.out _).mono ?_; rintro e _ ⟨rfl, hb⟩; replace H := hidp (H.out.call hb); clear cr; clear hb); (try simp only [Act.put, setIfInBounds_toArray, set_cons_zero, set_cons_succ]); have tk3 := hidp trivial) | (clear tk3; (refine Mm.ld0 naDK H rfl (.tmp 15) 0 (.int .u8 (k : Int)) rfl rfl rfl ?_); (try simp only [Act.put, setIfInBounds_toArray, set_cons_zero, set_cons_succ]); have tk4 := hidp trivial) | (clear tk4; (go_at_call 83; refine (ck.out _).mono ?_; rintro e _ ⟨rfl, hb⟩; replace H := hidp (H.out.call hb); clear ck; clear hb); (try simp only [Act.put, setIfInBounds_toArray, set_cons_zero, set_cons_succ]); have tk5 := hidp trivial))
    try clear tk5
    go_ret
    exact ⟨by rw [HF.out]; rfl, H.out.below⟩
end Go.Proofs.YtfenjincbhkodaaGreatDoor.Ho

namespace Go.Proofs.YtfenjincbhkodaaGreatDoor
set_option linter.unusedVariables false
set_option linter.unusedSimpArgs false
set_option maxRecDepth 100000
open Go.RowKit

set_option maxHeartbeats 1000000 in
set_option maxRecDepth 20000 in
theorem refGetList2_any (w : World) (s : ByteArray) (hs : s.size ≤ 281474976710656) :
    Calls Tryz.prog 42 #[.string s] w fun e w' => ∃ v, e = .returned (.tuple #[v, .int .i64 (gl s).2.1, .int .i64 (gl s).2.2]) ∧ OwnV w' w.heap.size 9 v (strV (gl s).1) ∧ Below w.heap.size w w' := by
  obtain ⟨i0, hi, hz0, hz1, hz2⟩ := info_parts info9
  have hG := refGetNum_any w s hs
  have hbd := gn_bd s.data.toList
  obtain ⟨R, hR⟩ : ∃ R, R = gl s := ⟨_, rfl⟩
  rw [← hR]
  unfold gl at hR
  obtain ⟨⟨n, k, e⟩, hr⟩ : ∃ r, r = gn s.data.toList := ⟨_, rfl⟩
  rw [← hr] at hG hbd hR
  clear hr
  obtain ⟨h1, h2, h3, h4⟩ := hbd
  have h3 : k ≤ s.size := by simpa using h3
  simp only [tup3] at hG h1 h2 h4 hR
  have HG := hidp hG; clear hG
  by_cases he : e = 0
  · have heb := errB0 he
    rw [if_neg (by simpa using he)] at hR
    have H0 := hidp he; clear he
    by_cases h8 : 256 < n
    · rw [if_pos h8] at hR
      subst hR
      go_enter Tryz.func42, Tryz.ntmps42
      go_wp2_with (go_at_call 43; (refine HG.out.mono ?_); rintro e1 w1 ⟨rfl, hb1⟩)
      go_ret3
      exact ⟨_, rfl, OwnV.nil _ _ _, hb1⟩
    · rw [if_neg h8] at hR
      have HR := hidp hR; clear hR
      go_enter Tryz.func42, Tryz.ntmps42
      go_wp2_with (go_at_call 43; (refine HG.out.mono ?_); rintro e1 w1 ⟨rfl, hb1⟩)
      go_loopw [6, 8, 9] (fun t6 t8 t9 wr => ∃ (p i : Nat) (xs : List ByteArray), t6 = .int .i64 p ∧ p ≤ s.size ∧ t9 = .int .u64 i ∧ i ≤ n ∧ xs.length = i ∧ OwnV wr w.heap.size 9 t8 (strV xs) ∧ glGo s (n - i) p xs = R ∧ Below w.heap.size w wr)
        (fun _ _ t9 _ => n - (intOf t9).toNat)
      case atStart => exact ⟨k, 0, [], rfl, h3, rfl, by omega, rfl, OwnV.nil _ _ _, HR.out.symm, hb1⟩
      case round =>
        obtain ⟨p, i, xs, rfl, hp, rfl, hin, hxl, ho, hgo, hb⟩ := hrel
        have hbs := hb.size
        have HGO := hidp hgo; clear hgo
        have HXL := hidp hxl; clear hxl
        by_cases hlt : i < n
        · have hT := refGetText_any wr (s.extract p s.size) (by simp; omega)
          have hbd := gt_bd (s.extract p s.size)
          obtain ⟨j, hj⟩ : ∃ j, n - i = j + 1 := ⟨n - i - 1, by omega⟩
          have hstep := HGO.out
          rw [hj, glGo] at hstep
          obtain ⟨⟨t, q, e2⟩, hr⟩ : ∃ r, r = gt (s.extract p s.size) := ⟨_, rfl⟩
          rw [← hr] at hT hbd hstep
          clear hr
          simp only [tupT] at hT hbd hstep
          obtain ⟨hq, he2, hts⟩ := hbd
          have hq : p + q ≤ s.size := by simp at hq; omega
          have HT := hidp hT; clear hT
          have HJ := hidp hj; clear hj
          by_cases he0 : e2 = 0
          · have heb2 := errB0 he0
            rw [if_neg (by simpa using he0)] at hstep
            have HS := hidp hstep; clear hstep
            have H02 := hidp he0; clear he0
            go_wp2_with (first | (go_at_call 56; (refine HT.out.mono ?_); rintro e1 w2 ⟨rfl, hb2⟩; have ho2 := ho.kept hb2 (Nat.le_refl _); have hbs2 := hb2.size) | (at_builtin; (refine wpList_appV rfl (.tmp 40) (.tmp 42) 42 rfl w.heap.size 9 i0 _ 16 Tryz.underlying42 hi hz0 hz1 hz2 rfl _ (strV xs) rfl (ho2.alloc _) ⟨w2.heap.size, 0, none⟩ _ (.string t) rfl (cell_new1 _ _ _) rfl ?_ ?_ ?_ ?_)))
            · rw [strV_length, HXL.out]; unfold maxLen; omega
            · rw [strV_length, HXL.out]; omega
            · rw [heap_size_alloc]; omega
            · intro v' w3 ho3 hb3
              have hb4 := hb.trans ((hb2.mono hbs).trans (((Below.refl w.heap.size w2).alloc (by omega) _).trans hb3))
              rw [strV_snoc] at ho3
              clear hb3 hb2 ho2 ho
              go_wp2
              exact ⟨⟨p + q, i + 1, xs ++ [t], by go_num, hq, by go_num, by omega, by simp [HXL.out], ho3, by rw [show n - (i + 1) = j from by have := HJ.out; omega]; exact HS.out, hb4⟩, by simp [intOf]; omega⟩
          · have heb2 := errB he0
            rw [if_pos he0] at hstep
            subst hstep
            have H02 := hidp he0; clear he0
            go_wp2_with (go_at_call 56; (refine HT.out.mono ?_); rintro e1 w2 ⟨rfl, hb2⟩)
            go_ret3
            exact ⟨_, rfl, OwnV.nil _ _ _, hb.trans (hb2.mono hbs)⟩
        · have hgo := HGO.out
          rw [show n - i = 0 from by omega, glGo] at hgo
          subst hgo
          go_wp2
          go_ret3
          exact ⟨_, rfl, ho, hb⟩
  · have heb := errB he
    rw [if_pos he] at hR
    have H0 := hidp he; clear he
    subst hR
    go_enter Tryz.func42, Tryz.ntmps42
    go_wp2_with (go_at_call 43; (refine HG.out.mono ?_); rintro e1 w1 ⟨rfl, hb1⟩)
    go_ret3
    exact ⟨_, rfl, OwnV.nil _ _ _, hb1⟩

set_option maxHeartbeats 1000000 in
set_option maxRecDepth 20000 in
theorem refAll2_any (w : World) (s : ByteArray) (hs : s.size ≤ 281474976710656) :
    Calls Tryz.prog 29 #[.string s] w fun e w' => ∃ v, e = .returned (.tuple #[v, .int .i64 (al s).2]) ∧ OwnV w' w.heap.size 9 v (strV (al s).1) ∧ Below w.heap.size w w' := by
  have hG := refGetList2_any w s hs
  have hbd := gl_bd s
  unfold al
  obtain ⟨⟨L, k, e⟩, hr⟩ : ∃ r, r = gl s := ⟨_, rfl⟩
  rw [← hr] at hG hbd ⊢
  clear hr
  simp only at hG hbd ⊢
  obtain ⟨h1, h2, h3, h4⟩ := hbd
  have HG := hidp hG; have H4 := hidp h4; clear hG h4
  by_cases he : e = 0
  · have heb := errB0 he
    rw [if_neg (by simpa using he)]
    have H0 := hidp he; clear he
    by_cases hsz : k < s.size
    · have hne : ((k : Int) != (s.size : Int)) = true := by simp; omega
      rw [if_pos hsz]
      go_enter Tryz.func29, Tryz.ntmps29
      go_wp2_with (go_at_call 42; (refine HG.out.mono ?_); rintro e1 w1 ⟨v1, rfl, hst, hb1⟩)
      go_ret2
      exact ⟨_, rfl, OwnV.nil _ _ _, hb1⟩
    · have hne : ((k : Int) != (s.size : Int)) = false := by simp; omega
      rw [if_neg hsz]
      go_enter Tryz.func29, Tryz.ntmps29
      go_wp2_with (go_at_call 42; (refine HG.out.mono ?_); rintro e1 w1 ⟨v1, rfl, hst, hb1⟩; have HST := hidp hst; clear hst)
      go_ret2
      exact ⟨_, rfl, HST.out, hb1⟩
  · have heb := errB he
    rw [if_pos he]
    have H0 := hidp he; clear he
    go_enter Tryz.func29, Tryz.ntmps29
    go_wp2_with (go_at_call 42; (refine HG.out.mono ?_); rintro e1 w1 ⟨v1, rfl, hst, hb1⟩)
    go_ret2
    exact ⟨_, rfl, OwnV.nil _ _ _, hb1⟩

/-- Such a row has room for what it holds. -/
theorem own_cap {w : World} {B T : Nat} {v : Value} {l : List Value} (h : OwnV w B T v l) (hp : 0 < l.length) : ∃ g c, v = .slice (some ⟨g, 0, none⟩) l.length c ∧ l.length ≤ c ∧ B ≤ g ∧ g < w.heap.size ∧ ∀ i (hi : i < l.length), w.cell? ⟨g, i, none⟩ = some l[i] := by
  have h' := h
  rcases h'.2 with ⟨rfl, hn⟩ | ⟨g, cap, cur, rfl, hB, hg, hc, _⟩
  · omega
  · refine ⟨g, cap, rfl, hc, hB, (Array.getElem?_eq_some_iff.1 hg).1, fun i hi => ?_⟩
    have := World.ownsRow.cells h (g := g) rfl i l[i] (by simp [hi])
    have e : (⟨g, 0, none⟩ : Addr).add i = ⟨g, 0 + i, none⟩ := by unfold Addr.add; split <;> simp_all
    rw [e, Nat.zero_add] at this; exact this
section
variable {P : Program} {ops : Array Oper} {rest : List Oper} {o : Oper} {a : Act} {w : World} {Q : Exit → Act → World → Prop}
theorem run_from1 {ST T : Nat} (hu : P.underlying ST = some (.slice T)) (he : P.elem ST = T) (hs : (P.info? T).map (·.size) = some 1) (B off n c i : Nat) (hi : i ≤ n) (hc : i < c) (w : World) : (Instr.sliceAt ST (.slice (some ⟨B, off, none⟩) n c) (some (.int .i64 (i : Int))) none none).run P w = .ok (.slice (some ⟨B, off + i, none⟩) (n - i) (c - i)) w := by
  have hz : (sizeOf T).run P w = .ok 1 w := by
    obtain ⟨i0, hi0, hz⟩ := Option.map_eq_some_iff.1 hs
    simp [sizeOf, typeInfo, hi0, hz]
  rw [run_sliceAt_slice (P := P) (w := w) ST _ _ _ _ (by rw [he]; exact hu)]
  rw [run_slice_l (P := P) (w := w) ST (some ⟨B, off, none⟩) n c (by rw [he]; exact hu) .i64 (i : Int) (by omega) (by omega), he, hz]
  simp only [Result.andThen, sliced, Int.toNat_natCast]
  have e : (⟨B, off, none⟩ : Addr).add i = ⟨B, off + i, none⟩ := by unfold Addr.add; split <;> simp_all
  rw [if_neg (by omega)]
  simp [e]
theorem wpL_from1 {ST T : Nat} (hu : P.underlying ST = some (.slice T)) (he : P.elem ST = T) (hs : (P.info? T).map (·.size) = some 1) (hgd : o.guard = none) (x y : Operand) (ho : o.op = .slice ST x (some y) none none) (B off n c i : Nat) (hx : a.eval x = .slice (some ⟨B, off, none⟩) n c) (hy : a.eval y = .int .i64 (i : Int)) (hi : i ≤ n) (hc : i < c)
    (h : wpList P ops Q rest (a.put o.dst (.slice (some ⟨B, off + i, none⟩) (n - i) (c - i))) w) : wpList P ops Q (o :: rest) a w := by
  refine wpList_plain hgd fun K hK => ?_
  have := hK _ _ h
  unfold Oper.wp execOp
  simp only [ho, hx, hy, Option.map_none, Option.map_some, Sem.run_bind, run_from1 hu he hs B off n c i hi hc, Result.andThen_ok]
  exact this
end
section
variable {ops : Array Oper} {rest : List Oper} {o : Oper} {a : Act} {w : World} {Q : Exit → Act → World → Prop}
/-- One more value onto a row of one's own, with what grows said. -/
theorem wpL_appGI (hgd : o.guard = none) (s x : Operand) (ho : o.op = .call { callee := .builtin .append, args := #[s, x], argTypes := #[118, 118] }) (B : Nat) (v : Value) (l : List Value) (b t : Nat) (u : Value) (hs : a.eval s = v) (hx : a.eval x = .slice (some ⟨b, 0, none⟩) 1 1)
    (hown : OwnV w B 3 v l) (hc : Arr w b t [u]) (hu : u.oneCell' = true) (hlen : l.length ≤ 1000000) (hB : B ≤ w.heap.size)
    (h : ∀ v' w', OwnV w' B 3 v' (l ++ [u]) → w.grownBy w' v.ownBlock → Below B w w' → wpList Tryz.prog ops Q rest (a.put o.dst v') w') : wpList Tryz.prog ops Q (o :: rest) a w := by
  obtain ⟨i0, hi, hz0, hz1, hz2⟩ := info_parts Sl.infoI
  refine wpList_append_own w hgd s x 118 ho B 3 i0 (.int .i64 0) 1 8 Sl.tyI hi hz0 hz1 hz2 rfl (by decide) v l.length l hs hown ⟨b, 0, none⟩ 1 1 [u] hx rfl ?_ ?_ (by unfold maxLen; omega) (by omega) hB ?_
  · intro j y hj
    match j, hj with
    | 0, hj => simp at hj; subst hj; exact hc.cell 0 (by simp)
  · intro y hy; simp at hy; subst hy; exact hu
  · intro v' w' h1 h2 _
    refine h v' w' ?_ h2 ((Below.refl B w).grown h2 hB fun k hk => (World.ownsRow.lt hown k hk).1)
    unfold OwnV; rw [List.length_append]; exact h1
end
end Go.Proofs.YtfenjincbhkodaaGreatDoor

namespace Go.Proofs.YtfenjincbhkodaaGreatDoor.Ho
set_option maxRecDepth 100000
set_option linter.unusedVariables false
set_option linter.unusedSimpArgs false
open Go.RowKit
open List (getElem_toArray getElem_cons_zero getElem_cons_succ setIfInBounds_toArray set_cons_zero set_cons_succ)
end Go.Proofs.YtfenjincbhkodaaGreatDoor.Ho
