import Derived.Test.YtokakgjcegmabaaGreatDoorJB
import Derived.Test.YtokakgjcegmabaaGreatDoorJO
import Derived.Test.YtokakgjcegmabaaGreatDoorJQ
import Derived.Test.YtokakgjcegmabaaGreatDoorJC2
set_option linter.unusedVariables false
set_option linter.unusedSimpArgs false
set_option maxHeartbeats 64000000
set_option maxRecDepth 100000
namespace Go.Proofs.YtokakgjcegmabaaGreatDoor
open Go.RowKit
theorem own_keeps {w W : World} {B T b t : Nat} {v : Value} {l xs : List Value} (h : OwnV w B T v l) (hg : w.grownBy W v.ownBlock) (ha : Arr w b t xs) (hne : t ≠ T) : Arr W b t xs := by
 refine (hg.block b ha.lt fun e => ?_).trans ha
 rcases h.2 with ⟨rfl, _⟩ | ⟨g, cap, cur, rfl, hB, hgb, r⟩
 · cases e
 · obtain rfl : b = g := by simpa [Value.ownBlock] using e
   have h1 : (Obj.cells cur T) = Obj.cells xs.toArray t := Option.some.inj (hgb.symm.trans ha)
   injection h1 with _ h2
   exact hne h2.symm
section
variable {P : Program} {ops : Array Oper} {rest : List Oper} {o : Oper} {a : Act} {w : World} {Q : Exit → Act → World → Prop}
end
section
variable {ops : Array Oper} {rest : List Oper} {o : Oper} {a : Act} {w : World} {Q : Exit → Act → World → Prop}
theorem wpL_appGS (hgd : o.guard = none) (s x : Operand) (ho : o.op = .call { callee := .builtin .append, args := #[s, x], argTypes := #[75, 75] }) (B : Nat) (v : Value) (l : List Value) (b t : Nat) (u : Value) (hs : a.eval s = v) (hx : a.eval x = .slice (some ⟨b, 0, none⟩) 1 1)
 (hown : OwnV w B 9 v l) (hc : Arr w b t [u]) (hu : u.oneCell' = true) (hlen : l.length ≤ 1000000) (hB : B ≤ w.heap.size)
 (h : ∀ v' w', OwnV w' B 9 v' (l ++ [u]) → w.grownBy w' v.ownBlock → Below B w w' → wpList Tryz.prog ops Q rest (a.put o.dst v') w') : wpList Tryz.prog ops Q (o :: rest) a w := by
 obtain ⟨i0, hi, hz0, hz1, hz2⟩ := info_parts Sl.infoS
 refine wpList_append_own w hgd s x 75 ho B 9 i0 (.string ByteArray.empty) 1 16 Sl.tyS hi hz0 hz1 hz2 rfl (by decide) v l.length l hs hown ⟨b, 0, none⟩ 1 1 [u] hx rfl ?_ ?_ (by unfold maxLen; omega) (by omega) hB ?_
 · intro j y hj
   match j, hj with
   | 0, hj => simp at hj; subst hj; exact hc.cell 0 (by simp)
 · intro y hy; simp at hy; subst hy; exact hu
 · intro v' w' h1 h2 _
   refine h v' w' ?_ h2 ((Below.refl B w).grown h2 hB fun k hk => (World.ownsRow.lt hown k hk).1)
   unfold OwnV; rw [List.length_append]; exact h1
end
end Go.Proofs.YtokakgjcegmabaaGreatDoor
namespace Go.Proofs.YtokakgjcegmabaaGreatDoor.Ho
open Go.RowKit
open List (getElem_toArray getElem_cons_zero getElem_cons_succ setIfInBounds_toArray set_cons_zero set_cons_succ)
section
variable {P : Program} {ops : Array Oper} {rest : List Oper} {o : Oper} {a : Act} {w : World} {Q : Exit → Act → World → Prop}
theorem run_idxU {ST T : Nat} (hu : P.underlying ST = some (.slice T)) (hs : (P.info? T).map (·.size) = some 1) (B off n c i : Nat) (hi : i < n) (w : World) : (Instr.indexAt ST (.slice (some ⟨B, off, none⟩) n c) (.int .u8 (i : Int))).run P w = .ok (.pointer (some ⟨B, off + i, none⟩)) w := by
 obtain ⟨i0, hi0, hz⟩ := Option.map_eq_some_iff.1 hs
 have e : (⟨B, off, none⟩ : Addr).add i = ⟨B, off + i, none⟩ := by unfold Addr.add; split <;> simp_all
 have h1 : (0 : Int) ≤ (i : Int) ∧ (i : Int) < ((n : Nat) : Int) := by omega
 simp [Instr.indexAt, run_underlying hu, sizeOf, typeInfo, hi0, hz, asIntOf, hi, e, go_sem]
theorem wpL_idxU {ST T : Nat} (hu : P.underlying ST = some (.slice T)) (hs : (P.info? T).map (·.size) = some 1) (hw : Region.wanted o (yielded ops a.tmps) = true) (x y : Operand) (ho : o.op = .indexAddr ST x y) (B off n c i : Nat) (hx : a.eval x = .slice (some ⟨B, off, none⟩) n c) (hy : a.eval y = .int .u8 (i : Int)) (hi : i < n)
 (h : wpList P ops Q rest (a.put o.dst (.pointer (some ⟨B, off + i, none⟩))) w) : wpList P ops Q (o :: rest) a w := by
 refine wpList_step fun K hK => ?_
 rw [if_pos hw]
 have := hK _ _ h
 unfold Oper.wp execOp
 simp only [ho, hx, hy, run_idxU hu hs B off n c i hi w, Sem.run_bind, Result.andThen_ok]
 exact this
end
theorem dwd_out {k : Nat} (h : ¬ k < 3) : dwd k = ⟨#[]⟩ := by
 unfold dwd hWords; rw [List.getD_eq_getElem?_getD, List.getElem?_eq_none (by simp; omega)]; rfl
theorem dwd_empty {k : Nat} : (dwd k).toList = [] ↔ ¬ (1 ≤ k ∧ k ≤ 2) := by
 by_cases h : k < 3
 · rcases (by omega : k = 0 ∨ k = 1 ∨ k = 2) with rfl | rfl | rfl <;> decide +kernel
 · rw [dwd_out h]
   constructor
   · intro _; omega
   · intro _; decide +kernel
theorem rword_any (w : World) (k : Nat) (hk : k < 256) : Calls Tryz.prog 112 #[.int .u8 (k : Int)] w fun e w' => e = .returned (.string (dwd k)) ∧ Below w.heap.size w w' := by
 have H := hidp (Mm.M.nil w)
 have w1 : IntKind.i64.wrap (k : Int) = (k : Int) := by unfold IntKind.wrap; simp [IntKind.bits, IntKind.signed]; omega
 by_cases hk3 : k < 3
 · have e1 : decide ((k : Int) ≥ 3) = false := by simp; omega
   have g1 : ¬ (3 : Int) ≤ (k : Int) := by omega
   have HC := hidp (show ∀ h : k < [Value.string ⟨#[]⟩, Value.string ⟨#[111, 102, 102, 101, 114]⟩, Value.string ⟨#[97, 99, 99, 101, 112, 116]⟩].length, [Value.string ⟨#[]⟩, Value.string ⟨#[111, 102, 102, 101, 114]⟩, Value.string ⟨#[97, 99, 99, 101, 112, 116]⟩][k]'h = .string (dwd k) from by
    intro h
    rcases (by omega : k = 0 ∨ k = 1 ∨ k = 2) with rfl | rfl | rfl <;> rfl)
   go_enter Tryz.func112, Tryz.ntmps112
   have tk0 := hT
   go_wp2_with (first | (clear tk0; (refine Sl.wpL_bsS3 H rfl _ _ _ ⟨#[]⟩ ⟨#[111, 102, 102, 101, 114]⟩ ⟨#[97, 99, 99, 101, 112, 116]⟩ rfl rfl rfl rfl ?_; clear H; intro b4 _ H nw; clear nw); (try simp only [Act.put, aQ]); have tk1 := hT) | (clear tk1; (refine wpL_idxU Sl.tyS (by kernel_rfl) rfl (.tmp 10) (.tmp 11) rfl b4 0 3 3 k rfl rfl hk3 ?_); (try simp only [Act.put, aQ]); have tk2 := hT) | (clear tk2; (refine Mm.ldc naS rfl (.tmp 12) _ (.string (dwd k)) rfl rfl (by rw [Nat.zero_add]; exact (H.out.at0.cell k (by simp; omega)).trans (by rw [HC.out])) ?_); (try simp only [Act.put, aQ]); have tk3 := hT))
   try clear tk3
   go_ret
   exact ⟨rfl, H.out.below⟩
 · have e1 : decide ((k : Int) ≥ 3) = true := by simp; omega
   have g1 : (3 : Int) ≤ (k : Int) := by omega
   rw [dwd_out hk3]
   go_enter Tryz.func112, Tryz.ntmps112
   have tk0 := hT
   go_wp2_with (first | (clear tk0; (refine Sl.wpL_bsS3 H rfl _ _ _ ⟨#[]⟩ ⟨#[111, 102, 102, 101, 114]⟩ ⟨#[97, 99, 99, 101, 112, 116]⟩ rfl rfl rfl rfl ?_; clear H; intro b4 _ H nw; clear nw); (try simp only [Act.put, aQ]); have tk1 := hT))
   try clear tk1
   go_ret
   exact ⟨rfl, H.out.below⟩
def ok2 (a b m : Int) (i : Nat) : Bool := decide (0 ≤ [a, b].getD i 0 ∧ [a, b].getD i 0 ≤ m)
theorem prm_two {a b c d : Int} (h : ∀ j, j < 2 → ok2 a b 4096 j = true) (g : ∀ j, j < 2 → ok2 c d 63 j = true) : prm a b c d = true := by
 have h0 := of_decide_eq_true (h 0 (by omega)); have h1 := of_decide_eq_true (h 1 (by omega)); have h2 := of_decide_eq_true (g 0 (by omega)); have h3 := of_decide_eq_true (g 1 (by omega))
 exact decide_eq_true ⟨h0, h1, h2, h3⟩
theorem prm_n1 {a b c d : Int} {i : Nat} (hi : i < 2) (h : ok2 a b 4096 i = false) : prm a b c d = false := by
 unfold prm; rw [decide_eq_false_iff_not]
 intro g
 have h' := of_decide_eq_false h
 rcases (by omega : i = 0 ∨ i = 1) with rfl | rfl
 · exact h' g.1
 · exact h' g.2.1
theorem prm_n2 {a b c d : Int} {i : Nat} (hi : i < 2) (h : ok2 c d 63 i = false) : prm a b c d = false := by
 unfold prm; rw [decide_eq_false_iff_not]
 intro g
 have h' := of_decide_eq_false h
 rcases (by omega : i = 0 ∨ i = 1) with rfl | rfl
 · exact h' g.2.2.1
 · exact h' g.2.2.2
theorem rdcheck_any (w : World) (d : De) (hd : d.ok) :
 Calls Tryz.prog 111 #[.agg d.row.toArray] w fun e w' => e = .returned (.int .i64 (dE d)) ∧ Below w.heap.size w w' := by
 obtain ⟨k, r, ep, ix, hu, nx, sg⟩ := d
 obtain ⟨hk, hr, hs⟩ : k < 256 ∧ r.size ≤ 140737488351232 ∧ sg.size ≤ 140737488351232 := hd
 show Calls Tryz.prog 111 #[.agg #[.int .u8 (k : Int), .string r, .int .i64 ep, .int .i64 ix, .int .i64 hu, .int .i64 nx, .string sg]] w _
 have cr := hidp (fun W => rroom_any W r (by omega))
 have ck := hidp (fun W => rword_any W k hk)
 obtain ⟨E, hE⟩ : ∃ E, dE (⟨k, r, ep, ix, hu, nx, sg⟩ : De) = E := ⟨_, rfl⟩
 rw [hE]
 have hok : dOk (⟨k, r, ep, ix, hu, nx, sg⟩ : De) = (kB k && (who 2 r).isSome && prm ep ix hu nx && decide (hu ≠ nx) && decide (sg.size ≤ 8192)) := rfl
 have HNO0 : Hid (dOk (⟨k, r, ep, ix, hu, nx, sg⟩ : De) = false → E = 2) := hidp (fun h => by rw [← hE, dE_no h])
 have HYE0 : Hid (dOk (⟨k, r, ep, ix, hu, nx, sg⟩ : De) = true → E = 0) := hidp (fun h => by rw [← hE, dE_yes h])
 clear hE
 have H := hidp (Mm.M.nil w)
 obtain ⟨X, hX⟩ : ∃ X, dwd k = X := ⟨_, rfl⟩
 have hXe : X.toList = [] ↔ ¬ (1 ≤ k ∧ k ≤ 2) := by rw [← hX]; exact dwd_empty
 rw [hX] at ck
 clear hX
 by_cases hkb : 1 ≤ k ∧ k ≤ 2
 · have n1 : ¬ X.toList = [] := fun g => hXe.1 g hkb
   have e1 : (X.toList == []) = false := by rw [beq_eq_false_iff_ne]; exact n1
   have e2 : X.toList.isEmpty = false := by cases h : X.toList with | nil => exact absurd h n1 | cons a l => rfl
   have e3 : (X.toList == (⟨#[]⟩ : ByteArray).toList) = false := by rw [show (⟨#[]⟩ : ByteArray).toList = [] from by decide +kernel]; exact e1
   clear hXe
   cases hR : who 2 r with
   | none =>
     rw [hR] at cr
     have HF := hidp (HNO0.out (by rw [hok, hR]; simp))
     clear hok hkb hR
     unfold whoV at cr
     go_enter Tryz.func111, Tryz.ntmps111
     have tk0 := hT
     go_wp2_with (first | (clear tk0; (refine Mm.box 26 H rfl (.tmp 0) rfl [.int .u8 (k : Int), .string r, .int .i64 ep, .int .i64 ix, .int .i64 hu, .int .i64 nx, .string sg] rfl ?_; clear H; intro b1 _ H nw; clear nw); (try simp only [Act.put, aQ]); have tk1 := hT) | (clear tk1; (refine Mm.ld0 naS H rfl (.tmp 10) 1 _ rfl rfl rfl ?_); (try simp only [Act.put, aQ]); have tk2 := hT) | (clear tk2; (go_at_call 155; refine (cr.out _).mono ?_; rintro e _ ⟨rfl, hb⟩; replace H := hidp (H.out.call hb); clear cr; clear hb); (try simp only [Act.put, aQ]); have tk3 := hT) | (clear tk3; (refine Mm.ld0 naDK H rfl (.tmp 15) 0 (.int .u8 (k : Int)) rfl rfl rfl ?_); (try simp only [Act.put, aQ]); have tk4 := hT) | (clear tk4; (go_at_call 112; refine (ck.out _).mono ?_; rintro e _ ⟨rfl, hb⟩; replace H := hidp (H.out.call hb); clear ck; clear hb); (try simp only [Act.put, aQ]); have tk5 := hT))
     try clear tk5
     go_ret
     exact ⟨by rw [HF.out]; rfl, H.out.below⟩
   | some n0 =>
     rw [hR] at cr
     unfold whoV at cr
     by_cases hg : sg.size ≤ 8192
     · have d2 : decide ((sg.size : Int) > 8192) = false := by simp; omega
       have g2 : ¬ 8192 < (sg.size : Int) := by omega
       by_cases he : hu = nx
       · have d1 : (hu == nx) = true := by rw [he]; simp
         have HF := hidp (HNO0.out (by rw [hok, decide_eq_false (fun g => g he)]; simp))
         clear hok hkb hR he hg
         go_enter Tryz.func111, Tryz.ntmps111
         have tk0 := hT
         go_wp2_with (first | (clear tk0; (refine Mm.box 26 H rfl (.tmp 0) rfl [.int .u8 (k : Int), .string r, .int .i64 ep, .int .i64 ix, .int .i64 hu, .int .i64 nx, .string sg] rfl ?_; clear H; intro b1 _ H nw; clear nw); (try simp only [Act.put, aQ]); have tk1 := hT) | (clear tk1; (refine Mm.ld0 naS H rfl (.tmp 10) 1 _ rfl rfl rfl ?_); (try simp only [Act.put, aQ]); have tk2 := hT) | (clear tk2; (go_at_call 155; refine (cr.out _).mono ?_; rintro e _ ⟨rfl, hb⟩; replace H := hidp (H.out.call hb); clear cr; clear hb); (try simp only [Act.put, aQ]); have tk3 := hT) | (clear tk3; (refine Mm.ld0 naDK H rfl (.tmp 15) 0 (.int .u8 (k : Int)) rfl rfl rfl ?_); (try simp only [Act.put, aQ]); have tk4 := hT) | (clear tk4; (go_at_call 112; refine (ck.out _).mono ?_; rintro e _ ⟨rfl, hb⟩; replace H := hidp (H.out.call hb); clear ck; clear hb); (try simp only [Act.put, aQ]); have tk5 := hT) | (clear tk5; (refine Mm.ld0 naS H rfl (.tmp 24) 6 _ rfl rfl rfl ?_); (try simp only [Act.put, aQ]); have tk6 := hT) | (clear tk6; (refine Mm.ld0 naI H rfl (.tmp 30) 4 _ rfl rfl rfl ?_); (try simp only [Act.put, aQ]); have tk7 := hT) | (clear tk7; (refine Mm.ld0 naI H rfl (.tmp 32) 5 _ rfl rfl rfl ?_); (try simp only [Act.put, aQ]); have tk8 := hT))
         try clear tk8
         go_ret
         exact ⟨by rw [HF.out]; rfl, H.out.below⟩
       · have d1 : (hu == nx) = false := by rw [beq_eq_false_iff_ne]; exact he
         have HNO := hidp (show prm ep ix hu nx = false → E = 2 from fun g => HNO0.out (by rw [hok, g]; simp))
         have HN1 := hidp (fun (i : Nat) (hi : i < 2) h => prm_n1 (a := ep) (b := ix) (c := hu) (d := nx) hi h)
         have HN2 := hidp (fun (i : Nat) (hi : i < 2) h => prm_n2 (a := ep) (b := ix) (c := hu) (d := nx) hi h)
         have HYES := hidp (fun h1 h2 => HYE0.out (by rw [hok, show kB k = true from decide_eq_true hkb, hR, prm_two (a := ep) (b := ix) (c := hu) (d := nx) h1 h2, decide_eq_true he, decide_eq_true hg]; rfl))
         clear hok hkb hR he hg HNO0 HYE0
         go_enter Tryz.func111, Tryz.ntmps111
         have tk0 := hT
         go_wp2_with (first | (clear tk0; (refine Mm.box 26 H rfl (.tmp 0) rfl [.int .u8 (k : Int), .string r, .int .i64 ep, .int .i64 ix, .int .i64 hu, .int .i64 nx, .string sg] rfl ?_; clear H; intro b1 _ H nw; clear nw); (try simp only [Act.put, aQ]); have tk1 := hT) | (clear tk1; (refine Mm.ld0 naS H rfl (.tmp 10) 1 _ rfl rfl rfl ?_); (try simp only [Act.put, aQ]); have tk2 := hT) | (clear tk2; (go_at_call 155; refine (cr.out _).mono ?_; rintro e _ ⟨rfl, hb⟩; replace H := hidp (H.out.call hb); clear cr; clear hb); (try simp only [Act.put, aQ]); have tk3 := hT) | (clear tk3; (refine Mm.ld0 naDK H rfl (.tmp 15) 0 (.int .u8 (k : Int)) rfl rfl rfl ?_); (try simp only [Act.put, aQ]); have tk4 := hT) | (clear tk4; (go_at_call 112; refine (ck.out _).mono ?_; rintro e _ ⟨rfl, hb⟩; replace H := hidp (H.out.call hb); clear ck; clear hb); (try simp only [Act.put, aQ]); have tk5 := hT) | (clear tk5; (refine Mm.ld0 naS H rfl (.tmp 24) 6 _ rfl rfl rfl ?_); (try simp only [Act.put, aQ]); have tk6 := hT) | (clear tk6; (refine Mm.ld0 naI H rfl (.tmp 30) 4 _ rfl rfl rfl ?_); (try simp only [Act.put, aQ]); have tk7 := hT) | (clear tk7; (refine Mm.ld0 naI H rfl (.tmp 32) 5 _ rfl rfl rfl ?_); (try simp only [Act.put, aQ]); have tk8 := hT) | (clear tk8; (refine Mm.ld0 naI H rfl (.tmp 36) 2 _ rfl rfl rfl ?_); (try simp only [Act.put, aQ]); have tk9 := hT) | (clear tk9; (refine Mm.ld0 naI H rfl (.tmp 38) 3 _ rfl rfl rfl ?_); (try simp only [Act.put, aQ]); have tk10 := hT) | (clear tk10; (refine Sl.wpL_bsI2 H rfl (.tmp 37) (.tmp 39) ep ix rfl rfl rfl ?_; clear H; intro b4 _ H nw; clear nw); (try simp only [Act.put, aQ]); have tk11 := hT))
         try clear tk11
         go_loopw [42] (fun t42 wr => ∃ i : Nat, t42 = .int .i64 (i : Int) ∧ i ≤ 2 ∧ (∀ j, j < i → ok2 ep ix 4096 j = true) ∧ Mm.M w.heap.size w wr ([⟨b4, 3, [.int .i64 ep, .int .i64 ix]⟩, ⟨b1, 26, [.int .u8 (k : Int), .string r, .int .i64 ep, .int .i64 ix, .int .i64 hu, .int .i64 nx, .string sg]⟩])) (fun t42 _ => 2 - (intOf t42).toNat)
         case atStart => exact ⟨0, rfl, by omega, fun j h => by omega, H.out⟩
         case round =>
          clear H
          obtain ⟨i, rfl, hi, hal, hM⟩ := hrel
          have HAL := hidp hal; have H := hidp hM
          clear hal hM
          by_cases hlt : i < 2
          · have e5 : decide ((i : Int) < 2) = true := by simp; omega
            obtain ⟨x, hx⟩ : ∃ x, [ep, ix].getD i 0 = x := ⟨_, rfl⟩
            have HX := hidp (show ∀ h : i < [Value.int .i64 ep, Value.int .i64 ix].length, [Value.int .i64 ep, Value.int .i64 ix][i]'h = .int .i64 x from by
             intro h; rw [← hx]
             rcases (by omega : i = 0 ∨ i = 1) with rfl | rfl <;> rfl)
            have hok : ok2 ep ix 4096 i = decide (0 ≤ x ∧ x ≤ 4096) := by unfold ok2; rw [hx]
            clear hx
            by_cases h0 : x < 0
            · have e6 : decide (x < 0) = true := decide_eq_true h0
              have HF := hidp (HNO.out (HN1.out i hlt (hok.trans (decide_eq_false fun g => by omega))))
              clear hok h0
              have tk0 := hT
              go_wp2_with (first | (clear tk0; (refine Sl.wpL_idx1 Sl.tyI (by kernel_rfl) rfl (.tmp 40) (.tmp 42) rfl b4 0 2 2 i rfl rfl hlt ?_); (try simp only [Act.put, aQ]); have tk1 := hT) | (clear tk1; (refine Mm.ldc naI rfl (.tmp 44) _ (.int .i64 x) rfl rfl (by rw [Nat.zero_add]; exact (H.out.at0.cell i (by simp; omega)).trans (by rw [HX.out])) ?_); (try simp only [Act.put, aQ]); have tk2 := hT))
              try clear tk2
              go_ret
              exact ⟨by rw [HF.out]; rfl, H.out.below⟩
            · have e6 : decide (x < 0) = false := decide_eq_false h0
              by_cases h1 : x > 4096
              · have e7 : decide (x > 4096) = true := decide_eq_true h1
                have HF := hidp (HNO.out (HN1.out i hlt (hok.trans (decide_eq_false fun g => by omega))))
                clear hok h0 h1
                have tk0 := hT
                go_wp2_with (first | (clear tk0; (refine Sl.wpL_idx1 Sl.tyI (by kernel_rfl) rfl (.tmp 40) (.tmp 42) rfl b4 0 2 2 i rfl rfl hlt ?_); (try simp only [Act.put, aQ]); have tk1 := hT) | (clear tk1; (refine Mm.ldc naI rfl (.tmp 44) _ (.int .i64 x) rfl rfl (by rw [Nat.zero_add]; exact (H.out.at0.cell i (by simp; omega)).trans (by rw [HX.out])) ?_); (try simp only [Act.put, aQ]); have tk2 := hT))
                try clear tk2
                go_ret
                exact ⟨by rw [HF.out]; rfl, H.out.below⟩
              · have e7 : decide (x > 4096) = false := decide_eq_false h1
                have HO := hidp (hok.trans (decide_eq_true ⟨by omega, by omega⟩))
                clear hok h0 h1
                have tk0 := hT
                go_wp2_with (first | (clear tk0; (refine Sl.wpL_idx1 Sl.tyI (by kernel_rfl) rfl (.tmp 40) (.tmp 42) rfl b4 0 2 2 i rfl rfl hlt ?_); (try simp only [Act.put, aQ]); have tk1 := hT) | (clear tk1; (refine Mm.ldc naI rfl (.tmp 44) _ (.int .i64 x) rfl rfl (by rw [Nat.zero_add]; exact (H.out.at0.cell i (by simp; omega)).trans (by rw [HX.out])) ?_); (try simp only [Act.put, aQ]); have tk2 := hT))
                try clear tk2
                exact ⟨⟨i + 1, by go_num, by omega, fun j g => (by
                 by_cases hj : j = i
                 · subst hj; exact HO.out
                 · exact HAL.out j (by omega)), H.out⟩, by simp [intOf]; omega⟩
          · have e5 : decide ((i : Int) < 2) = false := by simp; omega
            have HA42 := hidp (show ∀ j, j < 2 → ok2 ep ix 4096 j = true from fun j g => HAL.out j (by omega))
            clear HAL
            have tk0 := hT
            go_wp2_with (first | (clear tk0; (refine Mm.ld1 naI H rfl (.tmp 53) 4 _ rfl rfl rfl ?_); (try simp only [Act.put, aQ]); have tk1 := hT) | (clear tk1; (refine Mm.ld1 naI H rfl (.tmp 55) 5 _ rfl rfl rfl ?_); (try simp only [Act.put, aQ]); have tk2 := hT) | (clear tk2; (refine Sl.wpL_bsI2 H rfl (.tmp 54) (.tmp 56) hu nx rfl rfl rfl ?_; clear H; intro b5 _ H nw; clear nw); (try simp only [Act.put, aQ]); have tk3 := hT))
            try clear tk3
            go_loopw [59] (fun t59 wr => ∃ i : Nat, t59 = .int .i64 (i : Int) ∧ i ≤ 2 ∧ (∀ j, j < i → ok2 hu nx 63 j = true) ∧ Mm.M w.heap.size w wr ([⟨b5, 3, [.int .i64 hu, .int .i64 nx]⟩, ⟨b4, 3, [.int .i64 ep, .int .i64 ix]⟩, ⟨b1, 26, [.int .u8 (k : Int), .string r, .int .i64 ep, .int .i64 ix, .int .i64 hu, .int .i64 nx, .string sg]⟩])) (fun t59 _ => 2 - (intOf t59).toNat)
            case atStart => exact ⟨0, rfl, by omega, fun j h => by omega, H.out⟩
            case round =>
             clear H
             obtain ⟨i, rfl, hi, hal, hM⟩ := hrel
             have HAL := hidp hal; have H := hidp hM
             clear hal hM
             by_cases hlt : i < 2
             · have e5 : decide ((i : Int) < 2) = true := by simp; omega
               obtain ⟨x, hx⟩ : ∃ x, [hu, nx].getD i 0 = x := ⟨_, rfl⟩
               have HX := hidp (show ∀ h : i < [Value.int .i64 hu, Value.int .i64 nx].length, [Value.int .i64 hu, Value.int .i64 nx][i]'h = .int .i64 x from by
                intro h; rw [← hx]
                rcases (by omega : i = 0 ∨ i = 1) with rfl | rfl <;> rfl)
               have hok : ok2 hu nx 63 i = decide (0 ≤ x ∧ x ≤ 63) := by unfold ok2; rw [hx]
               clear hx
               by_cases h0 : x < 0
               · have e6 : decide (x < 0) = true := decide_eq_true h0
                 have HF := hidp (HNO.out (HN2.out i hlt (hok.trans (decide_eq_false fun g => by omega))))
                 clear hok h0
                 have tk0 := hT
                 go_wp2_with (first | (clear tk0; (refine Sl.wpL_idx1 Sl.tyI (by kernel_rfl) rfl (.tmp 57) (.tmp 59) rfl b5 0 2 2 i rfl rfl hlt ?_); (try simp only [Act.put, aQ]); have tk1 := hT) | (clear tk1; (refine Mm.ldc naI rfl (.tmp 61) _ (.int .i64 x) rfl rfl (by rw [Nat.zero_add]; exact (H.out.at0.cell i (by simp; omega)).trans (by rw [HX.out])) ?_); (try simp only [Act.put, aQ]); have tk2 := hT))
                 try clear tk2
                 go_ret
                 exact ⟨by rw [HF.out]; rfl, H.out.below⟩
               · have e6 : decide (x < 0) = false := decide_eq_false h0
                 by_cases h1 : x > 63
                 · have e7 : decide (x > 63) = true := decide_eq_true h1
                   have HF := hidp (HNO.out (HN2.out i hlt (hok.trans (decide_eq_false fun g => by omega))))
                   clear hok h0 h1
                   have tk0 := hT
                   go_wp2_with (first | (clear tk0; (refine Sl.wpL_idx1 Sl.tyI (by kernel_rfl) rfl (.tmp 57) (.tmp 59) rfl b5 0 2 2 i rfl rfl hlt ?_); (try simp only [Act.put, aQ]); have tk1 := hT) | (clear tk1; (refine Mm.ldc naI rfl (.tmp 61) _ (.int .i64 x) rfl rfl (by rw [Nat.zero_add]; exact (H.out.at0.cell i (by simp; omega)).trans (by rw [HX.out])) ?_); (try simp only [Act.put, aQ]); have tk2 := hT))
                   try clear tk2
                   go_ret
                   exact ⟨by rw [HF.out]; rfl, H.out.below⟩
                 · have e7 : decide (x > 63) = false := decide_eq_false h1
                   have HO := hidp (hok.trans (decide_eq_true ⟨by omega, by omega⟩))
                   clear hok h0 h1
                   have tk0 := hT
                   go_wp2_with (first | (clear tk0; (refine Sl.wpL_idx1 Sl.tyI (by kernel_rfl) rfl (.tmp 57) (.tmp 59) rfl b5 0 2 2 i rfl rfl hlt ?_); (try simp only [Act.put, aQ]); have tk1 := hT) | (clear tk1; (refine Mm.ldc naI rfl (.tmp 61) _ (.int .i64 x) rfl rfl (by rw [Nat.zero_add]; exact (H.out.at0.cell i (by simp; omega)).trans (by rw [HX.out])) ?_); (try simp only [Act.put, aQ]); have tk2 := hT))
                   try clear tk2
                   exact ⟨⟨i + 1, by go_num, by omega, fun j g => (by
                    by_cases hj : j = i
                    · subst hj; exact HO.out
                    · exact HAL.out j (by omega)), H.out⟩, by simp [intOf]; omega⟩
             · have e5 : decide ((i : Int) < 2) = false := by simp; omega
               have HA59 := hidp (show ∀ j, j < 2 → ok2 hu nx 63 j = true from fun j g => HAL.out j (by omega))
               clear HAL
               have HF := hidp (HYES.out HA42.out HA59.out)
               go_wp2
               go_ret
               exact ⟨by rw [HF.out]; rfl, H.out.below⟩
     · have d2 : decide ((sg.size : Int) > 8192) = true := by simp; omega
       have g2 : 8192 < (sg.size : Int) := by omega
       have HF := hidp (HNO0.out (by rw [hok, decide_eq_false hg]; simp))
       clear hok hkb hR hg
       go_enter Tryz.func111, Tryz.ntmps111
       have tk0 := hT
       go_wp2_with (first | (clear tk0; (refine Mm.box 26 H rfl (.tmp 0) rfl [.int .u8 (k : Int), .string r, .int .i64 ep, .int .i64 ix, .int .i64 hu, .int .i64 nx, .string sg] rfl ?_; clear H; intro b1 _ H nw; clear nw); (try simp only [Act.put, aQ]); have tk1 := hT) | (clear tk1; (refine Mm.ld0 naS H rfl (.tmp 10) 1 _ rfl rfl rfl ?_); (try simp only [Act.put, aQ]); have tk2 := hT) | (clear tk2; (go_at_call 155; refine (cr.out _).mono ?_; rintro e _ ⟨rfl, hb⟩; replace H := hidp (H.out.call hb); clear cr; clear hb); (try simp only [Act.put, aQ]); have tk3 := hT) | (clear tk3; (refine Mm.ld0 naDK H rfl (.tmp 15) 0 (.int .u8 (k : Int)) rfl rfl rfl ?_); (try simp only [Act.put, aQ]); have tk4 := hT) | (clear tk4; (go_at_call 112; refine (ck.out _).mono ?_; rintro e _ ⟨rfl, hb⟩; replace H := hidp (H.out.call hb); clear ck; clear hb); (try simp only [Act.put, aQ]); have tk5 := hT) | (clear tk5; (refine Mm.ld0 naS H rfl (.tmp 24) 6 _ rfl rfl rfl ?_); (try simp only [Act.put, aQ]); have tk6 := hT))
       try clear tk6
       go_ret
       exact ⟨by rw [HF.out]; rfl, H.out.below⟩
 · have n1 : X.toList = [] := hXe.2 hkb
   have e1 : (X.toList == []) = true := by rw [n1]; rfl
   have e2 : X.toList.isEmpty = true := by rw [n1]; rfl
   have e3 : (X.toList == (⟨#[]⟩ : ByteArray).toList) = true := by rw [n1]; decide +kernel
   have HF := hidp (HNO0.out (by rw [hok, show kB k = false from decide_eq_false hkb]; rfl))
   obtain ⟨R, hR⟩ : ∃ R, who 2 r = R := ⟨_, rfl⟩
   rw [hR] at cr
   clear hok hkb hR hXe n1
   obtain ⟨n0, q0, hq0⟩ : ∃ (n0 : Int) (q0 : Bool), whoV R = .tuple #[.int .i64 n0, .bool q0] := by cases R <;> exact ⟨_, _, rfl⟩
   rw [hq0] at cr
   clear hq0
   go_enter Tryz.func111, Tryz.ntmps111
   have tk0 := hT
   go_wp2_with (first | (clear tk0; (refine Mm.box 26 H rfl (.tmp 0) rfl [.int .u8 (k : Int), .string r, .int .i64 ep, .int .i64 ix, .int .i64 hu, .int .i64 nx, .string sg] rfl ?_; clear H; intro b1 _ H nw; clear nw); (try simp only [Act.put, aQ]); have tk1 := hT) | (clear tk1; (refine Mm.ld0 naS H rfl (.tmp 10) 1 _ rfl rfl rfl ?_); (try simp only [Act.put, aQ]); have tk2 := hT) | (clear tk2; (go_at_call 155; refine (cr.out _).mono ?_; rintro e _ ⟨rfl, hb⟩; replace H := hidp (H.out.call hb); clear cr; clear hb); (try simp only [Act.put, aQ]); have tk3 := hT) | (clear tk3; (refine Mm.ld0 naDK H rfl (.tmp 15) 0 (.int .u8 (k : Int)) rfl rfl rfl ?_); (try simp only [Act.put, aQ]); have tk4 := hT) | (clear tk4; (go_at_call 112; refine (ck.out _).mono ?_; rintro e _ ⟨rfl, hb⟩; replace H := hidp (H.out.call hb); clear ck; clear hb); (try simp only [Act.put, aQ]); have tk5 := hT))
   try clear tk5
   go_ret
   exact ⟨by rw [HF.out]; rfl, H.out.below⟩
end Go.Proofs.YtokakgjcegmabaaGreatDoor.Ho
namespace Go.Proofs.YtokakgjcegmabaaGreatDoor.Ho
open Go.RowKit
open List (getElem_toArray getElem_cons_zero getElem_cons_succ setIfInBounds_toArray set_cons_zero set_cons_succ)
theorem rtext_any (w : World) (d : De) (hd : d.ok) :
 Calls Tryz.prog 59 #[.agg d.row.toArray] w fun e w' => e = .returned (.tuple #[.string (dT d), .int .i64 (dE d)]) ∧ Below w.heap.size w w' := by
 obtain ⟨k, r, ep, ix, hu, nx, sg⟩ := d
 have cc := hidp (show ∀ W, Calls Tryz.prog 111 #[.agg #[.int .u8 (k : Int), .string r, .int .i64 ep, .int .i64 ix, .int .i64 hu, .int .i64 nx, .string sg]] W (fun e w' => e = .returned (.int .i64 (dE (⟨k, r, ep, ix, hu, nx, sg⟩ : De))) ∧ Below W.heap.size W w') from fun W => rdcheck_any W (⟨k, r, ep, ix, hu, nx, sg⟩ : De) hd)
 have ck := hidp (fun W => rword_any W k hd.1)
 show Calls Tryz.prog 59 #[.agg #[.int .u8 (k : Int), .string r, .int .i64 ep, .int .i64 ix, .int .i64 hu, .int .i64 nx, .string sg]] w _
 have H := hidp (Mm.M.nil w)
 cases hok : dOk (⟨k, r, ep, ix, hu, nx, sg⟩ : De) with
 | false =>
   rw [dE_no hok] at cc ⊢
   rw [dT_no hok]
   clear hok ck
   go_enter Tryz.func59, Tryz.ntmps59
   have tk0 := hT
   go_wp2_with (first | (clear tk0; (refine Mm.box 26 H rfl (.tmp 0) rfl [.int .u8 (k : Int), .string r, .int .i64 ep, .int .i64 ix, .int .i64 hu, .int .i64 nx, .string sg] rfl ?_; clear H; intro b1 _ H nw; clear nw); (try simp only [Act.put, aQ]); have tk1 := hT) | (clear tk1; (refine Mm.get0 rtD H rfl (.tmp 1) rfl rfl rfl ?_); (try simp only [Act.put, aQ]); have tk2 := hT) | (clear tk2; (go_at_call 111; refine (cc.out _).mono ?_; rintro e _ ⟨rfl, hb⟩; replace H := hidp (H.out.call hb); clear cc; clear hb); (try simp only [Act.put, aQ]); have tk3 := hT))
   try clear tk3
   go_ret2
   exact ⟨rfl, H.out.below⟩
 | true =>
   rw [dE_yes hok] at cc ⊢
   obtain ⟨h1, ⟨nn, h2⟩, h3, h4, h5, h6, h7, h8⟩ := dOk_parts hok
   simp only at h1 h2 h3 h4 h5 h6 h7 h8
   obtain ⟨ep, rfl⟩ := Int.eq_ofNat_of_zero_le h3.1
   obtain ⟨ix, rfl⟩ := Int.eq_ofNat_of_zero_le h4.1
   obtain ⟨hu, rfl⟩ := Int.eq_ofNat_of_zero_le h5.1
   obtain ⟨nx, rfl⟩ := Int.eq_ofNat_of_zero_le h6.1
   have hk3 : k < 3 := by omega
   have c0 : (0 : Int) ≤ (k : Int) := by omega
   have c1 : (k : Int) < 3 := by omega
   obtain ⟨L0, hL0⟩ : ∃ L, dL (⟨k, r, ep, ix, hu, nx, sg⟩ : De) = L := ⟨_, rfl⟩
   have hL0' : L0 = [dwd k, r, mkS (encN ep), mkS (encN ix), mkS (encN hu), mkS (encN nx)] := by rw [← hL0]; rfl
   have hLok := dL_ok hok
   have HF := hidp (show dT (⟨k, r, ep, ix, hu, nx, sg⟩ : De) = listS L0 ∧ (0 : Int) = listE L0 from by rw [dT_yes hok, hL0, listS_yes (hL0 ▸ hLok), listE_yes (hL0 ▸ hLok)]; exact ⟨rfl, rfl⟩)
   rw [hL0] at hLok
   have cl := hidp (fun W v (hat : StrsAt W v L0) => refList_any W v L0 hat (by have := hLok.1; omega) (fun s hs => by have := hLok.2 s hs; omega))
   rw [HF.out.1, HF.out.2]
   have HT2 := hidp (show strV (L0.take (2 + 0)) = [.string (dwd k), .string r] from by rw [hL0']; rfl)
   have ht6 : L0.take (2 + 4) = L0 := by rw [hL0']; rfl
   have HN := hidp (show ∀ i, i < 4 → ∃ y : Nat, ([.int .i64 (ep : Int), .int .i64 (ix : Int), .int .i64 (hu : Int), .int .i64 (nx : Int)] : List Value)[i]? = some (.int .i64 (y : Int)) ∧ L0.take (2 + i) ++ [mkS (encN y)] = L0.take (2 + (i + 1)) from by
    rw [hL0']
    intro i hi
    rcases (by omega : i = 0 ∨ i = 1 ∨ i = 2 ∨ i = 3) with rfl | rfl | rfl | rfl
    · exact ⟨ep, rfl, rfl⟩
    · exact ⟨ix, rfl, rfl⟩
    · exact ⟨hu, rfl, rfl⟩
    · exact ⟨nx, rfl, rfl⟩)
   have HNB := hidp (show ∀ (i y : Nat), ([.int .i64 (ep : Int), .int .i64 (ix : Int), .int .i64 (hu : Int), .int .i64 (nx : Int)] : List Value)[i]? = some (.int .i64 (y : Int)) → y ≤ 4096 from by
    intro i y hy
    have hm := List.mem_of_getElem? hy
    simp only [List.mem_cons, Value.int.injEq, List.not_mem_nil, or_false, true_and] at hm
    omega)
   clear hok h1 h2 h3 h4 h5 h6 h7 h8 hL0 hL0' hLok hd
   go_enter Tryz.func59, Tryz.ntmps59
   have tk0 := hT
   go_wp2_with (first | (clear tk0; (refine Mm.box 26 H rfl (.tmp 0) rfl [.int .u8 (k : Int), .string r, .int .i64 (ep : Int), .int .i64 (ix : Int), .int .i64 (hu : Int), .int .i64 (nx : Int), .string sg] rfl ?_; clear H; intro b1 _ H nw; clear nw); (try simp only [Act.put, aQ]); have tk1 := hT) | (clear tk1; (refine Mm.get0 rtD H rfl (.tmp 1) rfl rfl rfl ?_); (try simp only [Act.put, aQ]); have tk2 := hT) | (clear tk2; (go_at_call 111; refine (cc.out _).mono ?_; rintro e _ ⟨rfl, hb⟩; replace H := hidp (H.out.call hb); clear cc; clear hb); (try simp only [Act.put, aQ]); have tk3 := hT))
   try clear tk3
   refine Mm.region H (.take 0 (.take 1 (.take 3 (.take 4 (.one 2 (.one 5 (.take 6 .done))))))) (by kernel_rfl) (by kernel_rfl) (by simp [Scr.depth]) (by kernel_rfl) ?_
   clear H
   intro _ H hb
   clear hb
   apply s_val
   case ho | hw => rfl
   case hv => intro w hw; go_simp; first | done | rfl
   simp only [Act.put, aP]
   refine Mm.sld0 naDK (fun w h => h) rfl rfl (.tmp 12) 0 (.int .u8 (k : Int)) rfl rfl rfl ?_
   simp only [Act.put, aP]
   apply s_val
   case ho | hw => rfl
   case hv => intro w hw; go_simp; first | done | rfl
   simp only [Act.put, aP]
   refine Mm.sld0 naS (fun w h => h) rfl rfl (.tmp 15) 1 _ rfl rfl rfl ?_
   simp only [Act.put, aP]
   refine Mm.o_callH (v := .string (dwd k)) H (fun W h => h) rfl rfl 112 (#[.int .u8 (k : Int)]) (by go_simp; first | done | rfl) (ck.out _) ?_
   clear H
   intro _ H hb
   clear hb
   simp only [Act.put, aP]
   refine Sl.o_bsS2 H (fun W h => h) rfl rfl _ _ (dwd k) r rfl rfl rfl ?_
   clear H
   intro b6 _ H nw
   have hb := nw.below
   clear hb nw
   simp only [Act.put, aP]
   apply s_val
   case ho | hw => rfl
   case hv => intro w hw; go_simp; first | done | rfl
   simp only [Act.put, aP]
   refine NoPanic.normal ?_
   clear ck
   have HO := hidp (Sl.own_top H.out (by simp))
   replace H := hidp H.out.tail
   have tk0 := hT
   go_wp2_with (first | (clear tk0; (refine Mm.ld0 naI H rfl (.tmp 18) 2 _ rfl rfl rfl ?_); (try simp only [Act.put, aQ]); have tk1 := hT) | (clear tk1; (refine Mm.ld0 naI H rfl (.tmp 20) 3 _ rfl rfl rfl ?_); (try simp only [Act.put, aQ]); have tk2 := hT) | (clear tk2; (refine Mm.ld0 naI H rfl (.tmp 22) 4 _ rfl rfl rfl ?_); (try simp only [Act.put, aQ]); have tk3 := hT) | (clear tk3; (refine Mm.ld0 naI H rfl (.tmp 24) 5 _ rfl rfl rfl ?_); (try simp only [Act.put, aQ]); have tk4 := hT) | (clear tk4; (refine Sl.wpL_bsI4 H rfl (.tmp 19) (.tmp 21) (.tmp 23) (.tmp 25) (ep : Int) (ix : Int) (hu : Int) (nx : Int) rfl rfl rfl rfl rfl ?_; clear H; intro b9 _ H nw; have hb := nw.below; replace HO := hidp (Sl.own_to HO.out hb); clear hb nw); (try simp only [Act.put, aQ]); have tk5 := hT))
   try clear tk5
   have HB0 := hidp H.out.below
   go_loopw [4, 28] (fun t4 t28 wr => ∃ (i : Nat) (v : Value), t28 = .int .i64 (i : Int) ∧ t4 = v ∧ i ≤ 4 ∧ OwnV wr w.heap.size 9 v (strV (L0.take (2 + i))) ∧ Mm.M w.heap.size w wr [⟨b9, 3, [.int .i64 (ep : Int), .int .i64 (ix : Int), .int .i64 (hu : Int), .int .i64 (nx : Int)]⟩]) (fun _ t28 _ => 4 - (intOf t28).toNat)
   case atStart => exact ⟨0, _, rfl, rfl, by omega, by rw [HT2.out]; exact HO.out, H.out.sub (by simp)⟩
   case round =>
    clear HO HB0 H
    obtain ⟨i, v, rfl, rfl, hi, hown, hM⟩ := hrel
    have HO := hidp hown; have H := hidp hM
    clear hown hM
    by_cases hlt : i < 4
    · have e1 : decide ((i : Int) < 4) = true := by simp; omega
      obtain ⟨y, hy, hy2⟩ := HN.out i hlt
      have hyb := HNB.out i y hy
      have HYY := hidp hy
      have w1 : IntKind.u64.wrap (y : Int) = (y : Int) := by unfold IntKind.wrap; simp [IntKind.bits, IntKind.signed]; omega
      have cu := hidp (fun W => refNum_any W y (by omega))
      rw [numS_yes (by omega), numE_yes (by omega)] at cu
      clear hy
      have tk0 := hT
      go_wp2_with (first | (clear tk0; (refine Sl.wpL_idx1 Sl.tyI (by kernel_rfl) rfl (.tmp 26) (.tmp 28) rfl b9 0 4 4 i rfl rfl hlt ?_); (try simp only [Act.put, aQ]); have tk1 := hT) | (clear tk1; (refine Mm.ldc naI rfl (.tmp 30) _ (.int .i64 (y : Int)) rfl rfl (by rw [Nat.zero_add]; obtain ⟨hl, he⟩ := List.getElem?_eq_some_iff.1 HYY.out; exact (H.out.at0.cell i hl).trans (by rw [he])) ?_); (try simp only [Act.put, aQ]); have tk2 := hT) | (clear tk2; (go_at_call 86; refine (cu.out _).mono ?_; rintro e _ ⟨rfl, hb⟩; replace H := hidp (H.out.call hb); clear cu; replace HO := hidp (Sl.own_to HO.out hb); clear hb); (try simp only [Act.put, aQ]); have tk3 := hT) | (clear tk3; (refine Sl.wpL_bsS1 H rfl (.tmp 39) _ rfl rfl ?_; clear H; intro b8 _ H nw; have hb := nw.below; replace HO := hidp (Sl.own_to HO.out hb); clear hb nw); (try simp only [Act.put, aQ]); have tk4 := hT) | (clear tk4; (refine wpL_appGS rfl (.tmp 38) (.tmp 40) rfl w.heap.size _ _ b8 _ _ rfl rfl HO.out H.out.at0 rfl (by rw [strV_length, List.length_take]; omega) H.out.le ?_; intro v2 W5 ho2 hg2 hb2; have HB9 := hidp (own_keeps HO.out hg2 H.out.at1 (by decide)); have HB := hidp (H.out.below.trans hb2); have HO2 := hidp ho2; have HLE := hidp (Nat.le_trans H.out.le hb2.size); have HGE := hidp (H.out.ge ⟨b9, 3, [.int .i64 (ep : Int), .int .i64 (ix : Int), .int .i64 (hu : Int), .int .i64 (nx : Int)]⟩ (by simp)); clear ho2 hb2 hg2); (try simp only [Act.put, aQ]); have tk5 := hT))
      try clear tk5
      refine ⟨⟨i + 1, v2, by go_num, rfl, by omega, ?_, ⟨HB.out, HLE.out, fun x hx => (by simp at hx; subst hx; exact HGE.out), List.pairwise_singleton _ _, fun x hx => (by simp at hx; subst hx; exact HB9.out)⟩⟩, by simp [intOf]; omega⟩
      have h := HO2.out
      rw [strV_snoc, hy2] at h
      exact h
    · have e1 : decide ((i : Int) < 4) = false := by simp; omega
      have hti : L0.take (2 + i) = L0 := by rw [show i = 4 from by omega]; exact ht6
      have tk0 := hT
      go_wp2_with (first | (clear tk0; (go_at_call 87; refine (cl.out _ _ (by have := HO.out.strs; rw [hti] at this; exact this)).mono ?_; rintro e _ ⟨rfl, hb⟩; replace H := hidp (H.out.call hb); clear cl; clear hb); (try simp only [Act.put, aQ]); have tk1 := hT))
      try clear tk1
      go_ret2
      exact ⟨rfl, H.out.below⟩
end Go.Proofs.YtokakgjcegmabaaGreatDoor.Ho
