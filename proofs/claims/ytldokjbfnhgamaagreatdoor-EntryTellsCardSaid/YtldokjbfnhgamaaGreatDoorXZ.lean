/-
  Joined: EnT.
-/
import Derived.Test.YtldokjbfnhgamaaGreatDoorXX
import Derived.Test.YtldokjbfnhgamaaGreatDoorXR2
import Derived.Test.YtldokjbfnhgamaaGreatDoorXY
namespace Go.Proofs.YtldokjbfnhgamaaGreatDoor.En
set_option maxRecDepth 100000
set_option linter.unusedVariables false
set_option linter.unusedSimpArgs false
open Go.RowKit
open List (getElem_toArray getElem_cons_zero getElem_cons_succ setIfInBounds_toArray set_cons_zero set_cons_succ)

section
variable {ops : Array Oper} {Q : Exit → Act → World → Prop} {S : World → Prop} {k : Nat} {o : Oper} {s : Scr} {a : Act} {w : World}
theorem s_eqE (ho : ops[k]? = some o) (hw : Region.wanted o (yielded ops a.tmps) = true) (x y : Operand) (u : TypeId) (hop : o.op = .binOp .eql 55 x y u)
    (e : En) (he : e.p.length = 32) (hx : a.eval x = .agg e.row.toArray) (hy : a.eval y = .agg e.row.toArray) (h : wpScr Tryz.prog ops Q s S (a.put o.dst (.bool true)) w) : wpScr Tryz.prog ops Q (.take k s) S a w :=
  s_val ho hw (fun w _ => by
    unfold execOp
    simp only [hop, hx, hy, Sem.run_bind, run_eqGuard_agg (P := Tryz.prog) _ _ _ _ _ _ _ guard_en, run_eql_struct, eqin_en w e he, Result.andThen_ok, Sem.run_pure]) h
theorem s_eqHs (ho : ops[k]? = some o) (hw : Region.wanted o (yielded ops a.tmps) = true) (x y : Operand) (u : TypeId) (hop : o.op = .binOp .eql 53 x y u)
    (l : List UInt8) (hl : l.length = 32) (hx : a.eval x = .agg (u8s l).toArray) (hy : a.eval y = .agg (u8s l).toArray) (h : wpScr Tryz.prog ops Q s S (a.put o.dst (.bool true)) w) : wpScr Tryz.prog ops Q (.take k s) S a w :=
  s_val ho hw (fun w _ => by
    unfold execOp
    simp only [hop, hx, hy, Sem.run_bind, run_eqGuard_agg (P := Tryz.prog) _ _ _ _ _ _ _ guard_hash, eql_hash w l l hl hl, decide_true, Result.andThen_ok, Sem.run_pure]) h
end
theorem esmV_len (x : En) : (esmV x).length = 32 := by unfold esmV; split; exact shaL_len _; rfl
theorem erV_len (t : ByteArray) : (erV t).p.length = 32 := by
  unfold erV
  cases h : er t with
  | none => rfl
  | some x => exact (er_some h).2.2.2

set_option maxHeartbeats 64000000 in
theorem walk_entryTells (w : World) (x : En) (hx : x.ok) (s : ByteArray) (hs : s.size ≤ 140737488351232) (hL : IT w ∧ KT w) :
    Calls Tryz.prog 7 #[.agg x.row.toArray, .string s] w fun e w' => e = .returned (.bool true) ∧ Below w.heap.size w w' := by
  obtain ⟨hI, hK⟩ := hL
  have hkp := hK.pos
  have HI := hidp hI; have HK := hidp hK; clear hI hK
  have H := hidp (Mm.M.nil w)
  have HP := hidp hx.p
  by_cases hbig : s.size > 16384
  · have e1 : decide ((s.size : Int) > 16384) = true := by simp; omega
    have n1 : (16384 : Int) < (s.size : Int) := by omega
    clear hx
    go_enter Tryz.func7, Tryz.ntmps7
    have tk0 := hidp trivial
    go_wp2_with (first | (clear tk0; (refine Mm.box 55 H rfl (.tmp 0) rfl x.row rfl ?_; clear H; intro b2 _ H nw; have hb := nw.below; clear hb nw); (try simp only [Act.put, setIfInBounds_toArray, set_cons_zero, set_cons_succ]); have tk1 := hidp trivial) | (clear tk1; (go_at_call 31; refine (lives19_any _ (HI.out.below H.out.below (Nat.le_refl _)) (HK.out.below H.out.below hkp)).mono ?_; rintro e _ ⟨rfl, hb⟩; replace H := hidp (H.out.call hb); clear hb); (try simp only [Act.put, setIfInBounds_toArray, set_cons_zero, set_cons_succ]); have tk2 := hidp trivial))
    try clear tk2
    go_ret
    exact ⟨rfl, H.out.below⟩
  have e1 : decide ((s.size : Int) > 16384) = false := by simp; omega
  have n1 : ¬ (16384 : Int) < (s.size : Int) := by omega
  have c1 := hidp (fun W h => etext_any W x hx h)
  have d1 := hidp (fun W => rtext_any W x hx)
  have c2 := hidp (fun W h k => esum_any W x hx h k)
  have d2 := hidp (fun W => rsum19_any W x hx)
  have c3 := hidp (fun W h => ebytes_any W x hx h)
  have d3 := hidp (fun W => rbytes_any W x hx)
  have c4 := hidp (fun W h => eparse_any W s (by omega) h)
  have d4 := hidp (fun W => rparse_any W s (by omega))
  have c5 := hidp (fun W h => eread_any W s (by omega) h)
  have d5 := hidp (fun W => rread_any W s (by omega))
  have c6 := hidp (fun W h => echeck_any W x hx h)
  have d6 := hidp (fun W => rcheck_any W x hx)
  have HY := hidp (epV_ok s).p
  have HZ := hidp (erV_len s)
  have HU := hidp (esmV_len x)
  clear hx hbig
  obtain ⟨T, hT⟩ : ∃ B, eT x = B := ⟨_, rfl⟩
  obtain ⟨E1, hE1⟩ : ∃ B, eE x = B := ⟨_, rfl⟩
  obtain ⟨U, hU⟩ : ∃ B, esmV x = B := ⟨_, rfl⟩
  obtain ⟨B, hB⟩ : ∃ B, eB x = B := ⟨_, rfl⟩
  obtain ⟨E2, hE2⟩ : ∃ B, eBE x = B := ⟨_, rfl⟩
  obtain ⟨Y, hY⟩ : ∃ B, epV s = B := ⟨_, rfl⟩
  obtain ⟨E3, hE3⟩ : ∃ B, epE s = B := ⟨_, rfl⟩
  obtain ⟨Z, hZ⟩ : ∃ B, erV s = B := ⟨_, rfl⟩
  obtain ⟨E4, hE4⟩ : ∃ B, erE s = B := ⟨_, rfl⟩
  rw [hT, hE1] at c1 d1
  rw [hU, hE1] at c2 d2
  rw [hB, hE2] at c3 d3
  rw [hY, hE3] at c4 d4
  rw [hZ, hE4] at c5 d5
  rw [hE1] at c6 d6
  rw [hY] at HY
  rw [hZ] at HZ
  rw [hU] at HU
  have HU8 := hidp (show (u8s U).length = 32 from by rw [u8s_length]; exact HU.out)
  clear hT hE1 hU hB hE2 hY hE3 hZ hE4
  go_enter Tryz.func7, Tryz.ntmps7
  have tk0 := hidp trivial
  go_wp2_with (first | (clear tk0; (refine Mm.box 55 H rfl (.tmp 0) rfl x.row rfl ?_; clear H; intro b2 _ H nw; have hb := nw.below; clear hb nw); (try simp only [Act.put, setIfInBounds_toArray, set_cons_zero, set_cons_succ]); have tk1 := hidp trivial) | (clear tk1; (refine Mm.get0 rtE H rfl (.tmp 2) rfl rfl (En.len HP.out) ?_); (try simp only [Act.put, setIfInBounds_toArray, set_cons_zero, set_cons_succ]); have tk2 := hidp trivial) | (clear tk2; (go_at_call 34; refine (c1.out _ (HI.out.below H.out.below (Nat.le_refl _))).mono ?_; rintro e _ ⟨rfl, hb⟩; replace H := hidp (H.out.call hb); clear c1; clear hb); (try simp only [Act.put, setIfInBounds_toArray, set_cons_zero, set_cons_succ]); have tk3 := hidp trivial) | (clear tk3; (refine Mm.get0 rtE H rfl (.tmp 2) rfl rfl (En.len HP.out) ?_); (try simp only [Act.put, setIfInBounds_toArray, set_cons_zero, set_cons_succ]); have tk4 := hidp trivial) | (clear tk4; (go_at_call 35; refine (d1.out _).mono ?_; rintro e _ ⟨rfl, hb⟩; replace H := hidp (H.out.call hb); clear d1; clear hb); (try simp only [Act.put, setIfInBounds_toArray, set_cons_zero, set_cons_succ]); have tk5 := hidp trivial) | (clear tk5; (refine Mm.get0 rtE H rfl (.tmp 2) rfl rfl (En.len HP.out) ?_); (try simp only [Act.put, setIfInBounds_toArray, set_cons_zero, set_cons_succ]); have tk6 := hidp trivial) | (clear tk6; (go_at_call 36; refine (c2.out _ (HI.out.below H.out.below (Nat.le_refl _)) (HK.out.below H.out.below hkp)).mono ?_; rintro e _ ⟨rfl, hb⟩; replace H := hidp (H.out.call hb); clear hb); (try simp only [Act.put, setIfInBounds_toArray, set_cons_zero, set_cons_succ]); have tk7 := hidp trivial) | (clear tk7; (refine Mm.new rtH H (some 9) rfl rfl rfl ?_; clear H; intro b9 _ H nw; have hb := nw.below; clear hb nw); (try simp only [Act.put, setIfInBounds_toArray, set_cons_zero, set_cons_succ]); have tk8 := hidp trivial) | (clear tk8; (refine Mm.put0 rtH H rfl (.tmp 9) (.tmp 42) (u8s U) rfl rfl rfl HU8.out (u8_one _) rfl ?_; intro _ H2 st; clear st H; have H := H2; clear H2); (try simp only [Act.put, setIfInBounds_toArray, set_cons_zero, set_cons_succ]); have tk9 := hidp trivial) | (clear tk9; (refine Mm.get1 rtE H rfl (.tmp 2) rfl rfl (En.len HP.out) ?_); (try simp only [Act.put, setIfInBounds_toArray, set_cons_zero, set_cons_succ]); have tk10 := hidp trivial) | (clear tk10; (go_at_call 37; refine (d2.out _).mono ?_; rintro e _ ⟨rfl, hb⟩; replace H := hidp (H.out.call hb); clear hb); (try simp only [Act.put, setIfInBounds_toArray, set_cons_zero, set_cons_succ]); have tk11 := hidp trivial) | (clear tk11; (refine Mm.new rtH H (some 11) rfl rfl rfl ?_; clear H; intro b11 _ H nw; have hb := nw.below; clear hb nw); (try simp only [Act.put, setIfInBounds_toArray, set_cons_zero, set_cons_succ]); have tk12 := hidp trivial) | (clear tk12; (refine Mm.put0 rtH H rfl (.tmp 11) (.tmp 47) (u8s U) rfl rfl rfl HU8.out (u8_one _) rfl ?_; intro _ H2 st; clear st H; have H := H2; clear H2); (try simp only [Act.put, setIfInBounds_toArray, set_cons_zero, set_cons_succ]); have tk13 := hidp trivial) | (clear tk13; (refine Mm.get2 rtE H rfl (.tmp 2) rfl rfl (En.len HP.out) ?_); (try simp only [Act.put, setIfInBounds_toArray, set_cons_zero, set_cons_succ]); have tk14 := hidp trivial) | (clear tk14; (go_at_call 32; refine (c3.out _ (HI.out.below H.out.below (Nat.le_refl _))).mono ?_; rintro e _ ⟨rfl, hb⟩; replace H := hidp (H.out.call hb); clear c3; clear hb); (try simp only [Act.put, setIfInBounds_toArray, set_cons_zero, set_cons_succ]); have tk15 := hidp trivial) | (clear tk15; (refine Mm.get2 rtE H rfl (.tmp 2) rfl rfl (En.len HP.out) ?_); (try simp only [Act.put, setIfInBounds_toArray, set_cons_zero, set_cons_succ]); have tk16 := hidp trivial) | (clear tk16; (go_at_call 38; refine (d3.out _).mono ?_; rintro e _ ⟨rfl, hb⟩; replace H := hidp (H.out.call hb); clear d3; clear hb); (try simp only [Act.put, setIfInBounds_toArray, set_cons_zero, set_cons_succ]); have tk17 := hidp trivial) | (clear tk17; (go_at_call 33; refine (c4.out _ (HI.out.below H.out.below (Nat.le_refl _))).mono ?_; rintro e _ ⟨rfl, hb⟩; replace H := hidp (H.out.call hb); clear hb); (try simp only [Act.put, setIfInBounds_toArray, set_cons_zero, set_cons_succ]); have tk18 := hidp trivial) | (clear tk18; (refine Mm.new rtE H (some 17) rfl rfl rfl ?_; clear H; intro b17 _ H nw; have hb := nw.below; clear hb nw); (try simp only [Act.put, setIfInBounds_toArray, set_cons_zero, set_cons_succ]); have tk19 := hidp trivial) | (clear tk19; (refine Mm.put0 rtE H rfl (.tmp 17) (.tmp 62) Y.row rfl rfl rfl (En.len HY.out) (En.one Y) (En.len (rfl : zEn.p.length = 32)) ?_; intro _ H2 st; clear st H; have H := H2; clear H2); (try simp only [Act.put, setIfInBounds_toArray, set_cons_zero, set_cons_succ]); have tk20 := hidp trivial) | (clear tk20; (go_at_call 39; refine (d4.out _).mono ?_; rintro e _ ⟨rfl, hb⟩; replace H := hidp (H.out.call hb); clear hb); (try simp only [Act.put, setIfInBounds_toArray, set_cons_zero, set_cons_succ]); have tk21 := hidp trivial) | (clear tk21; (refine Mm.new rtE H (some 19) rfl rfl rfl ?_; clear H; intro b19 _ H nw; have hb := nw.below; clear hb nw); (try simp only [Act.put, setIfInBounds_toArray, set_cons_zero, set_cons_succ]); have tk22 := hidp trivial) | (clear tk22; (refine Mm.put0 rtE H rfl (.tmp 19) (.tmp 67) Y.row rfl rfl rfl (En.len HY.out) (En.one Y) (En.len (rfl : zEn.p.length = 32)) ?_; intro _ H2 st; clear st H; have H := H2; clear H2); (try simp only [Act.put, setIfInBounds_toArray, set_cons_zero, set_cons_succ]); have tk23 := hidp trivial) | (clear tk23; (go_at_call 40; refine (c5.out _ (HI.out.below H.out.below (Nat.le_refl _))).mono ?_; rintro e _ ⟨rfl, hb⟩; replace H := hidp (H.out.call hb); clear hb); (try simp only [Act.put, setIfInBounds_toArray, set_cons_zero, set_cons_succ]); have tk24 := hidp trivial) | (clear tk24; (refine Mm.new rtE H (some 21) rfl rfl rfl ?_; clear H; intro b21 _ H nw; have hb := nw.below; clear hb nw); (try simp only [Act.put, setIfInBounds_toArray, set_cons_zero, set_cons_succ]); have tk25 := hidp trivial) | (clear tk25; (refine Mm.put0 rtE H rfl (.tmp 21) (.tmp 72) Z.row rfl rfl rfl (En.len HZ.out) (En.one Z) (En.len (rfl : zEn.p.length = 32)) ?_; intro _ H2 st; clear st H; have H := H2; clear H2); (try simp only [Act.put, setIfInBounds_toArray, set_cons_zero, set_cons_succ]); have tk26 := hidp trivial) | (clear tk26; (go_at_call 41; refine (d5.out _).mono ?_; rintro e _ ⟨rfl, hb⟩; replace H := hidp (H.out.call hb); clear hb); (try simp only [Act.put, setIfInBounds_toArray, set_cons_zero, set_cons_succ]); have tk27 := hidp trivial) | (clear tk27; (refine Mm.new rtE H (some 23) rfl rfl rfl ?_; clear H; intro b23 _ H nw; have hb := nw.below; clear hb nw); (try simp only [Act.put, setIfInBounds_toArray, set_cons_zero, set_cons_succ]); have tk28 := hidp trivial) | (clear tk28; (refine Mm.put0 rtE H rfl (.tmp 23) (.tmp 77) Z.row rfl rfl rfl (En.len HZ.out) (En.one Z) (En.len (rfl : zEn.p.length = 32)) ?_; intro _ H2 st; clear st H; have H := H2; clear H2); (try simp only [Act.put, setIfInBounds_toArray, set_cons_zero, set_cons_succ]); have tk29 := hidp trivial))
  try clear tk29
  refine Mm.region H (.one 0 (.take 1 (.take 2 (.take 4 (.one 3 (.one 5 (.take 6 (.take 7 (.take 8 (.take 9 (.take 10 (.take 11 (.take 12 (.take 13 (.take 14 (.take 15 (.take 16 (.take 17 (.take 18 (.take 19 (.take 20 (.take 21 (.take 22 (.take 23 (.take 24 (.take 25 (.take 26 (.take 27 (.take 28 (.take 29 (.take 30 (.take 31 (.take 32 (.take 33 (.take 34 (.take 35 (.take 36 (.take 37 (.take 38 (.take 39 (.take 40 (.take 41 (.take 42 (.take 43 (.take 44 (.take 45 (.take 46 (.take 47 (.take 48 (.take 49 (.take 50 (.take 51 (.take 52 (.take 53 (.take 54 (.take 55 (.take 56 (.take 57 (.take 58 .done))))))))))))))))))))))))))))))))))))))))))))))))))))))))))) (by kernel_rfl) (by kernel_rfl) (by simp [Scr.depth]) (by kernel_rfl) ?_
  clear H
  intro _ H hb
  clear hb
  refine Mm.o_callH (v := .bool true) H (fun W h => h) rfl rfl 31 (#[]) (by go_simp; first | done | rfl) (lives19_any _ (HI.out.below H.out.below (Nat.le_refl _)) (HK.out.below H.out.below hkp)) ?_
  clear H
  intro _ H hb
  clear hb
  simp only [Act.put, getElem_toArray, getElem_cons_zero, getElem_cons_succ, setIfInBounds_toArray, set_cons_zero, set_cons_succ]
  apply s_val
  case ho | hw => rfl
  case hv => intro w hw; go_simp; first | done | rfl
  simp only [Act.put, getElem_toArray, getElem_cons_zero, getElem_cons_succ, setIfInBounds_toArray, set_cons_zero, set_cons_succ]
  refine Mm.sget6 rtE (fun w h => h) rfl rfl (.tmp 2) rfl rfl (En.len HP.out) ?_
  simp only [Act.put, getElem_toArray, getElem_cons_zero, getElem_cons_succ, setIfInBounds_toArray, set_cons_zero, set_cons_succ]
  refine Mm.sget6 rtE (fun w h => h) rfl rfl (.tmp 2) rfl rfl (En.len HP.out) ?_
  simp only [Act.put, getElem_toArray, getElem_cons_zero, getElem_cons_succ, setIfInBounds_toArray, set_cons_zero, set_cons_succ]
  refine Mm.o_callH (v := .int .i64 E1) H (fun W h => h) rfl rfl 42 (#[.agg x.row.toArray]) (by go_simp; first | done | rfl) (c6.out _ (HI.out.below H.out.below (Nat.le_refl _))) ?_
  clear H
  intro _ H hb
  clear hb
  simp only [Act.put, getElem_toArray, getElem_cons_zero, getElem_cons_succ, setIfInBounds_toArray, set_cons_zero, set_cons_succ]
  refine Mm.o_callH (v := .int .i64 E1) H (fun W h => h) rfl rfl 43 (#[.agg x.row.toArray]) (by go_simp; first | done | rfl) (d6.out _) ?_
  clear H
  intro _ H hb
  clear hb
  simp only [Act.put, getElem_toArray, getElem_cons_zero, getElem_cons_succ, setIfInBounds_toArray, set_cons_zero, set_cons_succ]
  apply s_val
  case ho | hw => rfl
  case hv => intro w hw; go_simp; first | done | rfl
  simp only [Act.put, getElem_toArray, getElem_cons_zero, getElem_cons_succ, setIfInBounds_toArray, set_cons_zero, set_cons_succ]
  apply s_val
  case ho | hw => rfl
  case hv => intro w hw; go_simp; first | done | rfl
  simp only [Act.put, getElem_toArray, getElem_cons_zero, getElem_cons_succ, setIfInBounds_toArray, set_cons_zero, set_cons_succ]
  apply s_val
  case ho | hw => rfl
  case hv => intro w hw; go_simp; first | done | rfl
  simp only [Act.put, getElem_toArray, getElem_cons_zero, getElem_cons_succ, setIfInBounds_toArray, set_cons_zero, set_cons_succ]
  apply s_val
  case ho | hw => rfl
  case hv => intro w hw; go_simp; first | done | rfl
  simp only [Act.put, getElem_toArray, getElem_cons_zero, getElem_cons_succ, setIfInBounds_toArray, set_cons_zero, set_cons_succ]
  apply s_val
  case ho | hw => rfl
  case hv => intro w hw; go_simp; first | done | rfl
  simp only [Act.put, getElem_toArray, getElem_cons_zero, getElem_cons_succ, setIfInBounds_toArray, set_cons_zero, set_cons_succ]
  apply s_val
  case ho | hw => rfl
  case hv => intro w hw; go_simp; first | done | rfl
  simp only [Act.put, getElem_toArray, getElem_cons_zero, getElem_cons_succ, setIfInBounds_toArray, set_cons_zero, set_cons_succ]
  apply s_val
  case ho | hw => rfl
  case hv => intro w hw; go_simp; first | done | rfl
  simp only [Act.put, getElem_toArray, getElem_cons_zero, getElem_cons_succ, setIfInBounds_toArray, set_cons_zero, set_cons_succ]
  apply s_val
  case ho | hw => rfl
  case hv => intro w hw; go_simp; first | done | rfl
  simp only [Act.put, getElem_toArray, getElem_cons_zero, getElem_cons_succ, setIfInBounds_toArray, set_cons_zero, set_cons_succ]
  apply s_val
  case ho | hw => rfl
  case hv => intro w hw; go_simp; first | done | rfl
  simp only [Act.put, getElem_toArray, getElem_cons_zero, getElem_cons_succ, setIfInBounds_toArray, set_cons_zero, set_cons_succ]
  apply s_val
  case ho | hw => rfl
  case hv => intro w hw; go_simp; first | done | rfl
  simp only [Act.put, getElem_toArray, getElem_cons_zero, getElem_cons_succ, setIfInBounds_toArray, set_cons_zero, set_cons_succ]
  apply s_val
  case ho | hw => rfl
  case hv => intro w hw; go_simp; first | done | rfl
  simp only [Act.put, getElem_toArray, getElem_cons_zero, getElem_cons_succ, setIfInBounds_toArray, set_cons_zero, set_cons_succ]
  apply s_val
  case ho | hw => rfl
  case hv => intro w hw; go_simp; first | done | rfl
  simp only [Act.put, getElem_toArray, getElem_cons_zero, getElem_cons_succ, setIfInBounds_toArray, set_cons_zero, set_cons_succ]
  apply s_val
  case ho | hw => rfl
  case hv => intro w hw; go_simp; first | done | rfl
  simp only [Act.put, getElem_toArray, getElem_cons_zero, getElem_cons_succ, setIfInBounds_toArray, set_cons_zero, set_cons_succ]
  refine Mm.sget5 rtH (fun w h => h) rfl rfl (.tmp 9) rfl rfl HU8.out ?_
  simp only [Act.put, getElem_toArray, getElem_cons_zero, getElem_cons_succ, setIfInBounds_toArray, set_cons_zero, set_cons_succ]
  refine Mm.sget4 rtH (fun w h => h) rfl rfl (.tmp 11) rfl rfl HU8.out ?_
  simp only [Act.put, getElem_toArray, getElem_cons_zero, getElem_cons_succ, setIfInBounds_toArray, set_cons_zero, set_cons_succ]
  refine s_eqHs rfl rfl _ _ _ rfl U HU.out rfl rfl ?_
  simp only [Act.put, getElem_toArray, getElem_cons_zero, getElem_cons_succ, setIfInBounds_toArray, set_cons_zero, set_cons_succ]
  apply s_val
  case ho | hw => rfl
  case hv => intro w hw; go_simp; first | done | rfl
  simp only [Act.put, getElem_toArray, getElem_cons_zero, getElem_cons_succ, setIfInBounds_toArray, set_cons_zero, set_cons_succ]
  apply s_val
  case ho | hw => rfl
  case hv => intro w hw; go_simp; first | done | rfl
  simp only [Act.put, getElem_toArray, getElem_cons_zero, getElem_cons_succ, setIfInBounds_toArray, set_cons_zero, set_cons_succ]
  apply s_val
  case ho | hw => rfl
  case hv => intro w hw; go_simp; first | done | rfl
  simp only [Act.put, getElem_toArray, getElem_cons_zero, getElem_cons_succ, setIfInBounds_toArray, set_cons_zero, set_cons_succ]
  apply s_val
  case ho | hw => rfl
  case hv => intro w hw; go_simp; first | done | rfl
  simp only [Act.put, getElem_toArray, getElem_cons_zero, getElem_cons_succ, setIfInBounds_toArray, set_cons_zero, set_cons_succ]
  apply s_val
  case ho | hw => rfl
  case hv => intro w hw; go_simp; first | done | rfl
  simp only [Act.put, getElem_toArray, getElem_cons_zero, getElem_cons_succ, setIfInBounds_toArray, set_cons_zero, set_cons_succ]
  apply s_val
  case ho | hw => rfl
  case hv => intro w hw; go_simp; first | done | rfl
  simp only [Act.put, getElem_toArray, getElem_cons_zero, getElem_cons_succ, setIfInBounds_toArray, set_cons_zero, set_cons_succ]
  apply s_val
  case ho | hw => rfl
  case hv => intro w hw; go_simp; first | done | rfl
  simp only [Act.put, getElem_toArray, getElem_cons_zero, getElem_cons_succ, setIfInBounds_toArray, set_cons_zero, set_cons_succ]
  apply s_val
  case ho | hw => rfl
  case hv => intro w hw; go_simp; first | done | rfl
  simp only [Act.put, getElem_toArray, getElem_cons_zero, getElem_cons_succ, setIfInBounds_toArray, set_cons_zero, set_cons_succ]
  apply s_val
  case ho | hw => rfl
  case hv => intro w hw; go_simp; first | done | rfl
  simp only [Act.put, getElem_toArray, getElem_cons_zero, getElem_cons_succ, setIfInBounds_toArray, set_cons_zero, set_cons_succ]
  apply s_val
  case ho | hw => rfl
  case hv => intro w hw; go_simp; first | done | rfl
  simp only [Act.put, getElem_toArray, getElem_cons_zero, getElem_cons_succ, setIfInBounds_toArray, set_cons_zero, set_cons_succ]
  apply s_val
  case ho | hw => rfl
  case hv => intro w hw; go_simp; first | done | rfl
  simp only [Act.put, getElem_toArray, getElem_cons_zero, getElem_cons_succ, setIfInBounds_toArray, set_cons_zero, set_cons_succ]
  apply s_val
  case ho | hw => rfl
  case hv => intro w hw; go_simp; first | done | rfl
  simp only [Act.put, getElem_toArray, getElem_cons_zero, getElem_cons_succ, setIfInBounds_toArray, set_cons_zero, set_cons_succ]
  apply s_val
  case ho | hw => rfl
  case hv => intro w hw; go_simp; first | done | rfl
  simp only [Act.put, getElem_toArray, getElem_cons_zero, getElem_cons_succ, setIfInBounds_toArray, set_cons_zero, set_cons_succ]
  apply s_val
  case ho | hw => rfl
  case hv => intro w hw; go_simp; first | done | rfl
  simp only [Act.put, getElem_toArray, getElem_cons_zero, getElem_cons_succ, setIfInBounds_toArray, set_cons_zero, set_cons_succ]
  apply s_val
  case ho | hw => rfl
  case hv => intro w hw; go_simp; first | done | rfl
  simp only [Act.put, getElem_toArray, getElem_cons_zero, getElem_cons_succ, setIfInBounds_toArray, set_cons_zero, set_cons_succ]
  apply s_val
  case ho | hw => rfl
  case hv => intro w hw; go_simp; first | done | rfl
  simp only [Act.put, getElem_toArray, getElem_cons_zero, getElem_cons_succ, setIfInBounds_toArray, set_cons_zero, set_cons_succ]
  apply s_val
  case ho | hw => rfl
  case hv => intro w hw; go_simp; first | done | rfl
  simp only [Act.put, getElem_toArray, getElem_cons_zero, getElem_cons_succ, setIfInBounds_toArray, set_cons_zero, set_cons_succ]
  refine Mm.sget3 rtE (fun w h => h) rfl rfl (.tmp 17) rfl rfl (En.len HY.out) ?_
  simp only [Act.put, getElem_toArray, getElem_cons_zero, getElem_cons_succ, setIfInBounds_toArray, set_cons_zero, set_cons_succ]
  refine Mm.sget2 rtE (fun w h => h) rfl rfl (.tmp 19) rfl rfl (En.len HY.out) ?_
  simp only [Act.put, getElem_toArray, getElem_cons_zero, getElem_cons_succ, setIfInBounds_toArray, set_cons_zero, set_cons_succ]
  refine s_eqE rfl rfl _ _ _ rfl _ HY.out rfl rfl ?_
  simp only [Act.put, getElem_toArray, getElem_cons_zero, getElem_cons_succ, setIfInBounds_toArray, set_cons_zero, set_cons_succ]
  apply s_val
  case ho | hw => rfl
  case hv => intro w hw; go_simp; first | done | rfl
  simp only [Act.put, getElem_toArray, getElem_cons_zero, getElem_cons_succ, setIfInBounds_toArray, set_cons_zero, set_cons_succ]
  apply s_val
  case ho | hw => rfl
  case hv => intro w hw; go_simp; first | done | rfl
  simp only [Act.put, getElem_toArray, getElem_cons_zero, getElem_cons_succ, setIfInBounds_toArray, set_cons_zero, set_cons_succ]
  apply s_val
  case ho | hw => rfl
  case hv => intro w hw; go_simp; first | done | rfl
  simp only [Act.put, getElem_toArray, getElem_cons_zero, getElem_cons_succ, setIfInBounds_toArray, set_cons_zero, set_cons_succ]
  apply s_val
  case ho | hw => rfl
  case hv => intro w hw; go_simp; first | done | rfl
  simp only [Act.put, getElem_toArray, getElem_cons_zero, getElem_cons_succ, setIfInBounds_toArray, set_cons_zero, set_cons_succ]
  apply s_val
  case ho | hw => rfl
  case hv => intro w hw; go_simp; first | done | rfl
  simp only [Act.put, getElem_toArray, getElem_cons_zero, getElem_cons_succ, setIfInBounds_toArray, set_cons_zero, set_cons_succ]
  apply s_val
  case ho | hw => rfl
  case hv => intro w hw; go_simp; first | done | rfl
  simp only [Act.put, getElem_toArray, getElem_cons_zero, getElem_cons_succ, setIfInBounds_toArray, set_cons_zero, set_cons_succ]
  apply s_val
  case ho | hw => rfl
  case hv => intro w hw; go_simp; first | done | rfl
  simp only [Act.put, getElem_toArray, getElem_cons_zero, getElem_cons_succ, setIfInBounds_toArray, set_cons_zero, set_cons_succ]
  refine Mm.sget1 rtE (fun w h => h) rfl rfl (.tmp 21) rfl rfl (En.len HZ.out) ?_
  simp only [Act.put, getElem_toArray, getElem_cons_zero, getElem_cons_succ, setIfInBounds_toArray, set_cons_zero, set_cons_succ]
  refine Mm.sget0 rtE (fun w h => h) rfl rfl (.tmp 23) rfl rfl (En.len HZ.out) ?_
  simp only [Act.put, getElem_toArray, getElem_cons_zero, getElem_cons_succ, setIfInBounds_toArray, set_cons_zero, set_cons_succ]
  refine s_eqE rfl rfl _ _ _ rfl _ HZ.out rfl rfl ?_
  simp only [Act.put, getElem_toArray, getElem_cons_zero, getElem_cons_succ, setIfInBounds_toArray, set_cons_zero, set_cons_succ]
  apply s_val
  case ho | hw => rfl
  case hv => intro w hw; go_simp; first | done | rfl
  simp only [Act.put, getElem_toArray, getElem_cons_zero, getElem_cons_succ, setIfInBounds_toArray, set_cons_zero, set_cons_succ]
  apply s_val
  case ho | hw => rfl
  case hv => intro w hw; go_simp; first | done | rfl
  simp only [Act.put, getElem_toArray, getElem_cons_zero, getElem_cons_succ, setIfInBounds_toArray, set_cons_zero, set_cons_succ]
  apply s_val
  case ho | hw => rfl
  case hv => intro w hw; go_simp; first | done | rfl
  simp only [Act.put, getElem_toArray, getElem_cons_zero, getElem_cons_succ, setIfInBounds_toArray, set_cons_zero, set_cons_succ]
  apply s_val
  case ho | hw => rfl
  case hv => intro w hw; go_simp; first | done | rfl
  simp only [Act.put, getElem_toArray, getElem_cons_zero, getElem_cons_succ, setIfInBounds_toArray, set_cons_zero, set_cons_succ]
  apply s_val
  case ho | hw => rfl
  case hv => intro w hw; go_simp; first | done | rfl
  simp only [Act.put, getElem_toArray, getElem_cons_zero, getElem_cons_succ, setIfInBounds_toArray, set_cons_zero, set_cons_succ]
  apply s_val
  case ho | hw => rfl
  case hv => intro w hw; go_simp; first | done | rfl
  simp only [Act.put, getElem_toArray, getElem_cons_zero, getElem_cons_succ, setIfInBounds_toArray, set_cons_zero, set_cons_succ]
  apply s_val
  case ho | hw => rfl
  case hv => intro w hw; go_simp; first | done | rfl
  simp only [Act.put, getElem_toArray, getElem_cons_zero, getElem_cons_succ, setIfInBounds_toArray, set_cons_zero, set_cons_succ]
  refine NoPanic.normal ?_
  go_wp2
  go_ret
  exact ⟨rfl, H.out.below⟩
end Go.Proofs.YtldokjbfnhgamaaGreatDoor.En
