/-
  Joined: HdV.
-/
import Derived.Test.YtbgooppmhgaicaaGreatDoorCU4
import Derived.Test.YtbgooppmhgaicaaGreatDoorCU6
namespace Go.Proofs.YtbgooppmhgaicaaGreatDoor.Hd
set_option maxRecDepth 100000
set_option linter.unusedVariables false
set_option linter.unusedSimpArgs false
open Go.RowKit
open List (getElem_toArray getElem_cons_zero getElem_cons_succ setIfInBounds_toArray set_cons_zero set_cons_succ)
open En (cnt num4 num4_in z32e naS naI rtH u8_one hsV hsE hsV_len ohash_any s_cnv wpL_slc or4 or4_zero or4_any four s_bld wpL_bsE4)
open En (eOk eE)
section
variable {ops : Array Oper} {Q : Exit → Act → World → Prop} {S : World → Prop} {k : Nat} {o : Oper} {s : Scr} {a : Act} {w : World}
theorem s_eqHd (ho : ops[k]? = some o) (hw : Region.wanted o (yielded ops a.tmps) = true) (x y : Operand) (u : TypeId) (hop : o.op = .binOp .eql 53 x y u)
    (e : Hd) (he : e.p.length = 32) (hx : a.eval x = .agg e.row.toArray) (hy : a.eval y = .agg e.row.toArray) (h : wpScr Tryz.prog ops Q s S (a.put o.dst (.bool true)) w) : wpScr Tryz.prog ops Q (.take k s) S a w :=
  s_val ho hw (fun w _ => by
    unfold execOp
    simp only [hop, hx, hy, Sem.run_bind, run_eqGuard_agg (P := Tryz.prog) _ _ _ _ _ _ _ guard_hd, run_eql_struct, eqin_hdd w e he, Result.andThen_ok, Sem.run_pure]) h
end
theorem jpV_len (t : ByteArray) : (jpV t).p.length = 32 := by
  unfold jpV
  cases h : jP t with
  | none => rfl
  | some x => exact (jP_some h).2.2.2
theorem jrV_len (t : ByteArray) : (jrV t).p.length = 32 := by
  unfold jrV
  cases h : jr t with
  | none => rfl
  | some x => exact (jr_some h).2.2.2
theorem jOf_len (x : En.En) : (jOf x).p.length = 32 := by
  unfold jOf
  split
  · exact esm_len x
  · rfl

set_option maxHeartbeats 64000000 in
theorem walk_headTells (w : World) (x : Hd) (hx : x.ok) (s : ByteArray) (hs : s.size ≤ 140737488351232) (y : En.En) (hy : y.ok) (hL : IT w ∧ KT w) :
    Calls Tryz.prog 5 #[.agg x.row.toArray, .string s, .agg y.row.toArray] w fun e w' => e = .returned (.bool true) ∧ Below w.heap.size w w' := by
  obtain ⟨hI, hK⟩ := hL
  have hkp := hK.pos
  have HI := hidp hI; have HK := hidp hK; clear hI hK
  have H := hidp (Mm.M.nil w)
  have HP := hidp hx.p
  have HQ := hidp hy.p
  by_cases hbig : s.size > 16384
  · have e1 : decide ((s.size : Int) > 16384) = true := by simp; omega
    have n1 : (16384 : Int) < (s.size : Int) := by omega
    clear hx hy
    go_enter Tryz.func5, Tryz.ntmps5
    have tk0 := hidp trivial
    go_wp2_with (first | (clear tk0; (refine Mm.box 53 H rfl (.tmp 0) rfl x.row rfl ?_; clear H; intro b3 _ H nw; have hb := nw.below; clear hb nw); (try simp only [Act.put, setIfInBounds_toArray, set_cons_zero, set_cons_succ]); have tk1 := hidp trivial) | (clear tk1; (refine Mm.box 27 H rfl (.tmp 2) rfl y.row rfl ?_; clear H; intro b5 _ H nw; have hb := nw.below; clear hb nw); (try simp only [Act.put, setIfInBounds_toArray, set_cons_zero, set_cons_succ]); have tk2 := hidp trivial) | (clear tk2; (go_at_call 20; refine (lives21_any _ (HI.out.below H.out.below (Nat.le_refl _)) (HK.out.below H.out.below hkp)).mono ?_; rintro e _ ⟨rfl, hb⟩; replace H := hidp (H.out.call hb); clear hb); (try simp only [Act.put, setIfInBounds_toArray, set_cons_zero, set_cons_succ]); have tk3 := hidp trivial))
    try clear tk3
    go_ret
    exact ⟨rfl, H.out.below⟩
  have e1 : decide ((s.size : Int) > 16384) = false := by simp; omega
  have n1 : ¬ (16384 : Int) < (s.size : Int) := by omega
  have c1 := hidp (fun W h => jtext_any W x hx h)
  have d1 := hidp (fun W => rjtext_any W x hx)
  have c3 := hidp (fun W h => jbytes_any W x hx h)
  have d3 := hidp (fun W => rjbytes_any W x hx)
  have c4 := hidp (fun W h => jparse_any W s (by omega) h)
  have d4 := hidp (fun W => rjparse_any W s (by omega))
  have c5 := hidp (fun W h => jread_any W s (by omega) h)
  have d5 := hidp (fun W => rjread_any W s (by omega))
  have c6 := hidp (fun W h => jcheck_any W x hx h)
  have d6 := hidp (fun W => rjcheck_any W x hx)
  have c7 := hidp (fun W h k => jof_any W y hy h k)
  have d7 := hidp (fun W => rjof_any W y hy)
  have HY := hidp (jpV_len s)
  have HZ := hidp (jrV_len s)
  have HU := hidp (jOf_len y)
  have ge := guard_hd
  clear hx hy hbig
  obtain ⟨T, hT⟩ : ∃ B, jT x = B := ⟨_, rfl⟩
  obtain ⟨E1, hE1⟩ : ∃ B, jE x = B := ⟨_, rfl⟩
  obtain ⟨B, hB⟩ : ∃ B, jB x = B := ⟨_, rfl⟩
  obtain ⟨E2, hE2⟩ : ∃ B, jBE x = B := ⟨_, rfl⟩
  obtain ⟨Y, hY⟩ : ∃ B, jpV s = B := ⟨_, rfl⟩
  obtain ⟨E3, hE3⟩ : ∃ B, jpE s = B := ⟨_, rfl⟩
  obtain ⟨Z, hZ⟩ : ∃ B, jrV s = B := ⟨_, rfl⟩
  obtain ⟨E4, hE4⟩ : ∃ B, jrE s = B := ⟨_, rfl⟩
  obtain ⟨U, hU⟩ : ∃ B, jOf y = B := ⟨_, rfl⟩
  obtain ⟨E5, hE5⟩ : ∃ B, eE y = B := ⟨_, rfl⟩
  rw [hT, hE1] at c1 d1
  rw [hB, hE2] at c3 d3
  rw [hY, hE3] at c4 d4
  rw [hZ, hE4] at c5 d5
  rw [hE1] at c6 d6
  rw [hU, hE5] at c7 d7
  rw [hY] at HY
  rw [hZ] at HZ
  rw [hU] at HU
  clear hT hE1 hB hE2 hY hE3 hZ hE4 hU hE5
  go_enter Tryz.func5, Tryz.ntmps5
  have tk0 := hidp trivial
  go_wp2_with (first | (clear tk0; (refine Mm.box 53 H rfl (.tmp 0) rfl x.row rfl ?_; clear H; intro b3 _ H nw; have hb := nw.below; clear hb nw); (try simp only [Act.put, setIfInBounds_toArray, set_cons_zero, set_cons_succ]); have tk1 := hidp trivial) | (clear tk1; (refine Mm.box 27 H rfl (.tmp 2) rfl y.row rfl ?_; clear H; intro b5 _ H nw; have hb := nw.below; clear hb nw); (try simp only [Act.put, setIfInBounds_toArray, set_cons_zero, set_cons_succ]); have tk2 := hidp trivial) | (clear tk2; (refine Mm.get1 rtHd H rfl (.tmp 3) rfl rfl (Hd.len HP.out) ?_); (try simp only [Act.put, setIfInBounds_toArray, set_cons_zero, set_cons_succ]); have tk3 := hidp trivial) | (clear tk3; (go_at_call 21; refine (c1.out _ (HI.out.below H.out.below (Nat.le_refl _))).mono ?_; rintro e _ ⟨rfl, hb⟩; replace H := hidp (H.out.call hb); clear c1; clear hb); (try simp only [Act.put, setIfInBounds_toArray, set_cons_zero, set_cons_succ]); have tk4 := hidp trivial) | (clear tk4; (refine Mm.get1 rtHd H rfl (.tmp 3) rfl rfl (Hd.len HP.out) ?_); (try simp only [Act.put, setIfInBounds_toArray, set_cons_zero, set_cons_succ]); have tk5 := hidp trivial) | (clear tk5; (go_at_call 22; refine (d1.out _).mono ?_; rintro e _ ⟨rfl, hb⟩; replace H := hidp (H.out.call hb); clear d1; clear hb); (try simp only [Act.put, setIfInBounds_toArray, set_cons_zero, set_cons_succ]); have tk6 := hidp trivial) | (clear tk6; (refine Mm.get1 rtHd H rfl (.tmp 3) rfl rfl (Hd.len HP.out) ?_); (try simp only [Act.put, setIfInBounds_toArray, set_cons_zero, set_cons_succ]); have tk7 := hidp trivial) | (clear tk7; (go_at_call 23; refine (c3.out _ (HI.out.below H.out.below (Nat.le_refl _))).mono ?_; rintro e _ ⟨rfl, hb⟩; replace H := hidp (H.out.call hb); clear c3; clear hb); (try simp only [Act.put, setIfInBounds_toArray, set_cons_zero, set_cons_succ]); have tk8 := hidp trivial) | (clear tk8; (refine Mm.get1 rtHd H rfl (.tmp 3) rfl rfl (Hd.len HP.out) ?_); (try simp only [Act.put, setIfInBounds_toArray, set_cons_zero, set_cons_succ]); have tk9 := hidp trivial) | (clear tk9; (go_at_call 24; refine (d3.out _).mono ?_; rintro e _ ⟨rfl, hb⟩; replace H := hidp (H.out.call hb); clear d3; clear hb); (try simp only [Act.put, setIfInBounds_toArray, set_cons_zero, set_cons_succ]); have tk10 := hidp trivial) | (clear tk10; (go_at_call 25; refine (c4.out _ (HI.out.below H.out.below (Nat.le_refl _))).mono ?_; rintro e _ ⟨rfl, hb⟩; replace H := hidp (H.out.call hb); clear hb); (try simp only [Act.put, setIfInBounds_toArray, set_cons_zero, set_cons_succ]); have tk11 := hidp trivial) | (clear tk11; (refine Mm.new rtHd H (some 15) rfl rfl rfl ?_; clear H; intro b15 _ H nw; have hb := nw.below; clear hb nw); (try simp only [Act.put, setIfInBounds_toArray, set_cons_zero, set_cons_succ]); have tk12 := hidp trivial) | (clear tk12; (refine Mm.put0 rtHd H rfl (.tmp 15) (.tmp 54) Y.row rfl rfl rfl (Hd.len HY.out) (Hd.one Y) (Hd.len (rfl : zHd.p.length = 32)) ?_; intro _ H2 st; clear st H; have H := H2; clear H2); (try simp only [Act.put, setIfInBounds_toArray, set_cons_zero, set_cons_succ]); have tk13 := hidp trivial) | (clear tk13; (go_at_call 26; refine (d4.out _).mono ?_; rintro e _ ⟨rfl, hb⟩; replace H := hidp (H.out.call hb); clear hb); (try simp only [Act.put, setIfInBounds_toArray, set_cons_zero, set_cons_succ]); have tk14 := hidp trivial) | (clear tk14; (refine Mm.new rtHd H (some 17) rfl rfl rfl ?_; clear H; intro b17 _ H nw; have hb := nw.below; clear hb nw); (try simp only [Act.put, setIfInBounds_toArray, set_cons_zero, set_cons_succ]); have tk15 := hidp trivial) | (clear tk15; (refine Mm.put0 rtHd H rfl (.tmp 17) (.tmp 59) Y.row rfl rfl rfl (Hd.len HY.out) (Hd.one Y) (Hd.len (rfl : zHd.p.length = 32)) ?_; intro _ H2 st; clear st H; have H := H2; clear H2); (try simp only [Act.put, setIfInBounds_toArray, set_cons_zero, set_cons_succ]); have tk16 := hidp trivial) | (clear tk16; (go_at_call 27; refine (c5.out _ (HI.out.below H.out.below (Nat.le_refl _))).mono ?_; rintro e _ ⟨rfl, hb⟩; replace H := hidp (H.out.call hb); clear hb); (try simp only [Act.put, setIfInBounds_toArray, set_cons_zero, set_cons_succ]); have tk17 := hidp trivial) | (clear tk17; (refine Mm.new rtHd H (some 19) rfl rfl rfl ?_; clear H; intro b19 _ H nw; have hb := nw.below; clear hb nw); (try simp only [Act.put, setIfInBounds_toArray, set_cons_zero, set_cons_succ]); have tk18 := hidp trivial) | (clear tk18; (refine Mm.put0 rtHd H rfl (.tmp 19) (.tmp 64) Z.row rfl rfl rfl (Hd.len HZ.out) (Hd.one Z) (Hd.len (rfl : zHd.p.length = 32)) ?_; intro _ H2 st; clear st H; have H := H2; clear H2); (try simp only [Act.put, setIfInBounds_toArray, set_cons_zero, set_cons_succ]); have tk19 := hidp trivial) | (clear tk19; (go_at_call 28; refine (d5.out _).mono ?_; rintro e _ ⟨rfl, hb⟩; replace H := hidp (H.out.call hb); clear hb); (try simp only [Act.put, setIfInBounds_toArray, set_cons_zero, set_cons_succ]); have tk20 := hidp trivial) | (clear tk20; (refine Mm.new rtHd H (some 21) rfl rfl rfl ?_; clear H; intro b21 _ H nw; have hb := nw.below; clear hb nw); (try simp only [Act.put, setIfInBounds_toArray, set_cons_zero, set_cons_succ]); have tk21 := hidp trivial) | (clear tk21; (refine Mm.put0 rtHd H rfl (.tmp 21) (.tmp 69) Z.row rfl rfl rfl (Hd.len HZ.out) (Hd.one Z) (Hd.len (rfl : zHd.p.length = 32)) ?_; intro _ H2 st; clear st H; have H := H2; clear H2); (try simp only [Act.put, setIfInBounds_toArray, set_cons_zero, set_cons_succ]); have tk22 := hidp trivial) | (clear tk22; (refine Mm.get4 En.rtE H rfl (.tmp 5) rfl rfl (En.En.len HQ.out) ?_); (try simp only [Act.put, setIfInBounds_toArray, set_cons_zero, set_cons_succ]); have tk23 := hidp trivial) | (clear tk23; (go_at_call 29; refine (c7.out _ (HI.out.below H.out.below (Nat.le_refl _)) (HK.out.below H.out.below hkp)).mono ?_; rintro e _ ⟨rfl, hb⟩; replace H := hidp (H.out.call hb); clear hb); (try simp only [Act.put, setIfInBounds_toArray, set_cons_zero, set_cons_succ]); have tk24 := hidp trivial) | (clear tk24; (refine Mm.new rtHd H (some 23) rfl rfl rfl ?_; clear H; intro b23 _ H nw; have hb := nw.below; clear hb nw); (try simp only [Act.put, setIfInBounds_toArray, set_cons_zero, set_cons_succ]); have tk25 := hidp trivial) | (clear tk25; (refine Mm.put0 rtHd H rfl (.tmp 23) (.tmp 74) U.row rfl rfl rfl (Hd.len HU.out) (Hd.one U) (Hd.len (rfl : zHd.p.length = 32)) ?_; intro _ H2 st; clear st H; have H := H2; clear H2); (try simp only [Act.put, setIfInBounds_toArray, set_cons_zero, set_cons_succ]); have tk26 := hidp trivial) | (clear tk26; (refine Mm.get5 En.rtE H rfl (.tmp 5) rfl rfl (En.En.len HQ.out) ?_); (try simp only [Act.put, setIfInBounds_toArray, set_cons_zero, set_cons_succ]); have tk27 := hidp trivial) | (clear tk27; (go_at_call 30; refine (d7.out _).mono ?_; rintro e _ ⟨rfl, hb⟩; replace H := hidp (H.out.call hb); clear hb); (try simp only [Act.put, setIfInBounds_toArray, set_cons_zero, set_cons_succ]); have tk28 := hidp trivial) | (clear tk28; (refine Mm.new rtHd H (some 25) rfl rfl rfl ?_; clear H; intro b25 _ H nw; have hb := nw.below; clear hb nw); (try simp only [Act.put, setIfInBounds_toArray, set_cons_zero, set_cons_succ]); have tk29 := hidp trivial) | (clear tk29; (refine Mm.put0 rtHd H rfl (.tmp 25) (.tmp 79) U.row rfl rfl rfl (Hd.len HU.out) (Hd.one U) (Hd.len (rfl : zHd.p.length = 32)) ?_; intro _ H2 st; clear st H; have H := H2; clear H2); (try simp only [Act.put, setIfInBounds_toArray, set_cons_zero, set_cons_succ]); have tk30 := hidp trivial))
  try clear tk30
  refine Mm.region H (.one 0 (.take 1 (.take 2 (.take 4 (.one 3 (.one 5 (.take 6 (.take 7 (.take 8 (.take 9 (.take 10 (.take 11 (.take 12 (.take 13 (.take 14 (.take 15 (.take 16 (.take 17 (.take 18 (.take 19 (.take 20 (.take 21 (.take 22 (.take 23 (.take 24 (.take 25 (.take 26 (.take 27 (.take 28 (.take 29 (.take 30 (.take 31 (.take 32 (.take 33 (.take 34 (.take 35 (.take 36 (.take 37 (.take 38 (.take 39 (.take 40 (.take 41 (.take 42 (.take 43 (.take 44 (.take 45 (.take 46 (.take 47 (.take 48 (.take 49 (.take 50 (.take 51 (.take 52 (.take 53 (.take 54 (.take 55 (.take 56 (.take 57 (.take 58 .done))))))))))))))))))))))))))))))))))))))))))))))))))))))))))) (by kernel_rfl) (by kernel_rfl) (by simp [Scr.depth]) (by kernel_rfl) ?_
  clear H
  intro _ H hb
  clear hb
  refine Mm.o_callH (v := .bool true) H (fun W h => h) rfl rfl 20 (#[]) (by go_simp; first | done | rfl) (lives21_any _ (HI.out.below H.out.below (Nat.le_refl _)) (HK.out.below H.out.below hkp)) ?_
  clear H
  intro _ H hb
  clear hb
  simp only [Act.put, getElem_toArray, getElem_cons_zero, getElem_cons_succ, setIfInBounds_toArray, set_cons_zero, set_cons_succ]
  apply s_val
  case ho | hw => rfl
  case hv => intro w hw; go_simp; first | done | rfl
  simp only [Act.put, getElem_toArray, getElem_cons_zero, getElem_cons_succ, setIfInBounds_toArray, set_cons_zero, set_cons_succ]
  refine Mm.sget7 rtHd (fun w h => h) rfl rfl (.tmp 3) rfl rfl (Hd.len HP.out) ?_
  simp only [Act.put, getElem_toArray, getElem_cons_zero, getElem_cons_succ, setIfInBounds_toArray, set_cons_zero, set_cons_succ]
  refine Mm.sget7 rtHd (fun w h => h) rfl rfl (.tmp 3) rfl rfl (Hd.len HP.out) ?_
  simp only [Act.put, getElem_toArray, getElem_cons_zero, getElem_cons_succ, setIfInBounds_toArray, set_cons_zero, set_cons_succ]
  refine Mm.o_callH (v := .int .i64 E1) H (fun W h => h) rfl rfl 31 (#[.agg x.row.toArray]) (by go_simp; first | done | rfl) (c6.out _ (HI.out.below H.out.below (Nat.le_refl _))) ?_
  clear H
  intro _ H hb
  clear hb
  simp only [Act.put, getElem_toArray, getElem_cons_zero, getElem_cons_succ, setIfInBounds_toArray, set_cons_zero, set_cons_succ]
  refine Mm.o_callH (v := .int .i64 E1) H (fun W h => h) rfl rfl 32 (#[.agg x.row.toArray]) (by go_simp; first | done | rfl) (d6.out _) ?_
  clear H
  intro _ H hb
  clear hb
  simp only [Act.put, getElem_toArray, getElem_cons_zero, getElem_cons_succ, setIfInBounds_toArray, set_cons_zero, set_cons_succ]
  apply s_val
  case ho | hw => rfl
  case hv => intro w hw; go_simp; first | done | rfl
  simp only [Act.put, getElem_toArray, getElem_cons_zero, getElem_cons_succ, setIfInBounds_toArray, set_cons_zero, set_cons_succ]
  apply s_val
  case ho | hw => rfl
  case hv => intro w hw; go_simp; first | done | rfl
  simp only [Act.put, getElem_toArray, getElem_cons_zero, getElem_cons_succ, setIfInBounds_toArray, set_cons_zero, set_cons_succ]
  apply s_val
  case ho | hw => rfl
  case hv => intro w hw; go_simp; first | done | rfl
  simp only [Act.put, getElem_toArray, getElem_cons_zero, getElem_cons_succ, setIfInBounds_toArray, set_cons_zero, set_cons_succ]
  apply s_val
  case ho | hw => rfl
  case hv => intro w hw; go_simp; first | done | rfl
  simp only [Act.put, getElem_toArray, getElem_cons_zero, getElem_cons_succ, setIfInBounds_toArray, set_cons_zero, set_cons_succ]
  apply s_val
  case ho | hw => rfl
  case hv => intro w hw; go_simp; first | done | rfl
  simp only [Act.put, getElem_toArray, getElem_cons_zero, getElem_cons_succ, setIfInBounds_toArray, set_cons_zero, set_cons_succ]
  apply s_val
  case ho | hw => rfl
  case hv => intro w hw; go_simp; first | done | rfl
  simp only [Act.put, getElem_toArray, getElem_cons_zero, getElem_cons_succ, setIfInBounds_toArray, set_cons_zero, set_cons_succ]
  apply s_val
  case ho | hw => rfl
  case hv => intro w hw; go_simp; first | done | rfl
  simp only [Act.put, getElem_toArray, getElem_cons_zero, getElem_cons_succ, setIfInBounds_toArray, set_cons_zero, set_cons_succ]
  apply s_val
  case ho | hw => rfl
  case hv => intro w hw; go_simp; first | done | rfl
  simp only [Act.put, getElem_toArray, getElem_cons_zero, getElem_cons_succ, setIfInBounds_toArray, set_cons_zero, set_cons_succ]
  apply s_val
  case ho | hw => rfl
  case hv => intro w hw; go_simp; first | done | rfl
  simp only [Act.put, getElem_toArray, getElem_cons_zero, getElem_cons_succ, setIfInBounds_toArray, set_cons_zero, set_cons_succ]
  apply s_val
  case ho | hw => rfl
  case hv => intro w hw; go_simp; first | done | rfl
  simp only [Act.put, getElem_toArray, getElem_cons_zero, getElem_cons_succ, setIfInBounds_toArray, set_cons_zero, set_cons_succ]
  apply s_val
  case ho | hw => rfl
  case hv => intro w hw; go_simp; first | done | rfl
  simp only [Act.put, getElem_toArray, getElem_cons_zero, getElem_cons_succ, setIfInBounds_toArray, set_cons_zero, set_cons_succ]
  apply s_val
  case ho | hw => rfl
  case hv => intro w hw; go_simp; first | done | rfl
  simp only [Act.put, getElem_toArray, getElem_cons_zero, getElem_cons_succ, setIfInBounds_toArray, set_cons_zero, set_cons_succ]
  apply s_val
  case ho | hw => rfl
  case hv => intro w hw; go_simp; first | done | rfl
  simp only [Act.put, getElem_toArray, getElem_cons_zero, getElem_cons_succ, setIfInBounds_toArray, set_cons_zero, set_cons_succ]
  apply s_val
  case ho | hw => rfl
  case hv => intro w hw; go_simp; first | done | rfl
  simp only [Act.put, getElem_toArray, getElem_cons_zero, getElem_cons_succ, setIfInBounds_toArray, set_cons_zero, set_cons_succ]
  apply s_val
  case ho | hw => rfl
  case hv => intro w hw; go_simp; first | done | rfl
  simp only [Act.put, getElem_toArray, getElem_cons_zero, getElem_cons_succ, setIfInBounds_toArray, set_cons_zero, set_cons_succ]
  apply s_val
  case ho | hw => rfl
  case hv => intro w hw; go_simp; first | done | rfl
  simp only [Act.put, getElem_toArray, getElem_cons_zero, getElem_cons_succ, setIfInBounds_toArray, set_cons_zero, set_cons_succ]
  apply s_val
  case ho | hw => rfl
  case hv => intro w hw; go_simp; first | done | rfl
  simp only [Act.put, getElem_toArray, getElem_cons_zero, getElem_cons_succ, setIfInBounds_toArray, set_cons_zero, set_cons_succ]
  apply s_val
  case ho | hw => rfl
  case hv => intro w hw; go_simp; first | done | rfl
  simp only [Act.put, getElem_toArray, getElem_cons_zero, getElem_cons_succ, setIfInBounds_toArray, set_cons_zero, set_cons_succ]
  apply s_val
  case ho | hw => rfl
  case hv => intro w hw; go_simp; first | done | rfl
  simp only [Act.put, getElem_toArray, getElem_cons_zero, getElem_cons_succ, setIfInBounds_toArray, set_cons_zero, set_cons_succ]
  apply s_val
  case ho | hw => rfl
  case hv => intro w hw; go_simp; first | done | rfl
  simp only [Act.put, getElem_toArray, getElem_cons_zero, getElem_cons_succ, setIfInBounds_toArray, set_cons_zero, set_cons_succ]
  apply s_val
  case ho | hw => rfl
  case hv => intro w hw; go_simp; first | done | rfl
  simp only [Act.put, getElem_toArray, getElem_cons_zero, getElem_cons_succ, setIfInBounds_toArray, set_cons_zero, set_cons_succ]
  apply s_val
  case ho | hw => rfl
  case hv => intro w hw; go_simp; first | done | rfl
  simp only [Act.put, getElem_toArray, getElem_cons_zero, getElem_cons_succ, setIfInBounds_toArray, set_cons_zero, set_cons_succ]
  apply s_val
  case ho | hw => rfl
  case hv => intro w hw; go_simp; first | done | rfl
  simp only [Act.put, getElem_toArray, getElem_cons_zero, getElem_cons_succ, setIfInBounds_toArray, set_cons_zero, set_cons_succ]
  refine Mm.sget5 rtHd (fun w h => h) rfl rfl (.tmp 15) rfl rfl (Hd.len HY.out) ?_
  simp only [Act.put, getElem_toArray, getElem_cons_zero, getElem_cons_succ, setIfInBounds_toArray, set_cons_zero, set_cons_succ]
  refine Mm.sget4 rtHd (fun w h => h) rfl rfl (.tmp 17) rfl rfl (Hd.len HY.out) ?_
  simp only [Act.put, getElem_toArray, getElem_cons_zero, getElem_cons_succ, setIfInBounds_toArray, set_cons_zero, set_cons_succ]
  refine s_eqHd rfl rfl _ _ _ rfl _ HY.out rfl rfl ?_
  simp only [Act.put, getElem_toArray, getElem_cons_zero, getElem_cons_succ, setIfInBounds_toArray, set_cons_zero, set_cons_succ]
  apply s_val
  case ho | hw => rfl
  case hv => intro w hw; go_simp; first | done | rfl
  simp only [Act.put, getElem_toArray, getElem_cons_zero, getElem_cons_succ, setIfInBounds_toArray, set_cons_zero, set_cons_succ]
  apply s_val
  case ho | hw => rfl
  case hv => intro w hw; go_simp; first | done | rfl
  simp only [Act.put, getElem_toArray, getElem_cons_zero, getElem_cons_succ, setIfInBounds_toArray, set_cons_zero, set_cons_succ]
  apply s_val
  case ho | hw => rfl
  case hv => intro w hw; go_simp; first | done | rfl
  simp only [Act.put, getElem_toArray, getElem_cons_zero, getElem_cons_succ, setIfInBounds_toArray, set_cons_zero, set_cons_succ]
  apply s_val
  case ho | hw => rfl
  case hv => intro w hw; go_simp; first | done | rfl
  simp only [Act.put, getElem_toArray, getElem_cons_zero, getElem_cons_succ, setIfInBounds_toArray, set_cons_zero, set_cons_succ]
  apply s_val
  case ho | hw => rfl
  case hv => intro w hw; go_simp; first | done | rfl
  simp only [Act.put, getElem_toArray, getElem_cons_zero, getElem_cons_succ, setIfInBounds_toArray, set_cons_zero, set_cons_succ]
  apply s_val
  case ho | hw => rfl
  case hv => intro w hw; go_simp; first | done | rfl
  simp only [Act.put, getElem_toArray, getElem_cons_zero, getElem_cons_succ, setIfInBounds_toArray, set_cons_zero, set_cons_succ]
  apply s_val
  case ho | hw => rfl
  case hv => intro w hw; go_simp; first | done | rfl
  simp only [Act.put, getElem_toArray, getElem_cons_zero, getElem_cons_succ, setIfInBounds_toArray, set_cons_zero, set_cons_succ]
  refine Mm.sget3 rtHd (fun w h => h) rfl rfl (.tmp 19) rfl rfl (Hd.len HZ.out) ?_
  simp only [Act.put, getElem_toArray, getElem_cons_zero, getElem_cons_succ, setIfInBounds_toArray, set_cons_zero, set_cons_succ]
  refine Mm.sget2 rtHd (fun w h => h) rfl rfl (.tmp 21) rfl rfl (Hd.len HZ.out) ?_
  simp only [Act.put, getElem_toArray, getElem_cons_zero, getElem_cons_succ, setIfInBounds_toArray, set_cons_zero, set_cons_succ]
  refine s_eqHd rfl rfl _ _ _ rfl _ HZ.out rfl rfl ?_
  simp only [Act.put, getElem_toArray, getElem_cons_zero, getElem_cons_succ, setIfInBounds_toArray, set_cons_zero, set_cons_succ]
  apply s_val
  case ho | hw => rfl
  case hv => intro w hw; go_simp; first | done | rfl
  simp only [Act.put, getElem_toArray, getElem_cons_zero, getElem_cons_succ, setIfInBounds_toArray, set_cons_zero, set_cons_succ]
  apply s_val
  case ho | hw => rfl
  case hv => intro w hw; go_simp; first | done | rfl
  simp only [Act.put, getElem_toArray, getElem_cons_zero, getElem_cons_succ, setIfInBounds_toArray, set_cons_zero, set_cons_succ]
  apply s_val
  case ho | hw => rfl
  case hv => intro w hw; go_simp; first | done | rfl
  simp only [Act.put, getElem_toArray, getElem_cons_zero, getElem_cons_succ, setIfInBounds_toArray, set_cons_zero, set_cons_succ]
  apply s_val
  case ho | hw => rfl
  case hv => intro w hw; go_simp; first | done | rfl
  simp only [Act.put, getElem_toArray, getElem_cons_zero, getElem_cons_succ, setIfInBounds_toArray, set_cons_zero, set_cons_succ]
  apply s_val
  case ho | hw => rfl
  case hv => intro w hw; go_simp; first | done | rfl
  simp only [Act.put, getElem_toArray, getElem_cons_zero, getElem_cons_succ, setIfInBounds_toArray, set_cons_zero, set_cons_succ]
  apply s_val
  case ho | hw => rfl
  case hv => intro w hw; go_simp; first | done | rfl
  simp only [Act.put, getElem_toArray, getElem_cons_zero, getElem_cons_succ, setIfInBounds_toArray, set_cons_zero, set_cons_succ]
  apply s_val
  case ho | hw => rfl
  case hv => intro w hw; go_simp; first | done | rfl
  simp only [Act.put, getElem_toArray, getElem_cons_zero, getElem_cons_succ, setIfInBounds_toArray, set_cons_zero, set_cons_succ]
  refine Mm.sget1 rtHd (fun w h => h) rfl rfl (.tmp 23) rfl rfl (Hd.len HU.out) ?_
  simp only [Act.put, getElem_toArray, getElem_cons_zero, getElem_cons_succ, setIfInBounds_toArray, set_cons_zero, set_cons_succ]
  refine Mm.sget0 rtHd (fun w h => h) rfl rfl (.tmp 25) rfl rfl (Hd.len HU.out) ?_
  simp only [Act.put, getElem_toArray, getElem_cons_zero, getElem_cons_succ, setIfInBounds_toArray, set_cons_zero, set_cons_succ]
  refine s_eqHd rfl rfl _ _ _ rfl _ HU.out rfl rfl ?_
  simp only [Act.put, getElem_toArray, getElem_cons_zero, getElem_cons_succ, setIfInBounds_toArray, set_cons_zero, set_cons_succ]
  apply s_val
  case ho | hw => rfl
  case hv => intro w hw; go_simp; first | done | rfl
  simp only [Act.put, getElem_toArray, getElem_cons_zero, getElem_cons_succ, setIfInBounds_toArray, set_cons_zero, set_cons_succ]
  apply s_val
  case ho | hw => rfl
  case hv => intro w hw; go_simp; first | done | rfl
  simp only [Act.put, getElem_toArray, getElem_cons_zero, getElem_cons_succ, setIfInBounds_toArray, set_cons_zero, set_cons_succ]
  apply s_val
  case ho | hw => rfl
  case hv => intro w hw; go_simp; first | done | rfl
  simp only [Act.put, getElem_toArray, getElem_cons_zero, getElem_cons_succ, setIfInBounds_toArray, set_cons_zero, set_cons_succ]
  apply s_val
  case ho | hw => rfl
  case hv => intro w hw; go_simp; first | done | rfl
  simp only [Act.put, getElem_toArray, getElem_cons_zero, getElem_cons_succ, setIfInBounds_toArray, set_cons_zero, set_cons_succ]
  apply s_val
  case ho | hw => rfl
  case hv => intro w hw; go_simp; first | done | rfl
  simp only [Act.put, getElem_toArray, getElem_cons_zero, getElem_cons_succ, setIfInBounds_toArray, set_cons_zero, set_cons_succ]
  apply s_val
  case ho | hw => rfl
  case hv => intro w hw; go_simp; first | done | rfl
  simp only [Act.put, getElem_toArray, getElem_cons_zero, getElem_cons_succ, setIfInBounds_toArray, set_cons_zero, set_cons_succ]
  apply s_val
  case ho | hw => rfl
  case hv => intro w hw; go_simp; first | done | rfl
  simp only [Act.put, getElem_toArray, getElem_cons_zero, getElem_cons_succ, setIfInBounds_toArray, set_cons_zero, set_cons_succ]
  refine NoPanic.normal ?_
  go_wp2
  go_ret
  exact ⟨rfl, H.out.below⟩
end Go.Proofs.YtbgooppmhgaicaaGreatDoor.Hd
