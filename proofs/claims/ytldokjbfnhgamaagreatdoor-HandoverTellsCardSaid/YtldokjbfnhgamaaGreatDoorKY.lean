/-
  Joined: HoV.
-/
import Derived.Test.YtldokjbfnhgamaaGreatDoorKR
import Derived.Test.YtldokjbfnhgamaaGreatDoorKX
namespace Go.Proofs.YtldokjbfnhgamaaGreatDoor.Ho
set_option maxRecDepth 100000
set_option linter.unusedVariables false
set_option linter.unusedSimpArgs false
open Go.RowKit
open List (getElem_toArray getElem_cons_zero getElem_cons_succ setIfInBounds_toArray set_cons_zero set_cons_succ)

theorem eqin_bool (W : World) (F : Bool) : (Op.equalIn 10000 4 (.bool F) (.bool F)).run Tryz.prog W = .ok true W := by
  have hu := Tryz.underlying4
  cases F <;> go_simp
theorem eql_bool (W : World) (F : Bool) : (binOp .eql 4 (.bool F) (.bool F)).run Tryz.prog W = .ok (.bool true) W := by
  have hu := Tryz.underlying4
  cases F <;> go_simp

set_option maxHeartbeats 64000000 in
theorem walk_handoverTells (w : World) (d : De) (hd : d.ok) (e : De) (hde : e.ok) (s : ByteArray) (hs : s.size ≤ 140737488351232) (hL : IT w ∧ HT w ∧ KT w) :
    Calls Tryz.prog 3 #[.agg d.row.toArray, .agg e.row.toArray, .string s] w fun x w' => x = .returned (.bool true) ∧ Below w.heap.size w w' := by
  obtain ⟨hI, hT, hK⟩ := hL
  have hkp := hK.pos
  have HI := hidp hI; have HT0 := hidp hT; have HK := hidp hK; clear hI hT hK
  obtain ⟨k, r, ep, ix, hu, nx, sg⟩ := d
  obtain ⟨ke, re, ee, ie, he, ne, ge⟩ := e
  have c1 := hidp (show ∀ W, IT W → HT W → Calls Tryz.prog 11 #[.agg #[.int .u8 (k : Int), .string r, .int .i64 ep, .int .i64 ix, .int .i64 hu, .int .i64 nx, .string sg]] W (fun e w' => e = .returned (.tuple #[.string (dT (⟨k, r, ep, ix, hu, nx, sg⟩ : De)), .int .i64 (dE (⟨k, r, ep, ix, hu, nx, sg⟩ : De))]) ∧ Below W.heap.size W w') from fun W h h2 => text_any W (⟨k, r, ep, ix, hu, nx, sg⟩ : De) hd h h2)
  have c2 := hidp (show ∀ W, Calls Tryz.prog 12 #[.agg #[.int .u8 (k : Int), .string r, .int .i64 ep, .int .i64 ix, .int .i64 hu, .int .i64 nx, .string sg]] W (fun e w' => e = .returned (.tuple #[.string (dT (⟨k, r, ep, ix, hu, nx, sg⟩ : De)), .int .i64 (dE (⟨k, r, ep, ix, hu, nx, sg⟩ : De))]) ∧ Below W.heap.size W w') from fun W => rtext_any W (⟨k, r, ep, ix, hu, nx, sg⟩ : De) hd)
  have c3 := hidp (show ∀ W, IT W → HT W → Calls Tryz.prog 13 #[.agg #[.int .u8 (k : Int), .string r, .int .i64 ep, .int .i64 ix, .int .i64 hu, .int .i64 nx, .string sg]] W (fun e w' => e = .returned (.tuple #[.string (dB (⟨k, r, ep, ix, hu, nx, sg⟩ : De)), .int .i64 (dE (⟨k, r, ep, ix, hu, nx, sg⟩ : De))]) ∧ Below W.heap.size W w') from fun W h h2 => bytes_any W (⟨k, r, ep, ix, hu, nx, sg⟩ : De) hd h h2)
  have c4 := hidp (show ∀ W, Calls Tryz.prog 14 #[.agg #[.int .u8 (k : Int), .string r, .int .i64 ep, .int .i64 ix, .int .i64 hu, .int .i64 nx, .string sg]] W (fun e w' => e = .returned (.tuple #[.string (dB (⟨k, r, ep, ix, hu, nx, sg⟩ : De)), .int .i64 (dE (⟨k, r, ep, ix, hu, nx, sg⟩ : De))]) ∧ Below W.heap.size W w') from fun W => rbytes_any W (⟨k, r, ep, ix, hu, nx, sg⟩ : De) hd)
  have c5 := hidp (show ∀ W, IT W → HT W → Calls Tryz.prog 15 #[.string s] W (fun e w' => e = .returned (.tuple #[.agg (dpV s).row.toArray, .int .i64 (dpE s)]) ∧ Below W.heap.size W w') from fun W h h2 => parse_any W s (by omega) h h2)
  have c6 := hidp (show ∀ W, Calls Tryz.prog 16 #[.string s] W (fun e w' => e = .returned (.tuple #[.agg (dpV s).row.toArray, .int .i64 (dpE s)]) ∧ Below W.heap.size W w') from fun W => rparse24_any W s (by omega))
  have c7 := hidp (show ∀ W, IT W → HT W → Calls Tryz.prog 17 #[.agg #[.int .u8 (k : Int), .string r, .int .i64 ep, .int .i64 ix, .int .i64 hu, .int .i64 nx, .string sg]] W (fun e w' => e = .returned (.tuple #[.agg (anV (⟨k, r, ep, ix, hu, nx, sg⟩ : De)).row.toArray, .int .i64 (anE (⟨k, r, ep, ix, hu, nx, sg⟩ : De))]) ∧ Below W.heap.size W w') from fun W h h2 => answer_any W (⟨k, r, ep, ix, hu, nx, sg⟩ : De) hd h h2)
  have c8 := hidp (show ∀ W, Calls Tryz.prog 18 #[.agg #[.int .u8 (k : Int), .string r, .int .i64 ep, .int .i64 ix, .int .i64 hu, .int .i64 nx, .string sg]] W (fun e w' => e = .returned (.tuple #[.agg (anV (⟨k, r, ep, ix, hu, nx, sg⟩ : De)).row.toArray, .int .i64 (anE (⟨k, r, ep, ix, hu, nx, sg⟩ : De))]) ∧ Below W.heap.size W w') from fun W => ranswer_any W (⟨k, r, ep, ix, hu, nx, sg⟩ : De) hd)
  have c10 := hidp (show ∀ W, IT W → HT W → Calls Tryz.prog 19 #[.agg #[.int .u8 (k : Int), .string r, .int .i64 ep, .int .i64 ix, .int .i64 hu, .int .i64 nx, .string sg]] W (fun e w' => e = .returned (.int .i64 (dE (⟨k, r, ep, ix, hu, nx, sg⟩ : De))) ∧ Below W.heap.size W w') from fun W h h2 => dcheck_any W (⟨k, r, ep, ix, hu, nx, sg⟩ : De) hd h h2)
  have c11 := hidp (show ∀ W, Calls Tryz.prog 20 #[.agg #[.int .u8 (k : Int), .string r, .int .i64 ep, .int .i64 ix, .int .i64 hu, .int .i64 nx, .string sg]] W (fun e w' => e = .returned (.int .i64 (dE (⟨k, r, ep, ix, hu, nx, sg⟩ : De))) ∧ Below W.heap.size W w') from fun W => rdcheck_any W (⟨k, r, ep, ix, hu, nx, sg⟩ : De) hd)
  have c12 := hidp (show ∀ W, IT W → HT W → Calls Tryz.prog 21 #[.agg #[.int .u8 (k : Int), .string r, .int .i64 ep, .int .i64 ix, .int .i64 hu, .int .i64 nx, .string sg], .agg #[.int .u8 (ke : Int), .string re, .int .i64 ee, .int .i64 ie, .int .i64 he, .int .i64 ne, .string ge]] W (fun e w' => e = .returned (.bool (fits (⟨k, r, ep, ix, hu, nx, sg⟩ : De) (⟨ke, re, ee, ie, he, ne, ge⟩ : De))) ∧ Below W.heap.size W w') from fun W h h2 => fits_any W (⟨k, r, ep, ix, hu, nx, sg⟩ : De) (⟨ke, re, ee, ie, he, ne, ge⟩ : De) hd hde h h2)
  have c13 := hidp (show ∀ W, Calls Tryz.prog 22 #[.agg #[.int .u8 (k : Int), .string r, .int .i64 ep, .int .i64 ix, .int .i64 hu, .int .i64 nx, .string sg], .agg #[.int .u8 (ke : Int), .string re, .int .i64 ee, .int .i64 ie, .int .i64 he, .int .i64 ne, .string ge]] W (fun e w' => e = .returned (.bool (fits (⟨k, r, ep, ix, hu, nx, sg⟩ : De) (⟨ke, re, ee, ie, he, ne, ge⟩ : De))) ∧ Below W.heap.size W w') from fun W => rfits_any W (⟨k, r, ep, ix, hu, nx, sg⟩ : De) (⟨ke, re, ee, ie, he, ne, ge⟩ : De) hd hde)
  show Calls Tryz.prog 3 #[.agg #[.int .u8 (k : Int), .string r, .int .i64 ep, .int .i64 ix, .int .i64 hu, .int .i64 nx, .string sg], .agg #[.int .u8 (ke : Int), .string re, .int .i64 ee, .int .i64 ie, .int .i64 he, .int .i64 ne, .string ge], .string s] w _
  clear hd hde
  obtain ⟨F, hF⟩ : ∃ F, fits (⟨k, r, ep, ix, hu, nx, sg⟩ : De) (⟨ke, re, ee, ie, he, ne, ge⟩ : De) = F := ⟨_, rfl⟩
  obtain ⟨E0, hE⟩ : ∃ E, dE (⟨k, r, ep, ix, hu, nx, sg⟩ : De) = E := ⟨_, rfl⟩
  obtain ⟨T, hT⟩ : ∃ T, dT (⟨k, r, ep, ix, hu, nx, sg⟩ : De) = T := ⟨_, rfl⟩
  obtain ⟨B, hB⟩ : ∃ B, dB (⟨k, r, ep, ix, hu, nx, sg⟩ : De) = B := ⟨_, rfl⟩
  obtain ⟨⟨ka, ra, ea, ia, ha, na, ga⟩, hA⟩ : ∃ A, anV (⟨k, r, ep, ix, hu, nx, sg⟩ : De) = A := ⟨_, rfl⟩
  obtain ⟨Ea, hEa⟩ : ∃ A, anE (⟨k, r, ep, ix, hu, nx, sg⟩ : De) = A := ⟨_, rfl⟩
  obtain ⟨⟨kp, rp, ep2, ip, hp, np, gp⟩, hP⟩ : ∃ A, dpV s = A := ⟨_, rfl⟩
  obtain ⟨Ep, hEp⟩ : ∃ A, dpE s = A := ⟨_, rfl⟩
  rw [hT, hE] at c1 c2
  rw [hB, hE] at c3 c4
  rw [hP, hEp] at c5 c6
  rw [hA, hEa] at c7 c8
  rw [hE] at c10 c11
  rw [hF] at c12 c13
  clear hF hE hT hB hA hEa hP hEp
  have hb0 := fun W => eqin_bool W F
  have hb1 := fun W => eql_bool W F
  have H := hidp (Mm.M.nil w)
  by_cases hl : 16384 < s.size
  · have e1 : decide ((s.size : Int) > 16384) = true := by simp; omega
    have g1 : (16384 : Int) < (s.size : Int) := by omega
    clear hl
    go_enter Tryz.func3, Tryz.ntmps3
    have tk0 := hidp trivial
    go_wp2_with (first | (clear tk0; (refine Mm.box 24 H rfl (.tmp 0) rfl [.int .u8 (k : Int), .string r, .int .i64 ep, .int .i64 ix, .int .i64 hu, .int .i64 nx, .string sg] rfl ?_; clear H; intro b3 _ H nw; have hb := nw.below; clear hb nw); (try simp only [Act.put, setIfInBounds_toArray, set_cons_zero, set_cons_succ]); have tk1 := hidp trivial) | (clear tk1; (refine Mm.box 24 H rfl (.tmp 1) rfl [.int .u8 (ke : Int), .string re, .int .i64 ee, .int .i64 ie, .int .i64 he, .int .i64 ne, .string ge] rfl ?_; clear H; intro b4 _ H nw; have hb := nw.below; clear hb nw); (try simp only [Act.put, setIfInBounds_toArray, set_cons_zero, set_cons_succ]); have tk2 := hidp trivial) | (clear tk2; (go_at_call 10; refine (lives24_any _ (HI.out.below H.out.below (Nat.le_refl _)) (HT0.out.below H.out.below (Nat.le_refl _)) (HK.out.below H.out.below hkp)).mono ?_; rintro e _ ⟨rfl, hb⟩; replace H := hidp (H.out.call hb); clear hb); (try simp only [Act.put, setIfInBounds_toArray, set_cons_zero, set_cons_succ]); have tk3 := hidp trivial))
    try clear tk3
    go_ret
    exact ⟨rfl, H.out.below⟩
  · have e1 : decide ((s.size : Int) > 16384) = false := by simp; omega
    have g1 : ¬ (16384 : Int) < (s.size : Int) := by omega
    clear hl
    go_enter Tryz.func3, Tryz.ntmps3
    have tk0 := hidp trivial
    go_wp2_with (first | (clear tk0; (refine Mm.box 24 H rfl (.tmp 0) rfl [.int .u8 (k : Int), .string r, .int .i64 ep, .int .i64 ix, .int .i64 hu, .int .i64 nx, .string sg] rfl ?_; clear H; intro b3 _ H nw; have hb := nw.below; clear hb nw); (try simp only [Act.put, setIfInBounds_toArray, set_cons_zero, set_cons_succ]); have tk1 := hidp trivial) | (clear tk1; (refine Mm.box 24 H rfl (.tmp 1) rfl [.int .u8 (ke : Int), .string re, .int .i64 ee, .int .i64 ie, .int .i64 he, .int .i64 ne, .string ge] rfl ?_; clear H; intro b4 _ H nw; have hb := nw.below; clear hb nw); (try simp only [Act.put, setIfInBounds_toArray, set_cons_zero, set_cons_succ]); have tk2 := hidp trivial) | (clear tk2; (refine Mm.get1 rtD H rfl (.tmp 3) rfl rfl rfl ?_); (try simp only [Act.put, setIfInBounds_toArray, set_cons_zero, set_cons_succ]); have tk3 := hidp trivial) | (clear tk3; (go_at_call 11; refine (c1.out _ (HI.out.below H.out.below (Nat.le_refl _)) (HT0.out.below H.out.below (Nat.le_refl _))).mono ?_; rintro e _ ⟨rfl, hb⟩; replace H := hidp (H.out.call hb); clear c1; clear hb); (try simp only [Act.put, setIfInBounds_toArray, set_cons_zero, set_cons_succ]); have tk4 := hidp trivial) | (clear tk4; (refine Mm.get1 rtD H rfl (.tmp 3) rfl rfl rfl ?_); (try simp only [Act.put, setIfInBounds_toArray, set_cons_zero, set_cons_succ]); have tk5 := hidp trivial) | (clear tk5; (go_at_call 12; refine (c2.out _).mono ?_; rintro e _ ⟨rfl, hb⟩; replace H := hidp (H.out.call hb); clear c2; clear hb); (try simp only [Act.put, setIfInBounds_toArray, set_cons_zero, set_cons_succ]); have tk6 := hidp trivial) | (clear tk6; (refine Mm.get1 rtD H rfl (.tmp 3) rfl rfl rfl ?_); (try simp only [Act.put, setIfInBounds_toArray, set_cons_zero, set_cons_succ]); have tk7 := hidp trivial) | (clear tk7; (go_at_call 13; refine (c3.out _ (HI.out.below H.out.below (Nat.le_refl _)) (HT0.out.below H.out.below (Nat.le_refl _))).mono ?_; rintro e _ ⟨rfl, hb⟩; replace H := hidp (H.out.call hb); clear c3; clear hb); (try simp only [Act.put, setIfInBounds_toArray, set_cons_zero, set_cons_succ]); have tk8 := hidp trivial) | (clear tk8; (refine Mm.get1 rtD H rfl (.tmp 3) rfl rfl rfl ?_); (try simp only [Act.put, setIfInBounds_toArray, set_cons_zero, set_cons_succ]); have tk9 := hidp trivial) | (clear tk9; (go_at_call 14; refine (c4.out _).mono ?_; rintro e _ ⟨rfl, hb⟩; replace H := hidp (H.out.call hb); clear c4; clear hb); (try simp only [Act.put, setIfInBounds_toArray, set_cons_zero, set_cons_succ]); have tk10 := hidp trivial) | (clear tk10; (go_at_call 15; refine (c5.out _ (HI.out.below H.out.below (Nat.le_refl _)) (HT0.out.below H.out.below (Nat.le_refl _))).mono ?_; rintro e _ ⟨rfl, hb⟩; replace H := hidp (H.out.call hb); clear c5; clear hb); (try simp only [Act.put, setIfInBounds_toArray, set_cons_zero, set_cons_succ]); have tk11 := hidp trivial) | (clear tk11; (refine Mm.new rtD H (some 15) rfl rfl rfl ?_; clear H; intro b15 _ H nw; have hb := nw.below; clear hb nw); (try simp only [Act.put, setIfInBounds_toArray, set_cons_zero, set_cons_succ]); have tk12 := hidp trivial) | (clear tk12; (refine Mm.put0 rtD H rfl (.tmp 15) (.tmp 50) [.int .u8 (kp : Int), .string rp, .int .i64 ep2, .int .i64 ip, .int .i64 hp, .int .i64 np, .string gp] rfl rfl rfl rfl (by simp [Value.oneCell']) rfl ?_; intro _ H2 st; clear st H; have H := H2; clear H2); (try simp only [Act.put, setIfInBounds_toArray, set_cons_zero, set_cons_succ]); have tk13 := hidp trivial) | (clear tk13; (go_at_call 16; refine (c6.out _).mono ?_; rintro e _ ⟨rfl, hb⟩; replace H := hidp (H.out.call hb); clear c6; clear hb); (try simp only [Act.put, setIfInBounds_toArray, set_cons_zero, set_cons_succ]); have tk14 := hidp trivial) | (clear tk14; (refine Mm.new rtD H (some 17) rfl rfl rfl ?_; clear H; intro b17 _ H nw; have hb := nw.below; clear hb nw); (try simp only [Act.put, setIfInBounds_toArray, set_cons_zero, set_cons_succ]); have tk15 := hidp trivial) | (clear tk15; (refine Mm.put0 rtD H rfl (.tmp 17) (.tmp 55) [.int .u8 (kp : Int), .string rp, .int .i64 ep2, .int .i64 ip, .int .i64 hp, .int .i64 np, .string gp] rfl rfl rfl rfl (by simp [Value.oneCell']) rfl ?_; intro _ H2 st; clear st H; have H := H2; clear H2); (try simp only [Act.put, setIfInBounds_toArray, set_cons_zero, set_cons_succ]); have tk16 := hidp trivial) | (clear tk16; (refine Mm.get3 rtD H rfl (.tmp 3) rfl rfl rfl ?_); (try simp only [Act.put, setIfInBounds_toArray, set_cons_zero, set_cons_succ]); have tk17 := hidp trivial) | (clear tk17; (go_at_call 17; refine (c7.out _ (HI.out.below H.out.below (Nat.le_refl _)) (HT0.out.below H.out.below (Nat.le_refl _))).mono ?_; rintro e _ ⟨rfl, hb⟩; replace H := hidp (H.out.call hb); clear c7; clear hb); (try simp only [Act.put, setIfInBounds_toArray, set_cons_zero, set_cons_succ]); have tk18 := hidp trivial) | (clear tk18; (refine Mm.new rtD H (some 19) rfl rfl rfl ?_; clear H; intro b19 _ H nw; have hb := nw.below; clear hb nw); (try simp only [Act.put, setIfInBounds_toArray, set_cons_zero, set_cons_succ]); have tk19 := hidp trivial) | (clear tk19; (refine Mm.put0 rtD H rfl (.tmp 19) (.tmp 60) [.int .u8 (ka : Int), .string ra, .int .i64 ea, .int .i64 ia, .int .i64 ha, .int .i64 na, .string ga] rfl rfl rfl rfl (by simp [Value.oneCell']) rfl ?_; intro _ H2 st; clear st H; have H := H2; clear H2); (try simp only [Act.put, setIfInBounds_toArray, set_cons_zero, set_cons_succ]); have tk20 := hidp trivial) | (clear tk20; (refine Mm.get4 rtD H rfl (.tmp 3) rfl rfl rfl ?_); (try simp only [Act.put, setIfInBounds_toArray, set_cons_zero, set_cons_succ]); have tk21 := hidp trivial) | (clear tk21; (go_at_call 18; refine (c8.out _).mono ?_; rintro e _ ⟨rfl, hb⟩; replace H := hidp (H.out.call hb); clear c8; clear hb); (try simp only [Act.put, setIfInBounds_toArray, set_cons_zero, set_cons_succ]); have tk22 := hidp trivial) | (clear tk22; (refine Mm.new rtD H (some 21) rfl rfl rfl ?_; clear H; intro b21 _ H nw; have hb := nw.below; clear hb nw); (try simp only [Act.put, setIfInBounds_toArray, set_cons_zero, set_cons_succ]); have tk23 := hidp trivial) | (clear tk23; (refine Mm.put0 rtD H rfl (.tmp 21) (.tmp 65) [.int .u8 (ka : Int), .string ra, .int .i64 ea, .int .i64 ia, .int .i64 ha, .int .i64 na, .string ga] rfl rfl rfl rfl (by simp [Value.oneCell']) rfl ?_; intro _ H2 st; clear st H; have H := H2; clear H2); (try simp only [Act.put, setIfInBounds_toArray, set_cons_zero, set_cons_succ]); have tk24 := hidp trivial))
    try clear tk24
    refine Mm.region H (.one 0 (.take 1 (.take 2 (.take 4 (.one 3 (.one 5 (.take 6 (.take 7 (.take 8 (.take 9 (.take 10 (.take 11 (.take 12 (.take 13 (.take 14 (.take 15 (.take 16 (.take 17 (.take 18 (.take 19 (.take 20 (.take 21 (.take 22 (.take 23 (.take 24 (.take 25 (.take 26 (.take 27 (.take 28 (.take 29 (.take 30 (.take 31 (.take 32 (.take 33 (.take 34 (.take 35 (.take 36 (.take 37 (.take 38 (.take 39 (.take 40 (.take 41 (.take 42 (.take 43 (.take 44 (.take 45 (.take 46 (.take 47 (.take 48 (.take 49 (.take 50 (.take 52 (.take 53 (.one 51 (.one 54 (.take 55 (.take 56 (.take 57 .done)))))))))))))))))))))))))))))))))))))))))))))))))))))))))) (by kernel_rfl) (by kernel_rfl) (by simp [Scr.depth]) (by kernel_rfl) ?_
    clear H
    intro _ H hb
    clear hb
    refine Mm.o_callH (v := .bool true) H (fun W h => h) rfl rfl 10 (#[]) (by go_simp; first | done | rfl) (lives24_any _ (HI.out.below H.out.below (Nat.le_refl _)) (HT0.out.below H.out.below (Nat.le_refl _)) (HK.out.below H.out.below hkp)) ?_
    clear H
    intro _ H hb
    clear hb
    simp only [Act.put, getElem_toArray, getElem_cons_zero, getElem_cons_succ, setIfInBounds_toArray, set_cons_zero, set_cons_succ]
    apply s_val
    case ho | hw => rfl
    case hv => intro w hw; go_simp; first | done | rfl
    simp only [Act.put, getElem_toArray, getElem_cons_zero, getElem_cons_succ, setIfInBounds_toArray, set_cons_zero, set_cons_succ]
    refine Mm.sget5 rtD (fun w h => h) rfl rfl (.tmp 3) rfl rfl rfl ?_
    simp only [Act.put, getElem_toArray, getElem_cons_zero, getElem_cons_succ, setIfInBounds_toArray, set_cons_zero, set_cons_succ]
    refine Mm.sget5 rtD (fun w h => h) rfl rfl (.tmp 3) rfl rfl rfl ?_
    simp only [Act.put, getElem_toArray, getElem_cons_zero, getElem_cons_succ, setIfInBounds_toArray, set_cons_zero, set_cons_succ]
    refine Mm.o_callH (v := .int .i64 E0) H (fun W h => h) rfl rfl 19 (#[.agg #[.int .u8 (k : Int), .string r, .int .i64 ep, .int .i64 ix, .int .i64 hu, .int .i64 nx, .string sg]]) (by go_simp; first | done | rfl) (c10.out _ (HI.out.below H.out.below (Nat.le_refl _)) (HT0.out.below H.out.below (Nat.le_refl _))) ?_
    clear H
    intro _ H hb
    clear hb
    simp only [Act.put, getElem_toArray, getElem_cons_zero, getElem_cons_succ, setIfInBounds_toArray, set_cons_zero, set_cons_succ]
    refine Mm.o_callH (v := .int .i64 E0) H (fun W h => h) rfl rfl 20 (#[.agg #[.int .u8 (k : Int), .string r, .int .i64 ep, .int .i64 ix, .int .i64 hu, .int .i64 nx, .string sg]]) (by go_simp; first | done | rfl) (c11.out _) ?_
    clear H
    intro _ H hb
    clear hb
    simp only [Act.put, getElem_toArray, getElem_cons_zero, getElem_cons_succ, setIfInBounds_toArray, set_cons_zero, set_cons_succ]
    apply s_val
    case ho | hw => rfl
    case hv => intro w hw; go_simp; first | done | rfl
    simp only [Act.put, getElem_toArray, getElem_cons_zero, getElem_cons_succ, setIfInBounds_toArray, set_cons_zero, set_cons_succ]
    apply s_val
    case ho | hw => rfl
    case hv => intro w hw; go_simp; first | done | rfl
    simp only [Act.put, getElem_toArray, getElem_cons_zero, getElem_cons_succ, setIfInBounds_toArray, set_cons_zero, set_cons_succ]
    apply s_val
    case ho | hw => rfl
    case hv => intro w hw; go_simp; first | done | rfl
    simp only [Act.put, getElem_toArray, getElem_cons_zero, getElem_cons_succ, setIfInBounds_toArray, set_cons_zero, set_cons_succ]
    apply s_val
    case ho | hw => rfl
    case hv => intro w hw; go_simp; first | done | rfl
    simp only [Act.put, getElem_toArray, getElem_cons_zero, getElem_cons_succ, setIfInBounds_toArray, set_cons_zero, set_cons_succ]
    apply s_val
    case ho | hw => rfl
    case hv => intro w hw; go_simp; first | done | rfl
    simp only [Act.put, getElem_toArray, getElem_cons_zero, getElem_cons_succ, setIfInBounds_toArray, set_cons_zero, set_cons_succ]
    apply s_val
    case ho | hw => rfl
    case hv => intro w hw; go_simp; first | done | rfl
    simp only [Act.put, getElem_toArray, getElem_cons_zero, getElem_cons_succ, setIfInBounds_toArray, set_cons_zero, set_cons_succ]
    apply s_val
    case ho | hw => rfl
    case hv => intro w hw; go_simp; first | done | rfl
    simp only [Act.put, getElem_toArray, getElem_cons_zero, getElem_cons_succ, setIfInBounds_toArray, set_cons_zero, set_cons_succ]
    apply s_val
    case ho | hw => rfl
    case hv => intro w hw; go_simp; first | done | rfl
    simp only [Act.put, getElem_toArray, getElem_cons_zero, getElem_cons_succ, setIfInBounds_toArray, set_cons_zero, set_cons_succ]
    apply s_val
    case ho | hw => rfl
    case hv => intro w hw; go_simp; first | done | rfl
    simp only [Act.put, getElem_toArray, getElem_cons_zero, getElem_cons_succ, setIfInBounds_toArray, set_cons_zero, set_cons_succ]
    apply s_val
    case ho | hw => rfl
    case hv => intro w hw; go_simp; first | done | rfl
    simp only [Act.put, getElem_toArray, getElem_cons_zero, getElem_cons_succ, setIfInBounds_toArray, set_cons_zero, set_cons_succ]
    apply s_val
    case ho | hw => rfl
    case hv => intro w hw; go_simp; first | done | rfl
    simp only [Act.put, getElem_toArray, getElem_cons_zero, getElem_cons_succ, setIfInBounds_toArray, set_cons_zero, set_cons_succ]
    apply s_val
    case ho | hw => rfl
    case hv => intro w hw; go_simp; first | done | rfl
    simp only [Act.put, getElem_toArray, getElem_cons_zero, getElem_cons_succ, setIfInBounds_toArray, set_cons_zero, set_cons_succ]
    apply s_val
    case ho | hw => rfl
    case hv => intro w hw; go_simp; first | done | rfl
    simp only [Act.put, getElem_toArray, getElem_cons_zero, getElem_cons_succ, setIfInBounds_toArray, set_cons_zero, set_cons_succ]
    apply s_val
    case ho | hw => rfl
    case hv => intro w hw; go_simp; first | done | rfl
    simp only [Act.put, getElem_toArray, getElem_cons_zero, getElem_cons_succ, setIfInBounds_toArray, set_cons_zero, set_cons_succ]
    apply s_val
    case ho | hw => rfl
    case hv => intro w hw; go_simp; first | done | rfl
    simp only [Act.put, getElem_toArray, getElem_cons_zero, getElem_cons_succ, setIfInBounds_toArray, set_cons_zero, set_cons_succ]
    apply s_val
    case ho | hw => rfl
    case hv => intro w hw; go_simp; first | done | rfl
    simp only [Act.put, getElem_toArray, getElem_cons_zero, getElem_cons_succ, setIfInBounds_toArray, set_cons_zero, set_cons_succ]
    apply s_val
    case ho | hw => rfl
    case hv => intro w hw; go_simp; first | done | rfl
    simp only [Act.put, getElem_toArray, getElem_cons_zero, getElem_cons_succ, setIfInBounds_toArray, set_cons_zero, set_cons_succ]
    apply s_val
    case ho | hw => rfl
    case hv => intro w hw; go_simp; first | done | rfl
    simp only [Act.put, getElem_toArray, getElem_cons_zero, getElem_cons_succ, setIfInBounds_toArray, set_cons_zero, set_cons_succ]
    apply s_val
    case ho | hw => rfl
    case hv => intro w hw; go_simp; first | done | rfl
    simp only [Act.put, getElem_toArray, getElem_cons_zero, getElem_cons_succ, setIfInBounds_toArray, set_cons_zero, set_cons_succ]
    apply s_val
    case ho | hw => rfl
    case hv => intro w hw; go_simp; first | done | rfl
    simp only [Act.put, getElem_toArray, getElem_cons_zero, getElem_cons_succ, setIfInBounds_toArray, set_cons_zero, set_cons_succ]
    apply s_val
    case ho | hw => rfl
    case hv => intro w hw; go_simp; first | done | rfl
    simp only [Act.put, getElem_toArray, getElem_cons_zero, getElem_cons_succ, setIfInBounds_toArray, set_cons_zero, set_cons_succ]
    apply s_val
    case ho | hw => rfl
    case hv => intro w hw; go_simp; first | done | rfl
    simp only [Act.put, getElem_toArray, getElem_cons_zero, getElem_cons_succ, setIfInBounds_toArray, set_cons_zero, set_cons_succ]
    apply s_val
    case ho | hw => rfl
    case hv => intro w hw; go_simp; first | done | rfl
    simp only [Act.put, getElem_toArray, getElem_cons_zero, getElem_cons_succ, setIfInBounds_toArray, set_cons_zero, set_cons_succ]
    refine Mm.sget3 rtD (fun w h => h) rfl rfl (.tmp 15) rfl rfl rfl ?_
    simp only [Act.put, getElem_toArray, getElem_cons_zero, getElem_cons_succ, setIfInBounds_toArray, set_cons_zero, set_cons_succ]
    refine Mm.sget2 rtD (fun w h => h) rfl rfl (.tmp 17) rfl rfl rfl ?_
    simp only [Act.put, getElem_toArray, getElem_cons_zero, getElem_cons_succ, setIfInBounds_toArray, set_cons_zero, set_cons_succ]
    apply s_val
    case ho | hw => rfl
    case hv => intro w hw; go_simp; first | done | rfl
    simp only [Act.put, getElem_toArray, getElem_cons_zero, getElem_cons_succ, setIfInBounds_toArray, set_cons_zero, set_cons_succ]
    apply s_val
    case ho | hw => rfl
    case hv => intro w hw; go_simp; first | done | rfl
    simp only [Act.put, getElem_toArray, getElem_cons_zero, getElem_cons_succ, setIfInBounds_toArray, set_cons_zero, set_cons_succ]
    apply s_val
    case ho | hw => rfl
    case hv => intro w hw; go_simp; first | done | rfl
    simp only [Act.put, getElem_toArray, getElem_cons_zero, getElem_cons_succ, setIfInBounds_toArray, set_cons_zero, set_cons_succ]
    apply s_val
    case ho | hw => rfl
    case hv => intro w hw; go_simp; first | done | rfl
    simp only [Act.put, getElem_toArray, getElem_cons_zero, getElem_cons_succ, setIfInBounds_toArray, set_cons_zero, set_cons_succ]
    apply s_val
    case ho | hw => rfl
    case hv => intro w hw; go_simp; first | done | rfl
    simp only [Act.put, getElem_toArray, getElem_cons_zero, getElem_cons_succ, setIfInBounds_toArray, set_cons_zero, set_cons_succ]
    apply s_val
    case ho | hw => rfl
    case hv => intro w hw; go_simp; first | done | rfl
    simp only [Act.put, getElem_toArray, getElem_cons_zero, getElem_cons_succ, setIfInBounds_toArray, set_cons_zero, set_cons_succ]
    apply s_val
    case ho | hw => rfl
    case hv => intro w hw; go_simp; first | done | rfl
    simp only [Act.put, getElem_toArray, getElem_cons_zero, getElem_cons_succ, setIfInBounds_toArray, set_cons_zero, set_cons_succ]
    apply s_val
    case ho | hw => rfl
    case hv => intro w hw; go_simp; first | done | rfl
    simp only [Act.put, getElem_toArray, getElem_cons_zero, getElem_cons_succ, setIfInBounds_toArray, set_cons_zero, set_cons_succ]
    refine Mm.sget1 rtD (fun w h => h) rfl rfl (.tmp 19) rfl rfl rfl ?_
    simp only [Act.put, getElem_toArray, getElem_cons_zero, getElem_cons_succ, setIfInBounds_toArray, set_cons_zero, set_cons_succ]
    refine Mm.sget0 rtD (fun w h => h) rfl rfl (.tmp 21) rfl rfl rfl ?_
    simp only [Act.put, getElem_toArray, getElem_cons_zero, getElem_cons_succ, setIfInBounds_toArray, set_cons_zero, set_cons_succ]
    apply s_val
    case ho | hw => rfl
    case hv => intro w hw; go_simp; first | done | rfl
    simp only [Act.put, getElem_toArray, getElem_cons_zero, getElem_cons_succ, setIfInBounds_toArray, set_cons_zero, set_cons_succ]
    apply s_val
    case ho | hw => rfl
    case hv => intro w hw; go_simp; first | done | rfl
    simp only [Act.put, getElem_toArray, getElem_cons_zero, getElem_cons_succ, setIfInBounds_toArray, set_cons_zero, set_cons_succ]
    apply s_val
    case ho | hw => rfl
    case hv => intro w hw; go_simp; first | done | rfl
    simp only [Act.put, getElem_toArray, getElem_cons_zero, getElem_cons_succ, setIfInBounds_toArray, set_cons_zero, set_cons_succ]
    apply s_val
    case ho | hw => rfl
    case hv => intro w hw; go_simp; first | done | rfl
    simp only [Act.put, getElem_toArray, getElem_cons_zero, getElem_cons_succ, setIfInBounds_toArray, set_cons_zero, set_cons_succ]
    apply s_val
    case ho | hw => rfl
    case hv => intro w hw; go_simp; first | done | rfl
    simp only [Act.put, getElem_toArray, getElem_cons_zero, getElem_cons_succ, setIfInBounds_toArray, set_cons_zero, set_cons_succ]
    apply s_val
    case ho | hw => rfl
    case hv => intro w hw; go_simp; first | done | rfl
    simp only [Act.put, getElem_toArray, getElem_cons_zero, getElem_cons_succ, setIfInBounds_toArray, set_cons_zero, set_cons_succ]
    apply s_val
    case ho | hw => rfl
    case hv => intro w hw; go_simp; first | done | rfl
    simp only [Act.put, getElem_toArray, getElem_cons_zero, getElem_cons_succ, setIfInBounds_toArray, set_cons_zero, set_cons_succ]
    apply s_val
    case ho | hw => rfl
    case hv => intro w hw; go_simp; first | done | rfl
    simp only [Act.put, getElem_toArray, getElem_cons_zero, getElem_cons_succ, setIfInBounds_toArray, set_cons_zero, set_cons_succ]
    refine Mm.sget5 rtD (fun w h => h) rfl rfl (.tmp 3) rfl rfl rfl ?_
    simp only [Act.put, getElem_toArray, getElem_cons_zero, getElem_cons_succ, setIfInBounds_toArray, set_cons_zero, set_cons_succ]
    refine Mm.sget4 rtD (fun w h => h) rfl rfl (.tmp 4) rfl rfl rfl ?_
    simp only [Act.put, getElem_toArray, getElem_cons_zero, getElem_cons_succ, setIfInBounds_toArray, set_cons_zero, set_cons_succ]
    refine Mm.sget5 rtD (fun w h => h) rfl rfl (.tmp 3) rfl rfl rfl ?_
    simp only [Act.put, getElem_toArray, getElem_cons_zero, getElem_cons_succ, setIfInBounds_toArray, set_cons_zero, set_cons_succ]
    refine Mm.sget4 rtD (fun w h => h) rfl rfl (.tmp 4) rfl rfl rfl ?_
    simp only [Act.put, getElem_toArray, getElem_cons_zero, getElem_cons_succ, setIfInBounds_toArray, set_cons_zero, set_cons_succ]
    refine Mm.o_callH (v := .bool F) H (fun W h => h) rfl rfl 21 (#[.agg #[.int .u8 (k : Int), .string r, .int .i64 ep, .int .i64 ix, .int .i64 hu, .int .i64 nx, .string sg], .agg #[.int .u8 (ke : Int), .string re, .int .i64 ee, .int .i64 ie, .int .i64 he, .int .i64 ne, .string ge]]) (by go_simp; first | done | rfl) (c12.out _ (HI.out.below H.out.below (Nat.le_refl _)) (HT0.out.below H.out.below (Nat.le_refl _))) ?_
    clear H
    intro _ H hb
    clear hb
    simp only [Act.put, getElem_toArray, getElem_cons_zero, getElem_cons_succ, setIfInBounds_toArray, set_cons_zero, set_cons_succ]
    refine Mm.o_callH (v := .bool F) H (fun W h => h) rfl rfl 22 (#[.agg #[.int .u8 (k : Int), .string r, .int .i64 ep, .int .i64 ix, .int .i64 hu, .int .i64 nx, .string sg], .agg #[.int .u8 (ke : Int), .string re, .int .i64 ee, .int .i64 ie, .int .i64 he, .int .i64 ne, .string ge]]) (by go_simp; first | done | rfl) (c13.out _) ?_
    clear H
    intro _ H hb
    clear hb
    simp only [Act.put, getElem_toArray, getElem_cons_zero, getElem_cons_succ, setIfInBounds_toArray, set_cons_zero, set_cons_succ]
    apply s_val
    case ho | hw => rfl
    case hv => intro w hw; go_simp; first | done | rfl
    simp only [Act.put, getElem_toArray, getElem_cons_zero, getElem_cons_succ, setIfInBounds_toArray, set_cons_zero, set_cons_succ]
    apply s_val
    case ho | hw => rfl
    case hv => intro w hw; go_simp; first | done | rfl
    simp only [Act.put, getElem_toArray, getElem_cons_zero, getElem_cons_succ, setIfInBounds_toArray, set_cons_zero, set_cons_succ]
    apply s_val
    case ho | hw => rfl
    case hv => intro w hw; go_simp; first | done | rfl
    simp only [Act.put, getElem_toArray, getElem_cons_zero, getElem_cons_succ, setIfInBounds_toArray, set_cons_zero, set_cons_succ]
    refine NoPanic.normal ?_
    go_wp2
    go_ret
    exact ⟨rfl, H.out.below⟩
end Go.Proofs.YtldokjbfnhgamaaGreatDoor.Ho
