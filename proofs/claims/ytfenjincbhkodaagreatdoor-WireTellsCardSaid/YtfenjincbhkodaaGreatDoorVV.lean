/-
  Joined: WiR.
-/
import Derived.Test.YtfenjincbhkodaaGreatDoorVO
import Derived.Test.YtfenjincbhkodaaGreatDoorVR
import Derived.Test.YtfenjincbhkodaaGreatDoorVT
import Derived.Test.YtfenjincbhkodaaGreatDoorVU
namespace Go.Proofs.YtfenjincbhkodaaGreatDoor.Wi
set_option maxRecDepth 100000
set_option linter.unusedVariables false
set_option linter.unusedSimpArgs false
open Go.RowKit
open List (getElem_toArray getElem_cons_zero getElem_cons_succ setIfInBounds_toArray set_cons_zero set_cons_succ)
open En (naS naI rtH u8_one hsV hsE hsV_len ohash_any s_bld wpL_slc num4_in)
open Ho (inE inV in_zero in_not al_sz allInt_any)
open En (smN)
open Ho (wpL_idxU)
section
variable {ops : Array Oper} {rest : List Oper} {o : Oper} {a : Act} {w w0 : World} {N : Nat} {L : List Mm.Bx} {Q : Exit → Act → World → Prop} {S : World → Prop} {j : Nat} {s : Scr} {K : Act → World → Prop}

theorem run_bsS8 (z0 z1 z2 z3 z4 z5 z6 z7 : ByteArray) (w : World) : (Instr.buildSlice 42 8 #[(0, .string z0), (1, .string z1), (2, .string z2), (3, .string z3), (4, .string z4), (5, .string z5), (6, .string z6), (7, .string z7)]).run Tryz.prog w = .ok (.slice (some ⟨w.heap.size, 0, none⟩) 8 8) (w.alloc (.cells #[.string z0, .string z1, .string z2, .string z3, .string z4, .string z5, .string z6, .string z7] 9)) := by
  obtain ⟨i0, hi, hz0, hz1, hz2⟩ := info_parts Sl.infoS
  refine run_buildSlice w 42 9 8 _ _ i0 _ Sl.tyS hi hz0 (by rw [hz1]; omega) (by rw [hz1]; omega) ?_
  have hr : Array.range 8 = #[0, 1, 2, 3, 4, 5, 6, 7] := by decide
  rw [hz1]; simp [Instr.fill, Value.cells, hr]
theorem wpL_bsS8 (H : Hid (Mm.M N w0 w L)) (hw : Region.wanted o (yielded ops a.tmps) = true) (x0 x1 x2 x3 x4 x5 x6 x7 : Operand) (z0 z1 z2 z3 z4 z5 z6 z7 : ByteArray) (ho : o.op = .buildSlice 42 8 #[(0, x0), (1, x1), (2, x2), (3, x3), (4, x4), (5, x5), (6, x6), (7, x7)]) (hx0 : a.eval x0 = .string z0) (hx1 : a.eval x1 = .string z1) (hx2 : a.eval x2 = .string z2) (hx3 : a.eval x3 = .string z3) (hx4 : a.eval x4 = .string z4) (hx5 : a.eval x5 = .string z5) (hx6 : a.eval x6 = .string z6) (hx7 : a.eval x7 = .string z7)
    (h : ∀ b W, Hid (Mm.M N w0 W (⟨b, 9, [.string z0, .string z1, .string z2, .string z3, .string z4, .string z5, .string z6, .string z7]⟩ :: L)) → Rt.NewAt w W b 9 [.string z0, .string z1, .string z2, .string z3, .string z4, .string z5, .string z6, .string z7] → wpList Tryz.prog ops Q rest (a.put o.dst (.slice (some ⟨b, 0, none⟩) 8 8)) W) : wpList Tryz.prog ops Q (o :: rest) a w := by
  refine wpList_step fun K hK => ?_
  rw [if_pos hw]
  have n := Rt.NewAt.mk' w 9 [.string z0, .string z1, .string z2, .string z3, .string z4, .string z5, .string z6, .string z7]
  have := hK _ _ (h _ _ (hidp (H.out.new n)) n)
  unfold Oper.wp execOp
  simp only [ho, List.map_toArray, List.map_cons, List.map_nil, hx0, hx1, hx2, hx3, hx4, hx5, hx6, hx7, Sem.run_bind, run_bsS8 z0 z1 z2 z3 z4 z5 z6 z7 w, Result.andThen_ok]
  exact this
end
theorem mwd_out {k : Nat} (h : ¬ k < 8) : mwd k = ByteArray.empty := by unfold mwd mWords; rw [List.getD_eq_getElem?_getD, List.getElem?_eq_none (by simp; omega)]; rfl

set_option maxHeartbeats 8000000 in
theorem rword25_any (w : World) (k : Nat) (hk : k < 256) : Calls Tryz.prog 25 #[.int .u8 (k : Int)] w fun e w' => e = .returned (.string (mwd k)) ∧ Below w.heap.size w w' := by
  have H := hidp (Mm.M.nil w)
  have w1 : IntKind.i64.wrap (k : Int) = (k : Int) := by unfold IntKind.wrap; simp [IntKind.bits, IntKind.signed]; omega
  by_cases hk3 : k < 8
  · have e1 : decide ((k : Int) ≥ 8) = false := by simp; omega
    have g1 : ¬ (8 : Int) ≤ (k : Int) := by omega
    have HC := hidp (show ∀ h : k < [Value.string ⟨#[]⟩, Value.string ⟨#[115, 117, 98, 109, 105, 116]⟩, Value.string ⟨#[114, 101, 106, 101, 99, 116]⟩, Value.string ⟨#[101, 110, 116, 114, 121]⟩, Value.string ⟨#[104, 101, 97, 100]⟩, Value.string ⟨#[97, 115, 107]⟩, Value.string ⟨#[112, 114, 111, 111, 102]⟩, Value.string ⟨#[100, 101, 97, 108]⟩].length, [Value.string ⟨#[]⟩, Value.string ⟨#[115, 117, 98, 109, 105, 116]⟩, Value.string ⟨#[114, 101, 106, 101, 99, 116]⟩, Value.string ⟨#[101, 110, 116, 114, 121]⟩, Value.string ⟨#[104, 101, 97, 100]⟩, Value.string ⟨#[97, 115, 107]⟩, Value.string ⟨#[112, 114, 111, 111, 102]⟩, Value.string ⟨#[100, 101, 97, 108]⟩][k]'h = .string (mwd k) from by
      intro h
      rcases (by omega : k = 0 ∨ k = 1 ∨ k = 2 ∨ k = 3 ∨ k = 4 ∨ k = 5 ∨ k = 6 ∨ k = 7) with rfl | rfl | rfl | rfl | rfl | rfl | rfl | rfl <;> rfl)
    go_enter Tryz.func25, Tryz.ntmps25
    have tk0 := hidp trivial
    go_wp2_with (first | (clear tk0; (refine wpL_bsS8 H rfl _ _ _ _ _ _ _ _ ⟨#[]⟩ ⟨#[115, 117, 98, 109, 105, 116]⟩ ⟨#[114, 101, 106, 101, 99, 116]⟩ ⟨#[101, 110, 116, 114, 121]⟩ ⟨#[104, 101, 97, 100]⟩ ⟨#[97, 115, 107]⟩ ⟨#[112, 114, 111, 111, 102]⟩ ⟨#[100, 101, 97, 108]⟩ rfl rfl rfl rfl rfl rfl rfl rfl rfl ?_; clear H; intro b4 _ H nw; clear nw); (try simp only [Act.put, setIfInBounds_toArray, set_cons_zero, set_cons_succ]); have tk1 := hidp trivial) | (clear tk1; (refine wpL_idxU Sl.tyS (by kernel_rfl) rfl (.tmp 10) (.tmp 11) rfl b4 0 8 8 k rfl rfl hk3 ?_); (try simp only [Act.put, setIfInBounds_toArray, set_cons_zero, set_cons_succ]); have tk2 := hidp trivial) | (clear tk2; (refine Mm.ldc naS rfl (.tmp 12) _ (.string (mwd k)) rfl rfl (by rw [Nat.zero_add]; exact (H.out.at0.cell k (by simp; omega)).trans (by rw [HC.out])) ?_); (try simp only [Act.put, setIfInBounds_toArray, set_cons_zero, set_cons_succ]); have tk3 := hidp trivial))
    try clear tk3
    go_ret
    exact ⟨rfl, H.out.below⟩
  · have e1 : decide ((k : Int) ≥ 8) = true := by simp; omega
    have g1 : (8 : Int) ≤ (k : Int) := by omega
    rw [mwd_out hk3]
    go_enter Tryz.func25, Tryz.ntmps25
    have tk0 := hidp trivial
    go_wp2_with (first | (clear tk0; (refine wpL_bsS8 H rfl _ _ _ _ _ _ _ _ ⟨#[]⟩ ⟨#[115, 117, 98, 109, 105, 116]⟩ ⟨#[114, 101, 106, 101, 99, 116]⟩ ⟨#[101, 110, 116, 114, 121]⟩ ⟨#[104, 101, 97, 100]⟩ ⟨#[97, 115, 107]⟩ ⟨#[112, 114, 111, 111, 102]⟩ ⟨#[100, 101, 97, 108]⟩ rfl rfl rfl rfl rfl rfl rfl rfl rfl ?_; clear H; intro b4 _ H nw; clear nw); (try simp only [Act.put, setIfInBounds_toArray, set_cons_zero, set_cons_succ]); have tk1 := hidp trivial))
    try clear tk1
    go_ret
    exact ⟨rfl, H.out.below⟩

set_option maxHeartbeats 16000000 in
theorem rpparse_any (w : World) (s : ByteArray) (hs : s.size ≤ 281474976710656) :
    Calls Tryz.prog 52 #[.string s] w fun e w' => ∃ v, e = .returned (.tuple #[v, .int .i64 (ppE s)]) ∧ Below w.heap.size w w' := by
  have ca := hidp (fun W => refAll_any W s hs)
  have H := hidp (Mm.M.nil w)
  by_cases h0 : (al s).2 = 0
  · by_cases h6 : (al s).1.length = 5
    · obtain ⟨a, b, c, d, f, hL⟩ : ∃ a b c d f, (al s).1 = [a, b, c, d, f] := by
        match hL : (al s).1, h6 with
        | [a, b, c, d, f], _ => exact ⟨a, b, c, d, f, rfl⟩
      have hss := al_sz s hs
      rw [hL] at hss
      have a0 : at' s 0 = a := by unfold at'; rw [hL]; rfl
      have hP : ppE s = if inE a 63 = 0 then 0 else 6 := by unfold ppE; rw [a0]; simp only [h0, h6, true_and]
      have cg := hidp (fun W => refGetNum_any W a (by have := hss a (by simp); omega))
      have hb := gn_bd a.data.toList
      have hz := size_toList a
      obtain ⟨⟨n, j, c0⟩, hr⟩ : ∃ r, gn a.data.toList = r := ⟨_, rfl⟩
      have hy := (y_gnm (m := 63) hr).1
      rw [hr] at cg hb
      unfold tup3 at cg
      simp only at cg hb
      rw [h0, hL] at ca
      have en : (((5 : Nat) : Int) != 5) = false := rfl
      clear hss h0 h6 hL a0 hr
      by_cases q1 : c0 = 0
      · subst q1
        by_cases q2 : j = a.size
        · have d2 : ((j : Int) != (a.size : Int)) = false := by rw [q2]; simp
          have d2n : (j != a.size) = false := by rw [q2]; simp
          by_cases q3 : n ≤ 63
          · have d3 : decide ((n : Int) > 63) = false := by simp; omega
            have d3n : ¬ 63 < (n : Int) := by omega
            have HE := hidp (show ppE s = 0 from by rw [hP, if_pos (hy.2 ⟨rfl, q2, q3⟩)])
            have w1 : IntKind.i64.wrap (n : Int) = (n : Int) := by unfold IntKind.wrap; simp [IntKind.bits, IntKind.signed]; omega
            clear hP hy q2 q3 hb hz
            go_enter Tryz.func52, Tryz.ntmps52
            have tk0 := hidp trivial
            go_upto_region 7 with (first | (clear tk0; (refine Mm.new rtP H (some 2) rfl rfl rfl ?_; clear H; intro b2 _ H nw; have hb := nw.below; clear hb nw); (try simp only [Act.put, setIfInBounds_toArray, set_cons_zero, set_cons_succ]); have tk1 := hidp trivial) | (clear tk1; (go_at_call 29; refine (ca.out _).mono ?_; rintro e w1 ⟨v, rfl, hst, hb⟩; have H0 := hidp (H.out.call hb); obtain ⟨g, off, cv, rfl, hg, hcs⟩ := Sl.strs_pos hst (by simp); clear H hst hb ca; have HC := hidp (show ∀ W, Below w1.heap.size w1 W → W.cell? ⟨g, off, none⟩ = some (.string a) ∧ W.cell? ⟨g, off + 1, none⟩ = some (.string b) ∧ W.cell? ⟨g, off + 2, none⟩ = some (.string c) ∧ W.cell? ⟨g, off + 3, none⟩ = some (.string d) ∧ W.cell? ⟨g, off + 4, none⟩ = some (.string f) from fun W hW => ⟨(hW.cell (p := ⟨g, off, none⟩) hg).trans (hcs 0 (by simp)), (hW.cell (p := ⟨g, off + 1, none⟩) hg).trans (hcs 1 (by simp)), (hW.cell (p := ⟨g, off + 2, none⟩) hg).trans (hcs 2 (by simp)), (hW.cell (p := ⟨g, off + 3, none⟩) hg).trans (hcs 3 (by simp)), (hW.cell (p := ⟨g, off + 4, none⟩) hg).trans (hcs 4 (by simp))⟩); clear hcs; have H := hidp (Mm.M.nil w1); obtain ⟨m0, m1, m2, m3, m4⟩ := HC.out _ H.out.below); (try simp only [Act.put, setIfInBounds_toArray, set_cons_zero, set_cons_succ]); have tk2 := hidp trivial) | (clear tk2; (go_at_call 43; refine (cg.out _).mono ?_; rintro e wq ⟨rfl, hb⟩; clear m0 m1 m2 m3 m4 cg; replace H := hidp (H.out.call hb); clear hb; obtain ⟨m0, -⟩ := HC.out _ H.out.below); (try simp only [Act.put, setIfInBounds_toArray, set_cons_zero, set_cons_succ]); have tk3 := hidp trivial))
            try clear tk3
            have H1 := hidp (Sl.join H0.out H.out)
            have cm := hidp (show ∀ W, Cls wq.heap.size wq W → W.cell? ⟨g, off, none⟩ = some (.string a) ∧ W.cell? ⟨g, off + 1, none⟩ = some (.string b) ∧ W.cell? ⟨g, off + 2, none⟩ = some (.string c) ∧ W.cell? ⟨g, off + 3, none⟩ = some (.string d) ∧ W.cell? ⟨g, off + 4, none⟩ = some (.string f) from fun W hW => HC.out W (H.out.below.trans (hW.mono H.out.le)))
            clear m0
            refine wp_region_then (C := Cls wq.heap.size wq) 15 (by kernel_rfl) (by kernel_rfl) (Cls.start _ _) ?_
            simp only [List.take, List.drop]
            repeat (apply q_val
                    · rfl
                    · intro w hw; obtain ⟨m0, m1, m2, m3, m4⟩ := cm.out w hw; go_simp; first | done | with_reducible rfl | rfl
                    simp only [Act.put, setIfInBounds_toArray, set_cons_zero, set_cons_succ])
            refine wpQuiet_nil ?_
            intro w4 hC
            replace H := hidp (H1.out.call hC)
            clear hC cm H1 H0 HC
            have tk0 := hidp trivial
            go_wp2_with (first | (clear tk0; (refine Mm.put0 rtP H rfl (.tmp 2) (.tmp 59) [.int .i64 (n : Int), .string b, .string c, .string d, .string f] rfl rfl rfl rfl (by simp [Value.oneCell']) rfl ?_; intro _ H2 st; clear st H; have H := H2; clear H2); (try simp only [Act.put, setIfInBounds_toArray, set_cons_zero, set_cons_succ]); have tk1 := hidp trivial))
            try clear tk1
            refine bodyPost_ret (Mm.ret_rowv rtP Tryz.results52 _ b2 _ _ rfl rfl H.out.at0 rfl) rfl ⟨⟨_, by rw [HE.out]; first | done | rfl⟩, H.out.below⟩
          · have d3 : decide ((n : Int) > 63) = true := by simp; omega
            have d3n : 63 < (n : Int) := by omega
            have HE := hidp (show ppE s = 6 from by rw [hP, if_neg (fun g => q3 (hy.1 g).2.2)])
            clear hP hy q2 q3 hb hz
            go_enter Tryz.func52, Tryz.ntmps52
            have tk0 := hidp trivial
            go_upto_region 6 with (first | (clear tk0; (refine Mm.new rtP H (some 2) rfl rfl rfl ?_; clear H; intro b2 _ H nw; have hb := nw.below; clear hb nw); (try simp only [Act.put, setIfInBounds_toArray, set_cons_zero, set_cons_succ]); have tk1 := hidp trivial) | (clear tk1; (go_at_call 29; refine (ca.out _).mono ?_; rintro e w1 ⟨v, rfl, hst, hb⟩; have H0 := hidp (H.out.call hb); obtain ⟨g, off, cv, rfl, hg, hcs⟩ := Sl.strs_pos hst (by simp); clear H hst hb ca; have HC := hidp (show ∀ W, Below w1.heap.size w1 W → W.cell? ⟨g, off, none⟩ = some (.string a) ∧ W.cell? ⟨g, off + 1, none⟩ = some (.string b) ∧ W.cell? ⟨g, off + 2, none⟩ = some (.string c) ∧ W.cell? ⟨g, off + 3, none⟩ = some (.string d) ∧ W.cell? ⟨g, off + 4, none⟩ = some (.string f) from fun W hW => ⟨(hW.cell (p := ⟨g, off, none⟩) hg).trans (hcs 0 (by simp)), (hW.cell (p := ⟨g, off + 1, none⟩) hg).trans (hcs 1 (by simp)), (hW.cell (p := ⟨g, off + 2, none⟩) hg).trans (hcs 2 (by simp)), (hW.cell (p := ⟨g, off + 3, none⟩) hg).trans (hcs 3 (by simp)), (hW.cell (p := ⟨g, off + 4, none⟩) hg).trans (hcs 4 (by simp))⟩); clear hcs; have H := hidp (Mm.M.nil w1); obtain ⟨m0, m1, m2, m3, m4⟩ := HC.out _ H.out.below); (try simp only [Act.put, setIfInBounds_toArray, set_cons_zero, set_cons_succ]); have tk2 := hidp trivial) | (clear tk2; (go_at_call 43; refine (cg.out _).mono ?_; rintro e wq ⟨rfl, hb⟩; clear m0 m1 m2 m3 m4 cg; replace H := hidp (H.out.call hb); clear hb; obtain ⟨m0, -⟩ := HC.out _ H.out.below); (try simp only [Act.put, setIfInBounds_toArray, set_cons_zero, set_cons_succ]); have tk3 := hidp trivial))
            try clear tk3
            replace H := hidp (Sl.join H0.out H.out)
            have tk0 := hidp trivial
            go_wp2_with (first | (clear tk0; (refine Rt.wpL_build rfl 86 _ rfl zPr (by kernel_rfl) ?_); (try simp only [Act.put, setIfInBounds_toArray, set_cons_zero, set_cons_succ]); have tk1 := hidp trivial) | (clear tk1; (refine Mm.put0 rtP H rfl (.tmp 2) (.tmp 44) zPr rfl rfl rfl rfl (by decide) rfl ?_; intro _ H2 st; clear st H; have H := H2; clear H2); (try simp only [Act.put, setIfInBounds_toArray, set_cons_zero, set_cons_succ]); have tk2 := hidp trivial))
            try clear tk2
            refine bodyPost_ret (Mm.ret_rowv rtP Tryz.results52 _ b2 _ _ rfl rfl H.out.at0 rfl) rfl ⟨_, by rw [HE.out]; first | done | rfl, H.out.below⟩
        · have d2 : ((j : Int) != (a.size : Int)) = true := by simp; omega
          have d2n : (j != a.size) = true := by simpa using q2
          have d2p : ¬ j = a.size := q2
          have HE := hidp (show ppE s = 6 from by rw [hP, if_neg (fun g => q2 (hy.1 g).2.1)])
          clear hP hy q2 hb hz
          go_enter Tryz.func52, Tryz.ntmps52
          have tk0 := hidp trivial
          go_upto_region 6 with (first | (clear tk0; (refine Mm.new rtP H (some 2) rfl rfl rfl ?_; clear H; intro b2 _ H nw; have hb := nw.below; clear hb nw); (try simp only [Act.put, setIfInBounds_toArray, set_cons_zero, set_cons_succ]); have tk1 := hidp trivial) | (clear tk1; (go_at_call 29; refine (ca.out _).mono ?_; rintro e w1 ⟨v, rfl, hst, hb⟩; have H0 := hidp (H.out.call hb); obtain ⟨g, off, cv, rfl, hg, hcs⟩ := Sl.strs_pos hst (by simp); clear H hst hb ca; have HC := hidp (show ∀ W, Below w1.heap.size w1 W → W.cell? ⟨g, off, none⟩ = some (.string a) ∧ W.cell? ⟨g, off + 1, none⟩ = some (.string b) ∧ W.cell? ⟨g, off + 2, none⟩ = some (.string c) ∧ W.cell? ⟨g, off + 3, none⟩ = some (.string d) ∧ W.cell? ⟨g, off + 4, none⟩ = some (.string f) from fun W hW => ⟨(hW.cell (p := ⟨g, off, none⟩) hg).trans (hcs 0 (by simp)), (hW.cell (p := ⟨g, off + 1, none⟩) hg).trans (hcs 1 (by simp)), (hW.cell (p := ⟨g, off + 2, none⟩) hg).trans (hcs 2 (by simp)), (hW.cell (p := ⟨g, off + 3, none⟩) hg).trans (hcs 3 (by simp)), (hW.cell (p := ⟨g, off + 4, none⟩) hg).trans (hcs 4 (by simp))⟩); clear hcs; have H := hidp (Mm.M.nil w1); obtain ⟨m0, m1, m2, m3, m4⟩ := HC.out _ H.out.below); (try simp only [Act.put, setIfInBounds_toArray, set_cons_zero, set_cons_succ]); have tk2 := hidp trivial) | (clear tk2; (go_at_call 43; refine (cg.out _).mono ?_; rintro e wq ⟨rfl, hb⟩; clear m0 m1 m2 m3 m4 cg; replace H := hidp (H.out.call hb); clear hb; obtain ⟨m0, -⟩ := HC.out _ H.out.below); (try simp only [Act.put, setIfInBounds_toArray, set_cons_zero, set_cons_succ]); have tk3 := hidp trivial))
          try clear tk3
          replace H := hidp (Sl.join H0.out H.out)
          have tk0 := hidp trivial
          go_wp2_with (first | (clear tk0; (refine Rt.wpL_build rfl 86 _ rfl zPr (by kernel_rfl) ?_); (try simp only [Act.put, setIfInBounds_toArray, set_cons_zero, set_cons_succ]); have tk1 := hidp trivial) | (clear tk1; (refine Mm.put0 rtP H rfl (.tmp 2) (.tmp 44) zPr rfl rfl rfl rfl (by decide) rfl ?_; intro _ H2 st; clear st H; have H := H2; clear H2); (try simp only [Act.put, setIfInBounds_toArray, set_cons_zero, set_cons_succ]); have tk2 := hidp trivial))
          try clear tk2
          refine bodyPost_ret (Mm.ret_rowv rtP Tryz.results52 _ b2 _ _ rfl rfl H.out.at0 rfl) rfl ⟨_, by rw [HE.out]; first | done | rfl, H.out.below⟩
      · have d1 : ((c0 : Int) != 0) = true := by simp; omega
        have d1n : ¬ c0 = 0 := q1
        have HE := hidp (show ppE s = 6 from by rw [hP, if_neg (fun g => q1 (hy.1 g).1)])
        clear hP hy q1 hb hz
        go_enter Tryz.func52, Tryz.ntmps52
        have tk0 := hidp trivial
        go_upto_region 6 with (first | (clear tk0; (refine Mm.new rtP H (some 2) rfl rfl rfl ?_; clear H; intro b2 _ H nw; have hb := nw.below; clear hb nw); (try simp only [Act.put, setIfInBounds_toArray, set_cons_zero, set_cons_succ]); have tk1 := hidp trivial) | (clear tk1; (go_at_call 29; refine (ca.out _).mono ?_; rintro e w1 ⟨v, rfl, hst, hb⟩; have H0 := hidp (H.out.call hb); obtain ⟨g, off, cv, rfl, hg, hcs⟩ := Sl.strs_pos hst (by simp); clear H hst hb ca; have HC := hidp (show ∀ W, Below w1.heap.size w1 W → W.cell? ⟨g, off, none⟩ = some (.string a) ∧ W.cell? ⟨g, off + 1, none⟩ = some (.string b) ∧ W.cell? ⟨g, off + 2, none⟩ = some (.string c) ∧ W.cell? ⟨g, off + 3, none⟩ = some (.string d) ∧ W.cell? ⟨g, off + 4, none⟩ = some (.string f) from fun W hW => ⟨(hW.cell (p := ⟨g, off, none⟩) hg).trans (hcs 0 (by simp)), (hW.cell (p := ⟨g, off + 1, none⟩) hg).trans (hcs 1 (by simp)), (hW.cell (p := ⟨g, off + 2, none⟩) hg).trans (hcs 2 (by simp)), (hW.cell (p := ⟨g, off + 3, none⟩) hg).trans (hcs 3 (by simp)), (hW.cell (p := ⟨g, off + 4, none⟩) hg).trans (hcs 4 (by simp))⟩); clear hcs; have H := hidp (Mm.M.nil w1); obtain ⟨m0, m1, m2, m3, m4⟩ := HC.out _ H.out.below); (try simp only [Act.put, setIfInBounds_toArray, set_cons_zero, set_cons_succ]); have tk2 := hidp trivial) | (clear tk2; (go_at_call 43; refine (cg.out _).mono ?_; rintro e wq ⟨rfl, hb⟩; clear m0 m1 m2 m3 m4 cg; replace H := hidp (H.out.call hb); clear hb; obtain ⟨m0, -⟩ := HC.out _ H.out.below); (try simp only [Act.put, setIfInBounds_toArray, set_cons_zero, set_cons_succ]); have tk3 := hidp trivial))
        try clear tk3
        replace H := hidp (Sl.join H0.out H.out)
        have tk0 := hidp trivial
        go_wp2_with (first | (clear tk0; (refine Rt.wpL_build rfl 86 _ rfl zPr (by kernel_rfl) ?_); (try simp only [Act.put, setIfInBounds_toArray, set_cons_zero, set_cons_succ]); have tk1 := hidp trivial) | (clear tk1; (refine Mm.put0 rtP H rfl (.tmp 2) (.tmp 44) zPr rfl rfl rfl rfl (by decide) rfl ?_; intro _ H2 st; clear st H; have H := H2; clear H2); (try simp only [Act.put, setIfInBounds_toArray, set_cons_zero, set_cons_succ]); have tk2 := hidp trivial))
        try clear tk2
        refine bodyPost_ret (Mm.ret_rowv rtP Tryz.results52 _ b2 _ _ rfl rfl H.out.at0 rfl) rfl ⟨_, by rw [HE.out]; first | done | rfl, H.out.below⟩
    · have HE := hidp (show ppE s = 6 from if_neg (fun g => h6 g.2.1))
      rw [h0] at ca
      obtain ⟨ss, hss⟩ : ∃ ss, (al s).1 = ss := ⟨_, rfl⟩
      rw [hss] at ca h6
      obtain ⟨n, hn⟩ : ∃ n, ss.length = n := ⟨_, rfl⟩
      have e1 : ((n : Int) != 5) = true := by simp; omega
      have g1 : ¬ n = 5 := by omega
      have g2 : (n != 5) = true := by simpa using g1
      clear hss h0
      have cb := hidp (fun W => (ca.out W).mono fun e w' ⟨v, h1, h2, h3⟩ => (⟨v, h1, ⟨Sl.strs_form h2, h3⟩⟩ : ∃ v, e = Ending.returned (.tuple #[v, .int .i64 ((0 : Nat) : Int)]) ∧ (∃ a c, v = Value.slice a ss.length c) ∧ Below W.heap.size W w'))
      rw [hn] at cb
      clear ca hn h6
      go_enter Tryz.func52, Tryz.ntmps52
      have tk0 := hidp trivial
      go_wp2_with (first | (clear tk0; (refine Mm.new rtP H (some 2) rfl rfl rfl ?_; clear H; intro b2 _ H nw; have hb := nw.below; clear hb nw); (try simp only [Act.put, setIfInBounds_toArray, set_cons_zero, set_cons_succ]); have tk1 := hidp trivial) | (clear tk1; (go_at_call 29; refine (cb.out _).mono ?_; rintro e _ ⟨v, rfl, ⟨av, cv, rfl⟩, hb⟩; replace H := hidp (H.out.call hb); clear hb cb); (try simp only [Act.put, setIfInBounds_toArray, set_cons_zero, set_cons_succ]); have tk2 := hidp trivial) | (clear tk2; (refine Rt.wpL_build rfl 86 _ rfl zPr (by kernel_rfl) ?_); (try simp only [Act.put, setIfInBounds_toArray, set_cons_zero, set_cons_succ]); have tk3 := hidp trivial) | (clear tk3; (refine Mm.put0 rtP H rfl (.tmp 2) (.tmp 21) zPr rfl rfl rfl rfl (by decide) rfl ?_; intro _ H2 st; clear st H; have H := H2; clear H2); (try simp only [Act.put, setIfInBounds_toArray, set_cons_zero, set_cons_succ]); have tk4 := hidp trivial))
      try clear tk4
      refine bodyPost_ret (Mm.ret_rowv rtP Tryz.results52 _ b2 _ _ rfl rfl H.out.at0 rfl) rfl ⟨_, by rw [HE.out]; first | done | rfl, H.out.below⟩
  · have HE := hidp (show ppE s = 6 from if_neg (fun g => h0 g.1))
    obtain ⟨E, hE⟩ : ∃ E, (al s).2 = E := ⟨_, rfl⟩
    rw [hE] at ca h0
    have e1 : ((E : Int) != 0) = true := by simp; omega
    have g1 : ¬ (E : Int) = 0 := by omega
    have g2 : ¬ E = 0 := h0
    clear hE h0
    go_enter Tryz.func52, Tryz.ntmps52
    have tk0 := hidp trivial
    go_wp2_with (first | (clear tk0; (refine Mm.new rtP H (some 2) rfl rfl rfl ?_; clear H; intro b2 _ H nw; have hb := nw.below; clear hb nw); (try simp only [Act.put, setIfInBounds_toArray, set_cons_zero, set_cons_succ]); have tk1 := hidp trivial) | (clear tk1; (go_at_call 29; refine (ca.out _).mono ?_; rintro e _ ⟨v, rfl, hst, hb⟩; replace H := hidp (H.out.call hb); obtain ⟨av, cv, rfl⟩ := Sl.strs_form hst; clear hst hb ca); (try simp only [Act.put, setIfInBounds_toArray, set_cons_zero, set_cons_succ]); have tk2 := hidp trivial) | (clear tk2; (refine Rt.wpL_build rfl 86 _ rfl zPr (by kernel_rfl) ?_); (try simp only [Act.put, setIfInBounds_toArray, set_cons_zero, set_cons_succ]); have tk3 := hidp trivial) | (clear tk3; (refine Mm.put0 rtP H rfl (.tmp 2) (.tmp 21) zPr rfl rfl rfl rfl (by decide) rfl ?_; intro _ H2 st; clear st H; have H := H2; clear H2); (try simp only [Act.put, setIfInBounds_toArray, set_cons_zero, set_cons_succ]); have tk4 := hidp trivial))
    try clear tk4
    refine bodyPost_ret (Mm.ret_rowv rtP Tryz.results52 _ b2 _ _ rfl rfl H.out.at0 rfl) rfl ⟨_, by rw [HE.out]; first | done | rfl, H.out.below⟩

set_option maxHeartbeats 16000000 in
theorem rbody_any (w : World) (k : Nat) (hk : 1 ≤ k ∧ k ≤ 7) (s : ByteArray) (hs : s.size ≤ 281474976710656) :
    Calls Tryz.prog 34 #[.int .u8 (k : Int), .string s] w fun e w' => e = .returned (.int .i64 (bE k s)) ∧ Below w.heap.size w w' := by
  by_cases h1 : k = 1
  · have HF : bE k s = evX (evP s) := by unfold bE; rw [if_pos h1]
    have e1 : ((k : Int) == 1) = true := by rw [h1]; rfl
    have cx := hidp (fun W => (revParse_any W s hs).mono fun e w9 ⟨q1, q2⟩ => (⟨_, q1, q2⟩ : ∃ v, e = Ending.returned (.tuple #[v, .int .i64 (evX (evP s))]) ∧ Below W.heap.size W w9))
    rw [HF]
    obtain ⟨X, hX⟩ : ∃ X, evX (evP s) = X := ⟨_, rfl⟩
    rw [hX] at cx ⊢
    clear hX HF hs hk h1
    go_enter Tryz.func34, Tryz.ntmps34
    go_wp2_with (go_at_call 49; refine (cx.out _).mono ?_; rintro e w9 ⟨v, rfl, hb⟩; have HB := hidp hb; clear hb cx)
    go_ret
    exact ⟨rfl, HB.out⟩
  have e1 : ((k : Int) == 1) = false := by rw [beq_eq_false_iff_ne]; omega
  have n1 : ¬ (k : Int) = 1 := by omega
  by_cases h2 : k = 2
  · have HF : bE k s = rjE s := by unfold bE; rw [if_neg h1, if_pos h2]
    have e2 : ((k : Int) == 2) = true := by rw [h2]; rfl
    have cx := hidp (fun W => (rrejected_any W s hs).mono fun e w9 ⟨q1, q2⟩ => (⟨_, _, q1, q2⟩ : ∃ v u, e = Ending.returned (.tuple #[v, u, .int .i64 (rjE s)]) ∧ Below W.heap.size W w9))
    rw [HF]
    obtain ⟨X, hX⟩ : ∃ X, rjE s = X := ⟨_, rfl⟩
    rw [hX] at cx ⊢
    clear hX HF hs hk h1 h2
    go_enter Tryz.func34, Tryz.ntmps34
    go_wp2_with (go_at_call 17; refine (cx.out _).mono ?_; rintro e w9 ⟨v, u, rfl, hb⟩; have HB := hidp hb; clear hb cx)
    go_ret
    exact ⟨rfl, HB.out⟩
  have e2 : ((k : Int) == 2) = false := by rw [beq_eq_false_iff_ne]; omega
  have n2 : ¬ (k : Int) = 2 := by omega
  by_cases h3 : k = 3
  · have HF : bE k s = En.epE s := by unfold bE; rw [if_neg h1, if_neg h2, if_pos h3]
    have e3 : ((k : Int) == 3) = true := by rw [h3]; rfl
    have cx := hidp (fun W => (En.rparse_any W s hs).mono fun e w9 ⟨q1, q2⟩ => (⟨_, q1, q2⟩ : ∃ v, e = Ending.returned (.tuple #[v, .int .i64 (En.epE s)]) ∧ Below W.heap.size W w9))
    rw [HF]
    obtain ⟨X, hX⟩ : ∃ X, En.epE s = X := ⟨_, rfl⟩
    rw [hX] at cx ⊢
    clear hX HF hs hk h1 h2 h3
    go_enter Tryz.func34, Tryz.ntmps34
    go_wp2_with (go_at_call 50; refine (cx.out _).mono ?_; rintro e w9 ⟨v, rfl, hb⟩; have HB := hidp hb; clear hb cx)
    go_ret
    exact ⟨rfl, HB.out⟩
  have e3 : ((k : Int) == 3) = false := by rw [beq_eq_false_iff_ne]; omega
  have n3 : ¬ (k : Int) = 3 := by omega
  by_cases h4 : k = 4
  · have HF : bE k s = Hd.jpE s := by unfold bE; rw [if_neg h1, if_neg h2, if_neg h3, if_pos h4]
    have e4 : ((k : Int) == 4) = true := by rw [h4]; rfl
    have cx := hidp (fun W => (Hd.rjparse_any W s hs).mono fun e w9 ⟨q1, q2⟩ => (⟨_, q1, q2⟩ : ∃ v, e = Ending.returned (.tuple #[v, .int .i64 (Hd.jpE s)]) ∧ Below W.heap.size W w9))
    rw [HF]
    obtain ⟨X, hX⟩ : ∃ X, Hd.jpE s = X := ⟨_, rfl⟩
    rw [hX] at cx ⊢
    clear hX HF hs hk h1 h2 h3 h4
    go_enter Tryz.func34, Tryz.ntmps34
    go_wp2_with (go_at_call 51; refine (cx.out _).mono ?_; rintro e w9 ⟨v, rfl, hb⟩; have HB := hidp hb; clear hb cx)
    go_ret
    exact ⟨rfl, HB.out⟩
  have e4 : ((k : Int) == 4) = false := by rw [beq_eq_false_iff_ne]; omega
  have n4 : ¬ (k : Int) = 4 := by omega
  by_cases h5 : k = 5
  · have HF : bE k s = akE s := by unfold bE; rw [if_neg h1, if_neg h2, if_neg h3, if_neg h4, if_pos h5]
    have e5 : ((k : Int) == 5) = true := by rw [h5]; rfl
    have cx := hidp (fun W => (rasked_any W s hs).mono fun e w9 ⟨q1, q2⟩ => (⟨_, q1, q2⟩ : ∃ v, e = Ending.returned (.tuple #[v, .int .i64 (akE s)]) ∧ Below W.heap.size W w9))
    rw [HF]
    obtain ⟨X, hX⟩ : ∃ X, akE s = X := ⟨_, rfl⟩
    rw [hX] at cx ⊢
    clear hX HF hs hk h1 h2 h3 h4 h5
    go_enter Tryz.func34, Tryz.ntmps34
    go_wp2_with (go_at_call 19; refine (cx.out _).mono ?_; rintro e w9 ⟨v, rfl, hb⟩; have HB := hidp hb; clear hb cx)
    go_ret
    exact ⟨rfl, HB.out⟩
  have e5 : ((k : Int) == 5) = false := by rw [beq_eq_false_iff_ne]; omega
  have n5 : ¬ (k : Int) = 5 := by omega
  by_cases h6 : k = 6
  · have HF : bE k s = ppE s := by unfold bE; rw [if_neg h1, if_neg h2, if_neg h3, if_neg h4, if_neg h5, if_pos h6]
    have e6 : ((k : Int) == 6) = true := by rw [h6]; rfl
    have cx := hidp (fun W => rpparse_any W s hs)
    rw [HF]
    obtain ⟨X, hX⟩ : ∃ X, ppE s = X := ⟨_, rfl⟩
    rw [hX] at cx ⊢
    clear hX HF hs hk h1 h2 h3 h4 h5 h6
    go_enter Tryz.func34, Tryz.ntmps34
    go_wp2_with (go_at_call 52; refine (cx.out _).mono ?_; rintro e w9 ⟨v, rfl, hb⟩; have HB := hidp hb; clear hb cx)
    go_ret
    exact ⟨rfl, HB.out⟩
  have e6 : ((k : Int) == 6) = false := by rw [beq_eq_false_iff_ne]; omega
  have n6 : ¬ (k : Int) = 6 := by omega
  by_cases h7 : k = 7
  · have HF : bE k s = Ho.dpE s := by unfold bE; rw [if_neg h1, if_neg h2, if_neg h3, if_neg h4, if_neg h5, if_neg h6, if_pos h7]
    have e7 : ((k : Int) == 7) = true := by rw [h7]; rfl
    have cx := hidp (fun W => (Ho.rparse24_any W s hs).mono fun e w9 ⟨q1, q2⟩ => (⟨_, q1, q2⟩ : ∃ v, e = Ending.returned (.tuple #[v, .int .i64 (Ho.dpE s)]) ∧ Below W.heap.size W w9))
    rw [HF]
    obtain ⟨X, hX⟩ : ∃ X, Ho.dpE s = X := ⟨_, rfl⟩
    rw [hX] at cx ⊢
    clear hX HF hs hk h1 h2 h3 h4 h5 h6 h7
    go_enter Tryz.func34, Tryz.ntmps34
    go_wp2_with (go_at_call 53; refine (cx.out _).mono ?_; rintro e w9 ⟨v, rfl, hb⟩; have HB := hidp hb; clear hb cx)
    go_ret
    exact ⟨rfl, HB.out⟩
  have e7 : ((k : Int) == 7) = false := by rw [beq_eq_false_iff_ne]; omega
  have n7 : ¬ (k : Int) = 7 := by omega
  omega

theorem srv_no {n : Int} (h : n < 0 ∨ n > 63) : srv n = false := decide_eq_false (by omega)
theorem srv_yes {n : Int} (h : ¬ n < 0) (g : ¬ n > 63) : srv n = true := decide_eq_true (by omega)
theorem toList_full {y : ByteArray} (h : ¬ y.size = 0) : (y.toList == (⟨#[]⟩ : ByteArray).toList) = false ∧ ¬ y.toList = [] ∧ y.toList.isEmpty = false := by
  have := full_facts h; exact ⟨this.2.2, this.1, this.2.1⟩
set_option maxHeartbeats 16000000 in
theorem rmcheck_any (w : World) (m : Ms) (hm : m.ok) :
    Calls Tryz.prog 11 #[.agg m.row.toArray] w fun e w' => e = .returned (.int .i64 (mE m)) ∧ Below w.heap.size w w' := by
  obtain ⟨k, f, t, b⟩ := m
  obtain ⟨hk, hb⟩ : k < 256 ∧ b.size ≤ 140737488351232 := hm
  show Calls Tryz.prog 11 #[.agg #[.int .u8 (k : Int), .int .i64 f, .int .i64 t, .string b]] w _
  have H := hidp (Mm.M.nil w)
  have cw := hidp (fun W => rword25_any W k hk)
  have hM : mE (⟨k, f, t, b⟩ : Ms) = if (srv f && srv t && mkB k) = true then (if b.size ≤ 8192 then bE k b else 7) else 2 := rfl
  by_cases h0 : f < 0
  · have e0 : decide (f < 0) = true := decide_eq_true h0
    have n0 : f < 0 := h0
    have HF := hidp (show mE (⟨k, f, t, b⟩ : Ms) = 2 from by rw [hM, show (srv f && srv t && mkB k) = false from by rw [srv_no (n := f) (.inl h0)]; simp]; rfl)
    clear hM h0 hk hb
    go_enter Tryz.func11, Tryz.ntmps11
    have tk0 := hidp trivial
    go_wp2_with (first | (clear tk0; (refine Mm.box 24 H rfl (.tmp 0) rfl [.int .u8 (k : Int), .int .i64 f, .int .i64 t, .string b] rfl ?_; clear H; intro b1 _ H nw; have hb := nw.below; clear hb nw); (try simp only [Act.put, setIfInBounds_toArray, set_cons_zero, set_cons_succ]); have tk1 := hidp trivial) | (clear tk1; (refine Mm.ld0 naI H rfl (.tmp 3) 1 _ rfl rfl rfl ?_); (try simp only [Act.put, setIfInBounds_toArray, set_cons_zero, set_cons_succ]); have tk2 := hidp trivial))
    try clear tk2
    go_ret
    exact ⟨by rw [HF.out]; first | done | rfl, H.out.below⟩
  have e0 : decide (f < 0) = false := decide_eq_false h0
  have n0 : ¬ f < 0 := h0
  by_cases h1 : f > 63
  · have e1 : decide (f > 63) = true := decide_eq_true h1
    have n1 : (63 : Int) < f := h1
    have HF := hidp (show mE (⟨k, f, t, b⟩ : Ms) = 2 from by rw [hM, show (srv f && srv t && mkB k) = false from by rw [srv_no (n := f) (.inr h1)]; simp]; rfl)
    clear hM h0 h1 hk hb
    go_enter Tryz.func11, Tryz.ntmps11
    have tk0 := hidp trivial
    go_wp2_with (first | (clear tk0; (refine Mm.box 24 H rfl (.tmp 0) rfl [.int .u8 (k : Int), .int .i64 f, .int .i64 t, .string b] rfl ?_; clear H; intro b1 _ H nw; have hb := nw.below; clear hb nw); (try simp only [Act.put, setIfInBounds_toArray, set_cons_zero, set_cons_succ]); have tk1 := hidp trivial) | (clear tk1; (refine Mm.ld0 naI H rfl (.tmp 3) 1 _ rfl rfl rfl ?_); (try simp only [Act.put, setIfInBounds_toArray, set_cons_zero, set_cons_succ]); have tk2 := hidp trivial) | (clear tk2; (refine Mm.ld0 naI H rfl (.tmp 7) 1 _ rfl rfl rfl ?_); (try simp only [Act.put, setIfInBounds_toArray, set_cons_zero, set_cons_succ]); have tk3 := hidp trivial))
    try clear tk3
    go_ret
    exact ⟨by rw [HF.out]; first | done | rfl, H.out.below⟩
  have e1 : decide (f > 63) = false := decide_eq_false h1
  have n1 : ¬ (63 : Int) < f := h1
  by_cases h2 : t < 0
  · have e2 : decide (t < 0) = true := decide_eq_true h2
    have n2 : t < 0 := h2
    have HF := hidp (show mE (⟨k, f, t, b⟩ : Ms) = 2 from by rw [hM, show (srv f && srv t && mkB k) = false from by rw [srv_no (n := t) (.inl h2)]; simp]; rfl)
    clear hM h0 h1 h2 hk hb
    go_enter Tryz.func11, Tryz.ntmps11
    have tk0 := hidp trivial
    go_wp2_with (first | (clear tk0; (refine Mm.box 24 H rfl (.tmp 0) rfl [.int .u8 (k : Int), .int .i64 f, .int .i64 t, .string b] rfl ?_; clear H; intro b1 _ H nw; have hb := nw.below; clear hb nw); (try simp only [Act.put, setIfInBounds_toArray, set_cons_zero, set_cons_succ]); have tk1 := hidp trivial) | (clear tk1; (refine Mm.ld0 naI H rfl (.tmp 3) 1 _ rfl rfl rfl ?_); (try simp only [Act.put, setIfInBounds_toArray, set_cons_zero, set_cons_succ]); have tk2 := hidp trivial) | (clear tk2; (refine Mm.ld0 naI H rfl (.tmp 7) 1 _ rfl rfl rfl ?_); (try simp only [Act.put, setIfInBounds_toArray, set_cons_zero, set_cons_succ]); have tk3 := hidp trivial) | (clear tk3; (refine Mm.ld0 naI H rfl (.tmp 12) 2 _ rfl rfl rfl ?_); (try simp only [Act.put, setIfInBounds_toArray, set_cons_zero, set_cons_succ]); have tk4 := hidp trivial))
    try clear tk4
    go_ret
    exact ⟨by rw [HF.out]; first | done | rfl, H.out.below⟩
  have e2 : decide (t < 0) = false := decide_eq_false h2
  have n2 : ¬ t < 0 := h2
  by_cases h3 : t > 63
  · have e3 : decide (t > 63) = true := decide_eq_true h3
    have n3 : (63 : Int) < t := h3
    have HF := hidp (show mE (⟨k, f, t, b⟩ : Ms) = 2 from by rw [hM, show (srv f && srv t && mkB k) = false from by rw [srv_no (n := t) (.inr h3)]; simp]; rfl)
    clear hM h0 h1 h2 h3 hk hb
    go_enter Tryz.func11, Tryz.ntmps11
    have tk0 := hidp trivial
    go_wp2_with (first | (clear tk0; (refine Mm.box 24 H rfl (.tmp 0) rfl [.int .u8 (k : Int), .int .i64 f, .int .i64 t, .string b] rfl ?_; clear H; intro b1 _ H nw; have hb := nw.below; clear hb nw); (try simp only [Act.put, setIfInBounds_toArray, set_cons_zero, set_cons_succ]); have tk1 := hidp trivial) | (clear tk1; (refine Mm.ld0 naI H rfl (.tmp 3) 1 _ rfl rfl rfl ?_); (try simp only [Act.put, setIfInBounds_toArray, set_cons_zero, set_cons_succ]); have tk2 := hidp trivial) | (clear tk2; (refine Mm.ld0 naI H rfl (.tmp 7) 1 _ rfl rfl rfl ?_); (try simp only [Act.put, setIfInBounds_toArray, set_cons_zero, set_cons_succ]); have tk3 := hidp trivial) | (clear tk3; (refine Mm.ld0 naI H rfl (.tmp 12) 2 _ rfl rfl rfl ?_); (try simp only [Act.put, setIfInBounds_toArray, set_cons_zero, set_cons_succ]); have tk4 := hidp trivial) | (clear tk4; (refine Mm.ld0 naI H rfl (.tmp 17) 2 _ rfl rfl rfl ?_); (try simp only [Act.put, setIfInBounds_toArray, set_cons_zero, set_cons_succ]); have tk5 := hidp trivial))
    try clear tk5
    go_ret
    exact ⟨by rw [HF.out]; first | done | rfl, H.out.below⟩
  have e3 : decide (t > 63) = false := decide_eq_false h3
  have n3 : ¬ (63 : Int) < t := h3
  by_cases h5 : 1 ≤ k ∧ k ≤ 7
  · obtain ⟨q1, q2, q3⟩ := toList_full (mwd_full h5)
    have hS : (srv f && srv t && mkB k) = true := by rw [srv_yes h0 h1, srv_yes h2 h3, show mkB k = true from decide_eq_true h5]; rfl
    obtain ⟨X, hX⟩ : ∃ X, mwd k = X := ⟨_, rfl⟩
    rw [hX] at cw q1 q2 q3
    have c5 := hidp (fun W => rbody_any W k h5 b (by omega))
    by_cases h8 : b.size ≤ 8192
    · have e8 : decide ((b.size : Int) > 8192) = false := by simp; omega
      have n8 : ¬ (8192 : Int) < (b.size : Int) := by omega
      have HF := hidp (show mE (⟨k, f, t, b⟩ : Ms) = bE k b from by rw [hM, if_pos hS, if_pos h8])
      obtain ⟨Y, hY⟩ : ∃ X, bE k b = X := ⟨_, rfl⟩
      rw [hY] at c5 HF
      clear hM h0 h1 h2 h3 h5 hS hk hb h8 hX hY
      go_enter Tryz.func11, Tryz.ntmps11
      have tk0 := hidp trivial
      go_wp2_with (first | (clear tk0; (refine Mm.box 24 H rfl (.tmp 0) rfl [.int .u8 (k : Int), .int .i64 f, .int .i64 t, .string b] rfl ?_; clear H; intro b1 _ H nw; have hb := nw.below; clear hb nw); (try simp only [Act.put, setIfInBounds_toArray, set_cons_zero, set_cons_succ]); have tk1 := hidp trivial) | (clear tk1; (refine Mm.ld0 naI H rfl (.tmp 3) 1 _ rfl rfl rfl ?_); (try simp only [Act.put, setIfInBounds_toArray, set_cons_zero, set_cons_succ]); have tk2 := hidp trivial) | (clear tk2; (refine Mm.ld0 naI H rfl (.tmp 7) 1 _ rfl rfl rfl ?_); (try simp only [Act.put, setIfInBounds_toArray, set_cons_zero, set_cons_succ]); have tk3 := hidp trivial) | (clear tk3; (refine Mm.ld0 naI H rfl (.tmp 12) 2 _ rfl rfl rfl ?_); (try simp only [Act.put, setIfInBounds_toArray, set_cons_zero, set_cons_succ]); have tk4 := hidp trivial) | (clear tk4; (refine Mm.ld0 naI H rfl (.tmp 17) 2 _ rfl rfl rfl ?_); (try simp only [Act.put, setIfInBounds_toArray, set_cons_zero, set_cons_succ]); have tk5 := hidp trivial) | (clear tk5; (refine Mm.ld0 naK H rfl (.tmp 22) 0 (.int .u8 (k : Int)) rfl rfl rfl ?_); (try simp only [Act.put, setIfInBounds_toArray, set_cons_zero, set_cons_succ]); have tk6 := hidp trivial) | (clear tk6; (go_at_call 25; refine (cw.out _).mono ?_; rintro e _ ⟨rfl, hb⟩; replace H := hidp (H.out.call hb); clear cw; clear hb); (try simp only [Act.put, setIfInBounds_toArray, set_cons_zero, set_cons_succ]); have tk7 := hidp trivial) | (clear tk7; (refine Mm.ld0 naS H rfl (.tmp 27) 3 _ rfl rfl rfl ?_); (try simp only [Act.put, setIfInBounds_toArray, set_cons_zero, set_cons_succ]); have tk8 := hidp trivial) | (clear tk8; (refine Mm.ld0 naK H rfl (.tmp 31) 0 (.int .u8 (k : Int)) rfl rfl rfl ?_); (try simp only [Act.put, setIfInBounds_toArray, set_cons_zero, set_cons_succ]); have tk9 := hidp trivial) | (clear tk9; (refine Mm.ld0 naS H rfl (.tmp 33) 3 _ rfl rfl rfl ?_); (try simp only [Act.put, setIfInBounds_toArray, set_cons_zero, set_cons_succ]); have tk10 := hidp trivial) | (clear tk10; (go_at_call 34; refine (c5.out _).mono ?_; rintro e _ ⟨rfl, hb⟩; replace H := hidp (H.out.call hb); clear c5; clear hb); (try simp only [Act.put, setIfInBounds_toArray, set_cons_zero, set_cons_succ]); have tk11 := hidp trivial))
      try clear tk11
      go_ret
      exact ⟨by rw [HF.out]; first | done | rfl, H.out.below⟩
    · have e8 : decide ((b.size : Int) > 8192) = true := by simp; omega
      have n8 : (8192 : Int) < (b.size : Int) := by omega
      have HF := hidp (show mE (⟨k, f, t, b⟩ : Ms) = 7 from by rw [hM, if_pos hS, if_neg h8])
      clear hM h0 h1 h2 h3 h5 hS hk hb h8 hX c5
      go_enter Tryz.func11, Tryz.ntmps11
      have tk0 := hidp trivial
      go_wp2_with (first | (clear tk0; (refine Mm.box 24 H rfl (.tmp 0) rfl [.int .u8 (k : Int), .int .i64 f, .int .i64 t, .string b] rfl ?_; clear H; intro b1 _ H nw; have hb := nw.below; clear hb nw); (try simp only [Act.put, setIfInBounds_toArray, set_cons_zero, set_cons_succ]); have tk1 := hidp trivial) | (clear tk1; (refine Mm.ld0 naI H rfl (.tmp 3) 1 _ rfl rfl rfl ?_); (try simp only [Act.put, setIfInBounds_toArray, set_cons_zero, set_cons_succ]); have tk2 := hidp trivial) | (clear tk2; (refine Mm.ld0 naI H rfl (.tmp 7) 1 _ rfl rfl rfl ?_); (try simp only [Act.put, setIfInBounds_toArray, set_cons_zero, set_cons_succ]); have tk3 := hidp trivial) | (clear tk3; (refine Mm.ld0 naI H rfl (.tmp 12) 2 _ rfl rfl rfl ?_); (try simp only [Act.put, setIfInBounds_toArray, set_cons_zero, set_cons_succ]); have tk4 := hidp trivial) | (clear tk4; (refine Mm.ld0 naI H rfl (.tmp 17) 2 _ rfl rfl rfl ?_); (try simp only [Act.put, setIfInBounds_toArray, set_cons_zero, set_cons_succ]); have tk5 := hidp trivial) | (clear tk5; (refine Mm.ld0 naK H rfl (.tmp 22) 0 (.int .u8 (k : Int)) rfl rfl rfl ?_); (try simp only [Act.put, setIfInBounds_toArray, set_cons_zero, set_cons_succ]); have tk6 := hidp trivial) | (clear tk6; (go_at_call 25; refine (cw.out _).mono ?_; rintro e _ ⟨rfl, hb⟩; replace H := hidp (H.out.call hb); clear cw; clear hb); (try simp only [Act.put, setIfInBounds_toArray, set_cons_zero, set_cons_succ]); have tk7 := hidp trivial) | (clear tk7; (refine Mm.ld0 naS H rfl (.tmp 27) 3 _ rfl rfl rfl ?_); (try simp only [Act.put, setIfInBounds_toArray, set_cons_zero, set_cons_succ]); have tk8 := hidp trivial))
      try clear tk8
      go_ret
      exact ⟨by rw [HF.out]; first | done | rfl, H.out.below⟩
  · have HF := hidp (show mE (⟨k, f, t, b⟩ : Ms) = 2 from by rw [hM, show (srv f && srv t && mkB k) = false from by rw [show mkB k = false from decide_eq_false h5]; simp]; rfl)
    have hX : mwd k = ⟨#[]⟩ := by
      by_cases g : k < 8
      · rw [show k = 0 from by omega]; rfl
      · exact mwd_out g
    rw [hX] at cw
    clear hM h0 h1 h2 h3 h5 hk hb hX
    go_enter Tryz.func11, Tryz.ntmps11
    have tk0 := hidp trivial
    go_wp2_with (first | (clear tk0; (refine Mm.box 24 H rfl (.tmp 0) rfl [.int .u8 (k : Int), .int .i64 f, .int .i64 t, .string b] rfl ?_; clear H; intro b1 _ H nw; have hb := nw.below; clear hb nw); (try simp only [Act.put, setIfInBounds_toArray, set_cons_zero, set_cons_succ]); have tk1 := hidp trivial) | (clear tk1; (refine Mm.ld0 naI H rfl (.tmp 3) 1 _ rfl rfl rfl ?_); (try simp only [Act.put, setIfInBounds_toArray, set_cons_zero, set_cons_succ]); have tk2 := hidp trivial) | (clear tk2; (refine Mm.ld0 naI H rfl (.tmp 7) 1 _ rfl rfl rfl ?_); (try simp only [Act.put, setIfInBounds_toArray, set_cons_zero, set_cons_succ]); have tk3 := hidp trivial) | (clear tk3; (refine Mm.ld0 naI H rfl (.tmp 12) 2 _ rfl rfl rfl ?_); (try simp only [Act.put, setIfInBounds_toArray, set_cons_zero, set_cons_succ]); have tk4 := hidp trivial) | (clear tk4; (refine Mm.ld0 naI H rfl (.tmp 17) 2 _ rfl rfl rfl ?_); (try simp only [Act.put, setIfInBounds_toArray, set_cons_zero, set_cons_succ]); have tk5 := hidp trivial) | (clear tk5; (refine Mm.ld0 naK H rfl (.tmp 22) 0 (.int .u8 (k : Int)) rfl rfl rfl ?_); (try simp only [Act.put, setIfInBounds_toArray, set_cons_zero, set_cons_succ]); have tk6 := hidp trivial) | (clear tk6; (go_at_call 25; refine (cw.out _).mono ?_; rintro e _ ⟨rfl, hb⟩; replace H := hidp (H.out.call hb); clear cw; clear hb); (try simp only [Act.put, setIfInBounds_toArray, set_cons_zero, set_cons_succ]); have tk7 := hidp trivial))
    try clear tk7
    go_ret
    exact ⟨by rw [HF.out]; first | done | rfl, H.out.below⟩

set_option maxHeartbeats 16000000 in
theorem rmbytes_any (w : World) (m : Ms) (hm : m.ok) :
    Calls Tryz.prog 7 #[.agg m.row.toArray] w fun e w' => e = .returned (.tuple #[.string (mB m), .int .i64 (mE m)]) ∧ Below w.heap.size w w' := by
  have cc := hidp (fun W => rmcheck_any W m hm)
  have H := hidp (Mm.M.nil w)
  by_cases h : mE m = 0
  · have hparts := mE_parts h
    have hlok := mL_ok h
    have hB := mB_yes h
    rw [h] at cc ⊢
    rw [hB]
    unfold mL at hlok ⊢
    obtain ⟨k, f, t, b⟩ := m
    simp only at hparts hlok
    obtain ⟨⟨f0, f1⟩, ⟨t0, t1⟩, ⟨k0, k1⟩, -⟩ := hparts
    obtain ⟨f, rfl⟩ := Int.eq_ofNat_of_zero_le f0
    obtain ⟨t, rfl⟩ := Int.eq_ofNat_of_zero_le t0
    simp only [Int.toNat_natCast] at hlok ⊢
    have hk8 : k < 8 := by omega
    have cw := hidp (fun W => rword25_any W k (by omega))
    have c0 : (0 : Int) ≤ (k : Int) := by omega
    have c8 : (k : Int) < 8 := by omega
    have cf := hidp (fun W => refNum_any W f (by omega))
    rw [numS_yes (by omega), numE_yes (by omega)] at cf
    have ct := hidp (fun W => refNum_any W t (by omega))
    rw [numS_yes (by omega), numE_yes (by omega)] at ct
    have w1 : IntKind.u64.wrap (f : Int) = (f : Int) := by unfold IntKind.wrap; simp [IntKind.bits, IntKind.signed]; omega
    have w2 : IntKind.u64.wrap (t : Int) = (t : Int) := by unfold IntKind.wrap; simp [IntKind.bits, IntKind.signed]; omega
    have cl := hidp (fun W v (hat : StrsAt W v [mwd k, mkS (encN f), mkS (encN t), b]) => refList_any W v _ hat (by simp) (fun s hs => by have := hlok.2 s hs; omega))
    rw [listS_yes hlok, listE_yes hlok] at cl
    obtain ⟨T, hT⟩ : ∃ T, mkS (encL [mwd k, mkS (encN f), mkS (encN t), b]) = T := ⟨_, rfl⟩
    rw [hT] at cl ⊢
    show Calls Tryz.prog 7 #[.agg #[.int .u8 (k : Int), .int .i64 (f : Int), .int .i64 (t : Int), .string b]] w _
    have HF := hidp (rfl : T = T)
    clear h hlok hB f0 f1 t0 t1 k0 k1 hT hm
    go_enter Tryz.func7, Tryz.ntmps7
    have tk0 := hidp trivial
    go_wp2_with (first | (clear tk0; (refine Mm.box 24 H rfl (.tmp 0) rfl [.int .u8 (k : Int), .int .i64 (f : Int), .int .i64 (t : Int), .string b] rfl ?_; clear H; intro b1 _ H nw; have hb := nw.below; clear hb nw); (try simp only [Act.put, setIfInBounds_toArray, set_cons_zero, set_cons_succ]); have tk1 := hidp trivial) | (clear tk1; (refine Mm.get0 rtM H rfl (.tmp 1) rfl rfl rfl ?_); (try simp only [Act.put, setIfInBounds_toArray, set_cons_zero, set_cons_succ]); have tk2 := hidp trivial) | (clear tk2; (go_at_call 11; refine (cc.out _).mono ?_; rintro e _ ⟨rfl, hb⟩; replace H := hidp (H.out.call hb); clear cc; clear hb); (try simp only [Act.put, setIfInBounds_toArray, set_cons_zero, set_cons_succ]); have tk3 := hidp trivial) | (clear tk3; (refine Mm.ld0 naI H rfl (.tmp 15) 1 (.int .i64 (f : Int)) rfl rfl rfl ?_); (try simp only [Act.put, setIfInBounds_toArray, set_cons_zero, set_cons_succ]); have tk4 := hidp trivial) | (clear tk4; (go_at_call 23; refine (cf.out _).mono ?_; rintro e _ ⟨rfl, hb⟩; replace H := hidp (H.out.call hb); clear hb); (try simp only [Act.put, setIfInBounds_toArray, set_cons_zero, set_cons_succ]); have tk5 := hidp trivial) | (clear tk5; (refine Mm.ld0 naI H rfl (.tmp 22) 2 (.int .i64 (t : Int)) rfl rfl rfl ?_); (try simp only [Act.put, setIfInBounds_toArray, set_cons_zero, set_cons_succ]); have tk6 := hidp trivial) | (clear tk6; (go_at_call 23; refine (ct.out _).mono ?_; rintro e _ ⟨rfl, hb⟩; replace H := hidp (H.out.call hb); clear hb); (try simp only [Act.put, setIfInBounds_toArray, set_cons_zero, set_cons_succ]); have tk7 := hidp trivial))
    try clear tk7
    refine Mm.region H (.take 0 (.take 1 (.take 3 (.take 4 (.take 5 (.take 6 (.one 2 (.one 7 (.one 8 (.take 9 (.take 10 (.take 11 (.take 12 .done))))))))))))) (by kernel_rfl) (by kernel_rfl) (by simp [Scr.depth]) (by kernel_rfl) ?_
    clear H
    intro _ H hb
    clear hb
    apply s_val
    case ho | hw => rfl
    case hv => intro w hw; go_simp; first | done | rfl
    simp only [Act.put, getElem_toArray, getElem_cons_zero, getElem_cons_succ, setIfInBounds_toArray, set_cons_zero, set_cons_succ]
    refine Mm.sld0 naK (fun w h => h) rfl rfl (.tmp 28) 0 (.int .u8 (k : Int)) rfl rfl rfl ?_
    simp only [Act.put, getElem_toArray, getElem_cons_zero, getElem_cons_succ, setIfInBounds_toArray, set_cons_zero, set_cons_succ]
    apply s_val
    case ho | hw => rfl
    case hv => intro w hw; go_simp; first | done | rfl
    simp only [Act.put, getElem_toArray, getElem_cons_zero, getElem_cons_succ, setIfInBounds_toArray, set_cons_zero, set_cons_succ]
    apply s_val
    case ho | hw => rfl
    case hv => intro w hw; go_simp; first | done | rfl
    simp only [Act.put, getElem_toArray, getElem_cons_zero, getElem_cons_succ, setIfInBounds_toArray, set_cons_zero, set_cons_succ]
    apply s_val
    case ho | hw => rfl
    case hv => intro w hw; go_simp; first | done | rfl
    simp only [Act.put, getElem_toArray, getElem_cons_zero, getElem_cons_succ, setIfInBounds_toArray, set_cons_zero, set_cons_succ]
    refine Mm.sld0 naS (fun w h => h) rfl rfl (.tmp 33) 3 _ rfl rfl rfl ?_
    simp only [Act.put, getElem_toArray, getElem_cons_zero, getElem_cons_succ, setIfInBounds_toArray, set_cons_zero, set_cons_succ]
    refine Mm.o_callH (v := .string (mwd k)) H (fun W h => h) rfl rfl 25 (#[.int .u8 (k : Int)]) (by go_simp; first | done | rfl) (cw.out _) ?_
    clear H
    intro _ H hb
    clear hb
    simp only [Act.put, getElem_toArray, getElem_cons_zero, getElem_cons_succ, setIfInBounds_toArray, set_cons_zero, set_cons_succ]
    refine o_bsS4 H (fun W h => h) rfl rfl _ _ _ _ (mwd k) (mkS (encN f)) (mkS (encN t)) b rfl rfl rfl rfl rfl ?_
    clear H
    intro b9 _ H nw
    have hb := nw.below
    clear hb nw
    simp only [Act.put, getElem_toArray, getElem_cons_zero, getElem_cons_succ, setIfInBounds_toArray, set_cons_zero, set_cons_succ]
    have hsl := (Sl.own_arr (B := 0) (row := strV [mwd k, mkS (encN f), mkS (encN t), b]) H.out.at0 (Nat.zero_le _) (by simp [strV])).strs
    refine Mm.o_callH (v := .tuple #[.string T, .int .i64 0]) H (fun W h => h.tail) rfl rfl 24 (#[.slice (some ⟨b9, 0, none⟩) 4 4]) (by go_simp; first | done | rfl) (cl.out _ _ hsl) ?_
    clear H
    intro _ H hb
    clear hsl cl
    clear hb
    simp only [Act.put, getElem_toArray, getElem_cons_zero, getElem_cons_succ, setIfInBounds_toArray, set_cons_zero, set_cons_succ]
    apply s_val
    case ho | hw => rfl
    case hv => intro w hw; go_simp; first | done | rfl
    simp only [Act.put, getElem_toArray, getElem_cons_zero, getElem_cons_succ, setIfInBounds_toArray, set_cons_zero, set_cons_succ]
    apply s_val
    case ho | hw => rfl
    case hv => intro w hw; go_simp; first | done | rfl
    simp only [Act.put, getElem_toArray, getElem_cons_zero, getElem_cons_succ, setIfInBounds_toArray, set_cons_zero, set_cons_succ]
    apply s_val
    case ho | hw => rfl
    case hv => intro w hw; go_simp; first | done | rfl
    simp only [Act.put, getElem_toArray, getElem_cons_zero, getElem_cons_succ, setIfInBounds_toArray, set_cons_zero, set_cons_succ]
    apply s_val
    case ho | hw => rfl
    case hv => intro w hw; go_simp; first | done | rfl
    simp only [Act.put, getElem_toArray, getElem_cons_zero, getElem_cons_succ, setIfInBounds_toArray, set_cons_zero, set_cons_succ]
    refine NoPanic.normal ?_
    go_wp2
    go_ret2
    exact ⟨rfl, H.out.below⟩
  · have HF := hidp (mB_no h)
    obtain ⟨E, hE⟩ : ∃ E, mE m = E := ⟨_, rfl⟩
    rw [hE] at cc h ⊢
    obtain ⟨k, f, t, b⟩ := m
    show Calls Tryz.prog 7 #[.agg #[.int .u8 (k : Int), .int .i64 f, .int .i64 t, .string b]] w _
    have e1 : (E != 0) = true := by simpa using h
    clear h hE hm
    go_enter Tryz.func7, Tryz.ntmps7
    have tk0 := hidp trivial
    go_wp2_with (first | (clear tk0; (refine Mm.box 24 H rfl (.tmp 0) rfl [.int .u8 (k : Int), .int .i64 f, .int .i64 t, .string b] rfl ?_; clear H; intro b1 _ H nw; have hb := nw.below; clear hb nw); (try simp only [Act.put, setIfInBounds_toArray, set_cons_zero, set_cons_succ]); have tk1 := hidp trivial) | (clear tk1; (refine Mm.get0 rtM H rfl (.tmp 1) rfl rfl rfl ?_); (try simp only [Act.put, setIfInBounds_toArray, set_cons_zero, set_cons_succ]); have tk2 := hidp trivial) | (clear tk2; (go_at_call 11; refine (cc.out _).mono ?_; rintro e _ ⟨rfl, hb⟩; replace H := hidp (H.out.call hb); clear cc; clear hb); (try simp only [Act.put, setIfInBounds_toArray, set_cons_zero, set_cons_succ]); have tk3 := hidp trivial))
    try clear tk3
    go_ret2
    exact ⟨by rw [HF.out]; first | done | rfl, H.out.below⟩

def hit (a b c d : ByteArray) (k : Nat) : Prop := mwd k = a ∧ nmB b 63 = true ∧ nmB c 63 = true ∧ mE ⟨k, (smN b : Nat), (smN c : Nat), d⟩ = 0
theorem mP_hit {s a b c d : ByteArray} (h0 : (al s).2 = 0) (hL : (al s).1 = [a, b, c, d]) {k : Nat} (h1 : 1 ≤ k) (h7 : k ≤ 7) (h : hit a b c d k) : mP s = some ⟨k, (smN b : Nat), (smN c : Nat), d⟩ := by
  obtain ⟨g1, g2, g3, g4⟩ := h
  have g2 := of_decide_eq_true g2; have g3 := of_decide_eq_true g3
  unfold mP
  rw [if_pos h0, hL]
  unfold mPL
  simp only
  rw [mkOf_eq h1 h7 g1, smN_inm g2, smN_inm g3]
  exact if_pos ⟨g2, g3, g4⟩
theorem mP_miss {s a b c d : ByteArray} (h0 : (al s).2 = 0) (hL : (al s).1 = [a, b, c, d]) (h : ∀ k, 1 ≤ k → k ≤ 7 → ¬ hit a b c d k) : mP s = none := by
  unfold mP
  rw [if_pos h0, hL]
  unfold mPL
  simp only
  refine if_neg fun ⟨g2, g3, g4⟩ => ?_
  have hk := (mE_parts g4).2.2.1
  simp only at hk
  exact h (mkOf a) hk.1 hk.2 ⟨(mwd_mkOf hk.1).1, decide_eq_true g2, decide_eq_true g3, by rw [← smN_inm g2, ← smN_inm g3]; exact g4⟩
set_option maxHeartbeats 32000000 in
theorem rmparse_any (w : World) (s : ByteArray) (hs : s.size ≤ 281474976710656) :
    Calls Tryz.prog 9 #[.string s] w fun e w' => e = .returned (.tuple #[.agg (mpV s).row.toArray, .int .i64 (mpE s)]) ∧ Below w.heap.size w w' := by
  have ca := hidp (fun W => refAll_any W s hs)
  have H := hidp (Mm.M.nil w)
  by_cases h0 : (al s).2 = 0
  · by_cases h6 : (al s).1.length = 4
    · obtain ⟨a, b, c, d, hL⟩ : ∃ a b c d, (al s).1 = [a, b, c, d] := by
        match hL : (al s).1, h6 with
        | [a, b, c, d], _ => exact ⟨a, b, c, d, rfl⟩
      have hss := al_sz s hs
      rw [hL] at hss
      have HIT := hidp (fun k h1 h7 h => mP_hit h0 hL (k := k) h1 h7 h)
      have MISS := hidp (fun h => mP_miss h0 hL h)
      have HDZ := hidp (show d.size ≤ 140737488351232 from by have := hss d (by simp); omega)
      have c1 := hidp (show ∀ W, Calls Tryz.prog 30 #[.string b, .int .u64 63] W (fun e w' => e = .returned (.tuple #[.int .i64 (smN b : Nat), .bool (nmB b 63)]) ∧ Below W.heap.size W w') from fun W => rnumber25_any W b 63 (by omega) (by have := hss b (by simp); omega))
      have c2 := hidp (show ∀ W, Calls Tryz.prog 30 #[.string c, .int .u64 63] W (fun e w' => e = .returned (.tuple #[.int .i64 (smN c : Nat), .bool (nmB c 63)]) ∧ Below W.heap.size W w') from fun W => rnumber25_any W c 63 (by omega) (by have := hss c (by simp); omega))
      rw [h0, hL] at ca
      obtain ⟨V1, hV1⟩ : ∃ V : Int, ((smN b : Nat) : Int) = V := ⟨_, rfl⟩
      obtain ⟨V2, hV2⟩ : ∃ V : Int, ((smN c : Nat) : Int) = V := ⟨_, rfl⟩
      have HV1 := hidp hV1; have HV2 := hidp hV2
      rw [hV1] at c1
      rw [hV2] at c2
      have en : (((4 : Nat) : Int) != 4) = false := rfl
      clear hss h0 h6 hL hV1 hV2
      go_enter Tryz.func9, Tryz.ntmps9
      have tk0 := hidp trivial
      go_wp2_with (first | (clear tk0; (refine Mm.new rtM H (some 2) rfl rfl rfl ?_; clear H; intro b2 _ H nw; have hb := nw.below; clear hb nw); (try simp only [Act.put, setIfInBounds_toArray, set_cons_zero, set_cons_succ]); have tk1 := hidp trivial) | (clear tk1; (go_at_call 29; refine (ca.out _).mono ?_; rintro e w1 ⟨v, rfl, hst, hb⟩; have H0 := hidp (H.out.call hb); obtain ⟨g, off, cv, rfl, hg, hcs⟩ := Sl.strs_pos hst (by simp); clear H hst hb ca; have HC := hidp (show ∀ W, Below w1.heap.size w1 W → W.cell? ⟨g, off, none⟩ = some (.string a) ∧ W.cell? ⟨g, off + 1, none⟩ = some (.string b) ∧ W.cell? ⟨g, off + 2, none⟩ = some (.string c) ∧ W.cell? ⟨g, off + 3, none⟩ = some (.string d) from fun W hW => ⟨(hW.cell (p := ⟨g, off, none⟩) hg).trans (hcs 0 (by simp)), (hW.cell (p := ⟨g, off + 1, none⟩) hg).trans (hcs 1 (by simp)), (hW.cell (p := ⟨g, off + 2, none⟩) hg).trans (hcs 2 (by simp)), (hW.cell (p := ⟨g, off + 3, none⟩) hg).trans (hcs 3 (by simp))⟩); clear hcs; have H := hidp (Mm.M.nil w1); obtain ⟨m0, m1, m2, m3⟩ := HC.out _ H.out.below); (try simp only [Act.put, setIfInBounds_toArray, set_cons_zero, set_cons_succ]); have tk2 := hidp trivial) | (clear tk2; (go_at_call 30; refine (c1.out _).mono ?_; rintro e _ ⟨rfl, hb⟩; clear m0 m1 m2 m3; replace H := hidp (H.out.call hb); obtain ⟨m0, m1, m2, m3⟩ := HC.out _ H.out.below; clear hb); (try simp only [Act.put, setIfInBounds_toArray, set_cons_zero, set_cons_succ]); have tk3 := hidp trivial) | (clear tk3; (go_at_call 30; refine (c2.out _).mono ?_; rintro e _ ⟨rfl, hb⟩; clear m0 m1 m2 m3; replace H := hidp (H.out.call hb); obtain ⟨m0, m1, m2, m3⟩ := HC.out _ H.out.below; clear hb); (try simp only [Act.put, setIfInBounds_toArray, set_cons_zero, set_cons_succ]); have tk4 := hidp trivial))
      try clear tk4
      clear m0 m1 m2 m3
      have HB0 := hidp H.out.below
      go_loopw [10] (fun t10 wr => ∃ k : Nat, t10 = .int .u8 (k : Int) ∧ 1 ≤ k ∧ k ≤ 8 ∧ (∀ j, 1 ≤ j → j < k → ¬ hit a b c d j) ∧ Below w1.heap.size w1 wr) (fun t10 _ => 8 - (intOf t10).toNat)
      case atStart => exact ⟨1, rfl, by omega, by omega, fun j h1 h2 => by omega, HB0.out⟩
      case round =>
        clear H HB0
        obtain ⟨k, rfl, h1, h9, hall, hM⟩ := hrel
        have HALL := hidp hall
        have H := hidp (show Mm.M w1.heap.size w1 wr [] from ⟨hM, hM.size, fun x h => (by cases h), .nil, fun x h => (by cases h)⟩)
        clear hall hM
        by_cases hl : k < 8
        · have e0 : decide ((k : Int) < 8) = true := by simp; omega
          have n0 : (k : Int) < 8 := by omega
          have hw1 : IntKind.u8.wrap ((k : Int) + 1) = (k : Int) + 1 := by unfold IntKind.wrap; simp [IntKind.bits, IntKind.signed]; omega
          have ck := hidp (fun W => rword25_any W k (by omega))
          obtain ⟨m0, m1, m2, m3⟩ := HC.out _ H.out.below
          by_cases hwt : mwd k = a
          · rw [hwt] at ck
            cases hB1 : nmB b 63 with
            | false =>
              have HNN := hidp (show ¬ hit a b c d k from fun g => by have g := g.2.1; rw [hB1] at g; cases g)
              clear hwt
              have tk0 := hidp trivial
              go_wp2_with (first | (clear tk0; (refine Rt.wpL_build rfl 24 _ rfl [.int .u8 (k : Int), .int .i64 V1, .int .i64 V2, .string d] (by kernel_rfl) ?_; clear m0 m1 m2 m3); (try simp only [Act.put, setIfInBounds_toArray, set_cons_zero, set_cons_succ]); have tk1 := hidp trivial) | (clear tk1; (refine Mm.new rtM H (some 11) rfl rfl rfl ?_; clear H; intro b11 _ H nw; have hb := nw.below; clear hb nw); (try simp only [Act.put, setIfInBounds_toArray, set_cons_zero, set_cons_succ]); have tk2 := hidp trivial) | (clear tk2; (refine Mm.put0 rtM H rfl (.tmp 11) (.tmp 49) [.int .u8 (k : Int), .int .i64 V1, .int .i64 V2, .string d] rfl rfl rfl rfl (by simp [Value.oneCell']) rfl ?_; intro _ H2 st; clear st H; have H := H2; clear H2); (try simp only [Act.put, setIfInBounds_toArray, set_cons_zero, set_cons_succ]); have tk3 := hidp trivial))
              try clear tk3
              refine Mm.region H (.take 0 (.take 2 (.take 3 (.take 4 (.one 1 (.take 5 (.take 6 (.take 7 (.take 8 (.take 9 (.take 10 (.take 11 (.take 12 (.take 13 (.take 14 (.take 15 (.take 16 .done))))))))))))))))) (by kernel_rfl) (by kernel_rfl) (by simp [Scr.depth]) (by kernel_rfl) ?_
              clear H
              intro _ H hb
              clear hb
              apply s_val
              case ho | hw => rfl
              case hv => intro w hw; go_simp; first | done | rfl
              simp only [Act.put, getElem_toArray, getElem_cons_zero, getElem_cons_succ, setIfInBounds_toArray, set_cons_zero, set_cons_succ]
              apply s_val
              case ho | hw => rfl
              case hv => intro w hw; go_simp; first | done | rfl
              simp only [Act.put, getElem_toArray, getElem_cons_zero, getElem_cons_succ, setIfInBounds_toArray, set_cons_zero, set_cons_succ]
              apply s_val
              case ho | hw => rfl
              case hv => intro w hw; go_simp; first | done | rfl
              simp only [Act.put, getElem_toArray, getElem_cons_zero, getElem_cons_succ, setIfInBounds_toArray, set_cons_zero, set_cons_succ]
              apply s_val
              case ho | hw => rfl
              case hv => intro w hw; obtain ⟨m0, m1, m2, m3⟩ := HC.out w hw.below; clear m1 m2 m3; go_simp; first | done | rfl
              simp only [Act.put, getElem_toArray, getElem_cons_zero, getElem_cons_succ, setIfInBounds_toArray, set_cons_zero, set_cons_succ]
              refine Mm.o_callH (v := .string a) H (fun W h => h) rfl rfl 25 (#[.int .u8 (k : Int)]) (by go_simp; first | done | rfl) (ck.out _) ?_
              clear H
              intro _ H hb
              clear ck
              clear hb
              simp only [Act.put, getElem_toArray, getElem_cons_zero, getElem_cons_succ, setIfInBounds_toArray, set_cons_zero, set_cons_succ]
              apply s_val
              case ho | hw => rfl
              case hv => intro w hw; go_simp; first | done | rfl
              simp only [Act.put, getElem_toArray, getElem_cons_zero, getElem_cons_succ, setIfInBounds_toArray, set_cons_zero, set_cons_succ]
              apply s_val
              case ho | hw => rfl
              case hv => intro w hw; go_simp; first | done | rfl
              simp only [Act.put, getElem_toArray, getElem_cons_zero, getElem_cons_succ, setIfInBounds_toArray, set_cons_zero, set_cons_succ]
              apply s_val
              case ho | hw => rfl
              case hv => intro w hw; go_simp; first | done | rfl
              simp only [Act.put, getElem_toArray, getElem_cons_zero, getElem_cons_succ, setIfInBounds_toArray, set_cons_zero, set_cons_succ]
              apply s_val
              case ho | hw => rfl
              case hv => intro w hw; go_simp; first | done | rfl
              simp only [Act.put, getElem_toArray, getElem_cons_zero, getElem_cons_succ, setIfInBounds_toArray, set_cons_zero, set_cons_succ]
              apply s_val
              case ho | hw => rfl
              case hv => intro w hw; go_simp; first | done | rfl
              simp only [Act.put, getElem_toArray, getElem_cons_zero, getElem_cons_succ, setIfInBounds_toArray, set_cons_zero, set_cons_succ]
              refine Rt.s_skip rfl rfl ?_
              simp only [Act.put, getElem_toArray, getElem_cons_zero, getElem_cons_succ, setIfInBounds_toArray, set_cons_zero, set_cons_succ]
              apply s_val
              case ho | hw => rfl
              case hv => intro w hw; go_simp; first | done | rfl
              simp only [Act.put, getElem_toArray, getElem_cons_zero, getElem_cons_succ, setIfInBounds_toArray, set_cons_zero, set_cons_succ]
              apply s_val
              case ho | hw => rfl
              case hv => intro w hw; go_simp; first | done | rfl
              simp only [Act.put, getElem_toArray, getElem_cons_zero, getElem_cons_succ, setIfInBounds_toArray, set_cons_zero, set_cons_succ]
              refine Rt.s_skip rfl rfl ?_
              simp only [Act.put, getElem_toArray, getElem_cons_zero, getElem_cons_succ, setIfInBounds_toArray, set_cons_zero, set_cons_succ]
              refine Rt.s_skip rfl rfl ?_
              simp only [Act.put, getElem_toArray, getElem_cons_zero, getElem_cons_succ, setIfInBounds_toArray, set_cons_zero, set_cons_succ]
              refine Rt.s_skip rfl rfl ?_
              simp only [Act.put, getElem_toArray, getElem_cons_zero, getElem_cons_succ, setIfInBounds_toArray, set_cons_zero, set_cons_succ]
              apply s_val
              case ho | hw => rfl
              case hv => intro w hw; go_simp; first | done | rfl
              simp only [Act.put, getElem_toArray, getElem_cons_zero, getElem_cons_succ, setIfInBounds_toArray, set_cons_zero, set_cons_succ]
              refine NoPanic.normal ?_
              go_wp2
              exact ⟨⟨k + 1, by go_num, by omega, by omega, fun j g1 g2 => (by
                by_cases hjk : j = k
                · subst hjk; exact HNN.out
                · exact HALL.out j g1 (by omega)), H.out.below⟩, by simp [intOf]; omega⟩
            | true =>
              cases hB2 : nmB c 63 with
              | false =>
                have HNN := hidp (show ¬ hit a b c d k from fun g => by have g := g.2.2.1; rw [hB2] at g; cases g)
                clear hwt
                have tk0 := hidp trivial
                go_wp2_with (first | (clear tk0; (refine Rt.wpL_build rfl 24 _ rfl [.int .u8 (k : Int), .int .i64 V1, .int .i64 V2, .string d] (by kernel_rfl) ?_; clear m0 m1 m2 m3); (try simp only [Act.put, setIfInBounds_toArray, set_cons_zero, set_cons_succ]); have tk1 := hidp trivial) | (clear tk1; (refine Mm.new rtM H (some 11) rfl rfl rfl ?_; clear H; intro b11 _ H nw; have hb := nw.below; clear hb nw); (try simp only [Act.put, setIfInBounds_toArray, set_cons_zero, set_cons_succ]); have tk2 := hidp trivial) | (clear tk2; (refine Mm.put0 rtM H rfl (.tmp 11) (.tmp 49) [.int .u8 (k : Int), .int .i64 V1, .int .i64 V2, .string d] rfl rfl rfl rfl (by simp [Value.oneCell']) rfl ?_; intro _ H2 st; clear st H; have H := H2; clear H2); (try simp only [Act.put, setIfInBounds_toArray, set_cons_zero, set_cons_succ]); have tk3 := hidp trivial))
                try clear tk3
                refine Mm.region H (.take 0 (.take 2 (.take 3 (.take 4 (.one 1 (.take 5 (.take 6 (.take 7 (.take 8 (.take 9 (.take 10 (.take 11 (.take 12 (.take 13 (.take 14 (.take 15 (.take 16 .done))))))))))))))))) (by kernel_rfl) (by kernel_rfl) (by simp [Scr.depth]) (by kernel_rfl) ?_
                clear H
                intro _ H hb
                clear hb
                apply s_val
                case ho | hw => rfl
                case hv => intro w hw; go_simp; first | done | rfl
                simp only [Act.put, getElem_toArray, getElem_cons_zero, getElem_cons_succ, setIfInBounds_toArray, set_cons_zero, set_cons_succ]
                apply s_val
                case ho | hw => rfl
                case hv => intro w hw; go_simp; first | done | rfl
                simp only [Act.put, getElem_toArray, getElem_cons_zero, getElem_cons_succ, setIfInBounds_toArray, set_cons_zero, set_cons_succ]
                apply s_val
                case ho | hw => rfl
                case hv => intro w hw; go_simp; first | done | rfl
                simp only [Act.put, getElem_toArray, getElem_cons_zero, getElem_cons_succ, setIfInBounds_toArray, set_cons_zero, set_cons_succ]
                apply s_val
                case ho | hw => rfl
                case hv => intro w hw; obtain ⟨m0, m1, m2, m3⟩ := HC.out w hw.below; clear m1 m2 m3; go_simp; first | done | rfl
                simp only [Act.put, getElem_toArray, getElem_cons_zero, getElem_cons_succ, setIfInBounds_toArray, set_cons_zero, set_cons_succ]
                refine Mm.o_callH (v := .string a) H (fun W h => h) rfl rfl 25 (#[.int .u8 (k : Int)]) (by go_simp; first | done | rfl) (ck.out _) ?_
                clear H
                intro _ H hb
                clear ck
                clear hb
                simp only [Act.put, getElem_toArray, getElem_cons_zero, getElem_cons_succ, setIfInBounds_toArray, set_cons_zero, set_cons_succ]
                apply s_val
                case ho | hw => rfl
                case hv => intro w hw; go_simp; first | done | rfl
                simp only [Act.put, getElem_toArray, getElem_cons_zero, getElem_cons_succ, setIfInBounds_toArray, set_cons_zero, set_cons_succ]
                apply s_val
                case ho | hw => rfl
                case hv => intro w hw; go_simp; first | done | rfl
                simp only [Act.put, getElem_toArray, getElem_cons_zero, getElem_cons_succ, setIfInBounds_toArray, set_cons_zero, set_cons_succ]
                apply s_val
                case ho | hw => rfl
                case hv => intro w hw; go_simp; first | done | rfl
                simp only [Act.put, getElem_toArray, getElem_cons_zero, getElem_cons_succ, setIfInBounds_toArray, set_cons_zero, set_cons_succ]
                apply s_val
                case ho | hw => rfl
                case hv => intro w hw; go_simp; first | done | rfl
                simp only [Act.put, getElem_toArray, getElem_cons_zero, getElem_cons_succ, setIfInBounds_toArray, set_cons_zero, set_cons_succ]
                apply s_val
                case ho | hw => rfl
                case hv => intro w hw; go_simp; first | done | rfl
                simp only [Act.put, getElem_toArray, getElem_cons_zero, getElem_cons_succ, setIfInBounds_toArray, set_cons_zero, set_cons_succ]
                apply s_val
                case ho | hw => rfl
                case hv => intro w hw; go_simp; first | done | rfl
                simp only [Act.put, getElem_toArray, getElem_cons_zero, getElem_cons_succ, setIfInBounds_toArray, set_cons_zero, set_cons_succ]
                apply s_val
                case ho | hw => rfl
                case hv => intro w hw; go_simp; first | done | rfl
                simp only [Act.put, getElem_toArray, getElem_cons_zero, getElem_cons_succ, setIfInBounds_toArray, set_cons_zero, set_cons_succ]
                apply s_val
                case ho | hw => rfl
                case hv => intro w hw; go_simp; first | done | rfl
                simp only [Act.put, getElem_toArray, getElem_cons_zero, getElem_cons_succ, setIfInBounds_toArray, set_cons_zero, set_cons_succ]
                refine Rt.s_skip rfl rfl ?_
                simp only [Act.put, getElem_toArray, getElem_cons_zero, getElem_cons_succ, setIfInBounds_toArray, set_cons_zero, set_cons_succ]
                refine Rt.s_skip rfl rfl ?_
                simp only [Act.put, getElem_toArray, getElem_cons_zero, getElem_cons_succ, setIfInBounds_toArray, set_cons_zero, set_cons_succ]
                refine Rt.s_skip rfl rfl ?_
                simp only [Act.put, getElem_toArray, getElem_cons_zero, getElem_cons_succ, setIfInBounds_toArray, set_cons_zero, set_cons_succ]
                apply s_val
                case ho | hw => rfl
                case hv => intro w hw; go_simp; first | done | rfl
                simp only [Act.put, getElem_toArray, getElem_cons_zero, getElem_cons_succ, setIfInBounds_toArray, set_cons_zero, set_cons_succ]
                refine NoPanic.normal ?_
                go_wp2
                exact ⟨⟨k + 1, by go_num, by omega, by omega, fun j g1 g2 => (by
                  by_cases hjk : j = k
                  · subst hjk; exact HNN.out
                  · exact HALL.out j g1 (by omega)), H.out.below⟩, by simp [intOf]; omega⟩
              | true =>
                have cc := hidp (show ∀ W, Calls Tryz.prog 11 #[.agg #[.int .u8 (k : Int), .int .i64 V1, .int .i64 V2, .string d]] W (fun e w' => e = .returned (.int .i64 (mE ⟨k, V1, V2, d⟩)) ∧ Below W.heap.size W w') from fun W => rmcheck_any W ⟨k, V1, V2, d⟩ ⟨by show k < 256; omega, HDZ.out⟩)
                by_cases hE : mE ⟨k, V1, V2, d⟩ = 0
                · have hP := HIT.out k h1 (by omega) ⟨hwt, hB1, hB2, by rw [HV1.out, HV2.out]; exact hE⟩
                  rw [HV1.out, HV2.out] at hP
                  have HV := hidp (show mpV s = ⟨k, V1, V2, d⟩ from by unfold mpV; rw [hP]; rfl)
                  have HE := hidp (show mpE s = 0 from by unfold mpE; rw [hP]; rfl)
                  rw [hE] at cc
                  clear hwt hE hP HIT MISS HALL
                  have tk0 := hidp trivial
                  go_wp2_with (first | (clear tk0; (refine Rt.wpL_build rfl 24 _ rfl [.int .u8 (k : Int), .int .i64 V1, .int .i64 V2, .string d] (by kernel_rfl) ?_; clear m0 m1 m2 m3); (try simp only [Act.put, setIfInBounds_toArray, set_cons_zero, set_cons_succ]); have tk1 := hidp trivial) | (clear tk1; (refine Mm.new rtM H (some 11) rfl rfl rfl ?_; clear H; intro b11 _ H nw; have hb := nw.below; clear hb nw); (try simp only [Act.put, setIfInBounds_toArray, set_cons_zero, set_cons_succ]); have tk2 := hidp trivial) | (clear tk2; (refine Mm.put0 rtM H rfl (.tmp 11) (.tmp 49) [.int .u8 (k : Int), .int .i64 V1, .int .i64 V2, .string d] rfl rfl rfl rfl (by simp [Value.oneCell']) rfl ?_; intro _ H2 st; clear st H; have H := H2; clear H2); (try simp only [Act.put, setIfInBounds_toArray, set_cons_zero, set_cons_succ]); have tk3 := hidp trivial))
                  try clear tk3
                  refine Mm.region H (.take 0 (.take 2 (.take 3 (.take 4 (.one 1 (.take 5 (.take 6 (.take 7 (.take 8 (.take 9 (.take 10 (.take 11 (.take 12 (.take 13 (.one 14 (.take 15 (.take 16 .done))))))))))))))))) (by kernel_rfl) (by kernel_rfl) (by simp [Scr.depth]) (by kernel_rfl) ?_
                  clear H
                  intro _ H hb
                  clear hb
                  apply s_val
                  case ho | hw => rfl
                  case hv => intro w hw; go_simp; first | done | rfl
                  simp only [Act.put, getElem_toArray, getElem_cons_zero, getElem_cons_succ, setIfInBounds_toArray, set_cons_zero, set_cons_succ]
                  apply s_val
                  case ho | hw => rfl
                  case hv => intro w hw; go_simp; first | done | rfl
                  simp only [Act.put, getElem_toArray, getElem_cons_zero, getElem_cons_succ, setIfInBounds_toArray, set_cons_zero, set_cons_succ]
                  apply s_val
                  case ho | hw => rfl
                  case hv => intro w hw; go_simp; first | done | rfl
                  simp only [Act.put, getElem_toArray, getElem_cons_zero, getElem_cons_succ, setIfInBounds_toArray, set_cons_zero, set_cons_succ]
                  apply s_val
                  case ho | hw => rfl
                  case hv => intro w hw; obtain ⟨m0, m1, m2, m3⟩ := HC.out w hw.below; clear m1 m2 m3; go_simp; first | done | rfl
                  simp only [Act.put, getElem_toArray, getElem_cons_zero, getElem_cons_succ, setIfInBounds_toArray, set_cons_zero, set_cons_succ]
                  refine Mm.o_callH (v := .string a) H (fun W h => h) rfl rfl 25 (#[.int .u8 (k : Int)]) (by go_simp; first | done | rfl) (ck.out _) ?_
                  clear H
                  intro _ H hb
                  clear ck
                  clear hb
                  simp only [Act.put, getElem_toArray, getElem_cons_zero, getElem_cons_succ, setIfInBounds_toArray, set_cons_zero, set_cons_succ]
                  apply s_val
                  case ho | hw => rfl
                  case hv => intro w hw; go_simp; first | done | rfl
                  simp only [Act.put, getElem_toArray, getElem_cons_zero, getElem_cons_succ, setIfInBounds_toArray, set_cons_zero, set_cons_succ]
                  apply s_val
                  case ho | hw => rfl
                  case hv => intro w hw; go_simp; first | done | rfl
                  simp only [Act.put, getElem_toArray, getElem_cons_zero, getElem_cons_succ, setIfInBounds_toArray, set_cons_zero, set_cons_succ]
                  apply s_val
                  case ho | hw => rfl
                  case hv => intro w hw; go_simp; first | done | rfl
                  simp only [Act.put, getElem_toArray, getElem_cons_zero, getElem_cons_succ, setIfInBounds_toArray, set_cons_zero, set_cons_succ]
                  apply s_val
                  case ho | hw => rfl
                  case hv => intro w hw; go_simp; first | done | rfl
                  simp only [Act.put, getElem_toArray, getElem_cons_zero, getElem_cons_succ, setIfInBounds_toArray, set_cons_zero, set_cons_succ]
                  apply s_val
                  case ho | hw => rfl
                  case hv => intro w hw; go_simp; first | done | rfl
                  simp only [Act.put, getElem_toArray, getElem_cons_zero, getElem_cons_succ, setIfInBounds_toArray, set_cons_zero, set_cons_succ]
                  apply s_val
                  case ho | hw => rfl
                  case hv => intro w hw; go_simp; first | done | rfl
                  simp only [Act.put, getElem_toArray, getElem_cons_zero, getElem_cons_succ, setIfInBounds_toArray, set_cons_zero, set_cons_succ]
                  apply s_val
                  case ho | hw => rfl
                  case hv => intro w hw; go_simp; first | done | rfl
                  simp only [Act.put, getElem_toArray, getElem_cons_zero, getElem_cons_succ, setIfInBounds_toArray, set_cons_zero, set_cons_succ]
                  apply s_val
                  case ho | hw => rfl
                  case hv => intro w hw; go_simp; first | done | rfl
                  simp only [Act.put, getElem_toArray, getElem_cons_zero, getElem_cons_succ, setIfInBounds_toArray, set_cons_zero, set_cons_succ]
                  refine Mm.sget0 rtM (fun w h => h) rfl rfl (.tmp 11) rfl rfl rfl ?_
                  simp only [Act.put, getElem_toArray, getElem_cons_zero, getElem_cons_succ, setIfInBounds_toArray, set_cons_zero, set_cons_succ]
                  refine Mm.o_callH (v := .int .i64 0) H (fun W h => h) rfl rfl 11 (#[.agg #[.int .u8 (k : Int), .int .i64 V1, .int .i64 V2, .string d]]) (by go_simp; first | done | rfl) (cc.out _) ?_
                  clear H
                  intro _ H hb
                  clear cc
                  clear hb
                  simp only [Act.put, getElem_toArray, getElem_cons_zero, getElem_cons_succ, setIfInBounds_toArray, set_cons_zero, set_cons_succ]
                  apply s_val
                  case ho | hw => rfl
                  case hv => intro w hw; go_simp; first | done | rfl
                  simp only [Act.put, getElem_toArray, getElem_cons_zero, getElem_cons_succ, setIfInBounds_toArray, set_cons_zero, set_cons_succ]
                  apply s_val
                  case ho | hw => rfl
                  case hv => intro w hw; go_simp; first | done | rfl
                  simp only [Act.put, getElem_toArray, getElem_cons_zero, getElem_cons_succ, setIfInBounds_toArray, set_cons_zero, set_cons_succ]
                  refine NoPanic.normal ?_
                  have tk0 := hidp trivial
                  go_wp2_with (first | (clear tk0; (refine Mm.get0 rtM H rfl (.tmp 11) rfl rfl rfl ?_; replace H := hidp (Sl.join H0.out H.out)); (try simp only [Act.put, setIfInBounds_toArray, set_cons_zero, set_cons_succ]); have tk1 := hidp trivial) | (clear tk1; (refine Mm.put1 rtM H rfl (.tmp 2) (.tmp 67) [.int .u8 (k : Int), .int .i64 V1, .int .i64 V2, .string d] rfl rfl rfl rfl (by simp [Value.oneCell']) rfl ?_; intro _ H2 st; clear st H; have H := H2; clear H2); (try simp only [Act.put, setIfInBounds_toArray, set_cons_zero, set_cons_succ]); have tk2 := hidp trivial))
                  try clear tk2
                  refine bodyPost_ret (Mm.ret_rowv rtM Tryz.results9 _ b2 _ _ rfl rfl H.out.at1 rfl) rfl ⟨by rw [HV.out, HE.out]; first | done | rfl, H.out.below⟩
                · have HNN := hidp (show ¬ hit a b c d k from fun g => hE (by have g := g.2.2.2; rw [HV1.out, HV2.out] at g; exact g))
                  obtain ⟨E, hEE⟩ : ∃ E, mE ⟨k, V1, V2, d⟩ = E := ⟨_, rfl⟩
                  rw [hEE] at cc hE
                  have eE : (E == 0) = false := by simpa using hE
                  have nE : ¬ E = 0 := hE
                  clear hwt hE hEE
                  have tk0 := hidp trivial
                  go_wp2_with (first | (clear tk0; (refine Rt.wpL_build rfl 24 _ rfl [.int .u8 (k : Int), .int .i64 V1, .int .i64 V2, .string d] (by kernel_rfl) ?_; clear m0 m1 m2 m3); (try simp only [Act.put, setIfInBounds_toArray, set_cons_zero, set_cons_succ]); have tk1 := hidp trivial) | (clear tk1; (refine Mm.new rtM H (some 11) rfl rfl rfl ?_; clear H; intro b11 _ H nw; have hb := nw.below; clear hb nw); (try simp only [Act.put, setIfInBounds_toArray, set_cons_zero, set_cons_succ]); have tk2 := hidp trivial) | (clear tk2; (refine Mm.put0 rtM H rfl (.tmp 11) (.tmp 49) [.int .u8 (k : Int), .int .i64 V1, .int .i64 V2, .string d] rfl rfl rfl rfl (by simp [Value.oneCell']) rfl ?_; intro _ H2 st; clear st H; have H := H2; clear H2); (try simp only [Act.put, setIfInBounds_toArray, set_cons_zero, set_cons_succ]); have tk3 := hidp trivial))
                  try clear tk3
                  refine Mm.region H (.take 0 (.take 2 (.take 3 (.take 4 (.one 1 (.take 5 (.take 6 (.take 7 (.take 8 (.take 9 (.take 10 (.take 11 (.take 12 (.take 13 (.one 14 (.take 15 (.take 16 .done))))))))))))))))) (by kernel_rfl) (by kernel_rfl) (by simp [Scr.depth]) (by kernel_rfl) ?_
                  clear H
                  intro _ H hb
                  clear hb
                  apply s_val
                  case ho | hw => rfl
                  case hv => intro w hw; go_simp; first | done | rfl
                  simp only [Act.put, getElem_toArray, getElem_cons_zero, getElem_cons_succ, setIfInBounds_toArray, set_cons_zero, set_cons_succ]
                  apply s_val
                  case ho | hw => rfl
                  case hv => intro w hw; go_simp; first | done | rfl
                  simp only [Act.put, getElem_toArray, getElem_cons_zero, getElem_cons_succ, setIfInBounds_toArray, set_cons_zero, set_cons_succ]
                  apply s_val
                  case ho | hw => rfl
                  case hv => intro w hw; go_simp; first | done | rfl
                  simp only [Act.put, getElem_toArray, getElem_cons_zero, getElem_cons_succ, setIfInBounds_toArray, set_cons_zero, set_cons_succ]
                  apply s_val
                  case ho | hw => rfl
                  case hv => intro w hw; obtain ⟨m0, m1, m2, m3⟩ := HC.out w hw.below; clear m1 m2 m3; go_simp; first | done | rfl
                  simp only [Act.put, getElem_toArray, getElem_cons_zero, getElem_cons_succ, setIfInBounds_toArray, set_cons_zero, set_cons_succ]
                  refine Mm.o_callH (v := .string a) H (fun W h => h) rfl rfl 25 (#[.int .u8 (k : Int)]) (by go_simp; first | done | rfl) (ck.out _) ?_
                  clear H
                  intro _ H hb
                  clear ck
                  clear hb
                  simp only [Act.put, getElem_toArray, getElem_cons_zero, getElem_cons_succ, setIfInBounds_toArray, set_cons_zero, set_cons_succ]
                  apply s_val
                  case ho | hw => rfl
                  case hv => intro w hw; go_simp; first | done | rfl
                  simp only [Act.put, getElem_toArray, getElem_cons_zero, getElem_cons_succ, setIfInBounds_toArray, set_cons_zero, set_cons_succ]
                  apply s_val
                  case ho | hw => rfl
                  case hv => intro w hw; go_simp; first | done | rfl
                  simp only [Act.put, getElem_toArray, getElem_cons_zero, getElem_cons_succ, setIfInBounds_toArray, set_cons_zero, set_cons_succ]
                  apply s_val
                  case ho | hw => rfl
                  case hv => intro w hw; go_simp; first | done | rfl
                  simp only [Act.put, getElem_toArray, getElem_cons_zero, getElem_cons_succ, setIfInBounds_toArray, set_cons_zero, set_cons_succ]
                  apply s_val
                  case ho | hw => rfl
                  case hv => intro w hw; go_simp; first | done | rfl
                  simp only [Act.put, getElem_toArray, getElem_cons_zero, getElem_cons_succ, setIfInBounds_toArray, set_cons_zero, set_cons_succ]
                  apply s_val
                  case ho | hw => rfl
                  case hv => intro w hw; go_simp; first | done | rfl
                  simp only [Act.put, getElem_toArray, getElem_cons_zero, getElem_cons_succ, setIfInBounds_toArray, set_cons_zero, set_cons_succ]
                  apply s_val
                  case ho | hw => rfl
                  case hv => intro w hw; go_simp; first | done | rfl
                  simp only [Act.put, getElem_toArray, getElem_cons_zero, getElem_cons_succ, setIfInBounds_toArray, set_cons_zero, set_cons_succ]
                  apply s_val
                  case ho | hw => rfl
                  case hv => intro w hw; go_simp; first | done | rfl
                  simp only [Act.put, getElem_toArray, getElem_cons_zero, getElem_cons_succ, setIfInBounds_toArray, set_cons_zero, set_cons_succ]
                  apply s_val
                  case ho | hw => rfl
                  case hv => intro w hw; go_simp; first | done | rfl
                  simp only [Act.put, getElem_toArray, getElem_cons_zero, getElem_cons_succ, setIfInBounds_toArray, set_cons_zero, set_cons_succ]
                  refine Mm.sget0 rtM (fun w h => h) rfl rfl (.tmp 11) rfl rfl rfl ?_
                  simp only [Act.put, getElem_toArray, getElem_cons_zero, getElem_cons_succ, setIfInBounds_toArray, set_cons_zero, set_cons_succ]
                  refine Mm.o_callH (v := .int .i64 E) H (fun W h => h) rfl rfl 11 (#[.agg #[.int .u8 (k : Int), .int .i64 V1, .int .i64 V2, .string d]]) (by go_simp; first | done | rfl) (cc.out _) ?_
                  clear H
                  intro _ H hb
                  clear cc
                  clear hb
                  simp only [Act.put, getElem_toArray, getElem_cons_zero, getElem_cons_succ, setIfInBounds_toArray, set_cons_zero, set_cons_succ]
                  apply s_val
                  case ho | hw => rfl
                  case hv => intro w hw; go_simp; first | done | rfl
                  simp only [Act.put, getElem_toArray, getElem_cons_zero, getElem_cons_succ, setIfInBounds_toArray, set_cons_zero, set_cons_succ]
                  apply s_val
                  case ho | hw => rfl
                  case hv => intro w hw; go_simp; first | done | rfl
                  simp only [Act.put, getElem_toArray, getElem_cons_zero, getElem_cons_succ, setIfInBounds_toArray, set_cons_zero, set_cons_succ]
                  refine NoPanic.normal ?_
                  go_wp2
                  exact ⟨⟨k + 1, by go_num, by omega, by omega, fun j g1 g2 => (by
                    by_cases hjk : j = k
                    · subst hjk; exact HNN.out
                    · exact HALL.out j g1 (by omega)), H.out.below⟩, by simp [intOf]; omega⟩
          · have hq := toList_no hwt
            have HNN := hidp (show ¬ hit a b c d k from fun g => hwt g.1)
            obtain ⟨X, hX⟩ : ∃ X, mwd k = X := ⟨_, rfl⟩
            rw [hX] at ck hq
            have hqn : ¬ X.toList = a.toList := by intro g; rw [g] at hq; simp at hq
            clear hwt hX
            have tk0 := hidp trivial
            go_wp2_with (first | (clear tk0; (refine Rt.wpL_build rfl 24 _ rfl [.int .u8 (k : Int), .int .i64 V1, .int .i64 V2, .string d] (by kernel_rfl) ?_; clear m0 m1 m2 m3); (try simp only [Act.put, setIfInBounds_toArray, set_cons_zero, set_cons_succ]); have tk1 := hidp trivial) | (clear tk1; (refine Mm.new rtM H (some 11) rfl rfl rfl ?_; clear H; intro b11 _ H nw; have hb := nw.below; clear hb nw); (try simp only [Act.put, setIfInBounds_toArray, set_cons_zero, set_cons_succ]); have tk2 := hidp trivial) | (clear tk2; (refine Mm.put0 rtM H rfl (.tmp 11) (.tmp 49) [.int .u8 (k : Int), .int .i64 V1, .int .i64 V2, .string d] rfl rfl rfl rfl (by simp [Value.oneCell']) rfl ?_; intro _ H2 st; clear st H; have H := H2; clear H2); (try simp only [Act.put, setIfInBounds_toArray, set_cons_zero, set_cons_succ]); have tk3 := hidp trivial))
            try clear tk3
            refine Mm.region H (.take 0 (.take 2 (.take 3 (.take 4 (.one 1 (.take 5 (.take 6 (.take 7 (.take 8 (.take 9 (.take 10 (.take 11 (.take 12 (.take 13 (.take 14 (.take 15 (.take 16 .done))))))))))))))))) (by kernel_rfl) (by kernel_rfl) (by simp [Scr.depth]) (by kernel_rfl) ?_
            clear H
            intro _ H hb
            clear hb
            apply s_val
            case ho | hw => rfl
            case hv => intro w hw; go_simp; first | done | rfl
            simp only [Act.put, getElem_toArray, getElem_cons_zero, getElem_cons_succ, setIfInBounds_toArray, set_cons_zero, set_cons_succ]
            apply s_val
            case ho | hw => rfl
            case hv => intro w hw; go_simp; first | done | rfl
            simp only [Act.put, getElem_toArray, getElem_cons_zero, getElem_cons_succ, setIfInBounds_toArray, set_cons_zero, set_cons_succ]
            apply s_val
            case ho | hw => rfl
            case hv => intro w hw; go_simp; first | done | rfl
            simp only [Act.put, getElem_toArray, getElem_cons_zero, getElem_cons_succ, setIfInBounds_toArray, set_cons_zero, set_cons_succ]
            apply s_val
            case ho | hw => rfl
            case hv => intro w hw; obtain ⟨m0, m1, m2, m3⟩ := HC.out w hw.below; clear m1 m2 m3; go_simp; first | done | rfl
            simp only [Act.put, getElem_toArray, getElem_cons_zero, getElem_cons_succ, setIfInBounds_toArray, set_cons_zero, set_cons_succ]
            refine Mm.o_callH (v := .string X) H (fun W h => h) rfl rfl 25 (#[.int .u8 (k : Int)]) (by go_simp; first | done | rfl) (ck.out _) ?_
            clear H
            intro _ H hb
            clear ck
            clear hb
            simp only [Act.put, getElem_toArray, getElem_cons_zero, getElem_cons_succ, setIfInBounds_toArray, set_cons_zero, set_cons_succ]
            apply s_val
            case ho | hw => rfl
            case hv => intro w hw; go_simp; first | done | rfl
            simp only [Act.put, getElem_toArray, getElem_cons_zero, getElem_cons_succ, setIfInBounds_toArray, set_cons_zero, set_cons_succ]
            apply s_val
            case ho | hw => rfl
            case hv => intro w hw; go_simp; first | done | rfl
            simp only [Act.put, getElem_toArray, getElem_cons_zero, getElem_cons_succ, setIfInBounds_toArray, set_cons_zero, set_cons_succ]
            refine Rt.s_skip rfl rfl ?_
            simp only [Act.put, getElem_toArray, getElem_cons_zero, getElem_cons_succ, setIfInBounds_toArray, set_cons_zero, set_cons_succ]
            apply s_val
            case ho | hw => rfl
            case hv => intro w hw; go_simp; first | done | rfl
            simp only [Act.put, getElem_toArray, getElem_cons_zero, getElem_cons_succ, setIfInBounds_toArray, set_cons_zero, set_cons_succ]
            apply s_val
            case ho | hw => rfl
            case hv => intro w hw; go_simp; first | done | rfl
            simp only [Act.put, getElem_toArray, getElem_cons_zero, getElem_cons_succ, setIfInBounds_toArray, set_cons_zero, set_cons_succ]
            refine Rt.s_skip rfl rfl ?_
            simp only [Act.put, getElem_toArray, getElem_cons_zero, getElem_cons_succ, setIfInBounds_toArray, set_cons_zero, set_cons_succ]
            apply s_val
            case ho | hw => rfl
            case hv => intro w hw; go_simp; first | done | rfl
            simp only [Act.put, getElem_toArray, getElem_cons_zero, getElem_cons_succ, setIfInBounds_toArray, set_cons_zero, set_cons_succ]
            apply s_val
            case ho | hw => rfl
            case hv => intro w hw; go_simp; first | done | rfl
            simp only [Act.put, getElem_toArray, getElem_cons_zero, getElem_cons_succ, setIfInBounds_toArray, set_cons_zero, set_cons_succ]
            refine Rt.s_skip rfl rfl ?_
            simp only [Act.put, getElem_toArray, getElem_cons_zero, getElem_cons_succ, setIfInBounds_toArray, set_cons_zero, set_cons_succ]
            refine Rt.s_skip rfl rfl ?_
            simp only [Act.put, getElem_toArray, getElem_cons_zero, getElem_cons_succ, setIfInBounds_toArray, set_cons_zero, set_cons_succ]
            refine Rt.s_skip rfl rfl ?_
            simp only [Act.put, getElem_toArray, getElem_cons_zero, getElem_cons_succ, setIfInBounds_toArray, set_cons_zero, set_cons_succ]
            apply s_val
            case ho | hw => rfl
            case hv => intro w hw; go_simp; first | done | rfl
            simp only [Act.put, getElem_toArray, getElem_cons_zero, getElem_cons_succ, setIfInBounds_toArray, set_cons_zero, set_cons_succ]
            refine NoPanic.normal ?_
            go_wp2
            exact ⟨⟨k + 1, by go_num, by omega, by omega, fun j g1 g2 => (by
              by_cases hjk : j = k
              · subst hjk; exact HNN.out
              · exact HALL.out j g1 (by omega)), H.out.below⟩, by simp [intOf]; omega⟩
        · have e0 : decide ((k : Int) < 8) = false := by simp; omega
          have n0 : ¬ (k : Int) < 8 := by omega
          have hN := MISS.out fun j g1 g2 => HALL.out j g1 (by omega)
          have HV := hidp (show mpV s = zMs from by unfold mpV; rw [hN]; rfl)
          have HE := hidp (show mpE s = 6 from by unfold mpE; rw [hN]; rfl)
          clear hN HIT MISS
          replace H := hidp (Sl.join H0.out H.out)
          have tk0 := hidp trivial
          go_wp2_with (first | (clear tk0; (refine Rt.wpL_build rfl 24 _ rfl [.int .u8 0, .int .i64 0, .int .i64 0, .string ⟨#[]⟩] (by kernel_rfl) ?_); (try simp only [Act.put, setIfInBounds_toArray, set_cons_zero, set_cons_succ]); have tk1 := hidp trivial) | (clear tk1; (refine Mm.put0 rtM H rfl (.tmp 2) (.tmp 68) [.int .u8 0, .int .i64 0, .int .i64 0, .string ⟨#[]⟩] rfl rfl rfl rfl (by decide) rfl ?_; intro _ H2 st; clear st H; have H := H2; clear H2); (try simp only [Act.put, setIfInBounds_toArray, set_cons_zero, set_cons_succ]); have tk2 := hidp trivial))
          try clear tk2
          refine bodyPost_ret (Mm.ret_rowv rtM Tryz.results9 _ b2 _ _ rfl rfl H.out.at0 rfl) rfl ⟨by rw [HV.out, HE.out]; first | done | rfl, H.out.below⟩
    · have hN := mP_len h6
      have HV := hidp (show mpV s = zMs from by unfold mpV; rw [hN]; rfl)
      have HE := hidp (show mpE s = 6 from by unfold mpE; rw [hN]; rfl)
      clear hN
      rw [h0] at ca
      obtain ⟨ss, hss⟩ : ∃ ss, (al s).1 = ss := ⟨_, rfl⟩
      rw [hss] at ca h6
      obtain ⟨n, hn⟩ : ∃ n, ss.length = n := ⟨_, rfl⟩
      have e1 : ((n : Int) != 4) = true := by simp; omega
      have g1 : ¬ n = 4 := by omega
      have g2 : (n != 4) = true := by simpa using g1
      clear hss h0
      have cb := hidp (fun W => (ca.out W).mono fun e w' ⟨v, h1, h2, h3⟩ => (⟨v, h1, ⟨Sl.strs_form h2, h3⟩⟩ : ∃ v, e = Ending.returned (.tuple #[v, .int .i64 ((0 : Nat) : Int)]) ∧ (∃ a c, v = Value.slice a ss.length c) ∧ Below W.heap.size W w'))
      rw [hn] at cb
      clear ca hn h6
      go_enter Tryz.func9, Tryz.ntmps9
      have tk0 := hidp trivial
      go_wp2_with (first | (clear tk0; (refine Mm.new rtM H (some 2) rfl rfl rfl ?_; clear H; intro b2 _ H nw; have hb := nw.below; clear hb nw); (try simp only [Act.put, setIfInBounds_toArray, set_cons_zero, set_cons_succ]); have tk1 := hidp trivial) | (clear tk1; (go_at_call 29; refine (cb.out _).mono ?_; rintro e _ ⟨v, rfl, ⟨av, cv, rfl⟩, hb⟩; replace H := hidp (H.out.call hb); clear hb cb); (try simp only [Act.put, setIfInBounds_toArray, set_cons_zero, set_cons_succ]); have tk2 := hidp trivial) | (clear tk2; (refine Rt.wpL_build rfl 24 _ rfl [.int .u8 0, .int .i64 0, .int .i64 0, .string ⟨#[]⟩] (by kernel_rfl) ?_); (try simp only [Act.put, setIfInBounds_toArray, set_cons_zero, set_cons_succ]); have tk3 := hidp trivial) | (clear tk3; (refine Mm.put0 rtM H rfl (.tmp 2) (.tmp 24) [.int .u8 0, .int .i64 0, .int .i64 0, .string ⟨#[]⟩] rfl rfl rfl rfl (by decide) rfl ?_; intro _ H2 st; clear st H; have H := H2; clear H2); (try simp only [Act.put, setIfInBounds_toArray, set_cons_zero, set_cons_succ]); have tk4 := hidp trivial))
      try clear tk4
      refine bodyPost_ret (Mm.ret_rowv rtM Tryz.results9 _ b2 _ _ rfl rfl H.out.at0 rfl) rfl ⟨by rw [HV.out, HE.out]; first | done | rfl, H.out.below⟩
  · have hN : mP s = none := if_neg h0
    have HV := hidp (show mpV s = zMs from by unfold mpV; rw [hN]; rfl)
    have HE := hidp (show mpE s = 6 from by unfold mpE; rw [hN]; rfl)
    clear hN
    obtain ⟨E, hE⟩ : ∃ E, (al s).2 = E := ⟨_, rfl⟩
    rw [hE] at ca h0
    have e1 : ((E : Int) != 0) = true := by simp; omega
    have g1 : ¬ (E : Int) = 0 := by omega
    have g2 : ¬ E = 0 := h0
    clear hE h0
    go_enter Tryz.func9, Tryz.ntmps9
    have tk0 := hidp trivial
    go_wp2_with (first | (clear tk0; (refine Mm.new rtM H (some 2) rfl rfl rfl ?_; clear H; intro b2 _ H nw; have hb := nw.below; clear hb nw); (try simp only [Act.put, setIfInBounds_toArray, set_cons_zero, set_cons_succ]); have tk1 := hidp trivial) | (clear tk1; (go_at_call 29; refine (ca.out _).mono ?_; rintro e _ ⟨v, rfl, hst, hb⟩; replace H := hidp (H.out.call hb); obtain ⟨av, cv, rfl⟩ := Sl.strs_form hst; clear hst hb ca); (try simp only [Act.put, setIfInBounds_toArray, set_cons_zero, set_cons_succ]); have tk2 := hidp trivial) | (clear tk2; (refine Rt.wpL_build rfl 24 _ rfl [.int .u8 0, .int .i64 0, .int .i64 0, .string ⟨#[]⟩] (by kernel_rfl) ?_); (try simp only [Act.put, setIfInBounds_toArray, set_cons_zero, set_cons_succ]); have tk3 := hidp trivial) | (clear tk3; (refine Mm.put0 rtM H rfl (.tmp 2) (.tmp 24) [.int .u8 0, .int .i64 0, .int .i64 0, .string ⟨#[]⟩] rfl rfl rfl rfl (by decide) rfl ?_; intro _ H2 st; clear st H; have H := H2; clear H2); (try simp only [Act.put, setIfInBounds_toArray, set_cons_zero, set_cons_succ]); have tk4 := hidp trivial))
    try clear tk4
    refine bodyPost_ret (Mm.ret_rowv rtM Tryz.results9 _ b2 _ _ rfl rfl H.out.at0 rfl) rfl ⟨by rw [HV.out, HE.out]; first | done | rfl, H.out.below⟩

theorem eqin_msg (W : World) (k : Nat) (f t : Int) (b : ByteArray) :
    (Op.equalIn 10000 24 (.agg #[.int .u8 (k : Int), .int .i64 f, .int .i64 t, .string b]) (.agg #[.int .u8 (k : Int), .int .i64 f, .int .i64 t, .string b])).run Tryz.prog W = .ok true W := by
  have ht : Tryz.prog.underlying 24 = some (.struct (Tryz.prog.fieldsOf 24)) := by kernel_rfl
  have hp : Tryz.prog.stoodInHeld 24 = false := by kernel_rfl
  have hu := Tryz.underlying24
  have hus := Tryz.underlying9
  have hui := Tryz.underlying3
  have huk := Tryz.underlying22
  rw [run_equalIn_agg W 9999 _ _ _ ht hp]
  unfold Program.fieldsOf
  rw [hu]
  go_simp
set_option maxHeartbeats 32000000 in
theorem walk_wireTells (w : World) (m : Ms) (hm : m.ok) (s : ByteArray) (hs : s.size ≤ 140737488351232) (hAll : IT w ∧ WT w ∧ Ho.HT w ∧ MT w) :
    Calls Tryz.prog 3 #[.agg m.row.toArray, .string s] w fun e w' => e = .returned (.bool true) ∧ Below w.heap.size w w' := by
  obtain ⟨hI, hW, hT, hMT⟩ := hAll
  have cv := hidp (fun W h1 h2 h3 h4 => lives25_any W h1 h2 h3 h4)
  have HI := hidp hI; have HW := hidp hW; have HT0 := hidp hT; have HM := hidp hMT; clear hI hW hT hMT
  have H := hidp (Mm.M.nil w)
  have c1 := hidp (fun W h1 h2 h3 h4 => mbytes_any W m hm h1 h2 h3 h4)
  have c2 := hidp (fun W => rmbytes_any W m hm)
  have c3 := hidp (fun W h1 h2 h3 h4 => mparse_any W s (by omega) h1 h2 h3 h4)
  have c4 := hidp (fun W => rmparse_any W s (by omega))
  have c5 := hidp (fun W h1 h2 h3 => mcheck_any W m hm h1 h2 h3)
  have c6 := hidp (fun W => rmcheck_any W m hm)
  obtain ⟨⟨ky, fy, ty, byy⟩, hy⟩ : ∃ y, mpV s = y := ⟨_, rfl⟩
  obtain ⟨EY, hEY⟩ : ∃ y, mpE s = y := ⟨_, rfl⟩
  obtain ⟨A, hA⟩ : ∃ y, mB m = y := ⟨_, rfl⟩
  obtain ⟨EM, hEM⟩ : ∃ y, mE m = y := ⟨_, rfl⟩
  rw [hy, hEY] at c3 c4
  rw [hA, hEM] at c1 c2
  rw [hEM] at c5 c6
  have qm := fun W => eqin_msg W ky fy ty byy
  obtain ⟨k, f, t, b⟩ := m
  change Hid (∀ W, _ → _ → _ → _ → Calls Tryz.prog 6 #[.agg #[.int .u8 (k : Int), .int .i64 f, .int .i64 t, .string b]] W _) at c1
  change Hid (∀ W, Calls Tryz.prog 7 #[.agg #[.int .u8 (k : Int), .int .i64 f, .int .i64 t, .string b]] W _) at c2
  change Hid (∀ W, _ → _ → _ → Calls Tryz.prog 10 #[.agg #[.int .u8 (k : Int), .int .i64 f, .int .i64 t, .string b]] W _) at c5
  change Hid (∀ W, Calls Tryz.prog 11 #[.agg #[.int .u8 (k : Int), .int .i64 f, .int .i64 t, .string b]] W _) at c6
  change Hid (∀ W, _ → _ → _ → _ → Calls Tryz.prog 8 #[.string s] W (fun e w' => e = .returned (.tuple #[.agg #[.int .u8 (ky : Int), .int .i64 fy, .int .i64 ty, .string byy], .int .i64 EY]) ∧ Below W.heap.size W w')) at c3
  change Hid (∀ W, Calls Tryz.prog 9 #[.string s] W (fun e w' => e = .returned (.tuple #[.agg #[.int .u8 (ky : Int), .int .i64 fy, .int .i64 ty, .string byy], .int .i64 EY]) ∧ Below W.heap.size W w')) at c4
  show Calls Tryz.prog 3 #[.agg #[.int .u8 (k : Int), .int .i64 f, .int .i64 t, .string b], _] w _
  clear hy hEY hA hEM hm
  by_cases h9 : s.size ≤ 65536
  · have e9 : decide ((s.size : Int) > 65536) = false := by simp; omega
    have n9 : ¬ (65536 : Int) < (s.size : Int) := by omega
    clear h9 hs
    go_enter Tryz.func3, Tryz.ntmps3
    have tk0 := hidp trivial
    go_wp2_with (first | (clear tk0; (refine Mm.box 24 H rfl (.tmp 0) rfl [.int .u8 (k : Int), .int .i64 f, .int .i64 t, .string b] rfl ?_; clear H; intro b2 _ H nw; have hb := nw.below; clear hb nw); (try simp only [Act.put, setIfInBounds_toArray, set_cons_zero, set_cons_succ]); have tk1 := hidp trivial) | (clear tk1; (refine Mm.get0 rtM H rfl (.tmp 2) rfl rfl rfl ?_); (try simp only [Act.put, setIfInBounds_toArray, set_cons_zero, set_cons_succ]); have tk2 := hidp trivial) | (clear tk2; (go_at_call 6; refine (c1.out _ (HI.out.below H.out.below (Nat.le_refl _)) (HW.out.below H.out.below (Nat.le_refl _)) (HT0.out.below H.out.below (Nat.le_refl _)) (HM.out.below H.out.below (Nat.le_refl _))).mono ?_; rintro e _ ⟨rfl, hb⟩; replace H := hidp (H.out.call hb); clear c1; clear hb); (try simp only [Act.put, setIfInBounds_toArray, set_cons_zero, set_cons_succ]); have tk3 := hidp trivial) | (clear tk3; (refine Mm.get0 rtM H rfl (.tmp 2) rfl rfl rfl ?_); (try simp only [Act.put, setIfInBounds_toArray, set_cons_zero, set_cons_succ]); have tk4 := hidp trivial) | (clear tk4; (go_at_call 7; refine (c2.out _).mono ?_; rintro e _ ⟨rfl, hb⟩; replace H := hidp (H.out.call hb); clear c2; clear hb); (try simp only [Act.put, setIfInBounds_toArray, set_cons_zero, set_cons_succ]); have tk5 := hidp trivial) | (clear tk5; (go_at_call 8; refine (c3.out _ (HI.out.below H.out.below (Nat.le_refl _)) (HW.out.below H.out.below (Nat.le_refl _)) (HT0.out.below H.out.below (Nat.le_refl _)) (HM.out.below H.out.below (Nat.le_refl _))).mono ?_; rintro e _ ⟨rfl, hb⟩; replace H := hidp (H.out.call hb); clear c3; clear hb); (try simp only [Act.put, setIfInBounds_toArray, set_cons_zero, set_cons_succ]); have tk6 := hidp trivial) | (clear tk6; (refine Mm.new rtM H (some 9) rfl rfl rfl ?_; clear H; intro b9 _ H nw; have hb := nw.below; clear hb nw); (try simp only [Act.put, setIfInBounds_toArray, set_cons_zero, set_cons_succ]); have tk7 := hidp trivial) | (clear tk7; (refine Mm.put0 rtM H rfl (.tmp 9) (.tmp 30) [.int .u8 (ky : Int), .int .i64 fy, .int .i64 ty, .string byy] rfl rfl rfl rfl (by simp [Value.oneCell']) rfl ?_; intro _ H2 st; clear st H; have H := H2; clear H2); (try simp only [Act.put, setIfInBounds_toArray, set_cons_zero, set_cons_succ]); have tk8 := hidp trivial) | (clear tk8; (go_at_call 9; refine (c4.out _).mono ?_; rintro e _ ⟨rfl, hb⟩; replace H := hidp (H.out.call hb); clear c4; clear hb); (try simp only [Act.put, setIfInBounds_toArray, set_cons_zero, set_cons_succ]); have tk9 := hidp trivial) | (clear tk9; (refine Mm.new rtM H (some 11) rfl rfl rfl ?_; clear H; intro b11 _ H nw; have hb := nw.below; clear hb nw); (try simp only [Act.put, setIfInBounds_toArray, set_cons_zero, set_cons_succ]); have tk10 := hidp trivial) | (clear tk10; (refine Mm.put0 rtM H rfl (.tmp 11) (.tmp 35) [.int .u8 (ky : Int), .int .i64 fy, .int .i64 ty, .string byy] rfl rfl rfl rfl (by simp [Value.oneCell']) rfl ?_; intro _ H2 st; clear st H; have H := H2; clear H2); (try simp only [Act.put, setIfInBounds_toArray, set_cons_zero, set_cons_succ]); have tk11 := hidp trivial))
    try clear tk11
    refine Mm.region H (.one 0 (.take 1 (.take 2 (.take 4 (.one 3 (.one 5 (.take 6 (.take 7 (.take 8 (.take 9 (.take 10 (.take 11 (.take 12 (.take 13 (.take 14 (.take 15 (.take 16 (.take 17 (.take 18 (.take 19 (.take 20 (.take 21 (.take 22 (.take 23 (.take 24 (.take 25 (.take 26 (.take 27 (.take 28 .done))))))))))))))))))))))))))))) (by kernel_rfl) (by kernel_rfl) (by simp [Scr.depth]) (by kernel_rfl) ?_
    clear H
    intro _ H hb
    clear hb
    refine Mm.o_callH (v := .bool true) H (fun W h => h) rfl rfl 5 (#[]) (by go_simp; first | done | rfl) (cv.out _ (HI.out.below H.out.below (Nat.le_refl _)) (HW.out.below H.out.below (Nat.le_refl _)) (HT0.out.below H.out.below (Nat.le_refl _)) (HM.out.below H.out.below (Nat.le_refl _))) ?_
    clear H
    intro _ H hb
    clear cv
    clear hb
    simp only [Act.put, getElem_toArray, getElem_cons_zero, getElem_cons_succ, setIfInBounds_toArray, set_cons_zero, set_cons_succ]
    apply s_val
    case ho | hw => rfl
    case hv => intro w hw; go_simp; first | done | rfl
    simp only [Act.put, getElem_toArray, getElem_cons_zero, getElem_cons_succ, setIfInBounds_toArray, set_cons_zero, set_cons_succ]
    refine Mm.sget2 rtM (fun w h => h) rfl rfl (.tmp 2) rfl rfl rfl ?_
    simp only [Act.put, getElem_toArray, getElem_cons_zero, getElem_cons_succ, setIfInBounds_toArray, set_cons_zero, set_cons_succ]
    refine Mm.sget2 rtM (fun w h => h) rfl rfl (.tmp 2) rfl rfl rfl ?_
    simp only [Act.put, getElem_toArray, getElem_cons_zero, getElem_cons_succ, setIfInBounds_toArray, set_cons_zero, set_cons_succ]
    refine Mm.o_callH (v := .int .i64 EM) H (fun W h => h) rfl rfl 10 (#[.agg #[.int .u8 (k : Int), .int .i64 f, .int .i64 t, .string b]]) (by go_simp; first | done | rfl) (c5.out _ (HI.out.below H.out.below (Nat.le_refl _)) (HW.out.below H.out.below (Nat.le_refl _)) (HT0.out.below H.out.below (Nat.le_refl _))) ?_
    clear H
    intro _ H hb
    clear c5
    clear hb
    simp only [Act.put, getElem_toArray, getElem_cons_zero, getElem_cons_succ, setIfInBounds_toArray, set_cons_zero, set_cons_succ]
    refine Mm.o_callH (v := .int .i64 EM) H (fun W h => h) rfl rfl 11 (#[.agg #[.int .u8 (k : Int), .int .i64 f, .int .i64 t, .string b]]) (by go_simp; first | done | rfl) (c6.out _) ?_
    clear H
    intro _ H hb
    clear c6
    clear hb
    simp only [Act.put, getElem_toArray, getElem_cons_zero, getElem_cons_succ, setIfInBounds_toArray, set_cons_zero, set_cons_succ]
    apply s_val
    case ho | hw => rfl
    case hv => intro w hw; go_simp; first | done | rfl
    simp only [Act.put, getElem_toArray, getElem_cons_zero, getElem_cons_succ, setIfInBounds_toArray, set_cons_zero, set_cons_succ]
    apply s_val
    case ho | hw => rfl
    case hv => intro w hw; go_simp; first | done | rfl
    simp only [Act.put, getElem_toArray, getElem_cons_zero, getElem_cons_succ, setIfInBounds_toArray, set_cons_zero, set_cons_succ]
    apply s_val
    case ho | hw => rfl
    case hv => intro w hw; go_simp; first | done | rfl
    simp only [Act.put, getElem_toArray, getElem_cons_zero, getElem_cons_succ, setIfInBounds_toArray, set_cons_zero, set_cons_succ]
    apply s_val
    case ho | hw => rfl
    case hv => intro w hw; go_simp; first | done | rfl
    simp only [Act.put, getElem_toArray, getElem_cons_zero, getElem_cons_succ, setIfInBounds_toArray, set_cons_zero, set_cons_succ]
    apply s_val
    case ho | hw => rfl
    case hv => intro w hw; go_simp; first | done | rfl
    simp only [Act.put, getElem_toArray, getElem_cons_zero, getElem_cons_succ, setIfInBounds_toArray, set_cons_zero, set_cons_succ]
    apply s_val
    case ho | hw => rfl
    case hv => intro w hw; go_simp; first | done | rfl
    simp only [Act.put, getElem_toArray, getElem_cons_zero, getElem_cons_succ, setIfInBounds_toArray, set_cons_zero, set_cons_succ]
    apply s_val
    case ho | hw => rfl
    case hv => intro w hw; go_simp; first | done | rfl
    simp only [Act.put, getElem_toArray, getElem_cons_zero, getElem_cons_succ, setIfInBounds_toArray, set_cons_zero, set_cons_succ]
    apply s_val
    case ho | hw => rfl
    case hv => intro w hw; go_simp; first | done | rfl
    simp only [Act.put, getElem_toArray, getElem_cons_zero, getElem_cons_succ, setIfInBounds_toArray, set_cons_zero, set_cons_succ]
    apply s_val
    case ho | hw => rfl
    case hv => intro w hw; go_simp; first | done | rfl
    simp only [Act.put, getElem_toArray, getElem_cons_zero, getElem_cons_succ, setIfInBounds_toArray, set_cons_zero, set_cons_succ]
    apply s_val
    case ho | hw => rfl
    case hv => intro w hw; go_simp; first | done | rfl
    simp only [Act.put, getElem_toArray, getElem_cons_zero, getElem_cons_succ, setIfInBounds_toArray, set_cons_zero, set_cons_succ]
    apply s_val
    case ho | hw => rfl
    case hv => intro w hw; go_simp; first | done | rfl
    simp only [Act.put, getElem_toArray, getElem_cons_zero, getElem_cons_succ, setIfInBounds_toArray, set_cons_zero, set_cons_succ]
    apply s_val
    case ho | hw => rfl
    case hv => intro w hw; go_simp; first | done | rfl
    simp only [Act.put, getElem_toArray, getElem_cons_zero, getElem_cons_succ, setIfInBounds_toArray, set_cons_zero, set_cons_succ]
    apply s_val
    case ho | hw => rfl
    case hv => intro w hw; go_simp; first | done | rfl
    simp only [Act.put, getElem_toArray, getElem_cons_zero, getElem_cons_succ, setIfInBounds_toArray, set_cons_zero, set_cons_succ]
    refine Mm.sget1 rtM (fun w h => h) rfl rfl (.tmp 9) rfl rfl rfl ?_
    simp only [Act.put, getElem_toArray, getElem_cons_zero, getElem_cons_succ, setIfInBounds_toArray, set_cons_zero, set_cons_succ]
    refine Mm.sget0 rtM (fun w h => h) rfl rfl (.tmp 11) rfl rfl rfl ?_
    simp only [Act.put, getElem_toArray, getElem_cons_zero, getElem_cons_succ, setIfInBounds_toArray, set_cons_zero, set_cons_succ]
    apply s_val
    case ho | hw => rfl
    case hv => intro w hw; have q9 := qm w; go_simp; first | done | rfl
    simp only [Act.put, getElem_toArray, getElem_cons_zero, getElem_cons_succ, setIfInBounds_toArray, set_cons_zero, set_cons_succ]
    apply s_val
    case ho | hw => rfl
    case hv => intro w hw; go_simp; first | done | rfl
    simp only [Act.put, getElem_toArray, getElem_cons_zero, getElem_cons_succ, setIfInBounds_toArray, set_cons_zero, set_cons_succ]
    apply s_val
    case ho | hw => rfl
    case hv => intro w hw; go_simp; first | done | rfl
    simp only [Act.put, getElem_toArray, getElem_cons_zero, getElem_cons_succ, setIfInBounds_toArray, set_cons_zero, set_cons_succ]
    apply s_val
    case ho | hw => rfl
    case hv => intro w hw; go_simp; first | done | rfl
    simp only [Act.put, getElem_toArray, getElem_cons_zero, getElem_cons_succ, setIfInBounds_toArray, set_cons_zero, set_cons_succ]
    apply s_val
    case ho | hw => rfl
    case hv => intro w hw; go_simp; first | done | rfl
    simp only [Act.put, getElem_toArray, getElem_cons_zero, getElem_cons_succ, setIfInBounds_toArray, set_cons_zero, set_cons_succ]
    apply s_val
    case ho | hw => rfl
    case hv => intro w hw; go_simp; first | done | rfl
    simp only [Act.put, getElem_toArray, getElem_cons_zero, getElem_cons_succ, setIfInBounds_toArray, set_cons_zero, set_cons_succ]
    apply s_val
    case ho | hw => rfl
    case hv => intro w hw; go_simp; first | done | rfl
    simp only [Act.put, getElem_toArray, getElem_cons_zero, getElem_cons_succ, setIfInBounds_toArray, set_cons_zero, set_cons_succ]
    apply s_val
    case ho | hw => rfl
    case hv => intro w hw; go_simp; first | done | rfl
    simp only [Act.put, getElem_toArray, getElem_cons_zero, getElem_cons_succ, setIfInBounds_toArray, set_cons_zero, set_cons_succ]
    refine NoPanic.normal ?_
    go_wp2
    go_ret
    exact ⟨rfl, H.out.below⟩
  · have e9 : decide ((s.size : Int) > 65536) = true := by simp; omega
    have n9 : (65536 : Int) < (s.size : Int) := by omega
    clear h9 hs c1 c2 c3 c4 c5 c6 qm
    go_enter Tryz.func3, Tryz.ntmps3
    have tk0 := hidp trivial
    go_wp2_with (first | (clear tk0; (refine Mm.box 24 H rfl (.tmp 0) rfl [.int .u8 (k : Int), .int .i64 f, .int .i64 t, .string b] rfl ?_; clear H; intro b2 _ H nw; have hb := nw.below; clear hb nw); (try simp only [Act.put, setIfInBounds_toArray, set_cons_zero, set_cons_succ]); have tk1 := hidp trivial) | (clear tk1; (go_at_call 5; refine (cv.out _ (HI.out.below H.out.below (Nat.le_refl _)) (HW.out.below H.out.below (Nat.le_refl _)) (HT0.out.below H.out.below (Nat.le_refl _)) (HM.out.below H.out.below (Nat.le_refl _))).mono ?_; rintro e _ ⟨rfl, hb⟩; replace H := hidp (H.out.call hb); clear cv; clear hb); (try simp only [Act.put, setIfInBounds_toArray, set_cons_zero, set_cons_succ]); have tk2 := hidp trivial))
    try clear tk2
    go_ret
    exact ⟨rfl, H.out.below⟩
end Go.Proofs.YtfenjincbhkodaaGreatDoor.Wi
