
/-
  power: the walk of Parse.
-/
import Derived.Test.YtiakfopdohcigaaGreatDoorPwJ
namespace Go.Proofs.YtiakfopdohcigaaGreatDoor
set_option maxRecDepth 100000
set_option linter.unusedVariables false
set_option linter.unusedSimpArgs false
open Go.RowKit Rw Go.Shelf
attribute [local go_sem] Oper.semAt_some


theorem own_stp {w W : World} {B b : Nat} {v : Value} {es : List (List Value)} (h : OwnR 83 2 w B v es) (hp : Rt.Stp b w W) (hb : b < B) : OwnR 83 2 W B v es := by
  refine ⟨h.1, h.2.1, ?_⟩
  rcases h.2.2 with h0 | ⟨g, cap, cur, e, hB, hg, r⟩
  · exact .inl h0
  · exact .inr ⟨g, cap, cur, e, hB, (hp.other g (by omega)).trans hg, r⟩
section
variable {ops : Array Oper} {Q : Exit → Act → World → Prop} {S : World → Prop} {j : Nat} {o : Oper} {a : Act} {w : World} {K : Act → World → Prop}
theorem o_bs1 (ho : ops[j]? = some o) (hw : Region.wanted o (yielded ops a.tmps) = true) (x : Operand) (hop : o.op = .buildSlice 35 1 #[(0, x)]) (l : List Value) (hx : a.eval x = .agg l.toArray) (hl : l.length = 2)
    (h : ∀ b W, Rt.NewAt w W b 83 l → S W ∧ K (a.put o.dst (.slice (some ⟨b, 0, none⟩) 1 1)) W) : opW Tryz.prog ops Q S j K a w := by
  refine ⟨o, ho, hw, ?_⟩
  have := h w.heap.size (w.alloc (.cells l.toArray 83)) (Rt.NewAt.mk' _ _ _)
  unfold Oper.wp execOp
  simp only [hop, List.map_toArray, List.map_cons, List.map_nil, hx, Sem.run_bind, run_bs1R tyU l hl, Result.andThen_ok]
  exact this
theorem o_putF (ho : ops[j]? = some o) (hw : Region.wanted o (yielded ops a.tmps) = true) (T : TypeId) (ty : TypeId) (x y : Operand) (hop : o.op = .store ty x y) (b i : Nat) (v : Value) (hx : a.eval x = .pointer (some ⟨b, i, none⟩)) (hy : a.eval y = v) (hs : (Tryz.prog.info? ty).map (·.size) = some 1) (h1 : v.oneCell' = true)
    (xs : List Value) (hg : Arr w b T xs) (hi : i < xs.length)
    (h : ∀ W, Arr W b T (xs.set i v) → Rt.Stp b w W → S W ∧ K (a.put o.dst undef) W) : opW Tryz.prog ops Q S j K a w := by
  subst hy
  refine ⟨o, ho, hw, ?_⟩
  have := h _ (Arr.row hg _) (Rt.Stp.setRow _ _ _)
  unfold Oper.wp execOp
  simp only [hop, hx, Instr.storeAt, Instr.sureAddr, Sem.run_bind, Sem.run_pure, Result.andThen_ok, Rt.run_storeVar_cell w b i T ty xs _ hg hi hs h1]
  exact this
end

theorem arr_ne {w : World} {b c T U : Nat} {xs ys : List Value} (h : Arr w b T xs) (k : Arr w c U ys) (hn : T ≠ U) : b ≠ c := by
  rintro rfl
  have h1 : w.heap[b]? = _ := h
  rw [show w.heap[b]? = _ from k] at h1
  cases h1; exact hn rfl
theorem own_one {w : World} {B : Nat} {v : Value} {es : List (List Value)} (h : OwnR 83 2 w B v es) : v.oneCell' = true := by
  obtain ⟨a, c, rfl⟩ := h.rs.form; rfl
theorem us_of {w : World} {B : Nat} {v : Value} {us : List (ByteArray × Int)} (h : OwnR 83 2 w B v (uRs us)) (h1 : us.length ≤ 140737488351232) (h2 : ∀ p ∈ us, p.1.size ≤ 140737488351232) : UsAt w v us := ⟨h.rs, h1, h2⟩
theorem uRs_app (us : List (ByteArray × Int)) (p : ByteArray × Int) : uRs (us ++ [p]) = uRs us ++ [uR p] := by simp [uRs]
theorem round_end {w w9 W X Y Z : World} {b7 m : Nat} {l : Lv} {P : List ByteArray} {pre : List (Fin m)} {x : Fin m} {v v2 : Value} {xs : List Value} {es : List (List Value)} (hw7 : w.heap.size ≤ b7) (hb7 : b7 < w9.heap.size) (hw9 : w.heap.size ≤ w9.heap.size) (hE : Rnd.Exc b7 w9.heap.size w9 W) (hB : Below w.heap.size w W) (hX : Below W.heap.size W X) (hg : X.grownBy Y v.ownBlock) (hbY : Below w9.heap.size X Y)
    (hO : OwnR 83 2 X w9.heap.size v es) (hO2 : OwnR 83 2 Y w9.heap.size v2 (uRs (usP P (pre ++ [x])))) (hp : Rt.Stp b7 Y Z) (h7 : Arr Y b7 37 xs) (ha : Arr Z b7 37 [.int .i64 l.a, .int .i64 l.s, .int .i64 l.i, .int .i64 l.k, .int .i64 l.b, .int .i64 l.r, v2]) :
    KeepsOthers W Z ∧ Rnd.Exc b7 w9.heap.size W Z ∧ IPs w w9 b7 l P (pre ++ [x]) Z := by
  have e1 : Rnd.Exc b7 w9.heap.size W X := Rnd.Exc.of_below hX hE.size
  have e2 : Rnd.Exc b7 w9.heap.size X Y := ⟨hbY.size, fun k hk _ => hbY.block k hk⟩
  have e3 : Rnd.Exc b7 w9.heap.size W Z := (e1.trans e2).trans (Rnd.Exc.of_stp hp)
  refine ⟨((others_below hX).trans (others_own hO hg)).trans (Rnd.others_stp hp h7), e3, ⟨⟨v2, ha, own_stp hO2 hp hb7⟩, hE.trans e3⟩, ?_⟩
  exact hp.below' ((hB.trans (hX.mono hB.size)).trans (hbY.mono hw9)) hw7
set_option maxHeartbeats 32000000 in
theorem lvParse_any (w : World) (t : ByteArray) (ht : t.size ≤ 140737488351232) (hP : PT w) :
    Calls Tryz.prog 20 #[.string t] w fun e w' => ∃ v, e = .returned (.tuple #[.agg #[.int .i64 (psV t).a, .int .i64 (psV t).s, .int .i64 (psV t).i, .int .i64 (psV t).k, .int .i64 (psV t).b, .int .i64 (psV t).r, v], .int .i64 (psX t)]) ∧ UsAt w' v (psV t).us ∧ Below w.heap.size w w' := by
  have HP := hidp hP; clear hP
  have cs := hidp (fun W => splitN_any W t (by omega))
  have hl38 := spl_len t
  obtain ⟨P, hPP⟩ : ∃ P, spl t = P := ⟨_, rfl⟩
  have HWS := hidp (show ∀ i, (wAt P i).size ≤ t.size from fun i => by rw [← hPP]; exact wAt_size)
  have HPS := hidp (show psL t = if P.length < 6 ∨ P.length % 2 ≠ 0 then none else if lvOk (candL P) = true ∧ (txL (candL P)).toList = t.toList then some (candL P) else none from by unfold psL; rw [hPP])
  rw [hPP] at cs hl38
  clear hPP
  obtain ⟨n, hn⟩ : ∃ n, P.length = n := ⟨_, rfl⟩
  have HN := hidp hn
  rw [hn] at cs HPS hl38
  clear hn
  by_cases hbad : n < 6 ∨ n % 2 ≠ 0
  · have hno : psL t = none := by rw [HPS.out, if_pos hbad]
    have HV := hidp (show psV t = zLv from by unfold psV; rw [hno]; rfl)
    have HX := hidp (show psX t = 6 from by unfold psX; rw [hno]; rfl)
    clear hno
    rw [HV.out, HX.out]
    by_cases h6 : n < 6
    · have e1 : decide ((n : Int) < 6) = true := by simp; omega
      have e1n : (n : Int) < 6 := by omega
      clear hbad
      refine (callsIn_wide (n := 8)).1 ?_
      refine callsIn_of_wp_marks Tryz.func20 rfl trivial ?_ rfl
      refine wpIn_wide.2 ?_
      simp only [Tryz.ntmps20, List.size_toArray, List.length_cons, List.length_nil, Nat.reduceAdd, Nat.reduceSub, Array.replicate_succ, Array.replicate_zero, List.push_toArray, List.append_toArray, List.nil_append, List.cons_append]
      go_wp2_with (first | (refine Rt.wpL_new tyL (some 2) rfl rfl rfl ?_; intro b2 w1 n1; have HB1 := hidp n1.below; have HR1 := hidp n1.arr; have hg2 := hidp n1.le; clear n1) | (go_at_call 65; refine (cs.out _).mono ?_; rintro e w2 ⟨g, N, rfl, h1, h2, h3⟩; have hNP := hidp h1; have HG := hidp h2; have HB2 := hidp (HB1.out.trans (h3.mono HB1.out.size)); have HR2 := hidp (HR1.out.below h3 HR1.out.lt); clear h1 h2 h3 HB1 HR1) | (refine Rt.wpL_build rfl 37 _ rfl zL (by kernel_rfl) ?_) | (refine Rt.wpL_put tyL rfl (.tmp 2) (.tmp 23) rfl b2 zL rfl rfl rfl (by simp [zL, Value.oneCell']) zL rfl HR2.out ?_; intro wz ha hp; have HBZ := hidp (hp.below' HB2.out hg2.out); have HRZ := hidp ha; clear ha hp))
      refine ⟨_, results_row_tmp (P := Tryz.prog) (p := 2) (u := 3) (ty := 37) Tryz.results20 _ _ b2 37 zL.toArray (0, 0) _ rfl HRZ.out Tryz.underlying37 rfl (tyL.size rfl) _ rfl, ?_⟩
      exact ⟨_, rfl, UsAt.nil _, HBZ.out⟩
    · have e1 : decide ((n : Int) < 6) = false := by simp; omega
      have e1n : ¬ (n : Int) < 6 := by omega
      have ho : n % 2 = 1 := by rcases hbad with h | h <;> omega
      obtain ⟨q, hq⟩ : ∃ q : Nat, n = 2 * q + 7 := ⟨(n - 7) / 2, by omega⟩
      have e2 : IntKind.i64.wrap ((n : Int) - 6) = ((2 * q + 1 : Nat) : Int) := by rw [IntKind.wrap_i64]; omega
      have e3 : Int.tmod ((n : Int) - 6) 2 = 1 := by rw [hq, show (((2 * q + 7 : Nat) : Int) - 6) = ((2 * q + 1 : Nat) : Int) from by omega, Int.tmod_eq_emod_of_nonneg (by omega)]; omega
      have e4 : ((n : Int) - 6) % 2 = 1 := by omega
      clear hbad ho hq
      refine (callsIn_wide (n := 8)).1 ?_
      refine callsIn_of_wp_marks Tryz.func20 rfl trivial ?_ rfl
      refine wpIn_wide.2 ?_
      simp only [Tryz.ntmps20, List.size_toArray, List.length_cons, List.length_nil, Nat.reduceAdd, Nat.reduceSub, Array.replicate_succ, Array.replicate_zero, List.push_toArray, List.append_toArray, List.nil_append, List.cons_append]
      go_wp2_with (first | (refine Rt.wpL_new tyL (some 2) rfl rfl rfl ?_; intro b2 w1 n1; have HB1 := hidp n1.below; have HR1 := hidp n1.arr; have hg2 := hidp n1.le; clear n1) | (go_at_call 65; refine (cs.out _).mono ?_; rintro e w2 ⟨g, N, rfl, h1, h2, h3⟩; have hNP := hidp h1; have HG := hidp h2; have HB2 := hidp (HB1.out.trans (h3.mono HB1.out.size)); have HR2 := hidp (HR1.out.below h3 HR1.out.lt); clear h1 h2 h3 HB1 HR1) | (refine Rt.wpL_build rfl 37 _ rfl zL (by kernel_rfl) ?_) | (refine Rt.wpL_put tyL rfl (.tmp 2) (.tmp 23) rfl b2 zL rfl rfl rfl (by simp [zL, Value.oneCell']) zL rfl HR2.out ?_; intro wz ha hp; have HBZ := hidp (hp.below' HB2.out hg2.out); have HRZ := hidp ha; clear ha hp))
      refine ⟨_, results_row_tmp (P := Tryz.prog) (p := 2) (u := 3) (ty := 37) Tryz.results20 _ _ b2 37 zL.toArray (0, 0) _ rfl HRZ.out Tryz.underlying37 rfl (tyL.size rfl) _ rfl, ?_⟩
      exact ⟨_, rfl, UsAt.nil _, HBZ.out⟩
  · obtain ⟨m, hm⟩ : ∃ m : Nat, n = 2 * m + 6 := ⟨(n - 6) / 2, by omega⟩
    have hm16 : m ≤ 16 := by omega
    have hM := hidp hm
    have e1 : decide ((n : Int) < 6) = false := by simp; omega
    have e1n : ¬ (n : Int) < 6 := by omega
    have e2 : IntKind.i64.wrap ((n : Int) - 6) = ((2 * m : Nat) : Int) := by rw [IntKind.wrap_i64]; omega
    have e3 : Int.tmod ((n : Int) - 6) 2 = 0 := by rw [hm, show (((2 * m + 6 : Nat) : Int) - 6) = ((2 * m : Nat) : Int) from by omega, Int.tmod_eq_emod_of_nonneg (by omega)]; omega
    have e4 : ((n : Int) - 6) % 2 = 0 := by omega
    have HPS2 := hidp (show psL t = if lvOk (candL P) = true ∧ (txL (candL P)).toList = t.toList then some (candL P) else none from by rw [HPS.out, if_neg hbad])
    have hus := hidp (show (candL P).us = usP P (List.finRange m) from by unfold candL usN usP; rw [HN.out, show (n - 6) / 2 = m from by omega])
    have hlc0 := hidp (show rowN P 6 = ([.int .i64 (candL P).a, .int .i64 (candL P).s, .int .i64 (candL P).i, .int .i64 (candL P).k, .int .i64 (candL P).b, .int .i64 (candL P).r] : List Value) from rfl)
    obtain ⟨l, hl⟩ : ∃ l, candL P = l := ⟨_, rfl⟩
    rw [hl] at HPS2 hus hlc0
    have hlc := hlc0
    clear hbad hm hl HPS hlc0
    refine (callsIn_wide (n := 8)).1 ?_
    refine callsIn_of_wp_marks Tryz.func20 rfl trivial ?_ rfl
    refine wpIn_wide.2 ?_
    simp only [Tryz.ntmps20, List.size_toArray, List.length_cons, List.length_nil, Nat.reduceAdd, Nat.reduceSub, Array.replicate_succ, Array.replicate_zero, List.push_toArray, List.append_toArray, List.nil_append, List.cons_append]
    go_wp2_with (first | (refine Rt.wpL_new tyL (some 2) rfl rfl rfl ?_; intro b2 w1 n1; have HB1 := hidp n1.below; have HR1 := hidp n1.arr; have hg2 := hidp n1.le; clear n1) | (go_at_call 65; refine (cs.out _).mono ?_; rintro e w2 ⟨g, N, rfl, h1, h2, h3⟩; have hNP := hidp h1; have HG := hidp h2; have HB2 := hidp (HB1.out.trans (h3.mono HB1.out.size)); have HR2 := hidp (HR1.out.below h3 HR1.out.lt); clear h1 h2 h3 HB1 HR1) | (refine Rt.wpL_new tyN (some 5) rfl rfl rfl ?_; intro b5 W5 n1; have HB5 := hidp (HB2.out.trans (n1.below.mono HB2.out.size)); have HR5 := hidp (n1.old HR2.out); have HG5 := hidp (n1.old HG.out); have H50 := hidp (show Arr W5 b5 85 (rowN P 0) from n1.arr); have hg5 := hidp (show g < b5 from by have := n1.at_; have := HG.out.lt; omega); have h25 := hidp (show b2 < b5 from by have := n1.at_; have := HR2.out.lt; omega); have hw5 := hidp (show w.heap.size ≤ b5 from by have := n1.le; have := HB2.out.size; omega); clear n1 HB2 HR2 HG))
    go_loopw [24] (fun t24 wr => ∃ i : Nat, t24 = .int .i64 (i : Int) ∧ i ≤ 6 ∧ Arr wr b5 85 (rowN P i) ∧ Rnd.Exc b5 W5.heap.size W5 wr ∧ Below w.heap.size w wr) (fun t24 _ => 6 - (intOf t24).toNat)
    case atStart => exact ⟨0, rfl, by omega, H50.out, Rnd.Exc.refl _ _ _, HB5.out⟩
    case round =>
      obtain ⟨i, rfl, hi, ha, he, hb⟩ := hrel
      have HA := hidp ha; have HE := hidp he; have HB := hidp hb
      clear ha he hb
      by_cases hlt : i < 6
      · have d1 : decide ((i : Int) < 6) = true := by simp; omega
        have d2 : (i : Int) < 6 := by omega
        have d3 : (0 : Int) ≤ (i : Int) := by omega
        have d4 : (i : Int) < (n : Int) := by omega
        have d5 : i < n := by omega
        have HGr := hidp (HE.out.arr HG5.out.lt (by have := hg5.out; omega) HG5.out)
        have x1 := word_cell HGr.out i (by rw [HN.out]; exact d5)
        have cn := hidp (fun W h => number_any W (wAt P i) (by have := HWS.out i; omega) h)
        have HST := hidp (rowN_set P i hlt)
        have hln : i < (rowN P i).length := hlt
        obtain ⟨z, hz⟩ : ∃ z, numW (wAt P i) = z := ⟨_, rfl⟩
        rw [hz] at cn
        rw [show nAt P i = z from hz] at HST
        clear hz
        go_wp2_with (first | (go_at_call 66; refine (cn.out _ (HP.out.1.below HB.out (Nat.le_refl _))).mono ?_; rintro e w6 ⟨rfl, hb6⟩; have HB6 := hidp (HB.out.trans (hb6.mono HB.out.size)); have HA6 := hidp (HA.out.below hb6 HA.out.lt); have HE6 := hidp (HE.out.trans (Rnd.Exc.of_below hb6 HE.out.size)); clear hb6 x1) | (refine Rt.wpL_putF rfl 3 (.tmp 33) _ rfl b5 i (.int .i64 z) rfl rfl (by kernel_rfl) rfl (rowN P i) HA6.out hln ?_; intro w7 ha hp; have HA7 := hidp (show Arr w7 b5 85 (rowN P (i + 1)) from by rw [← HST.out]; exact ha); have HB7 := hidp (hp.below' HB6.out hw5.out); have HE7 := hidp (HE6.out.trans (Rnd.Exc.of_stp hp)); clear ha hp))
        exact ⟨⟨i + 1, by go_num, by omega, HA7.out, HE7.out, HB7.out⟩, by simp [intOf]; omega⟩
      · have d1 : decide ((i : Int) < 6) = false := by simp; omega
        obtain rfl : i = 6 := by omega
        have HGr := hidp (HE.out.arr HG5.out.lt (by have := hg5.out; omega) HG5.out); have HRr := hidp (HE.out.arr HR5.out.lt (by have := h25.out; omega) HR5.out)
        have HAl := hidp (show Arr wr b5 85 [.int .i64 l.a, .int .i64 l.s, .int .i64 l.i, .int .i64 l.k, .int .i64 l.b, .int .i64 l.r] from by rw [← hlc.out]; exact HA.out)
        have cl := hidp (fun W => levelsOf_any W l)
        clear HA HE d1 hlt hi hg5 h25 hw5 HG5 HR5 H50 HB5
        obtain ⟨o, ho⟩ : ∃ o : Nat, (if N = 6 then 0 else 0 + 6) = o := ⟨_, rfl⟩
        have HO6 := hidp (show 0 < m → o = 6 from fun h => by rw [← ho, if_neg (by have := hNP.out; have := hM.out; omega)])
        obtain ⟨L, hL⟩ : ∃ L, n - 6 = L := ⟨_, rfl⟩
        obtain ⟨C, hC⟩ : ∃ C, N - 6 = C := ⟨_, rfl⟩
        have HLM := hidp (show L = 2 * m from by have := hM.out; omega)
        have HCL := hidp (show L ≤ C from by have := hNP.out; omega)
        have hs0 := fun W => run_fromW g 0 n N 6 (by have := hM.out; omega) W
        simp only [ho, hL, hC] at hs0
        have hs1 : ∀ W, (Instr.sliceAt 31 (.slice (some ⟨g, 0, none⟩) n N) (some (.int .i64 6)) none none).run Tryz.prog W = .ok (.slice (some ⟨g, o, none⟩) L C) W := hs0
        clear hs0 ho hL hC
        have cch := hidp (fun W => chunk_any W (.slice (some ⟨g, o, none⟩) L C) rfl)
        go_wp2_with (first | (refine Rt.wpL_get tyN rfl (.tmp 5) rfl b5 [.int .i64 l.a, .int .i64 l.s, .int .i64 l.i, .int .i64 l.k, .int .i64 l.b, .int .i64 l.r] rfl rfl HAl.out ?_) | (go_at_call 67; refine (cl.out _).mono ?_; rintro e w3 ⟨rfl, hb⟩; have HB3 := hidp (HB.out.trans (hb.mono HB.out.size)); have HG3 := hidp (HGr.out.below hb HGr.out.lt); have HR3 := hidp (HRr.out.below hb HRr.out.lt); clear hb HGr HRr HAl HB cl) | (refine Rt.wpL_new tyL (some 7) rfl rfl rfl ?_; intro b7 w4 n1; have HB4 := hidp (HB3.out.trans (n1.below.mono HB3.out.size)); have HG4 := hidp (n1.old HG3.out); have HR4 := hidp (n1.old HR3.out); have H74 := hidp n1.arr; have hg7 := hidp (show g < b7 from by have := n1.at_; have := HG3.out.lt; omega); have h27 := hidp (show b2 < b7 from by have := n1.at_; have := HR3.out.lt; omega); have hwb7 := hidp (show w.heap.size ≤ b7 from by have := n1.le; have := HB3.out.size; omega); clear n1 HB3 HG3 HR3) | (refine Rt.wpL_put tyL rfl (.tmp 7) (.tmp 36) rfl b7 [.int .i64 l.a, .int .i64 l.s, .int .i64 l.i, .int .i64 l.k, .int .i64 l.b, .int .i64 l.r, .slice none 0 0] rfl rfl rfl (by simp [Value.oneCell']) zL rfl H74.out ?_; intro w5 ha hp; have H75 := hidp ha; have HB5 := hidp (hp.below' HB4.out hwb7.out); have HG5 := hidp (hp.arr (by have := hg7.out; omega) HG4.out); have HR5 := hidp (hp.arr (by have := h27.out; omega) HR4.out); clear ha hp HB4 HG4 HR4 H74) | (go_at_call 68; refine (cch.out _).mono ?_; rintro e w9 ⟨bs, bn, rfl, h1, h2, h3⟩; have HSl := hidp h1; have HNl := hidp h2; have HB9 := hidp (HB5.out.trans (h3.mono HB5.out.size)); have HG9 := hidp (HG5.out.below h3 HG5.out.lt); have HR9 := hidp (HR5.out.below h3 HR5.out.lt); have H79 := hidp (H75.out.below h3 H75.out.lt); have hbs7 := hidp (arr_ne HSl.out H79.out (by decide)); have hbn7 := hidp (arr_ne HNl.out H79.out (by decide)); clear h1 h2 h3 HB5 HG5 HR5 H75 cch hs1))
        have hg9 := HB9.out.size
        refine Rnd.range_K (α := Fin m) 8 b7 (fun a x => { tmps := (a.tmps.setIfInBounds 40 (.slice (some ⟨g, o + 2 * x.1, none⟩) 2 2)).setIfInBounds 8 (.slice (some ⟨g, o + 2 * x.1, none⟩) 2 2), defers := [] }) (by omega) (gf := 116) (lb := #[.pointer (some ⟨bs, 0, none⟩), .pointer (some ⟨bn, 0, none⟩)]) rfl (enters_of Tryz.func116 (by kernel_rfl) rfl)
          (encs := encC g o) (S := fun ys => ys = List.finRange m) (Sp := fun pre => pre <+: List.finRange m) (N := m)
          ?seq (fun _ => rfl) (IPs w w9 b7 l P) (fun _ _ _ => False) (IPs_own _ _ _ _ _ _ hg9) (fun c => fun _ _ _ _ h _ _ => h.elim) ⟨⟨⟨_, H79.out, OwnR.nil _ _⟩, Rnd.Exc.refl _ _ _⟩, HB9.out⟩ ?assign ?body ?done ?stop
        case seq =>
          intro lq J Jx W hW hJ _ hY h0
          exact chunk1_in (8 - 1) (by omega) lq bs bn g o m L C HLM.out HCL.out hm16 (Rnd.Exc b7 w9.heap.size) (fun X Y h => h.arr HSl.out.lt hbs7.out) (fun X Y h => h.arr HNl.out.lt hbn7.out) (fun X Y h => h.size) J Jx W (HSl.out.below hW HSl.out.lt) (HNl.out.below hW HNl.out.lt) hJ hY h0
        case assign =>
          intro lq x W K hK
          have HK := hidp hK
          clear hK
          simp only [encC]
          gi_wp2
          exact HK.out
        case body =>
          rintro lq pre x W ⟨⟨⟨v, ha, ho⟩, he⟩, hb⟩ hlt
          obtain rfl : o = 6 := HO6.out (by have := x.2; omega)
          have H7W := hidp ha; have HOW := hidp ho; have HEW := hidp he; have HB0 := hidp hb
          have HGW := hidp (he.arr HG9.out.lt (by have := hg7.out; omega) HG9.out)
          have hB := hidp he.size
          have hl16 := hidp (show (uRs (usP P pre)).length ≤ 1000 from by rw [uRs_len]; simp only [usP, List.length_map]; omega)
          have hsn := hidp (usP_snoc P pre x)
          have hz2 : (wAt P (7 + 2 * x.1)).size ≤ t.size := HWS.out _
          have hz1 : (wAt P (6 + 2 * x.1)).size ≤ t.size := HWS.out _
          obtain ⟨p1, hp1⟩ : ∃ q, wAt P (6 + 2 * x.1) = q := ⟨_, rfl⟩
          obtain ⟨p2, hp2⟩ : ∃ q, wAt P (7 + 2 * x.1) = q := ⟨_, rfl⟩
          have cn := hidp (fun X h => number_any X p2 (by rw [← hp2]; omega) h)
          have hx6 : 7 + 2 * x.1 < P.length := by rw [HN.out]; have := hM.out; have := x.2; omega
          have wc1 : ∀ X, Arr X g 9 (rowW P N) → X.cell? ⟨g, 6 + 2 * x.1, none⟩ = some (.string p1) := fun X h => by rw [← hp1]; exact word_cell h _ (by omega)
          have wc2 : ∀ X, Arr X g 9 (rowW P N) → X.cell? ⟨g, 6 + 2 * x.1 + 1, none⟩ = some (.string p2) := fun X h => by rw [show 6 + 2 * x.1 + 1 = 7 + 2 * x.1 from by omega, ← hp2]; exact word_cell h _ hx6
          rw [hp1, show nAt P (7 + 2 * x.1) = numW p2 from by unfold nAt; rw [hp2]] at hsn
          obtain ⟨z, hz⟩ : ∃ z, numW p2 = z := ⟨_, rfl⟩
          rw [hz] at hsn cn
          rw [hp1] at hz1
          obtain ⟨i, hi⟩ : ∃ i, 6 + 2 * x.1 = i := ⟨_, rfl⟩
          simp only [hi] at wc1 wc2 ⊢
          clear ha ho he hb hp1 hp2 hx6 hz hi hz2 HSl HNl hlt HLM HCL HPS2 hus hlc
          simp only [List.setIfInBounds_toArray, List.set_cons_zero, List.set_cons_succ]
          gi_wp2_with fail
          obtain ⟨X0, hU⟩ : ∃ U, ({ W with drawn := W.drawn + 1 } : World) = U := ⟨_, rfl⟩
          have bU : Below W.heap.size W X0 := by rw [← hU]; exact (Below.refl _ _).drew
          have HX0 := hidp bU
          have HS0 := hidp (show Arr X0 g 9 (rowW P N) from HGW.out.below bU HGW.out.lt)
          clear bU
          refine Rnd.in_region_scr0 (S := fun W => Arr W g 9 (rowW P N)) (.take 0 (.take 2 (.take 3 (.take 4 (.take 6 (.take 7 (.take 8 (.two 1 (.one 5 (.one 9 (.take 10 (.one 11 (.one 12 (.take 13 (.one 14 .done))))))) 5 (.two 1 (.one 9 (.take 10 (.one 11 (.one 12 (.take 13 (.one 14 .done)))))) 9 (.take 10 (.two 1 (.one 11 (.one 12 (.take 13 (.one 14 .done)))) 11 (.one 1 (.one 12 (.take 13 (.one 14 .done))))))))))))))) (Rnd.roundF lq) (by kernel_rfl) (by kernel_rfl) (by kernel_rfl) (by simp [Scr.depth]) (by kernel_rfl) (by rw [hU]; exact HS0.out) ?_
          simp only [hU]
          clear hU
          apply s_val
          case ho => rfl
          case hw => rfl
          case hv => intro w hw; go_simp; first | done | with_reducible rfl | rfl
          simp only [Act.put, List.getElem_toArray, List.getElem_cons_zero, List.getElem_cons_succ, List.setIfInBounds_toArray, List.set_cons_zero, List.set_cons_succ]
          apply s_val
          case ho => rfl
          case hw => rfl
          case hv => intro w hw; go_simp; first | done | with_reducible rfl | rfl
          simp only [Act.put, List.getElem_toArray, List.getElem_cons_zero, List.getElem_cons_succ, List.setIfInBounds_toArray, List.set_cons_zero, List.set_cons_succ]
          apply s_val
          case ho => rfl
          case hw => rfl
          case hv => intro w hw; go_simp; first | done | with_reducible rfl | rfl
          simp only [Act.put, List.getElem_toArray, List.getElem_cons_zero, List.getElem_cons_succ, List.setIfInBounds_toArray, List.set_cons_zero, List.set_cons_succ]
          apply s_val
          case ho => rfl
          case hw => rfl
          case hv => intro w hw; have z1 := wc1 _ hw; go_simp; first | done | with_reducible rfl | rfl
          simp only [Act.put, List.getElem_toArray, List.getElem_cons_zero, List.getElem_cons_succ, List.setIfInBounds_toArray, List.set_cons_zero, List.set_cons_succ]
          apply s_val
          case ho => rfl
          case hw => rfl
          case hv => intro w hw; go_simp; first | done | with_reducible rfl | rfl
          simp only [Act.put, List.getElem_toArray, List.getElem_cons_zero, List.getElem_cons_succ, List.setIfInBounds_toArray, List.set_cons_zero, List.set_cons_succ]
          apply s_val
          case ho => rfl
          case hw => rfl
          case hv => intro w hw; go_simp; first | done | with_reducible rfl | rfl
          simp only [Act.put, List.getElem_toArray, List.getElem_cons_zero, List.getElem_cons_succ, List.setIfInBounds_toArray, List.set_cons_zero, List.set_cons_succ]
          apply s_val
          case ho => rfl
          case hw => rfl
          case hv => intro w hw; have z2 := wc2 _ hw; go_simp; first | done | with_reducible rfl | rfl
          simp only [Act.put, List.getElem_toArray, List.getElem_cons_zero, List.getElem_cons_succ, List.setIfInBounds_toArray, List.set_cons_zero, List.set_cons_succ]
          refine ⟨?_, ?_⟩
          · apply o_make (v := v) (W := X0)
            case ho => rfl
            case hw => rfl
            case hop => have z7 := (H7W.out.below HX0.out H7W.out.lt).cell 6 (by simp); simp only [List.getElem_cons_succ, List.getElem_cons_zero] at z7; go_simp; first | done | rfl
            case hS => exact HGW.out.below HX0.out HGW.out.lt
            simp only [Act.put, List.getElem_toArray, List.getElem_cons_zero, List.getElem_cons_succ, List.setIfInBounds_toArray, List.set_cons_zero, List.set_cons_succ]
            apply o_call (f := 59) (args := #[.string p1]) (v := .string p1) (hc := strClone_any p1 X0 (by omega))
            case ho => rfl
            case hw => rfl
            case hop => go_simp; first | done | rfl
            rintro X1 hb
            have HX1 := hidp (HX0.out.trans (hb.mono HX0.out.size))
            refine ⟨HGW.out.below HX1.out HGW.out.lt, ?_⟩
            clear hb HX0
            simp only [Act.put, List.getElem_toArray, List.getElem_cons_zero, List.getElem_cons_succ, List.setIfInBounds_toArray, List.set_cons_zero, List.set_cons_succ]
            apply o_call (f := 66) (args := #[.string p2]) (v := .int .i64 z) (hc := cn.out _ (HP.out.1.below (HB0.out.trans (HX1.out.mono HB0.out.size)) (Nat.le_refl _)))
            case ho => rfl
            case hw => rfl
            case hop => go_simp; first | done | rfl
            rintro X2 hb
            have HX2 := hidp (HX1.out.trans (hb.mono HX1.out.size))
            refine ⟨HGW.out.below HX2.out HGW.out.lt, ?_⟩
            clear hb HX1
            simp only [Act.put, List.getElem_toArray, List.getElem_cons_zero, List.getElem_cons_succ, List.setIfInBounds_toArray, List.set_cons_zero, List.set_cons_succ]
            apply s_val
            case ho => rfl
            case hw => rfl
            case hv => intro w hw; go_simp; first | done | with_reducible rfl | rfl
            simp only [Act.put, List.getElem_toArray, List.getElem_cons_zero, List.getElem_cons_succ, List.setIfInBounds_toArray, List.set_cons_zero, List.set_cons_succ]
            refine o_bs1 rfl rfl (.tmp 51) rfl (uR (p1, z)) rfl rfl ?_
            intro nb X3 n1
            have HX3 := hidp (HX2.out.trans (n1.below.mono HX2.out.size))
            have HNB := hidp n1.arr
            refine ⟨HGW.out.below HX3.out HGW.out.lt, ?_⟩
            clear n1 HX2
            simp only [Act.put, List.getElem_toArray, List.getElem_cons_zero, List.getElem_cons_succ, List.setIfInBounds_toArray, List.set_cons_zero, List.set_cons_succ]
            refine o_appU rfl rfl (.tmp 42) (.tmp 52) rfl w9.heap.size nb v (uRs (usP P pre)) (p1, z) rfl rfl (HOW.out.to HX3.out (Nat.le_refl _)) HNB.out (by have := hB.out; have := HX3.out.size; omega) hl16.out ?_
            intro v2 Y h1 h2 h3
            have HOY := hidp h1; have HGY := hidp h2; have HBY := hidp h3
            clear h1 h2 h3
            refine ⟨(HGW.out.below HX3.out HGW.out.lt).below HBY.out HG9.out.lt, ?_⟩
            simp only [Act.put, List.getElem_toArray, List.getElem_cons_zero, List.getElem_cons_succ, List.setIfInBounds_toArray, List.set_cons_zero, List.set_cons_succ]
            apply s_val
            case ho => rfl
            case hw => rfl
            case hv => intro w hw; go_simp; first | done | with_reducible rfl | rfl
            simp only [Act.put, List.getElem_toArray, List.getElem_cons_zero, List.getElem_cons_succ, List.setIfInBounds_toArray, List.set_cons_zero, List.set_cons_succ]
            refine o_putF rfl rfl 37 35 (.tmp 54) (.tmp 53) rfl b7 6 v2 rfl rfl (by kernel_rfl) (own_one HOY.out) [.int .i64 l.a, .int .i64 l.s, .int .i64 l.i, .int .i64 l.k, .int .i64 l.b, .int .i64 l.r, v] ((H7W.out.below HX3.out H7W.out.lt).below HBY.out H79.out.lt) (by simp) ?_
            intro Z ha hp
            have HAZ := hidp ha; have HPZ := hidp hp
            clear ha hp
            refine ⟨HPZ.out.arr (by have := hg7.out; omega) ((HGW.out.below HX3.out HGW.out.lt).below HBY.out HG9.out.lt), ?_⟩
            simp only [Act.put, List.getElem_toArray, List.getElem_cons_zero, List.getElem_cons_succ, List.setIfInBounds_toArray, List.set_cons_zero, List.set_cons_succ]
            refine Rnd.scr_done0 ?_
            exact round_end hwb7.out H79.out.lt hg9 HEW.out HB0.out HX3.out HGY.out HBY.out (HOW.out.to HX3.out (Nat.le_refl _)) (by rw [hsn.out, uRs_app]; exact HOY.out) HPZ.out ((H7W.out.below HX3.out H7W.out.lt).below HBY.out H79.out.lt) HAZ.out
          · apply o_call (f := 59) (args := #[.string p1]) (v := .string p1) (hc := strClone_any p1 X0 (by omega))
            case ho => rfl
            case hw => rfl
            case hop => go_simp; first | done | rfl
            rintro X1 hb
            have HX1 := hidp (HX0.out.trans (hb.mono HX0.out.size))
            refine ⟨HGW.out.below HX1.out HGW.out.lt, ?_⟩
            clear hb HX0
            simp only [Act.put, List.getElem_toArray, List.getElem_cons_zero, List.getElem_cons_succ, List.setIfInBounds_toArray, List.set_cons_zero, List.set_cons_succ]
            refine ⟨?_, ?_⟩
            · apply o_make (v := v) (W := X1)
              case ho => rfl
              case hw => rfl
              case hop => have z7 := (H7W.out.below HX1.out H7W.out.lt).cell 6 (by simp); simp only [List.getElem_cons_succ, List.getElem_cons_zero] at z7; go_simp; first | done | rfl
              case hS => exact HGW.out.below HX1.out HGW.out.lt
              simp only [Act.put, List.getElem_toArray, List.getElem_cons_zero, List.getElem_cons_succ, List.setIfInBounds_toArray, List.set_cons_zero, List.set_cons_succ]
              apply o_call (f := 66) (args := #[.string p2]) (v := .int .i64 z) (hc := cn.out _ (HP.out.1.below (HB0.out.trans (HX1.out.mono HB0.out.size)) (Nat.le_refl _)))
              case ho => rfl
              case hw => rfl
              case hop => go_simp; first | done | rfl
              rintro X2 hb
              have HX2 := hidp (HX1.out.trans (hb.mono HX1.out.size))
              refine ⟨HGW.out.below HX2.out HGW.out.lt, ?_⟩
              clear hb HX1
              simp only [Act.put, List.getElem_toArray, List.getElem_cons_zero, List.getElem_cons_succ, List.setIfInBounds_toArray, List.set_cons_zero, List.set_cons_succ]
              apply s_val
              case ho => rfl
              case hw => rfl
              case hv => intro w hw; go_simp; first | done | with_reducible rfl | rfl
              simp only [Act.put, List.getElem_toArray, List.getElem_cons_zero, List.getElem_cons_succ, List.setIfInBounds_toArray, List.set_cons_zero, List.set_cons_succ]
              refine o_bs1 rfl rfl (.tmp 51) rfl (uR (p1, z)) rfl rfl ?_
              intro nb X3 n1
              have HX3 := hidp (HX2.out.trans (n1.below.mono HX2.out.size))
              have HNB := hidp n1.arr
              refine ⟨HGW.out.below HX3.out HGW.out.lt, ?_⟩
              clear n1 HX2
              simp only [Act.put, List.getElem_toArray, List.getElem_cons_zero, List.getElem_cons_succ, List.setIfInBounds_toArray, List.set_cons_zero, List.set_cons_succ]
              refine o_appU rfl rfl (.tmp 42) (.tmp 52) rfl w9.heap.size nb v (uRs (usP P pre)) (p1, z) rfl rfl (HOW.out.to HX3.out (Nat.le_refl _)) HNB.out (by have := hB.out; have := HX3.out.size; omega) hl16.out ?_
              intro v2 Y h1 h2 h3
              have HOY := hidp h1; have HGY := hidp h2; have HBY := hidp h3
              clear h1 h2 h3
              refine ⟨(HGW.out.below HX3.out HGW.out.lt).below HBY.out HG9.out.lt, ?_⟩
              simp only [Act.put, List.getElem_toArray, List.getElem_cons_zero, List.getElem_cons_succ, List.setIfInBounds_toArray, List.set_cons_zero, List.set_cons_succ]
              apply s_val
              case ho => rfl
              case hw => rfl
              case hv => intro w hw; go_simp; first | done | with_reducible rfl | rfl
              simp only [Act.put, List.getElem_toArray, List.getElem_cons_zero, List.getElem_cons_succ, List.setIfInBounds_toArray, List.set_cons_zero, List.set_cons_succ]
              refine o_putF rfl rfl 37 35 (.tmp 54) (.tmp 53) rfl b7 6 v2 rfl rfl (by kernel_rfl) (own_one HOY.out) [.int .i64 l.a, .int .i64 l.s, .int .i64 l.i, .int .i64 l.k, .int .i64 l.b, .int .i64 l.r, v] ((H7W.out.below HX3.out H7W.out.lt).below HBY.out H79.out.lt) (by simp) ?_
              intro Z ha hp
              have HAZ := hidp ha; have HPZ := hidp hp
              clear ha hp
              refine ⟨HPZ.out.arr (by have := hg7.out; omega) ((HGW.out.below HX3.out HGW.out.lt).below HBY.out HG9.out.lt), ?_⟩
              simp only [Act.put, List.getElem_toArray, List.getElem_cons_zero, List.getElem_cons_succ, List.setIfInBounds_toArray, List.set_cons_zero, List.set_cons_succ]
              refine Rnd.scr_done0 ?_
              exact round_end hwb7.out H79.out.lt hg9 HEW.out HB0.out HX3.out HGY.out HBY.out (HOW.out.to HX3.out (Nat.le_refl _)) (by rw [hsn.out, uRs_app]; exact HOY.out) HPZ.out ((H7W.out.below HX3.out H7W.out.lt).below HBY.out H79.out.lt) HAZ.out
            · apply o_call (f := 66) (args := #[.string p2]) (v := .int .i64 z) (hc := cn.out _ (HP.out.1.below (HB0.out.trans (HX1.out.mono HB0.out.size)) (Nat.le_refl _)))
              case ho => rfl
              case hw => rfl
              case hop => go_simp; first | done | rfl
              rintro X2 hb
              have HX2 := hidp (HX1.out.trans (hb.mono HX1.out.size))
              refine ⟨HGW.out.below HX2.out HGW.out.lt, ?_⟩
              clear hb HX1
              simp only [Act.put, List.getElem_toArray, List.getElem_cons_zero, List.getElem_cons_succ, List.setIfInBounds_toArray, List.set_cons_zero, List.set_cons_succ]
              apply s_val
              case ho => rfl
              case hw => rfl
              case hv => intro w hw; go_simp; first | done | with_reducible rfl | rfl
              simp only [Act.put, List.getElem_toArray, List.getElem_cons_zero, List.getElem_cons_succ, List.setIfInBounds_toArray, List.set_cons_zero, List.set_cons_succ]
              refine ⟨?_, ?_⟩
              · apply o_make (v := v) (W := X2)
                case ho => rfl
                case hw => rfl
                case hop => have z7 := (H7W.out.below HX2.out H7W.out.lt).cell 6 (by simp); simp only [List.getElem_cons_succ, List.getElem_cons_zero] at z7; go_simp; first | done | rfl
                case hS => exact HGW.out.below HX2.out HGW.out.lt
                simp only [Act.put, List.getElem_toArray, List.getElem_cons_zero, List.getElem_cons_succ, List.setIfInBounds_toArray, List.set_cons_zero, List.set_cons_succ]
                refine o_bs1 rfl rfl (.tmp 51) rfl (uR (p1, z)) rfl rfl ?_
                intro nb X3 n1
                have HX3 := hidp (HX2.out.trans (n1.below.mono HX2.out.size))
                have HNB := hidp n1.arr
                refine ⟨HGW.out.below HX3.out HGW.out.lt, ?_⟩
                clear n1 HX2
                simp only [Act.put, List.getElem_toArray, List.getElem_cons_zero, List.getElem_cons_succ, List.setIfInBounds_toArray, List.set_cons_zero, List.set_cons_succ]
                refine o_appU rfl rfl (.tmp 42) (.tmp 52) rfl w9.heap.size nb v (uRs (usP P pre)) (p1, z) rfl rfl (HOW.out.to HX3.out (Nat.le_refl _)) HNB.out (by have := hB.out; have := HX3.out.size; omega) hl16.out ?_
                intro v2 Y h1 h2 h3
                have HOY := hidp h1; have HGY := hidp h2; have HBY := hidp h3
                clear h1 h2 h3
                refine ⟨(HGW.out.below HX3.out HGW.out.lt).below HBY.out HG9.out.lt, ?_⟩
                simp only [Act.put, List.getElem_toArray, List.getElem_cons_zero, List.getElem_cons_succ, List.setIfInBounds_toArray, List.set_cons_zero, List.set_cons_succ]
                apply s_val
                case ho => rfl
                case hw => rfl
                case hv => intro w hw; go_simp; first | done | with_reducible rfl | rfl
                simp only [Act.put, List.getElem_toArray, List.getElem_cons_zero, List.getElem_cons_succ, List.setIfInBounds_toArray, List.set_cons_zero, List.set_cons_succ]
                refine o_putF rfl rfl 37 35 (.tmp 54) (.tmp 53) rfl b7 6 v2 rfl rfl (by kernel_rfl) (own_one HOY.out) [.int .i64 l.a, .int .i64 l.s, .int .i64 l.i, .int .i64 l.k, .int .i64 l.b, .int .i64 l.r, v] ((H7W.out.below HX3.out H7W.out.lt).below HBY.out H79.out.lt) (by simp) ?_
                intro Z ha hp
                have HAZ := hidp ha; have HPZ := hidp hp
                clear ha hp
                refine ⟨HPZ.out.arr (by have := hg7.out; omega) ((HGW.out.below HX3.out HGW.out.lt).below HBY.out HG9.out.lt), ?_⟩
                simp only [Act.put, List.getElem_toArray, List.getElem_cons_zero, List.getElem_cons_succ, List.setIfInBounds_toArray, List.set_cons_zero, List.set_cons_succ]
                refine Rnd.scr_done0 ?_
                exact round_end hwb7.out H79.out.lt hg9 HEW.out HB0.out HX3.out HGY.out HBY.out (HOW.out.to HX3.out (Nat.le_refl _)) (by rw [hsn.out, uRs_app]; exact HOY.out) HPZ.out ((H7W.out.below HX3.out H7W.out.lt).below HBY.out H79.out.lt) HAZ.out
              · refine o_bs1 rfl rfl (.tmp 51) rfl (uR (p1, z)) rfl rfl ?_
                intro nb X3 n1
                have HX3 := hidp (HX2.out.trans (n1.below.mono HX2.out.size))
                have HNB := hidp n1.arr
                refine ⟨HGW.out.below HX3.out HGW.out.lt, ?_⟩
                clear n1 HX2
                simp only [Act.put, List.getElem_toArray, List.getElem_cons_zero, List.getElem_cons_succ, List.setIfInBounds_toArray, List.set_cons_zero, List.set_cons_succ]
                apply o_make (v := v) (W := X3)
                case ho => rfl
                case hw => rfl
                case hop => have z7 := (H7W.out.below HX3.out H7W.out.lt).cell 6 (by simp); simp only [List.getElem_cons_succ, List.getElem_cons_zero] at z7; go_simp; first | done | rfl
                case hS => exact HGW.out.below HX3.out HGW.out.lt
                simp only [Act.put, List.getElem_toArray, List.getElem_cons_zero, List.getElem_cons_succ, List.setIfInBounds_toArray, List.set_cons_zero, List.set_cons_succ]
                refine o_appU rfl rfl (.tmp 42) (.tmp 52) rfl w9.heap.size nb v (uRs (usP P pre)) (p1, z) rfl rfl (HOW.out.to HX3.out (Nat.le_refl _)) HNB.out (by have := hB.out; have := HX3.out.size; omega) hl16.out ?_
                intro v2 Y h1 h2 h3
                have HOY := hidp h1; have HGY := hidp h2; have HBY := hidp h3
                clear h1 h2 h3
                refine ⟨(HGW.out.below HX3.out HGW.out.lt).below HBY.out HG9.out.lt, ?_⟩
                simp only [Act.put, List.getElem_toArray, List.getElem_cons_zero, List.getElem_cons_succ, List.setIfInBounds_toArray, List.set_cons_zero, List.set_cons_succ]
                apply s_val
                case ho => rfl
                case hw => rfl
                case hv => intro w hw; go_simp; first | done | with_reducible rfl | rfl
                simp only [Act.put, List.getElem_toArray, List.getElem_cons_zero, List.getElem_cons_succ, List.setIfInBounds_toArray, List.set_cons_zero, List.set_cons_succ]
                refine o_putF rfl rfl 37 35 (.tmp 54) (.tmp 53) rfl b7 6 v2 rfl rfl (by kernel_rfl) (own_one HOY.out) [.int .i64 l.a, .int .i64 l.s, .int .i64 l.i, .int .i64 l.k, .int .i64 l.b, .int .i64 l.r, v] ((H7W.out.below HX3.out H7W.out.lt).below HBY.out H79.out.lt) (by simp) ?_
                intro Z ha hp
                have HAZ := hidp ha; have HPZ := hidp hp
                clear ha hp
                refine ⟨HPZ.out.arr (by have := hg7.out; omega) ((HGW.out.below HX3.out HGW.out.lt).below HBY.out HG9.out.lt), ?_⟩
                simp only [Act.put, List.getElem_toArray, List.getElem_cons_zero, List.getElem_cons_succ, List.setIfInBounds_toArray, List.set_cons_zero, List.set_cons_succ]
                refine Rnd.scr_done0 ?_
                exact round_end hwb7.out H79.out.lt hg9 HEW.out HB0.out HX3.out HGY.out HBY.out (HOW.out.to HX3.out (Nat.le_refl _)) (by rw [hsn.out, uRs_app]; exact HOY.out) HPZ.out ((H7W.out.below HX3.out H7W.out.lt).below HBY.out H79.out.lt) HAZ.out
        case done =>
          rintro D xs W hD rfl ⟨⟨⟨v, ha, ho⟩, he⟩, hb⟩ hK
          rw [← hus.out] at ho
          obtain ⟨av, cv, rfl⟩ := ho.rs.form
          have hlen := hidp (show l.us.length ≤ 140737488351232 from by rw [hus.out]; simp [usP]; omega)
          have hsz := hidp (show ∀ p ∈ l.us, p.1.size ≤ 140737488351232 from by
            rw [hus.out]; intro p hp; simp only [usP, List.mem_map] at hp; obtain ⟨j, -, rfl⟩ := hp; have := HWS.out (6 + 2 * j.1); simp only; omega)
          have HVW := hidp (us_of ho hlen.out hsz.out)
          have H7W := hidp ha; have HOW := hidp ho; have HBW := hidp hb; have HK := hidp hK
          have HRW := hidp (he.arr HR9.out.lt (by have := h27.out; omega) HR9.out)
          have h29 := hidp HR9.out.lt
          have h2D := hidp (show b2 < D from by have := HR9.out.lt; omega)
          have h9D := hidp (show w.heap.size ≤ D from by omega)
          have ct := hidp (fun W v h h' => text_any W l v h h')
          clear ha ho he hb hK hus HSl HNl HLM HCL HR9 H79 HG9 HB9 hlc HO6 hD hg9 hl38 hm16 HN hM hNP
          by_cases hok : lvOk l = true
          · rw [show lvE l = 0 from if_pos hok, show txV l = txL l from if_pos hok] at ct
            obtain ⟨T, hT⟩ : ∃ T, txL l = T := ⟨_, rfl⟩
            rw [hT] at ct HPS2
            clear hT
            by_cases hsame : T.toList = t.toList
            · have hyes : psL t = some l := by rw [HPS2.out, if_pos ⟨hok, hsame⟩]
              have HV := hidp (show psV t = l from by unfold psV; rw [hyes]; rfl)
              have HX := hidp (show psX t = 0 from by unfold psX; rw [hyes]; rfl)
              clear hyes hok
              go_wp2_with (first | (refine Rt.wpL_put tyL rfl (.tmp 2) (.tmp 68) rfl b2 [.int .i64 l.a, .int .i64 l.s, .int .i64 l.i, .int .i64 l.k, .int .i64 l.b, .int .i64 l.r, (.slice av (uRs l.us).length cv)] rfl rfl rfl (by simp [Value.oneCell']) zL rfl HR6.out ?_; intro wz ha hp; have HBZ := hidp (hp.below' HB6.out hg2.out); have HRZ := hidp ha; have HDZ := hidp ((hp.other D (by have := h2D.out; omega)).trans HD6.out); have HOZ := hidp (own_stp HO6.out hp h29.out); clear ha hp HR6) | (go_at_call 18; refine (ct.out _ _ HVW.out (HP.out.below HBW.out (Nat.le_refl _))).mono ?_; rintro e w6 ⟨rfl, hb6⟩; have HB6 := hidp (HBW.out.trans (hb6.mono HBW.out.size)); have HR6 := hidp (HRW.out.below hb6 HRW.out.lt); have H76 := hidp (H7W.out.below hb6 H7W.out.lt); have HO6 := hidp (HOW.out.to hb6 (Nat.le_refl _)); have HD6 := hidp ((hb6.block D (Array.getElem?_eq_some_iff.1 HK.out).1).trans HK.out); clear hb6 HRW H7W HOW HVW HK HBW) | (refine Rt.wpL_get tyL rfl (.tmp 7) rfl b7 [.int .i64 l.a, .int .i64 l.s, .int .i64 l.i, .int .i64 l.k, .int .i64 l.b, .int .i64 l.r, (.slice av (uRs l.us).length cv)] rfl rfl H7W.out ?_) | (refine Rt.wpL_get tyL rfl (.tmp 7) rfl b7 [.int .i64 l.a, .int .i64 l.s, .int .i64 l.i, .int .i64 l.k, .int .i64 l.b, .int .i64 l.r, (.slice av (uRs l.us).length cv)] rfl rfl H76.out ?_; have hld := hidp True.intro))
              have HRF := hidp (show Arr (wz.putObj D (.deferred none)) b2 37 [.int .i64 l.a, .int .i64 l.s, .int .i64 l.i, .int .i64 l.k, .int .i64 l.b, .int .i64 l.r, (.slice av (uRs l.us).length cv)] from ((grownBy_putObj' wz D (.deferred none)).block b2 HRZ.out.lt (fun e => by cases e; have := h2D.out; omega)).trans HRZ.out)
              refine ⟨by simp [Act.put], .inl ⟨_, _, rfl, run_takeDeferred HDZ.out, ?_⟩⟩
              refine ⟨_, results_row_tmp (P := Tryz.prog) (p := 2) (u := 3) (ty := 37) Tryz.results20 _ _ b2 37 ([.int .i64 l.a, .int .i64 l.s, .int .i64 l.i, .int .i64 l.k, .int .i64 l.b, .int .i64 l.r, (.slice av (uRs l.us).length cv)] : List Value).toArray (0, 0) _ rfl HRF.out Tryz.underlying37 rfl (tyL.size rfl) _ rfl, ?_⟩
              rw [HV.out, HX.out]
              exact ⟨_, rfl, us_of (own_kept HOZ.out (grownBy_putObj' wz D (.deferred none)) (fun r e => by cases e; exact ⟨_, HDZ.out, rfl⟩)) hlen.out hsz.out, HBZ.out.grown (grownBy_putObj' wz D (.deferred none)) HBZ.out.size (fun k e => by cases e; have := h9D.out; omega)⟩
            · have hno : psL t = none := by rw [HPS2.out, if_neg (fun h => hsame h.2)]
              have hne : (T.toList == t.toList) = false := by simpa using hsame
              clear hok
              have HV := hidp (show psV t = zLv from by unfold psV; rw [hno]; rfl)
              have HX := hidp (show psX t = 6 from by unfold psX; rw [hno]; rfl)
              clear hno
              go_wp2_with (first | (refine Rt.wpL_put tyL rfl (.tmp 2) (.tmp 67) rfl b2 zL rfl rfl rfl (by simp [zL, Value.oneCell']) zL rfl HR6.out ?_; intro wz ha hp; have HBZ := hidp (hp.below' HB6.out hg2.out); have HRZ := hidp ha; have HDZ := hidp ((hp.other D (by have := h2D.out; omega)).trans HD6.out); have HOZ := hidp (own_stp HO6.out hp h29.out); clear ha hp HR6) | (go_at_call 18; refine (ct.out _ _ HVW.out (HP.out.below HBW.out (Nat.le_refl _))).mono ?_; rintro e w6 ⟨rfl, hb6⟩; have HB6 := hidp (HBW.out.trans (hb6.mono HBW.out.size)); have HR6 := hidp (HRW.out.below hb6 HRW.out.lt); have H76 := hidp (H7W.out.below hb6 H7W.out.lt); have HO6 := hidp (HOW.out.to hb6 (Nat.le_refl _)); have HD6 := hidp ((hb6.block D (Array.getElem?_eq_some_iff.1 HK.out).1).trans HK.out); clear hb6 HRW H7W HOW HVW HK HBW) | (refine Rt.wpL_get tyL rfl (.tmp 7) rfl b7 [.int .i64 l.a, .int .i64 l.s, .int .i64 l.i, .int .i64 l.k, .int .i64 l.b, .int .i64 l.r, (.slice av (uRs l.us).length cv)] rfl rfl H7W.out ?_) | (refine Rt.wpL_build rfl 37 _ rfl zL (by kernel_rfl) ?_))
              have HRF := hidp (show Arr (wz.putObj D (.deferred none)) b2 37 zL from ((grownBy_putObj' wz D (.deferred none)).block b2 HRZ.out.lt (fun e => by cases e; have := h2D.out; omega)).trans HRZ.out)
              refine ⟨by simp [Act.put], .inl ⟨_, _, rfl, run_takeDeferred HDZ.out, ?_⟩⟩
              refine ⟨_, results_row_tmp (P := Tryz.prog) (p := 2) (u := 3) (ty := 37) Tryz.results20 _ _ b2 37 (zL : List Value).toArray (0, 0) _ rfl HRF.out Tryz.underlying37 rfl (tyL.size rfl) _ rfl, ?_⟩
              rw [HV.out, HX.out]
              exact ⟨_, rfl, UsAt.nil _, HBZ.out.grown (grownBy_putObj' wz D (.deferred none)) HBZ.out.size (fun k e => by cases e; have := h9D.out; omega)⟩
          · have hno : psL t = none := by rw [HPS2.out, if_neg (fun h => hok h.1)]
            rw [show lvE l = 2 from if_neg hok] at ct
            clear hok
            have HV := hidp (show psV t = zLv from by unfold psV; rw [hno]; rfl)
            have HX := hidp (show psX t = 6 from by unfold psX; rw [hno]; rfl)
            clear hno
            go_wp2_with (first | (refine Rt.wpL_put tyL rfl (.tmp 2) (.tmp 67) rfl b2 zL rfl rfl rfl (by simp [zL, Value.oneCell']) zL rfl HR6.out ?_; intro wz ha hp; have HBZ := hidp (hp.below' HB6.out hg2.out); have HRZ := hidp ha; have HDZ := hidp ((hp.other D (by have := h2D.out; omega)).trans HD6.out); have HOZ := hidp (own_stp HO6.out hp h29.out); clear ha hp HR6) | (go_at_call 18; refine (ct.out _ _ HVW.out (HP.out.below HBW.out (Nat.le_refl _))).mono ?_; rintro e w6 ⟨rfl, hb6⟩; have HB6 := hidp (HBW.out.trans (hb6.mono HBW.out.size)); have HR6 := hidp (HRW.out.below hb6 HRW.out.lt); have H76 := hidp (H7W.out.below hb6 H7W.out.lt); have HO6 := hidp (HOW.out.to hb6 (Nat.le_refl _)); have HD6 := hidp ((hb6.block D (Array.getElem?_eq_some_iff.1 HK.out).1).trans HK.out); clear hb6 HRW H7W HOW HVW HK HBW) | (refine Rt.wpL_get tyL rfl (.tmp 7) rfl b7 [.int .i64 l.a, .int .i64 l.s, .int .i64 l.i, .int .i64 l.k, .int .i64 l.b, .int .i64 l.r, (.slice av (uRs l.us).length cv)] rfl rfl H7W.out ?_) | (refine Rt.wpL_build rfl 37 _ rfl zL (by kernel_rfl) ?_))
            have HRF := hidp (show Arr (wz.putObj D (.deferred none)) b2 37 zL from ((grownBy_putObj' wz D (.deferred none)).block b2 HRZ.out.lt (fun e => by cases e; have := h2D.out; omega)).trans HRZ.out)
            refine ⟨by simp [Act.put], .inl ⟨_, _, rfl, run_takeDeferred HDZ.out, ?_⟩⟩
            refine ⟨_, results_row_tmp (P := Tryz.prog) (p := 2) (u := 3) (ty := 37) Tryz.results20 _ _ b2 37 (zL : List Value).toArray (0, 0) _ rfl HRF.out Tryz.underlying37 rfl (tyL.size rfl) _ rfl, ?_⟩
            rw [HV.out, HX.out]
            exact ⟨_, rfl, UsAt.nil _, HBZ.out.grown (grownBy_putObj' wz D (.deferred none)) HBZ.out.size (fun k e => by cases e; have := h9D.out; omega)⟩
        case stop =>
          rintro D c pre W hD hsp h
          exact h.elim
end Go.Proofs.YtiakfopdohcigaaGreatDoor
