import Derived.Test.YtokakgjcegmabaaGreatDoorJO
set_option linter.unusedVariables false
set_option linter.unusedSimpArgs false
set_option maxHeartbeats 64000000
set_option maxRecDepth 100000
namespace Go.Proofs.YtokakgjcegmabaaGreatDoor.Ho
open Go.RowKit
open List (getElem_toArray getElem_cons_zero getElem_cons_succ setIfInBounds_toArray set_cons_zero set_cons_succ)
def mN : Nat → Nat := fun i => ([4096, 4096, 63, 63] : List Nat).getD i 0
theorem mN_mst (i : Nat) (h : i < 4) : ([4096, 4096, 63, 63] : List Int).getD i 0 = (mN i : Int) := by
 rcases (by omega : i = 0 ∨ i = 1 ∨ i = 2 ∨ i = 3) with rfl | rfl | rfl | rfl <;> rfl
theorem mN_le (i : Nat) : mN i ≤ 4096 := by
 unfold mN
 by_cases h : i < 4
 · rcases (by omega : i = 0 ∨ i = 1 ∨ i = 2 ∨ i = 3) with rfl | rfl | rfl | rfl <;> decide
 · rw [List.getD_eq_getElem?_getD, List.getElem?_eq_none (by simp; omega)]; exact Nat.zero_le _
def nRow (x : Nat → Nat) (i : Nat) : List Value := (List.range 4).map fun j => .int .i64 (if j < i then (x j : Int) else 0)
theorem nRow_set (x : Nat → Nat) (i : Nat) (h : i < 4) : (nRow x i).set i (.int .i64 (x i : Int)) = nRow x (i + 1) := by
 rcases (by omega : i = 0 ∨ i = 1 ∨ i = 2 ∨ i = 3) with rfl | rfl | rfl | rfl <;> rfl
theorem nRow_len (x : Nat → Nat) (i : Nat) : (nRow x i).length = 4 := by simp [nRow]
theorem nRow_four (x : Nat → Nat) : nRow x 4 = [.int .i64 (x 0 : Int), .int .i64 (x 1 : Int), .int .i64 (x 2 : Int), .int .i64 (x 3 : Int)] := rfl
def xN (ss : List ByteArray) (j : Nat) : Nat := inV (Sl.sAt ss (2 + j)) (mN j)
def xE (ss : List ByteArray) (j : Nat) : Int := inE (Sl.sAt ss (2 + j)) (mN j)
def rdV (t : ByteArray) : De := (rd t).getD zD
def rdE (t : ByteArray) : Int := if (rd t).isSome = true then 0 else 6
def dpV (t : ByteArray) : De := (dP t).getD zD
def dpE (t : ByteArray) : Int := if (dP t).isSome = true then 0 else 6
theorem rd_bad {t : ByteArray} (h : (al t).2 ≠ 0) : rd t = none := by unfold rd; rw [if_neg h]
theorem rd_len {t : ByteArray} (h : (al t).1.length ≠ 6) : rd t = none := by
 unfold rd
 split
 · unfold rdL
   split
   · rename_i hl; rw [hl] at h; simp at h
   · rfl
 · rfl
theorem prm_bad {a b c d : Nat} {ss : List ByteArray} {j : Nat} (hj : j < 4) (h : xE ss j ≠ 0) (hn : numOf (Sl.sAt ss (2 + j)) = some ([a, b, c, d].getD j 0)) : prm a b c d = false := by
 have := in_not h _ hn
 have h2 : okAt a b c d j = false := by
  unfold okAt mst
  rw [decide_eq_false_iff_not, mN_mst j hj]
  rcases (by omega : j = 0 ∨ j = 1 ∨ j = 2 ∨ j = 3) with rfl | rfl | rfl | rfl <;> simp at this ⊢ <;> omega
 exact prm_not hj h2
theorem dOk_prm {k : Nat} {r : ByteArray} {e i h n : Int} {g : ByteArray} (hp : prm e i h n = false) : dOk ⟨k, r, e, i, h, n, g⟩ = false := by
 unfold dOk; simp only [hp, Bool.and_false, Bool.false_and]
theorem rd_num {t : ByteArray} {a b c d e f : ByteArray} (hL : (al t).1 = [a, b, c, d, e, f]) {j : Nat} (hj : j < 4) (h : xE [a, b, c, d, e, f] j ≠ 0) : rd t = none := by
 unfold rd
 split
 · rw [hL]
   simp only [rdL]
   split
   · rename_i w x y z e1 e2 e3 e4
     rw [if_neg]
     rw [dOk_prm (prm_bad hj h (by rcases (by omega : j = 0 ∨ j = 1 ∨ j = 2 ∨ j = 3) with rfl | rfl | rfl | rfl <;> assumption))]
     exact Bool.false_ne_true
   · rfl
 · rfl
theorem rd_all {t : ByteArray} {a b c d e f : ByteArray} (h0 : (al t).2 = 0) (hL : (al t).1 = [a, b, c, d, e, f]) (h : ∀ j, j < 4 → xE [a, b, c, d, e, f] j = 0) :
 rd t = if dOk ⟨kOf a, b, xN [a, b, c, d, e, f] 0, xN [a, b, c, d, e, f] 1, xN [a, b, c, d, e, f] 2, xN [a, b, c, d, e, f] 3, ⟨#[]⟩⟩ = true then some ⟨kOf a, b, xN [a, b, c, d, e, f] 0, xN [a, b, c, d, e, f] 1, xN [a, b, c, d, e, f] 2, xN [a, b, c, d, e, f] 3, ⟨#[]⟩⟩ else none := by
 have e1 : numOf c = some (xN [a, b, c, d, e, f] 0) := (in_zero (h 0 (by omega))).1
 have e2 : numOf d = some (xN [a, b, c, d, e, f] 1) := (in_zero (h 1 (by omega))).1
 have e3 : numOf e = some (xN [a, b, c, d, e, f] 2) := (in_zero (h 2 (by omega))).1
 have e4 : numOf f = some (xN [a, b, c, d, e, f] 3) := (in_zero (h 3 (by omega))).1
 unfold rd
 rw [if_pos h0, hL]
 simp only [rdL, e1, e2, e3, e4]
theorem al_sz (t : ByteArray) (ht : t.size ≤ 281474976710656) : ∀ s ∈ (al t).1, s.size ≤ 8192 := by
 intro s hs
 by_cases h : (al t).2 = 0
 · exact (al_again h).2.2 s hs
 · have e : (al t).1 = [] := by
    unfold al at h ⊢
    split
    · rfl
    · split <;> rename_i h1 h2
      · rfl
      · rw [if_neg h1, if_neg h2] at h; exact absurd rfl h
   rw [e] at hs; cases hs
theorem sAt_sz {ss : List ByteArray} (h : ∀ s ∈ ss, s.size ≤ 8192) (i : Nat) : (Sl.sAt ss i).size ≤ 8192 := by
 by_cases hi : i < ss.length
 · rw [Sl.sAt_get hi]; exact h _ (List.getElem_mem hi)
 · unfold Sl.sAt; rw [List.getD_eq_getElem?_getD, List.getElem?_eq_none (by omega)]; exact Nat.zero_le _
theorem read_any (w : World) (t : ByteArray) (ht : t.size ≤ 281474976710656) (hI : IT w) (hT : HT w) :
 Calls Tryz.prog 75 #[.string t] w fun e w' => e = .returned (.tuple #[.agg (rdV t).row.toArray, .int .i64 (rdE t)]) ∧ Below w.heap.size w w' := by
 have HI := hidp hI; have HT0 := hidp hT; clear hI hT
 have ca := hidp (fun W => all_any W t ht)
 have H := hidp (Mm.M.nil w)
 by_cases h0 : (al t).2 = 0
 · by_cases h6 : (al t).1.length = 6
   · obtain ⟨a, b, c, d, e5, f, hL⟩ : ∃ a b c d e f, (al t).1 = [a, b, c, d, e, f] := by
      match hL : (al t).1, h6 with
      | [a, b, c, d, e, f], _ => exact ⟨a, b, c, d, e, f, rfl⟩
     have HSS := hidp (al_sz t ht)
     have HNUM := hidp (fun j hj h => rd_num (t := t) hL (j := j) hj h)
     have HALL := hidp (rd_all h0 hL)
     rw [hL] at HSS
     rw [h0, hL] at ca
     clear hL h6 h0
     have en : (((6 : Nat) : Int) != 6) = false := rfl
     go_enter Tryz.func75, Tryz.ntmps75
     have tk0 := hT
     go_wp2_with (first | (clear tk0; (refine Mm.new rtD H (some 2) rfl rfl rfl ?_; clear H; intro b2 _ H nw; clear nw); (try simp only [Act.put, aQ]); have tk1 := hT) | (clear tk1; (go_at_call 74; refine (ca.out _).mono ?_; rintro e w1 ⟨v, rfl, hst, hb⟩; have H0 := hidp (H.out.call hb); obtain ⟨g, off, cv, rfl, hg, hcs⟩ := Sl.strs_pos hst (by simp); have HIB := hidp (HI.out.below H0.out.below (Nat.le_refl _)); have HTB := hidp (HT0.out.below H0.out.below (Nat.le_refl _)); clear H hst hb ca; have HC := hidp (show ∀ W, Below w1.heap.size w1 W → ∀ i, i < 6 → W.cell? ⟨g, off + i, none⟩ = some (.string (Sl.sAt [a, b, c, d, e5, f] i)) from fun W hW i hi => (hW.cell (p := ⟨g, off + i, none⟩) hg).trans (hcs i hi)); clear hcs; have H := hidp (Mm.M.nil w1)); (try simp only [Act.put, aQ]); have tk2 := hT) | (clear tk2; (refine Mm.new rtN H (some 6) rfl rfl rfl ?_; clear H; intro b6 _ H nw; clear nw); (try simp only [Act.put, aQ]); have tk3 := hT))
     try clear tk3
     rw [show zNr = nRow (xN [a, b, c, d, e5, f]) 0 from rfl] at H
     go_loopw [22] (fun t22 wr => ∃ i : Nat, t22 = .int .i64 (i : Int) ∧ i ≤ 4 ∧ (∀ j, j < i → xE [a, b, c, d, e5, f] j = 0) ∧ Mm.M w1.heap.size w1 wr [⟨b6, 181, nRow (xN [a, b, c, d, e5, f]) i⟩]) (fun t22 _ => 4 - (intOf t22).toNat)
     case atStart => exact ⟨0, rfl, by omega, fun j h => by omega, H.out⟩
     case round =>
      clear H
      obtain ⟨i, rfl, hi, hal, hM⟩ := hrel
      have HAL := hidp hal; have H := hidp hM
      clear hal hM
      by_cases hlt : i < 4
      · have e1 : decide ((i : Int) < 4) = true := by simp; omega
        have c0 : (0 : Int) ≤ (i : Int) := by omega
        have c1 : (i : Int) < 4 := by omega
        have w1' : IntKind.i64.wrap (2 + (i : Int)) = ((2 + i : Nat) : Int) := by unfold IntKind.wrap; simp [IntKind.bits, IntKind.signed]; omega
        have HSZ := hidp (sAt_sz HSS.out (2 + i))
        have hmst := mN_mst i hlt; have hml := mN_le i
        have HMM := hidp hmst
        obtain ⟨X, hX⟩ : ∃ X, Sl.sAt [a, b, c, d, e5, f] (2 + i) = X := ⟨_, rfl⟩
        obtain ⟨m, hm⟩ : ∃ m, mN i = m := ⟨_, rfl⟩
        have hxE : xE [a, b, c, d, e5, f] i = inE X m := by unfold xE; rw [hX, hm]
        have hxN : xN [a, b, c, d, e5, f] i = inV X m := by unfold xN; rw [hX, hm]
        rw [hX] at HSZ
        rw [hm] at HMM hml
        have HX := hidp hX
        have ci := hidp (fun W => allInt_any W X m (by omega) (by have := HSZ.out; omega))
        clear hX hm hmst
        have hset := nRow_set (xN [a, b, c, d, e5, f]) i hlt
        rw [hxN] at hset
        have HSET := hidp hset
        have HL := hidp (nRow_len (xN [a, b, c, d, e5, f]) i)
        clear hset hxN
        obtain ⟨V, hV⟩ : ∃ V, inV X m = V := ⟨_, rfl⟩
        obtain ⟨E, hE⟩ : ∃ E, inE X m = E := ⟨_, rfl⟩
        rw [hV, hE] at ci
        rw [hV] at HSET
        rw [hE] at hxE
        have HXE := hidp hxE
        clear hV hE hxE HSZ
        obtain ⟨R0, hR0⟩ : ∃ R, nRow (xN [a, b, c, d, e5, f]) i = R := ⟨_, rfl⟩
        obtain ⟨R1, hR1⟩ : ∃ R, nRow (xN [a, b, c, d, e5, f]) (i + 1) = R := ⟨_, rfl⟩
        rw [hR0] at H HSET HL
        rw [hR1] at HSET
        have HR1 := hidp hR1
        clear hR0 hR1
        by_cases hE0 : E = 0
        · subst hE0
          go_wp2
          refine Sl.region1 H (.take 0 (.take 1 (.take 2 (.take 3 (.take 4 (.take 5 (.take 6 (.take 7 (.take 8 (.one 9 (.take 10 (.take 11 (.take 12 (.take 13 (.one 14 (.take 15 .done)))))))))))))))) (by kernel_rfl) (by kernel_rfl) (by simp [Scr.depth]) (by kernel_rfl) ?_
          clear H
          intro _ H hb
          clear hb
          iterate 4
           apply s_val
           case ho | hw => rfl
           case hv => intro w hw; go_simp; first | done | rfl
           simp only [Act.put, aP]
          refine Sl.s_idx1 Sl.tyS (by kernel_rfl) rfl rfl (.tmp 27) (.tmp 29) rfl g off 6 cv (2 + i) rfl rfl (by omega) ?_
          simp only [Act.put, aP]
          apply s_val
          case ho | hw => rfl
          case hv => intro w hw; have m1 := HC.out w hw.below (2 + i) (by omega); rw [HX.out] at m1; go_simp; first | done | rfl
          iterate 2
           simp only [Act.put, aP]
           apply s_val
           case ho | hw => rfl
           case hv => intro w hw; go_simp; first | done | rfl
          simp only [Act.put, aP]
          apply s_val
          case ho | hw => rfl
          case hv => intro w hw; have m2 := (HTB.out.below hw.below (Nat.le_refl _)).most i hlt; rw [HMM.out] at m2; go_simp; first | done | rfl
          simp only [Act.put, aP]
          refine Mm.o_callH (v := .tuple #[.int .i64 (V : Int), .int .i64 0]) H (fun W h => h.tail) rfl rfl 88 (#[.string X, .int .i64 (m : Int)]) (by go_simp; first | done | rfl) (ci.out _) ?_
          clear H
          intro _ H hb
          clear hb
          iterate 4
           simp only [Act.put, aP]
           apply s_val
           case ho | hw => rfl
           case hv => intro w hw; go_simp; first | done | rfl
          simp only [Act.put, aP]
          refine Sl.o_putF0 H i (.int .i64 (V : Int)) (fun W h => h.tail) rfl rfl (.tmp 38) (.tmp 36) rfl rfl rfl (by kernel_rfl) rfl (by rw [HL.out]; exact hlt) ?_
          clear H
          intro _ H st
          rw [HSET.out] at H
          clear st
          simp only [Act.put, aP]
          apply s_val
          case ho | hw => rfl
          case hv => intro w hw; go_simp; first | done | rfl
          simp only [Act.put, aP]
          refine NoPanic.normal ?_
          clear ci
          go_wp2
          exact ⟨⟨i + 1, by go_num, by omega, fun j g => (by
           by_cases hj : j = i
           · subst hj; exact HXE.out
           · exact HAL.out j (by omega)), by rw [HR1.out]; exact H.out⟩, by simp [intOf]; omega⟩
        · have e2 : (E != 0) = true := by simpa using hE0
          have HV := hidp (show rdV t = zD from by unfold rdV; rw [HNUM.out i hlt (by rw [HXE.out]; exact hE0)]; rfl)
          have HE := hidp (show rdE t = 6 from by unfold rdE; rw [HNUM.out i hlt (by rw [HXE.out]; exact hE0)]; rfl)
          clear hE0
          go_wp2
          refine Sl.region1 H (.take 0 (.take 1 (.take 2 (.take 3 (.take 4 (.take 5 (.take 6 (.take 7 (.take 8 (.one 9 (.take 10 (.take 11 (.take 12 (.take 13 (.one 14 (.take 15 .done)))))))))))))))) (by kernel_rfl) (by kernel_rfl) (by simp [Scr.depth]) (by kernel_rfl) ?_
          clear H
          intro _ H hb
          clear hb
          iterate 4
           apply s_val
           case ho | hw => rfl
           case hv => intro w hw; go_simp; first | done | rfl
           simp only [Act.put, aP]
          refine Sl.s_idx1 Sl.tyS (by kernel_rfl) rfl rfl (.tmp 27) (.tmp 29) rfl g off 6 cv (2 + i) rfl rfl (by omega) ?_
          simp only [Act.put, aP]
          apply s_val
          case ho | hw => rfl
          case hv => intro w hw; have m1 := HC.out w hw.below (2 + i) (by omega); rw [HX.out] at m1; go_simp; first | done | rfl
          iterate 2
           simp only [Act.put, aP]
           apply s_val
           case ho | hw => rfl
           case hv => intro w hw; go_simp; first | done | rfl
          simp only [Act.put, aP]
          apply s_val
          case ho | hw => rfl
          case hv => intro w hw; have m2 := (HTB.out.below hw.below (Nat.le_refl _)).most i hlt; rw [HMM.out] at m2; go_simp; first | done | rfl
          simp only [Act.put, aP]
          refine Mm.o_callH (v := .tuple #[.int .i64 (V : Int), .int .i64 E]) H (fun W h => h.tail) rfl rfl 88 (#[.string X, .int .i64 (m : Int)]) (by go_simp; first | done | rfl) (ci.out _) ?_
          clear H
          intro _ H hb
          clear hb
          iterate 4
           simp only [Act.put, aP]
           apply s_val
           case ho | hw => rfl
           case hv => intro w hw; go_simp; first | done | rfl
          simp only [Act.put, aP]
          refine Sl.o_putF0 H i (.int .i64 (V : Int)) (fun W h => h.tail) rfl rfl (.tmp 38) (.tmp 36) rfl rfl rfl (by kernel_rfl) rfl (by rw [HL.out]; exact hlt) ?_
          clear H
          intro _ H st
          rw [HSET.out] at H
          clear st
          simp only [Act.put, aP]
          apply s_val
          case ho | hw => rfl
          case hv => intro w hw; go_simp; first | done | rfl
          simp only [Act.put, aP]
          refine NoPanic.normal ?_
          clear ci
          replace H := hidp (Sl.join H0.out H.out)
          have tk0 := hT
          go_wp2_with (first | (clear tk0; (refine Rt.wpL_build rfl 26 _ rfl zDr (by kernel_rfl) ?_); (try simp only [Act.put, aQ]); have tk1 := hT) | (clear tk1; (refine Mm.put1 rtD H rfl (.tmp 2) (.tmp 41) zDr rfl rfl rfl rfl (by simp [zDr, Value.oneCell']) rfl ?_; intro _ H2 st; clear st H; have H := H2; clear H2); (try simp only [Act.put, aQ]); have tk2 := hT))
          try clear tk2
          refine bodyPost_ret (Mm.ret_rowv rtD Tryz.results75 _ b2 _ _ rfl rfl H.out.at1 rfl) rfl ⟨by rw [HV.out, HE.out]; rfl, H.out.below⟩
      · have e1 : decide ((i : Int) < 4) = false := by simp; omega
        have hi4 : nRow (xN [a, b, c, d, e5, f]) i = nRow (xN [a, b, c, d, e5, f]) 4 := by rw [show i = 4 from by omega]
        rw [hi4, nRow_four] at H
        have HRD := hidp (HALL.out fun j g => HAL.out j (by omega))
        clear hi4
        generalize xN [a, b, c, d, e5, f] 0 = y0 at H HRD
        generalize xN [a, b, c, d, e5, f] 1 = y1 at H HRD
        generalize xN [a, b, c, d, e5, f] 2 = y2 at H HRD
        generalize xN [a, b, c, d, e5, f] 3 = y3 at H HRD
        have ck := hidp (fun W h => kindOf_any W a h)
        obtain ⟨K, hK⟩ : ∃ K, kOf a = K := ⟨_, rfl⟩
        have hK3 : K < 256 := by rw [← hK]; unfold kOf; (repeat' split) <;> omega
        rw [hK] at ck HRD
        clear hK
        have cc := hidp (show ∀ W, IT W → HT W → Calls Tryz.prog 53 #[.agg #[.int .u8 (K : Int), .string b, .int .i64 (y0 : Int), .int .i64 (y1 : Int), .int .i64 (y2 : Int), .int .i64 (y3 : Int), .string ⟨#[]⟩]] W (fun e w' => e = .returned (.int .i64 (dE ⟨K, b, y0, y1, y2, y3, ⟨#[]⟩⟩)) ∧ Below W.heap.size W w') from fun W h h' => dcheck_any W ⟨K, b, y0, y1, y2, y3, ⟨#[]⟩⟩ ⟨hK3, by have := HSS.out b (by simp); show b.size ≤ _; omega, show (⟨#[]⟩ : ByteArray).size ≤ _ from by decide⟩ h h')
        cases hok : dOk ⟨K, b, y0, y1, y2, y3, ⟨#[]⟩⟩ with
        | false =>
          rw [dE_no hok] at cc
          have HV := hidp (show rdV t = zD from by unfold rdV; rw [HRD.out, hok]; rfl)
          have HE := hidp (show rdE t = 6 from by unfold rdE; rw [HRD.out, hok]; rfl)
          clear hok hK3
          go_wp2
          refine Mm.region H (.take 0 (.take 1 (.take 2 (.take 4 (.take 5 (.take 6 (.take 7 (.take 8 (.take 9 (.take 10 (.take 11 (.take 12 (.take 13 (.take 14 (.two 3 (.take 15 (.one 16 (.one 17 .done))) 16 (.one 3 (.take 15 (.one 17 .done)))))))))))))))))) (by kernel_rfl) (by kernel_rfl) (by simp [Scr.depth]) (by kernel_rfl) ?_
          clear H
          intro _ H hb
          clear hb
          iterate 2
           apply s_val
           case ho | hw => rfl
           case hv => intro w hw; go_simp; first | done | rfl
           simp only [Act.put, aP]
          apply s_val
          case ho | hw => rfl
          case hv => intro w hw; have m1 := HC.out w hw.below 0 (by omega); simp only [Nat.add_zero] at m1; go_simp; first | done | rfl
          iterate 2
           simp only [Act.put, aP]
           apply s_val
           case ho | hw => rfl
           case hv => intro w hw; go_simp; first | done | rfl
          simp only [Act.put, aP]
          apply s_val
          case ho | hw => rfl
          case hv => intro w hw; have m1 := HC.out w hw.below 1 (by omega); go_simp; first | done | rfl
          simp only [Act.put, aP]
          apply s_val
          case ho | hw => rfl
          case hv => intro w hw; go_simp; first | done | rfl
          simp only [Act.put, aP]
          refine Mm.sld0 naI (fun w h => h) rfl rfl (.tmp 50) 0 _ rfl rfl rfl ?_
          simp only [Act.put, aP]
          apply s_val
          case ho | hw => rfl
          case hv => intro w hw; go_simp; first | done | rfl
          simp only [Act.put, aP]
          refine Mm.sld0 naI (fun w h => h) rfl rfl (.tmp 52) 1 _ rfl rfl rfl ?_
          simp only [Act.put, aP]
          apply s_val
          case ho | hw => rfl
          case hv => intro w hw; go_simp; first | done | rfl
          simp only [Act.put, aP]
          refine Mm.sld0 naI (fun w h => h) rfl rfl (.tmp 54) 2 _ rfl rfl rfl ?_
          simp only [Act.put, aP]
          apply s_val
          case ho | hw => rfl
          case hv => intro w hw; go_simp; first | done | rfl
          simp only [Act.put, aP]
          refine Mm.sld0 naI (fun w h => h) rfl rfl (.tmp 56) 3 _ rfl rfl rfl ?_
          simp only [Act.put, aP]
          refine ⟨?_, ?_⟩
          · refine Mm.o_callH (v := .int .u8 (K : Int)) H (fun W h => h) rfl rfl 127 (#[.string a]) (by go_simp; first | done | rfl) ((ck.out _ (HTB.out.below H.out.below (Nat.le_refl _))).mono fun e w2 h => ⟨h.1, h.2 ▸ Below.refl _ _⟩) ?_
            clear H
            intro _ H hb
            clear hb
            simp only [Act.put, aP]
            apply s_val
            case ho | hw => rfl
            case hv => intro w hw; go_simp; first | done | rfl
            simp only [Act.put, aP]
            refine Mm.o_newH rtD H (fun W h => h) rfl rfl rfl ?_
            clear H
            intro b8 _ H nw
            have hb := nw.below
            clear hb nw
            simp only [Act.put, aP]
            refine Mm.oput0 rtD H [.int .u8 (K : Int), .string b, .int .i64 (y0 : Int), .int .i64 (y1 : Int), .int .i64 (y2 : Int), .int .i64 (y3 : Int), .string ⟨#[]⟩] (fun W h => h.tail) rfl rfl (.tmp 8) (.tmp 58) rfl rfl rfl rfl (by simp [Value.oneCell']) rfl ?_
            intro _ H2 st
            clear st H
            have H := H2
            clear H2
            simp only [Act.put, aP]
            refine NoPanic.normal ?_
            clear ck
            replace H := hidp (Sl.join H0.out H.out)
            have HIW := hidp (HI.out.below H.out.below (Nat.le_refl _)); have HTW := hidp (HT0.out.below H.out.below (Nat.le_refl _))
            have tk0 := hT
            go_wp2_with (first | (clear tk0; (refine Mm.get0 rtD H rfl (.tmp 8) rfl rfl rfl ?_); (try simp only [Act.put, aQ]); have tk1 := hT) | (clear tk1; (go_at_call 53; refine (cc.out _ (HI.out.below H.out.below (Nat.le_refl _)) (HT0.out.below H.out.below (Nat.le_refl _))).mono ?_; rintro e _ ⟨rfl, hb⟩; replace H := hidp (H.out.call hb); clear cc; clear hb); (try simp only [Act.put, aQ]); have tk2 := hT) | (clear tk2; (refine Rt.wpL_build rfl 26 _ rfl zDr (by kernel_rfl) ?_); (try simp only [Act.put, aQ]); have tk3 := hT) | (clear tk3; (refine Mm.put2 rtD H rfl (.tmp 2) (.tmp 62) zDr rfl rfl rfl rfl (by simp [zDr, Value.oneCell']) rfl ?_; intro _ H2 st; clear st H; have H := H2; clear H2); (try simp only [Act.put, aQ]); have tk4 := hT))
            try clear tk4
            refine bodyPost_ret (Mm.ret_rowv rtD Tryz.results75 _ b2 _ _ rfl rfl H.out.at2 rfl) rfl ⟨by rw [HV.out, HE.out]; rfl, H.out.below⟩
          · refine Mm.o_newH rtD H (fun W h => h) rfl rfl rfl ?_
            clear H
            intro b8 _ H nw
            have hb := nw.below
            clear hb nw
            simp only [Act.put, aP]
            refine Mm.o_callH (v := .int .u8 (K : Int)) H (fun W h => h.tail) rfl rfl 127 (#[.string a]) (by go_simp; first | done | rfl) ((ck.out _ (HTB.out.below H.out.below (Nat.le_refl _))).mono fun e w2 h => ⟨h.1, h.2 ▸ Below.refl _ _⟩) ?_
            clear H
            intro _ H hb
            clear hb
            simp only [Act.put, aP]
            apply s_val
            case ho | hw => rfl
            case hv => intro w hw; go_simp; first | done | rfl
            simp only [Act.put, aP]
            refine Mm.oput0 rtD H [.int .u8 (K : Int), .string b, .int .i64 (y0 : Int), .int .i64 (y1 : Int), .int .i64 (y2 : Int), .int .i64 (y3 : Int), .string ⟨#[]⟩] (fun W h => h.tail) rfl rfl (.tmp 8) (.tmp 58) rfl rfl rfl rfl (by simp [Value.oneCell']) rfl ?_
            intro _ H2 st
            clear st H
            have H := H2
            clear H2
            simp only [Act.put, aP]
            refine NoPanic.normal ?_
            clear ck
            replace H := hidp (Sl.join H0.out H.out)
            have HIW := hidp (HI.out.below H.out.below (Nat.le_refl _)); have HTW := hidp (HT0.out.below H.out.below (Nat.le_refl _))
            have tk0 := hT
            go_wp2_with (first | (clear tk0; (refine Mm.get0 rtD H rfl (.tmp 8) rfl rfl rfl ?_); (try simp only [Act.put, aQ]); have tk1 := hT) | (clear tk1; (go_at_call 53; refine (cc.out _ (HI.out.below H.out.below (Nat.le_refl _)) (HT0.out.below H.out.below (Nat.le_refl _))).mono ?_; rintro e _ ⟨rfl, hb⟩; replace H := hidp (H.out.call hb); clear cc; clear hb); (try simp only [Act.put, aQ]); have tk2 := hT) | (clear tk2; (refine Rt.wpL_build rfl 26 _ rfl zDr (by kernel_rfl) ?_); (try simp only [Act.put, aQ]); have tk3 := hT) | (clear tk3; (refine Mm.put2 rtD H rfl (.tmp 2) (.tmp 62) zDr rfl rfl rfl rfl (by simp [zDr, Value.oneCell']) rfl ?_; intro _ H2 st; clear st H; have H := H2; clear H2); (try simp only [Act.put, aQ]); have tk4 := hT))
            try clear tk4
            refine bodyPost_ret (Mm.ret_rowv rtD Tryz.results75 _ b2 _ _ rfl rfl H.out.at2 rfl) rfl ⟨by rw [HV.out, HE.out]; rfl, H.out.below⟩
        | true =>
          rw [dE_yes hok] at cc
          have HV := hidp (show rdV t = ⟨K, b, y0, y1, y2, y3, ⟨#[]⟩⟩ from by unfold rdV; rw [HRD.out, hok]; rfl)
          have HE := hidp (show rdE t = 0 from by unfold rdE; rw [HRD.out, hok]; rfl)
          clear hok hK3
          go_wp2
          refine Mm.region H (.take 0 (.take 1 (.take 2 (.take 4 (.take 5 (.take 6 (.take 7 (.take 8 (.take 9 (.take 10 (.take 11 (.take 12 (.take 13 (.take 14 (.two 3 (.take 15 (.one 16 (.one 17 .done))) 16 (.one 3 (.take 15 (.one 17 .done)))))))))))))))))) (by kernel_rfl) (by kernel_rfl) (by simp [Scr.depth]) (by kernel_rfl) ?_
          clear H
          intro _ H hb
          clear hb
          iterate 2
           apply s_val
           case ho | hw => rfl
           case hv => intro w hw; go_simp; first | done | rfl
           simp only [Act.put, aP]
          apply s_val
          case ho | hw => rfl
          case hv => intro w hw; have m1 := HC.out w hw.below 0 (by omega); simp only [Nat.add_zero] at m1; go_simp; first | done | rfl
          iterate 2
           simp only [Act.put, aP]
           apply s_val
           case ho | hw => rfl
           case hv => intro w hw; go_simp; first | done | rfl
          simp only [Act.put, aP]
          apply s_val
          case ho | hw => rfl
          case hv => intro w hw; have m1 := HC.out w hw.below 1 (by omega); go_simp; first | done | rfl
          simp only [Act.put, aP]
          apply s_val
          case ho | hw => rfl
          case hv => intro w hw; go_simp; first | done | rfl
          simp only [Act.put, aP]
          refine Mm.sld0 naI (fun w h => h) rfl rfl (.tmp 50) 0 _ rfl rfl rfl ?_
          simp only [Act.put, aP]
          apply s_val
          case ho | hw => rfl
          case hv => intro w hw; go_simp; first | done | rfl
          simp only [Act.put, aP]
          refine Mm.sld0 naI (fun w h => h) rfl rfl (.tmp 52) 1 _ rfl rfl rfl ?_
          simp only [Act.put, aP]
          apply s_val
          case ho | hw => rfl
          case hv => intro w hw; go_simp; first | done | rfl
          simp only [Act.put, aP]
          refine Mm.sld0 naI (fun w h => h) rfl rfl (.tmp 54) 2 _ rfl rfl rfl ?_
          simp only [Act.put, aP]
          apply s_val
          case ho | hw => rfl
          case hv => intro w hw; go_simp; first | done | rfl
          simp only [Act.put, aP]
          refine Mm.sld0 naI (fun w h => h) rfl rfl (.tmp 56) 3 _ rfl rfl rfl ?_
          simp only [Act.put, aP]
          refine ⟨?_, ?_⟩
          · refine Mm.o_callH (v := .int .u8 (K : Int)) H (fun W h => h) rfl rfl 127 (#[.string a]) (by go_simp; first | done | rfl) ((ck.out _ (HTB.out.below H.out.below (Nat.le_refl _))).mono fun e w2 h => ⟨h.1, h.2 ▸ Below.refl _ _⟩) ?_
            clear H
            intro _ H hb
            clear hb
            simp only [Act.put, aP]
            apply s_val
            case ho | hw => rfl
            case hv => intro w hw; go_simp; first | done | rfl
            simp only [Act.put, aP]
            refine Mm.o_newH rtD H (fun W h => h) rfl rfl rfl ?_
            clear H
            intro b8 _ H nw
            have hb := nw.below
            clear hb nw
            simp only [Act.put, aP]
            refine Mm.oput0 rtD H [.int .u8 (K : Int), .string b, .int .i64 (y0 : Int), .int .i64 (y1 : Int), .int .i64 (y2 : Int), .int .i64 (y3 : Int), .string ⟨#[]⟩] (fun W h => h.tail) rfl rfl (.tmp 8) (.tmp 58) rfl rfl rfl rfl (by simp [Value.oneCell']) rfl ?_
            intro _ H2 st
            clear st H
            have H := H2
            clear H2
            simp only [Act.put, aP]
            refine NoPanic.normal ?_
            clear ck
            replace H := hidp (Sl.join H0.out H.out)
            have HIW := hidp (HI.out.below H.out.below (Nat.le_refl _)); have HTW := hidp (HT0.out.below H.out.below (Nat.le_refl _))
            have tk0 := hT
            go_wp2_with (first | (clear tk0; (refine Mm.get0 rtD H rfl (.tmp 8) rfl rfl rfl ?_); (try simp only [Act.put, aQ]); have tk1 := hT) | (clear tk1; (go_at_call 53; refine (cc.out _ (HI.out.below H.out.below (Nat.le_refl _)) (HT0.out.below H.out.below (Nat.le_refl _))).mono ?_; rintro e _ ⟨rfl, hb⟩; replace H := hidp (H.out.call hb); clear cc; clear hb); (try simp only [Act.put, aQ]); have tk2 := hT) | (clear tk2; (refine Mm.get0 rtD H rfl (.tmp 8) rfl rfl rfl ?_); (try simp only [Act.put, aQ]); have tk3 := hT) | (clear tk3; (refine Mm.put2 rtD H rfl (.tmp 2) (.tmp 63) [.int .u8 (K : Int), .string b, .int .i64 (y0 : Int), .int .i64 (y1 : Int), .int .i64 (y2 : Int), .int .i64 (y3 : Int), .string ⟨#[]⟩] rfl rfl rfl rfl (by simp [Value.oneCell']) rfl ?_; intro _ H2 st; clear st H; have H := H2; clear H2); (try simp only [Act.put, aQ]); have tk4 := hT))
            try clear tk4
            refine bodyPost_ret (Mm.ret_rowv rtD Tryz.results75 _ b2 _ _ rfl rfl H.out.at2 rfl) rfl ⟨by rw [HV.out, HE.out]; rfl, H.out.below⟩
          · refine Mm.o_newH rtD H (fun W h => h) rfl rfl rfl ?_
            clear H
            intro b8 _ H nw
            have hb := nw.below
            clear hb nw
            simp only [Act.put, aP]
            refine Mm.o_callH (v := .int .u8 (K : Int)) H (fun W h => h.tail) rfl rfl 127 (#[.string a]) (by go_simp; first | done | rfl) ((ck.out _ (HTB.out.below H.out.below (Nat.le_refl _))).mono fun e w2 h => ⟨h.1, h.2 ▸ Below.refl _ _⟩) ?_
            clear H
            intro _ H hb
            clear hb
            simp only [Act.put, aP]
            apply s_val
            case ho | hw => rfl
            case hv => intro w hw; go_simp; first | done | rfl
            simp only [Act.put, aP]
            refine Mm.oput0 rtD H [.int .u8 (K : Int), .string b, .int .i64 (y0 : Int), .int .i64 (y1 : Int), .int .i64 (y2 : Int), .int .i64 (y3 : Int), .string ⟨#[]⟩] (fun W h => h.tail) rfl rfl (.tmp 8) (.tmp 58) rfl rfl rfl rfl (by simp [Value.oneCell']) rfl ?_
            intro _ H2 st
            clear st H
            have H := H2
            clear H2
            simp only [Act.put, aP]
            refine NoPanic.normal ?_
            clear ck
            replace H := hidp (Sl.join H0.out H.out)
            have HIW := hidp (HI.out.below H.out.below (Nat.le_refl _)); have HTW := hidp (HT0.out.below H.out.below (Nat.le_refl _))
            have tk0 := hT
            go_wp2_with (first | (clear tk0; (refine Mm.get0 rtD H rfl (.tmp 8) rfl rfl rfl ?_); (try simp only [Act.put, aQ]); have tk1 := hT) | (clear tk1; (go_at_call 53; refine (cc.out _ (HI.out.below H.out.below (Nat.le_refl _)) (HT0.out.below H.out.below (Nat.le_refl _))).mono ?_; rintro e _ ⟨rfl, hb⟩; replace H := hidp (H.out.call hb); clear cc; clear hb); (try simp only [Act.put, aQ]); have tk2 := hT) | (clear tk2; (refine Mm.get0 rtD H rfl (.tmp 8) rfl rfl rfl ?_); (try simp only [Act.put, aQ]); have tk3 := hT) | (clear tk3; (refine Mm.put2 rtD H rfl (.tmp 2) (.tmp 63) [.int .u8 (K : Int), .string b, .int .i64 (y0 : Int), .int .i64 (y1 : Int), .int .i64 (y2 : Int), .int .i64 (y3 : Int), .string ⟨#[]⟩] rfl rfl rfl rfl (by simp [Value.oneCell']) rfl ?_; intro _ H2 st; clear st H; have H := H2; clear H2); (try simp only [Act.put, aQ]); have tk4 := hT))
            try clear tk4
            refine bodyPost_ret (Mm.ret_rowv rtD Tryz.results75 _ b2 _ _ rfl rfl H.out.at2 rfl) rfl ⟨by rw [HV.out, HE.out]; rfl, H.out.below⟩
   · have HV := hidp (show rdV t = zD from by unfold rdV; rw [rd_len h6]; rfl)
     have HE := hidp (show rdE t = 6 from by unfold rdE; rw [rd_len h6]; rfl)
     rw [h0] at ca
     obtain ⟨ss, hss⟩ : ∃ ss, (al t).1 = ss := ⟨_, rfl⟩
     rw [hss] at ca h6
     obtain ⟨n, hn⟩ : ∃ n, ss.length = n := ⟨_, rfl⟩
     have e1 : ((n : Int) != 6) = true := by simp; omega
     have g1 : ¬ n = 6 := by omega
     have g2 : (n != 6) = true := by simpa using g1
     clear hss h0
     have cb := hidp (fun W => (ca.out W).mono fun e w' ⟨v, h1, h2, h3⟩ => (⟨v, h1, ⟨Sl.strs_form h2, h3⟩⟩ : ∃ v, e = Ending.returned (.tuple #[v, .int .i64 ((0 : Nat) : Int)]) ∧ (∃ a c, v = Value.slice a ss.length c) ∧ Below W.heap.size W w'))
     rw [hn] at cb
     clear ca hn h6
     go_enter Tryz.func75, Tryz.ntmps75
     have tk0 := hT
     go_wp2_with (first | (clear tk0; (refine Mm.new rtD H (some 2) rfl rfl rfl ?_; clear H; intro b2 _ H nw; clear nw); (try simp only [Act.put, aQ]); have tk1 := hT) | (clear tk1; (go_at_call 74; refine (cb.out _).mono ?_; rintro e _ ⟨v, rfl, ⟨av, cv, rfl⟩, hb⟩; replace H := hidp (H.out.call hb); clear hb cb); (try simp only [Act.put, aQ]); have tk2 := hT) | (clear tk2; (refine Rt.wpL_build rfl 26 _ rfl zDr (by kernel_rfl) ?_); (try simp only [Act.put, aQ]); have tk3 := hT) | (clear tk3; (refine Mm.put0 rtD H rfl (.tmp 2) (.tmp 21) zDr rfl rfl rfl rfl (by simp [zDr, Value.oneCell']) rfl ?_; intro _ H2 st; clear st H; have H := H2; clear H2); (try simp only [Act.put, aQ]); have tk4 := hT))
     try clear tk4
     refine bodyPost_ret (Mm.ret_rowv rtD Tryz.results75 _ b2 _ _ rfl rfl H.out.at0 rfl) rfl ⟨by rw [HV.out, HE.out]; rfl, H.out.below⟩
 · have HV := hidp (show rdV t = zD from by unfold rdV; rw [rd_bad h0]; rfl)
   have HE := hidp (show rdE t = 6 from by unfold rdE; rw [rd_bad h0]; rfl)
   obtain ⟨E, hE⟩ : ∃ E, (al t).2 = E := ⟨_, rfl⟩
   rw [hE] at ca h0
   have e1 : ((E : Int) != 0) = true := by simp; omega
   have g1 : ¬ (E : Int) = 0 := by omega
   have g2 : ¬ E = 0 := h0
   clear hE h0
   go_enter Tryz.func75, Tryz.ntmps75
   have tk0 := hT
   go_wp2_with (first | (clear tk0; (refine Mm.new rtD H (some 2) rfl rfl rfl ?_; clear H; intro b2 _ H nw; clear nw); (try simp only [Act.put, aQ]); have tk1 := hT) | (clear tk1; (go_at_call 74; refine (ca.out _).mono ?_; rintro e _ ⟨v, rfl, hst, hb⟩; replace H := hidp (H.out.call hb); obtain ⟨av, cv, rfl⟩ := Sl.strs_form hst; clear hst hb ca); (try simp only [Act.put, aQ]); have tk2 := hT) | (clear tk2; (refine Rt.wpL_build rfl 26 _ rfl zDr (by kernel_rfl) ?_); (try simp only [Act.put, aQ]); have tk3 := hT) | (clear tk3; (refine Mm.put0 rtD H rfl (.tmp 2) (.tmp 21) zDr rfl rfl rfl rfl (by simp [zDr, Value.oneCell']) rfl ?_; intro _ H2 st; clear st H; have H := H2; clear H2); (try simp only [Act.put, aQ]); have tk4 := hT))
   try clear tk4
   refine bodyPost_ret (Mm.ret_rowv rtD Tryz.results75 _ b2 _ _ rfl rfl H.out.at0 rfl) rfl ⟨by rw [HV.out, HE.out]; rfl, H.out.below⟩
end Go.Proofs.YtokakgjcegmabaaGreatDoor.Ho
