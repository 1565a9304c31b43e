/-
  Joined: HoU.
-/
import Derived.Test.YtfenjincbhkodaaGreatDoorVS
namespace Go.Proofs.YtfenjincbhkodaaGreatDoor.Ho
set_option maxRecDepth 100000
set_option linter.unusedVariables false
set_option linter.unusedSimpArgs false
open Go.RowKit
open List (getElem_toArray getElem_cons_zero getElem_cons_succ setIfInBounds_toArray set_cons_zero set_cons_succ)

theorem regionS {P : Program} {ops : Array Oper} {a : Act} {w w0 : World} {N : Nat} {L : List Mm.Bx} {Q : Exit → Act → World → Prop} {id : Nat} (L' : List Mm.Bx) (hsub : ∀ W, Mm.M N w0 W L → Mm.M N w0 W L') (H : Hid (Mm.M N w0 w L)) (s : Scr) (hm : P.follows .mixedOrders = true) (hs : Region.noSelect ops = true) (hd : s.depth ≤ ops.size) (hc : s.chk .any ops (Array.replicate ops.size false) = true)
    (h : ∀ U, Hid (Mm.M N w0 U L) → Below w.heap.size w U → wpScr P ops (NoPanic Q) s (fun W => Mm.M N w0 W L') a U) : (Code.region id ops true).wp P Q a w :=
  wp_region_noPanic (wp_region_scr (S := fun W => Mm.M N w0 W L') s hm hs (fun _ _ _ _ _ h => h) hd hc (hsub _ H.out.drew) (h _ (hidp H.out.drew) (Below.refl _ _).drew))
theorem strs_cells {w : World} {B : Nat} {v : Value} {ss : List ByteArray} (h : OwnV w B 9 v (strV ss)) (n : Nat) (hn : ss.length = n) (hp : 0 < n) : ∃ g c, v = .slice (some ⟨g, 0, none⟩) n c ∧ n ≤ c ∧ ∀ W, Below w.heap.size w W → ∀ i, i < n → W.cell? ⟨g, i, none⟩ = some (.string (Sl.sAt ss i)) := by
  obtain ⟨g, c, e, hc, -, hg, hcs⟩ := own_cap h (by rw [strV_length]; omega)
  rw [strV_length, hn] at e hc
  refine ⟨g, c, e, hc, fun W hW i hi => ?_⟩
  rw [hW.cell (p := ⟨g, i, none⟩) hg, hcs i (by rw [strV_length]; omega), Sl.sAt_get (by omega)]
  simp [strV]
def yN (ss : List ByteArray) (j : Nat) : Nat := inV (Sl.sAt ss (2 + j)) 4096
def yE (ss : List ByteArray) (j : Nat) : Int := inE (Sl.sAt ss (2 + j)) 4096
theorem prm_bad4 {a b c d : Nat} {ss : List ByteArray} {j : Nat} (hj : j < 4) (h : yE ss j ≠ 0) (hn : numOf (Sl.sAt ss (2 + j)) = some ([a, b, c, d].getD j 0)) : prm a b c d = false := by
  have := in_not h _ hn
  have h2 : okAt a b c d j = false := by
    unfold okAt mst
    rw [decide_eq_false_iff_not, mN_mst j hj]
    have hm := mN_le j
    rcases (by omega : j = 0 ∨ j = 1 ∨ j = 2 ∨ j = 3) with rfl | rfl | rfl | rfl <;> simp at this ⊢ <;> omega
  exact prm_not hj h2
theorem rd_num4 {t : ByteArray} {a b c d e f : ByteArray} (hL : (al t).1 = [a, b, c, d, e, f]) {j : Nat} (hj : j < 4) (h : yE [a, b, c, d, e, f] j ≠ 0) : rd t = none := by
  unfold rd
  split
  · rw [hL]
    simp only [rdL]
    split
    · rename_i w x y z e1 e2 e3 e4
      rw [if_neg]
      rw [dOk_prm (prm_bad4 hj h (by rcases (by omega : j = 0 ∨ j = 1 ∨ j = 2 ∨ j = 3) with rfl | rfl | rfl | rfl <;> assumption))]
      exact Bool.false_ne_true
    · rfl
  · rfl
theorem rd_all4 {t : ByteArray} {a b c d e f : ByteArray} (h0 : (al t).2 = 0) (hL : (al t).1 = [a, b, c, d, e, f]) (h : ∀ j, j < 4 → yE [a, b, c, d, e, f] j = 0) :
    rd t = if dOk ⟨kOf a, b, yN [a, b, c, d, e, f] 0, yN [a, b, c, d, e, f] 1, yN [a, b, c, d, e, f] 2, yN [a, b, c, d, e, f] 3, ⟨#[]⟩⟩ = true then some ⟨kOf a, b, yN [a, b, c, d, e, f] 0, yN [a, b, c, d, e, f] 1, yN [a, b, c, d, e, f] 2, yN [a, b, c, d, e, f] 3, ⟨#[]⟩⟩ else none := by
  have e1 : numOf c = some (yN [a, b, c, d, e, f] 0) := (in_zero (h 0 (by omega))).1
  have e2 : numOf d = some (yN [a, b, c, d, e, f] 1) := (in_zero (h 1 (by omega))).1
  have e3 : numOf e = some (yN [a, b, c, d, e, f] 2) := (in_zero (h 2 (by omega))).1
  have e4 : numOf f = some (yN [a, b, c, d, e, f] 3) := (in_zero (h 3 (by omega))).1
  unfold rd
  rw [if_pos h0, hL]
  simp only [rdL, e1, e2, e3, e4]
theorem dOk_zero {r g : ByteArray} {e i h n : Int} : dOk ⟨0, r, e, i, h, n, g⟩ = false := by unfold dOk; simp
/-- What the number's reading says of the error. -/
theorem y_gn {s : ByteArray} {n j c : Nat} (h : gn s.data.toList = (n, j, c)) : (inE s 4096 = 0 ↔ c = 0 ∧ j = s.size ∧ n ≤ 4096) ∧ (inE s 4096 = 0 → inV s 4096 = n) := by
  have hb := gn_bd s.data.toList
  have hz := size_toList s
  rw [h] at hb
  simp only at hb
  have hn : numOf s = if c = 0 ∧ j = s.size then some n else none := by unfold numOf; rw [h]
  have key : inE s 4096 = 0 → c = 0 ∧ j = s.size ∧ n ≤ 4096 ∧ inV s 4096 = n := by
    intro h0
    obtain ⟨h1, h2⟩ := in_zero h0
    rw [hn] at h1
    split at h1
    · rename_i hh
      simp only [Option.some.injEq] at h1
      exact ⟨hh.1, hh.2, by omega, h1.symm⟩
    · cases h1
  refine ⟨⟨fun h0 => ⟨(key h0).1, (key h0).2.1, (key h0).2.2.1⟩, fun ⟨h1, h2, h3⟩ => ?_⟩, fun h0 => (key h0).2.2.2⟩
  cases hq : decide (inE s 4096 = 0) with
  | true => exact of_decide_eq_true hq
  | false =>
    have := in_not (of_decide_eq_false hq) n (by rw [hn, if_pos ⟨h1, h2⟩])
    omega

/-- The first i numbers of a list's texts. -/
def yL (ss : List ByteArray) (i : Nat) : List Value := (List.range i).map fun j => .int .i64 (yN ss j : Int)
theorem yL_snoc (ss : List ByteArray) (i : Nat) : yL ss (i + 1) = yL ss i ++ [.int .i64 (yN ss i : Int)] := by unfold yL; rw [List.range_succ, List.map_append]; rfl
theorem yL_four (ss : List ByteArray) : yL ss 4 = [.int .i64 (yN ss 0 : Int), .int .i64 (yN ss 1 : Int), .int .i64 (yN ss 2 : Int), .int .i64 (yN ss 3 : Int)] := rfl
set_option maxHeartbeats 64000000 in
theorem rread_any (w : World) (t : ByteArray) (ht : t.size ≤ 281474976710656) :
    Calls Tryz.prog 66 #[.string t] w fun e w' => ∃ D : De, e = .returned (.tuple #[.agg D.row.toArray, .bool (rd t).isSome]) ∧ (∀ d, rd t = some d → D = d) ∧ Below w.heap.size w w' := by
  have ca := hidp (fun W => refAll2_any W t ht)
  have H := hidp (Mm.M.nil w)
  by_cases h0 : (al t).2 = 0
  · by_cases h6 : (al t).1.length = 6
    · obtain ⟨a, b, c, d, e5, f, hL⟩ : ∃ a b c d e f, (al t).1 = [a, b, c, d, e, f] := by
        match hL : (al t).1, h6 with
        | [a, b, c, d, e, f], _ => exact ⟨a, b, c, d, e, f, rfl⟩
      have HSS := hidp (al_sz t ht)
      have HNUM := hidp (fun j hj h => rd_num4 (t := t) hL (j := j) hj h)
      have HALL := hidp (rd_all4 h0 hL)
      rw [hL] at HSS
      rw [h0, hL] at ca
      clear hL h6 h0
      have en : (((6 : Nat) : Int) != 6) = false := rfl
      go_enter Tryz.func66, Tryz.ntmps66
      have tk0 := hidp trivial
      go_wp2_with (first | (clear tk0; (refine Mm.new rtD H (some 2) rfl rfl rfl ?_; clear H; intro b2 _ H nw; have hb := nw.below; clear hb nw); (try simp only [Act.put, setIfInBounds_toArray, set_cons_zero, set_cons_succ]); have tk1 := hidp trivial) | (clear tk1; (go_at_call 29; refine (ca.out _).mono ?_; rintro e w1 ⟨v, rfl, hst, hb⟩; have H0 := hidp (H.out.call hb); obtain ⟨g, cv, rfl, hcv, hcs⟩ := strs_cells hst 6 rfl (by decide); have HC := hidp hcs; clear H hst hb ca hcs; have H := hidp (Mm.M.nil w1)); (try simp only [Act.put, setIfInBounds_toArray, set_cons_zero, set_cons_succ]); have tk2 := hidp trivial) | (clear tk2; (refine wpL_from1 Sl.tyS (by kernel_rfl) (by kernel_rfl) rfl (.tmp 27) (.const (.int .i64 2)) rfl g 0 6 cv 2 rfl rfl (by omega) (by omega) ?_); (try simp only [Act.put, setIfInBounds_toArray, set_cons_zero, set_cons_succ]); have tk3 := hidp trivial))
      try clear tk3
      have HB0 := hidp H.out.below
      go_loopw [6, 30] (fun t6 t30 wr => ∃ (i : Nat) (v : Value), t30 = .int .i64 (i : Int) ∧ t6 = v ∧ i ≤ 4 ∧ (∀ j, j < i → yE [a, b, c, d, e5, f] j = 0) ∧ OwnV wr w1.heap.size 3 v (yL [a, b, c, d, e5, f] i) ∧ Below w1.heap.size w1 wr) (fun _ t30 _ => 4 - (intOf t30).toNat)
      case atStart => exact ⟨0, _, rfl, rfl, by omega, fun j h => by omega, OwnV.nil _ _ _, HB0.out⟩
      case round =>
        clear H HB0
        obtain ⟨i, v, rfl, rfl, hi, hal, hown, hM⟩ := hrel
        have HAL := hidp hal; have HO := hidp hown; have H := hidp (show Mm.M w1.heap.size w1 wr [] from ⟨hM, hM.size, fun x h => (by cases h), .nil, fun x h => (by cases h)⟩)
        clear hal hown hM
        by_cases hlt : i < 4
        · have e1 : decide ((i : Int) < 4) = true := by simp; omega
          have e1n : decide (i < 4) = true := decide_eq_true hlt
          obtain ⟨X, hX⟩ : ∃ X, Sl.sAt [a, b, c, d, e5, f] (2 + i) = X := ⟨_, rfl⟩
          have hsz := sAt_sz HSS.out (2 + i)
          rw [hX] at hsz
          have HX := hidp hX
          have cg := hidp (fun W => refGetNum_any W X (by omega))
          have hbd := gn_bd X.data.toList
          obtain ⟨⟨n, j, c0⟩, hr⟩ : ∃ q, gn X.data.toList = q := ⟨_, rfl⟩
          obtain ⟨hY, hYV⟩ := y_gn hr
          have hyE : yE [a, b, c, d, e5, f] i = inE X 4096 := by unfold yE; rw [hX]
          have hyN : yN [a, b, c, d, e5, f] i = inV X 4096 := by unfold yN; rw [hX]
          rw [hr] at cg hbd
          simp only [tup3] at cg hbd
          have HNI := hidp (fun h => HNUM.out i hlt h)
          rw [hyE] at HNI
          clear hr hX
          by_cases q1 : c0 = 0
          · subst q1
            by_cases q2 : j = X.size
            · have d2 : ((j : Int) != (X.size : Int)) = false := by rw [q2]; simp
              have d2n : (j != X.size) = false := by rw [q2]; simp
              by_cases q3 : n ≤ 4096
              · have d3 : decide ((n : Int) > 4096) = false := by simp; omega
                have d3n : ¬ 4096 < (n : Int) := by omega
                have HY0 := hidp (show yE [a, b, c, d, e5, f] i = 0 from by rw [hyE]; exact hY.2 ⟨rfl, q2, q3⟩)
                have HYN := hidp (show yN [a, b, c, d, e5, f] i = n from by rw [hyN]; exact hYV (hY.2 ⟨rfl, q2, q3⟩))
                have w2 : IntKind.i64.wrap (n : Int) = (n : Int) := by unfold IntKind.wrap; simp [IntKind.bits, IntKind.signed]; omega
                clear hY hYV hyE hyN q2 q3 hbd HNI
                have tk0 := hidp trivial
                go_wp2_with (first | (clear tk0; (refine Sl.wpL_idx1 Sl.tyS (by kernel_rfl) rfl (.tmp 28) (.tmp 30) rfl g (0 + 2) (6 - 2) (cv - 2) i rfl rfl (by omega) ?_); (try simp only [Act.put, setIfInBounds_toArray, set_cons_zero, set_cons_succ]); have tk1 := hidp trivial) | (clear tk1; (refine Mm.ldc naS rfl (.tmp 32) _ (.string X) rfl rfl (by rw [show 0 + 2 + i = 2 + i from by omega]; exact (HC.out _ H.out.below (2 + i) (by omega)).trans (by rw [HX.out])) ?_); (try simp only [Act.put, setIfInBounds_toArray, set_cons_zero, set_cons_succ]); have tk2 := hidp trivial) | (clear tk2; (go_at_call 43; refine (cg.out _).mono ?_; rintro e _ ⟨rfl, hb⟩; replace H := hidp (H.out.call hb); (try replace HO := hidp (Sl.own_to HO.out hb)); clear hb cg); (try simp only [Act.put, setIfInBounds_toArray, set_cons_zero, set_cons_succ]); have tk3 := hidp trivial) | (clear tk3; (refine Sl.wpL_bsI1 H rfl (.tmp 55) (n : Int) rfl rfl ?_; clear H; intro b8 _ H nw; have hb := nw.below; replace HO := hidp (Sl.own_to HO.out hb); clear hb nw); (try simp only [Act.put, setIfInBounds_toArray, set_cons_zero, set_cons_succ]); have tk4 := hidp trivial) | (clear tk4; (refine wpL_appGI rfl (.tmp 53) (.tmp 56) rfl w1.heap.size _ _ b8 _ _ rfl rfl HO.out H.out.at0 rfl (by simp [yL]; omega) H.out.le ?_; intro v2 W5 ho2 hg2 hb2; have HB := hidp (H.out.below.trans hb2); have HO2 := hidp ho2; clear ho2 hb2 hg2); (try simp only [Act.put, setIfInBounds_toArray, set_cons_zero, set_cons_succ]); have tk5 := hidp trivial))
                try clear tk5
                refine ⟨⟨i + 1, v2, by go_num, rfl, by omega, fun j g => (by
                  by_cases hj : j = i
                  · subst hj; exact HY0.out
                  · exact HAL.out j (by omega)), (by rw [yL_snoc, HYN.out]; exact HO2.out), HB.out⟩, by simp [intOf]; omega⟩
              · have d3 : decide ((n : Int) > 4096) = true := by simp; omega
                have d3n : 4096 < (n : Int) := by omega
                have HN0 := hidp (show rd t = none from HNI.out fun h => q3 (hY.1 h).2.2)
                clear hY hYV hyE hyN q2 q3 hbd HNI
                have tk0 := hidp trivial
                go_wp2_with (first | (clear tk0; (refine Sl.wpL_idx1 Sl.tyS (by kernel_rfl) rfl (.tmp 28) (.tmp 30) rfl g (0 + 2) (6 - 2) (cv - 2) i rfl rfl (by omega) ?_); (try simp only [Act.put, setIfInBounds_toArray, set_cons_zero, set_cons_succ]); have tk1 := hidp trivial) | (clear tk1; (refine Mm.ldc naS rfl (.tmp 32) _ (.string X) rfl rfl (by rw [show 0 + 2 + i = 2 + i from by omega]; exact (HC.out _ H.out.below (2 + i) (by omega)).trans (by rw [HX.out])) ?_); (try simp only [Act.put, setIfInBounds_toArray, set_cons_zero, set_cons_succ]); have tk2 := hidp trivial) | (clear tk2; (go_at_call 43; refine (cg.out _).mono ?_; rintro e _ ⟨rfl, hb⟩; replace H := hidp (H.out.call hb); (try replace HO := hidp (Sl.own_to HO.out hb)); clear hb cg; replace H := hidp (Sl.join H0.out H.out)); (try simp only [Act.put, setIfInBounds_toArray, set_cons_zero, set_cons_succ]); have tk3 := hidp trivial) | (clear tk3; (refine Rt.wpL_build rfl 91 _ rfl zDr (by kernel_rfl) ?_); (try simp only [Act.put, setIfInBounds_toArray, set_cons_zero, set_cons_succ]); have tk4 := hidp trivial) | (clear tk4; (refine Mm.put0 rtD H rfl (.tmp 2) (.tmp 52) zDr rfl rfl rfl rfl (by simp [zDr, Value.oneCell']) rfl ?_; intro _ H2 st; clear st H; have H := H2; clear H2); (try simp only [Act.put, setIfInBounds_toArray, set_cons_zero, set_cons_succ]); have tk5 := hidp trivial))
                try clear tk5
                refine bodyPost_ret (Mm.ret_rowv rtD Tryz.results66 _ b2 _ _ rfl rfl H.out.at0 rfl) rfl ⟨zD, by rw [HN0.out]; rfl, fun d h => (by rw [HN0.out] at h; cases h), H.out.below⟩
            · have d2 : ((j : Int) != (X.size : Int)) = true := by simp; omega
              have d2n : (j != X.size) = true := by simpa using q2
              have d2p : ¬ j = X.size := q2
              have HN0 := hidp (show rd t = none from HNI.out fun h => q2 (hY.1 h).2.1)
              clear hY hYV hyE hyN q2 hbd HNI
              have tk0 := hidp trivial
              go_wp2_with (first | (clear tk0; (refine Sl.wpL_idx1 Sl.tyS (by kernel_rfl) rfl (.tmp 28) (.tmp 30) rfl g (0 + 2) (6 - 2) (cv - 2) i rfl rfl (by omega) ?_); (try simp only [Act.put, setIfInBounds_toArray, set_cons_zero, set_cons_succ]); have tk1 := hidp trivial) | (clear tk1; (refine Mm.ldc naS rfl (.tmp 32) _ (.string X) rfl rfl (by rw [show 0 + 2 + i = 2 + i from by omega]; exact (HC.out _ H.out.below (2 + i) (by omega)).trans (by rw [HX.out])) ?_); (try simp only [Act.put, setIfInBounds_toArray, set_cons_zero, set_cons_succ]); have tk2 := hidp trivial) | (clear tk2; (go_at_call 43; refine (cg.out _).mono ?_; rintro e _ ⟨rfl, hb⟩; replace H := hidp (H.out.call hb); (try replace HO := hidp (Sl.own_to HO.out hb)); clear hb cg; replace H := hidp (Sl.join H0.out H.out)); (try simp only [Act.put, setIfInBounds_toArray, set_cons_zero, set_cons_succ]); have tk3 := hidp trivial) | (clear tk3; (refine Rt.wpL_build rfl 91 _ rfl zDr (by kernel_rfl) ?_); (try simp only [Act.put, setIfInBounds_toArray, set_cons_zero, set_cons_succ]); have tk4 := hidp trivial) | (clear tk4; (refine Mm.put0 rtD H rfl (.tmp 2) (.tmp 52) zDr rfl rfl rfl rfl (by simp [zDr, Value.oneCell']) rfl ?_; intro _ H2 st; clear st H; have H := H2; clear H2); (try simp only [Act.put, setIfInBounds_toArray, set_cons_zero, set_cons_succ]); have tk5 := hidp trivial))
              try clear tk5
              refine bodyPost_ret (Mm.ret_rowv rtD Tryz.results66 _ b2 _ _ rfl rfl H.out.at0 rfl) rfl ⟨zD, by rw [HN0.out]; rfl, fun d h => (by rw [HN0.out] at h; cases h), H.out.below⟩
          · have d1 : ((c0 : Int) != 0) = true := by simp; omega
            have d1n : ¬ c0 = 0 := q1
            have HN0 := hidp (show rd t = none from HNI.out fun h => q1 (hY.1 h).1)
            clear hY hYV hyE hyN q1 hbd HNI
            have tk0 := hidp trivial
            go_wp2_with (first | (clear tk0; (refine Sl.wpL_idx1 Sl.tyS (by kernel_rfl) rfl (.tmp 28) (.tmp 30) rfl g (0 + 2) (6 - 2) (cv - 2) i rfl rfl (by omega) ?_); (try simp only [Act.put, setIfInBounds_toArray, set_cons_zero, set_cons_succ]); have tk1 := hidp trivial) | (clear tk1; (refine Mm.ldc naS rfl (.tmp 32) _ (.string X) rfl rfl (by rw [show 0 + 2 + i = 2 + i from by omega]; exact (HC.out _ H.out.below (2 + i) (by omega)).trans (by rw [HX.out])) ?_); (try simp only [Act.put, setIfInBounds_toArray, set_cons_zero, set_cons_succ]); have tk2 := hidp trivial) | (clear tk2; (go_at_call 43; refine (cg.out _).mono ?_; rintro e _ ⟨rfl, hb⟩; replace H := hidp (H.out.call hb); (try replace HO := hidp (Sl.own_to HO.out hb)); clear hb cg; replace H := hidp (Sl.join H0.out H.out)); (try simp only [Act.put, setIfInBounds_toArray, set_cons_zero, set_cons_succ]); have tk3 := hidp trivial) | (clear tk3; (refine Rt.wpL_build rfl 91 _ rfl zDr (by kernel_rfl) ?_); (try simp only [Act.put, setIfInBounds_toArray, set_cons_zero, set_cons_succ]); have tk4 := hidp trivial) | (clear tk4; (refine Mm.put0 rtD H rfl (.tmp 2) (.tmp 52) zDr rfl rfl rfl rfl (by simp [zDr, Value.oneCell']) rfl ?_; intro _ H2 st; clear st H; have H := H2; clear H2); (try simp only [Act.put, setIfInBounds_toArray, set_cons_zero, set_cons_succ]); have tk5 := hidp trivial))
            try clear tk5
            refine bodyPost_ret (Mm.ret_rowv rtD Tryz.results66 _ b2 _ _ rfl rfl H.out.at0 rfl) rfl ⟨zD, by rw [HN0.out]; rfl, fun d h => (by rw [HN0.out] at h; cases h), H.out.below⟩
        · have e1 : decide ((i : Int) < 4) = false := by simp; omega
          have e1n : decide (i < 4) = false := decide_eq_false hlt
          have hi4 : i = 4 := by omega
          have HRD := hidp (HALL.out fun j g => HAL.out j (by omega))
          have ho := HO.out
          rw [hi4, yL_four] at ho
          have hb5 := H.out.below
          clear hlt hi4 HAL HO H HNUM HALL e1n
          have H5 := hidp (H0.out.call hb5)
          clear H0
          have HSC := hidp (show ∀ W, Below wr.heap.size wr W → W.cell? ⟨g, 0, none⟩ = some (.string a) ∧ W.cell? ⟨g, 1, none⟩ = some (.string b) from fun W hW => ⟨HC.out W (hb5.trans (hW.mono hb5.size)) 0 (by omega), HC.out W (hb5.trans (hW.mono hb5.size)) 1 (by omega)⟩)
          clear HC
          generalize yN [a, b, c, d, e5, f] 0 = y0 at ho HRD
          generalize yN [a, b, c, d, e5, f] 1 = y1 at ho HRD
          generalize yN [a, b, c, d, e5, f] 2 = y2 at ho HRD
          generalize yN [a, b, c, d, e5, f] 3 = y3 at ho HRD
          obtain ⟨g2, c2, rfl, hc2, -, hg2, hcs2⟩ := own_cap ho (by simp)
          have HNC := hidp (show ∀ W, Below wr.heap.size wr W → W.cell? ⟨g2, 0, none⟩ = some (.int .i64 y0) ∧ W.cell? ⟨g2, 1, none⟩ = some (.int .i64 y1) ∧ W.cell? ⟨g2, 2, none⟩ = some (.int .i64 y2) ∧ W.cell? ⟨g2, 3, none⟩ = some (.int .i64 y3) from fun W hW => ⟨(hW.cell (p := ⟨g2, 0, none⟩) hg2).trans (hcs2 0 (by simp)), (hW.cell (p := ⟨g2, 1, none⟩) hg2).trans (hcs2 1 (by simp)), (hW.cell (p := ⟨g2, 2, none⟩) hg2).trans (hcs2 2 (by simp)), (hW.cell (p := ⟨g2, 3, none⟩) hg2).trans (hcs2 3 (by simp))⟩)
          clear ho hcs2 hc2 hg2 hb5
          rw [show ([.int .i64 (y0 : Int), .int .i64 (y1 : Int), .int .i64 (y2 : Int), .int .i64 (y3 : Int)] : List Value).length = 4 from rfl]
          have hbsz : b.size ≤ 8192 := HSS.out b (by simp)
          go_wp2
          obtain ⟨w5, hw5⟩ : ∃ u, u = wr := ⟨_, rfl⟩
          rw [← hw5] at H5 HSC HNC ⊢
          clear hw5
          go_loopw [12] (fun t12 wr => ∃ k : Nat, t12 = .int .u8 (k : Int) ∧ 1 ≤ k ∧ k ≤ 3 ∧ (∀ j, 1 ≤ j → j < k → dwd j ≠ a) ∧ Below w5.heap.size w5 wr) (fun t12 _ => 3 - (intOf t12).toNat)
          case atStart => exact ⟨1, rfl, by omega, by omega, fun j h1 h2 => by omega, Below.refl _ _⟩
          case round =>
            obtain ⟨k, rfl, h1, h9, hall, hM⟩ := hrel
            have HALL := hidp hall
            have H := hidp (show Mm.M w5.heap.size w5 wr [] from ⟨hM, hM.size, fun x h => (by cases h), .nil, fun x h => (by cases h)⟩)
            clear hall hM
            by_cases hl : k < 3
            · have e0 : decide ((k : Int) < 3) = true := by simp; omega
              have n0 : (k : Int) < 3 := by omega
              have ck := hidp (fun W => rword_any W k (by omega))
              by_cases hwt : dwd k = a
              · rw [hwt] at ck
                rw [kOf_eq h1 (by omega) hwt] at HRD
                clear hwt HALL
                have cc := hidp (show ∀ W, Calls Tryz.prog 84 #[.agg #[.int .u8 (k : Int), .string b, .int .i64 (y0 : Int), .int .i64 (y1 : Int), .int .i64 (y2 : Int), .int .i64 (y3 : Int), .string ⟨#[]⟩]] W (fun e w' => e = .returned (.int .i64 (dE ⟨k, b, y0, y1, y2, y3, ⟨#[]⟩⟩)) ∧ Below W.heap.size W w') from fun W => rdcheck_any W ⟨k, b, y0, y1, y2, y3, ⟨#[]⟩⟩ ⟨by show k < 256; omega, by show b.size ≤ _; omega, show (⟨#[]⟩ : ByteArray).size ≤ _ from by decide⟩)
                cases hok : dOk ⟨k, b, y0, y1, y2, y3, ⟨#[]⟩⟩ with
                | false =>
                  rw [dE_no hok] at cc
                  rw [hok] at HRD
                  clear hok
                  go_wp2
                  refine Mm.region H (.take 0 (.take 2 (.take 3 (.take 4 (.one 1 (.take 5 .done)))))) (by kernel_rfl) (by kernel_rfl) (by simp [Scr.depth]) (by kernel_rfl) ?_
                  clear H
                  intro _ H hb
                  clear hb
                  apply s_val
                  case ho | hw => rfl
                  case hv => intro w hw; go_simp; first | done | rfl
                  simp only [Act.put, getElem_toArray, getElem_cons_zero, getElem_cons_succ, setIfInBounds_toArray, set_cons_zero, set_cons_succ]
                  apply s_val
                  case ho | hw => rfl
                  case hv => intro w hw; go_simp; first | done | rfl
                  simp only [Act.put, getElem_toArray, getElem_cons_zero, getElem_cons_succ, setIfInBounds_toArray, set_cons_zero, set_cons_succ]
                  apply s_val
                  case ho | hw => rfl
                  case hv => intro w hw; go_simp; first | done | rfl
                  simp only [Act.put, getElem_toArray, getElem_cons_zero, getElem_cons_succ, setIfInBounds_toArray, set_cons_zero, set_cons_succ]
                  apply s_val
                  case ho | hw => rfl
                  case hv => intro w hw; obtain ⟨m0, m1⟩ := HSC.out w hw.below; go_simp; first | done | rfl
                  simp only [Act.put, getElem_toArray, getElem_cons_zero, getElem_cons_succ, setIfInBounds_toArray, set_cons_zero, set_cons_succ]
                  refine Mm.o_callH (v := .string a) H (fun W h => h) rfl rfl 83 (#[.int .u8 (k : Int)]) (by go_simp; first | done | rfl) (ck.out _) ?_
                  clear H
                  intro _ H hb
                  clear hb
                  simp only [Act.put, getElem_toArray, getElem_cons_zero, getElem_cons_succ, setIfInBounds_toArray, set_cons_zero, set_cons_succ]
                  apply s_val
                  case ho | hw => rfl
                  case hv => intro w hw; go_simp; first | done | rfl
                  simp only [Act.put, getElem_toArray, getElem_cons_zero, getElem_cons_succ, setIfInBounds_toArray, set_cons_zero, set_cons_succ]
                  refine NoPanic.normal ?_
                  go_wp2
                  refine Mm.region H (.take 0 (.take 1 (.take 2 (.take 3 (.take 4 (.take 5 (.take 6 (.take 7 (.take 8 (.take 9 (.take 10 (.take 11 (.take 12 (.take 13 (.take 14 (.take 15 (.take 16 (.one 17 (.one 18 .done))))))))))))))))))) (by kernel_rfl) (by kernel_rfl) (by simp [Scr.depth]) (by kernel_rfl) ?_
                  clear H
                  intro _ H hb
                  clear hb
                  apply s_val
                  case ho | hw => rfl
                  case hv => intro w hw; go_simp; first | done | rfl
                  simp only [Act.put, getElem_toArray, getElem_cons_zero, getElem_cons_succ, setIfInBounds_toArray, set_cons_zero, set_cons_succ]
                  apply s_val
                  case ho | hw => rfl
                  case hv => intro w hw; go_simp; first | done | rfl
                  simp only [Act.put, getElem_toArray, getElem_cons_zero, getElem_cons_succ, setIfInBounds_toArray, set_cons_zero, set_cons_succ]
                  apply s_val
                  case ho | hw => rfl
                  case hv => intro w hw; go_simp; first | done | rfl
                  simp only [Act.put, getElem_toArray, getElem_cons_zero, getElem_cons_succ, setIfInBounds_toArray, set_cons_zero, set_cons_succ]
                  apply s_val
                  case ho | hw => rfl
                  case hv => intro w hw; obtain ⟨m0, m1⟩ := HSC.out w hw.below; go_simp; first | done | rfl
                  simp only [Act.put, getElem_toArray, getElem_cons_zero, getElem_cons_succ, setIfInBounds_toArray, set_cons_zero, set_cons_succ]
                  apply s_val
                  case ho | hw => rfl
                  case hv => intro w hw; go_simp; first | done | rfl
                  simp only [Act.put, getElem_toArray, getElem_cons_zero, getElem_cons_succ, setIfInBounds_toArray, set_cons_zero, set_cons_succ]
                  apply s_val
                  case ho | hw => rfl
                  case hv => intro w hw; go_simp; first | done | rfl
                  simp only [Act.put, getElem_toArray, getElem_cons_zero, getElem_cons_succ, setIfInBounds_toArray, set_cons_zero, set_cons_succ]
                  apply s_val
                  case ho | hw => rfl
                  case hv => intro w hw; obtain ⟨m0, m1, m2, m3⟩ := HNC.out w hw.below; go_simp; first | done | rfl
                  simp only [Act.put, getElem_toArray, getElem_cons_zero, getElem_cons_succ, setIfInBounds_toArray, set_cons_zero, set_cons_succ]
                  apply s_val
                  case ho | hw => rfl
                  case hv => intro w hw; go_simp; first | done | rfl
                  simp only [Act.put, getElem_toArray, getElem_cons_zero, getElem_cons_succ, setIfInBounds_toArray, set_cons_zero, set_cons_succ]
                  apply s_val
                  case ho | hw => rfl
                  case hv => intro w hw; go_simp; first | done | rfl
                  simp only [Act.put, getElem_toArray, getElem_cons_zero, getElem_cons_succ, setIfInBounds_toArray, set_cons_zero, set_cons_succ]
                  apply s_val
                  case ho | hw => rfl
                  case hv => intro w hw; obtain ⟨m0, m1, m2, m3⟩ := HNC.out w hw.below; go_simp; first | done | rfl
                  simp only [Act.put, getElem_toArray, getElem_cons_zero, getElem_cons_succ, setIfInBounds_toArray, set_cons_zero, set_cons_succ]
                  apply s_val
                  case ho | hw => rfl
                  case hv => intro w hw; go_simp; first | done | rfl
                  simp only [Act.put, getElem_toArray, getElem_cons_zero, getElem_cons_succ, setIfInBounds_toArray, set_cons_zero, set_cons_succ]
                  apply s_val
                  case ho | hw => rfl
                  case hv => intro w hw; go_simp; first | done | rfl
                  simp only [Act.put, getElem_toArray, getElem_cons_zero, getElem_cons_succ, setIfInBounds_toArray, set_cons_zero, set_cons_succ]
                  apply s_val
                  case ho | hw => rfl
                  case hv => intro w hw; obtain ⟨m0, m1, m2, m3⟩ := HNC.out w hw.below; go_simp; first | done | rfl
                  simp only [Act.put, getElem_toArray, getElem_cons_zero, getElem_cons_succ, setIfInBounds_toArray, set_cons_zero, set_cons_succ]
                  apply s_val
                  case ho | hw => rfl
                  case hv => intro w hw; go_simp; first | done | rfl
                  simp only [Act.put, getElem_toArray, getElem_cons_zero, getElem_cons_succ, setIfInBounds_toArray, set_cons_zero, set_cons_succ]
                  apply s_val
                  case ho | hw => rfl
                  case hv => intro w hw; go_simp; first | done | rfl
                  simp only [Act.put, getElem_toArray, getElem_cons_zero, getElem_cons_succ, setIfInBounds_toArray, set_cons_zero, set_cons_succ]
                  apply s_val
                  case ho | hw => rfl
                  case hv => intro w hw; obtain ⟨m0, m1, m2, m3⟩ := HNC.out w hw.below; go_simp; first | done | rfl
                  simp only [Act.put, getElem_toArray, getElem_cons_zero, getElem_cons_succ, setIfInBounds_toArray, set_cons_zero, set_cons_succ]
                  apply s_val
                  case ho | hw => rfl
                  case hv => intro w hw; go_simp; first | done | rfl
                  simp only [Act.put, getElem_toArray, getElem_cons_zero, getElem_cons_succ, setIfInBounds_toArray, set_cons_zero, set_cons_succ]
                  refine Mm.o_newH rtD H (fun W h => h) rfl rfl rfl ?_
                  clear H
                  intro b13 _ H nw
                  have hb := nw.below

                  clear hb nw
                  simp only [Act.put, getElem_toArray, getElem_cons_zero, getElem_cons_succ, setIfInBounds_toArray, set_cons_zero, set_cons_succ]
                  refine Mm.oput0 rtD H [.int .u8 (k : Int), .string b, .int .i64 (y0 : Int), .int .i64 (y1 : Int), .int .i64 (y2 : Int), .int .i64 (y3 : Int), .string ⟨#[]⟩] (fun W h => h.tail) rfl rfl (.tmp 13) (.tmp 85) rfl rfl rfl rfl (by simp [Value.oneCell']) rfl ?_
                  intro _ H2 st
                  clear st H
                  have H := H2
                  clear H2
                  simp only [Act.put, getElem_toArray, getElem_cons_zero, getElem_cons_succ, setIfInBounds_toArray, set_cons_zero, set_cons_succ]
                  refine NoPanic.normal ?_
                  replace H := hidp (Sl.join H5.out H.out)
                  go_wp2
                  refine regionS [⟨b13, 91, [.int .u8 (k : Int), .string b, .int .i64 (y0 : Int), .int .i64 (y1 : Int), .int .i64 (y2 : Int), .int .i64 (y3 : Int), .string ⟨#[]⟩]⟩] (fun W h => h.sub (by simp)) H (.take 0 (.take 1 (.one 2 (.take 3 (.one 4 (.take 5 .done)))))) (by kernel_rfl) (by kernel_rfl) (by simp [Scr.depth]) (by kernel_rfl) ?_
                  clear H
                  intro _ H hb
                  clear hb
                  refine Mm.sget0 rtD (fun w h => h) rfl rfl (.tmp 13) rfl rfl rfl ?_
                  simp only [Act.put, getElem_toArray, getElem_cons_zero, getElem_cons_succ, setIfInBounds_toArray, set_cons_zero, set_cons_succ]
                  refine Mm.sget0 rtD (fun w h => h) rfl rfl (.tmp 13) rfl rfl rfl ?_
                  simp only [Act.put, getElem_toArray, getElem_cons_zero, getElem_cons_succ, setIfInBounds_toArray, set_cons_zero, set_cons_succ]
                  refine Mm.o_callH (v := .int .i64 2) H (fun W h => h.sub (by simp)) rfl rfl 84 (#[.agg #[.int .u8 (k : Int), .string b, .int .i64 (y0 : Int), .int .i64 (y1 : Int), .int .i64 (y2 : Int), .int .i64 (y3 : Int), .string ⟨#[]⟩]]) (by go_simp; first | done | rfl) (cc.out _) ?_
                  clear H
                  intro _ H hb
                  clear hb
                  simp only [Act.put, getElem_toArray, getElem_cons_zero, getElem_cons_succ, setIfInBounds_toArray, set_cons_zero, set_cons_succ]
                  apply s_val
                  case ho | hw => rfl
                  case hv => intro w hw; go_simp; first | done | rfl
                  simp only [Act.put, getElem_toArray, getElem_cons_zero, getElem_cons_succ, setIfInBounds_toArray, set_cons_zero, set_cons_succ]
                  refine Mm.oput1 rtD H [.int .u8 (k : Int), .string b, .int .i64 (y0 : Int), .int .i64 (y1 : Int), .int .i64 (y2 : Int), .int .i64 (y3 : Int), .string ⟨#[]⟩] (fun W h => h.sub (by simp)) rfl rfl (.tmp 2) (.tmp 86) rfl rfl rfl rfl (by simp [Value.oneCell']) rfl ?_
                  intro _ H2 st
                  clear st H
                  have H := H2
                  clear H2
                  simp only [Act.put, getElem_toArray, getElem_cons_zero, getElem_cons_succ, setIfInBounds_toArray, set_cons_zero, set_cons_succ]
                  apply s_val
                  case ho | hw => rfl
                  case hv => intro w hw; go_simp; first | done | rfl
                  simp only [Act.put, getElem_toArray, getElem_cons_zero, getElem_cons_succ, setIfInBounds_toArray, set_cons_zero, set_cons_succ]
                  refine NoPanic.normal ?_
                  go_wp2
                  refine bodyPost_ret (Mm.ret_rowv rtD Tryz.results66 _ b2 _ _ rfl rfl H.out.at1 rfl) rfl ⟨⟨k, b, y0, y1, y2, y3, ⟨#[]⟩⟩, by rw [HRD.out]; rfl, fun d h => (by rw [HRD.out] at h; simp at h), H.out.below⟩
                | true =>
                  rw [dE_yes hok] at cc
                  rw [hok] at HRD
                  clear hok
                  go_wp2
                  refine Mm.region H (.take 0 (.take 2 (.take 3 (.take 4 (.one 1 (.take 5 .done)))))) (by kernel_rfl) (by kernel_rfl) (by simp [Scr.depth]) (by kernel_rfl) ?_
                  clear H
                  intro _ H hb
                  clear hb
                  apply s_val
                  case ho | hw => rfl
                  case hv => intro w hw; go_simp; first | done | rfl
                  simp only [Act.put, getElem_toArray, getElem_cons_zero, getElem_cons_succ, setIfInBounds_toArray, set_cons_zero, set_cons_succ]
                  apply s_val
                  case ho | hw => rfl
                  case hv => intro w hw; go_simp; first | done | rfl
                  simp only [Act.put, getElem_toArray, getElem_cons_zero, getElem_cons_succ, setIfInBounds_toArray, set_cons_zero, set_cons_succ]
                  apply s_val
                  case ho | hw => rfl
                  case hv => intro w hw; go_simp; first | done | rfl
                  simp only [Act.put, getElem_toArray, getElem_cons_zero, getElem_cons_succ, setIfInBounds_toArray, set_cons_zero, set_cons_succ]
                  apply s_val
                  case ho | hw => rfl
                  case hv => intro w hw; obtain ⟨m0, m1⟩ := HSC.out w hw.below; go_simp; first | done | rfl
                  simp only [Act.put, getElem_toArray, getElem_cons_zero, getElem_cons_succ, setIfInBounds_toArray, set_cons_zero, set_cons_succ]
                  refine Mm.o_callH (v := .string a) H (fun W h => h) rfl rfl 83 (#[.int .u8 (k : Int)]) (by go_simp; first | done | rfl) (ck.out _) ?_
                  clear H
                  intro _ H hb
                  clear hb
                  simp only [Act.put, getElem_toArray, getElem_cons_zero, getElem_cons_succ, setIfInBounds_toArray, set_cons_zero, set_cons_succ]
                  apply s_val
                  case ho | hw => rfl
                  case hv => intro w hw; go_simp; first | done | rfl
                  simp only [Act.put, getElem_toArray, getElem_cons_zero, getElem_cons_succ, setIfInBounds_toArray, set_cons_zero, set_cons_succ]
                  refine NoPanic.normal ?_
                  go_wp2
                  refine Mm.region H (.take 0 (.take 1 (.take 2 (.take 3 (.take 4 (.take 5 (.take 6 (.take 7 (.take 8 (.take 9 (.take 10 (.take 11 (.take 12 (.take 13 (.take 14 (.take 15 (.take 16 (.one 17 (.one 18 .done))))))))))))))))))) (by kernel_rfl) (by kernel_rfl) (by simp [Scr.depth]) (by kernel_rfl) ?_
                  clear H
                  intro _ H hb
                  clear hb
                  apply s_val
                  case ho | hw => rfl
                  case hv => intro w hw; go_simp; first | done | rfl
                  simp only [Act.put, getElem_toArray, getElem_cons_zero, getElem_cons_succ, setIfInBounds_toArray, set_cons_zero, set_cons_succ]
                  apply s_val
                  case ho | hw => rfl
                  case hv => intro w hw; go_simp; first | done | rfl
                  simp only [Act.put, getElem_toArray, getElem_cons_zero, getElem_cons_succ, setIfInBounds_toArray, set_cons_zero, set_cons_succ]
                  apply s_val
                  case ho | hw => rfl
                  case hv => intro w hw; go_simp; first | done | rfl
                  simp only [Act.put, getElem_toArray, getElem_cons_zero, getElem_cons_succ, setIfInBounds_toArray, set_cons_zero, set_cons_succ]
                  apply s_val
                  case ho | hw => rfl
                  case hv => intro w hw; obtain ⟨m0, m1⟩ := HSC.out w hw.below; go_simp; first | done | rfl
                  simp only [Act.put, getElem_toArray, getElem_cons_zero, getElem_cons_succ, setIfInBounds_toArray, set_cons_zero, set_cons_succ]
                  apply s_val
                  case ho | hw => rfl
                  case hv => intro w hw; go_simp; first | done | rfl
                  simp only [Act.put, getElem_toArray, getElem_cons_zero, getElem_cons_succ, setIfInBounds_toArray, set_cons_zero, set_cons_succ]
                  apply s_val
                  case ho | hw => rfl
                  case hv => intro w hw; go_simp; first | done | rfl
                  simp only [Act.put, getElem_toArray, getElem_cons_zero, getElem_cons_succ, setIfInBounds_toArray, set_cons_zero, set_cons_succ]
                  apply s_val
                  case ho | hw => rfl
                  case hv => intro w hw; obtain ⟨m0, m1, m2, m3⟩ := HNC.out w hw.below; go_simp; first | done | rfl
                  simp only [Act.put, getElem_toArray, getElem_cons_zero, getElem_cons_succ, setIfInBounds_toArray, set_cons_zero, set_cons_succ]
                  apply s_val
                  case ho | hw => rfl
                  case hv => intro w hw; go_simp; first | done | rfl
                  simp only [Act.put, getElem_toArray, getElem_cons_zero, getElem_cons_succ, setIfInBounds_toArray, set_cons_zero, set_cons_succ]
                  apply s_val
                  case ho | hw => rfl
                  case hv => intro w hw; go_simp; first | done | rfl
                  simp only [Act.put, getElem_toArray, getElem_cons_zero, getElem_cons_succ, setIfInBounds_toArray, set_cons_zero, set_cons_succ]
                  apply s_val
                  case ho | hw => rfl
                  case hv => intro w hw; obtain ⟨m0, m1, m2, m3⟩ := HNC.out w hw.below; go_simp; first | done | rfl
                  simp only [Act.put, getElem_toArray, getElem_cons_zero, getElem_cons_succ, setIfInBounds_toArray, set_cons_zero, set_cons_succ]
                  apply s_val
                  case ho | hw => rfl
                  case hv => intro w hw; go_simp; first | done | rfl
                  simp only [Act.put, getElem_toArray, getElem_cons_zero, getElem_cons_succ, setIfInBounds_toArray, set_cons_zero, set_cons_succ]
                  apply s_val
                  case ho | hw => rfl
                  case hv => intro w hw; go_simp; first | done | rfl
                  simp only [Act.put, getElem_toArray, getElem_cons_zero, getElem_cons_succ, setIfInBounds_toArray, set_cons_zero, set_cons_succ]
                  apply s_val
                  case ho | hw => rfl
                  case hv => intro w hw; obtain ⟨m0, m1, m2, m3⟩ := HNC.out w hw.below; go_simp; first | done | rfl
                  simp only [Act.put, getElem_toArray, getElem_cons_zero, getElem_cons_succ, setIfInBounds_toArray, set_cons_zero, set_cons_succ]
                  apply s_val
                  case ho | hw => rfl
                  case hv => intro w hw; go_simp; first | done | rfl
                  simp only [Act.put, getElem_toArray, getElem_cons_zero, getElem_cons_succ, setIfInBounds_toArray, set_cons_zero, set_cons_succ]
                  apply s_val
                  case ho | hw => rfl
                  case hv => intro w hw; go_simp; first | done | rfl
                  simp only [Act.put, getElem_toArray, getElem_cons_zero, getElem_cons_succ, setIfInBounds_toArray, set_cons_zero, set_cons_succ]
                  apply s_val
                  case ho | hw => rfl
                  case hv => intro w hw; obtain ⟨m0, m1, m2, m3⟩ := HNC.out w hw.below; go_simp; first | done | rfl
                  simp only [Act.put, getElem_toArray, getElem_cons_zero, getElem_cons_succ, setIfInBounds_toArray, set_cons_zero, set_cons_succ]
                  apply s_val
                  case ho | hw => rfl
                  case hv => intro w hw; go_simp; first | done | rfl
                  simp only [Act.put, getElem_toArray, getElem_cons_zero, getElem_cons_succ, setIfInBounds_toArray, set_cons_zero, set_cons_succ]
                  refine Mm.o_newH rtD H (fun W h => h) rfl rfl rfl ?_
                  clear H
                  intro b13 _ H nw
                  have hb := nw.below

                  clear hb nw
                  simp only [Act.put, getElem_toArray, getElem_cons_zero, getElem_cons_succ, setIfInBounds_toArray, set_cons_zero, set_cons_succ]
                  refine Mm.oput0 rtD H [.int .u8 (k : Int), .string b, .int .i64 (y0 : Int), .int .i64 (y1 : Int), .int .i64 (y2 : Int), .int .i64 (y3 : Int), .string ⟨#[]⟩] (fun W h => h.tail) rfl rfl (.tmp 13) (.tmp 85) rfl rfl rfl rfl (by simp [Value.oneCell']) rfl ?_
                  intro _ H2 st
                  clear st H
                  have H := H2
                  clear H2
                  simp only [Act.put, getElem_toArray, getElem_cons_zero, getElem_cons_succ, setIfInBounds_toArray, set_cons_zero, set_cons_succ]
                  refine NoPanic.normal ?_
                  replace H := hidp (Sl.join H5.out H.out)
                  go_wp2
                  refine regionS [⟨b13, 91, [.int .u8 (k : Int), .string b, .int .i64 (y0 : Int), .int .i64 (y1 : Int), .int .i64 (y2 : Int), .int .i64 (y3 : Int), .string ⟨#[]⟩]⟩] (fun W h => h.sub (by simp)) H (.take 0 (.take 1 (.one 2 (.take 3 (.one 4 (.take 5 .done)))))) (by kernel_rfl) (by kernel_rfl) (by simp [Scr.depth]) (by kernel_rfl) ?_
                  clear H
                  intro _ H hb
                  clear hb
                  refine Mm.sget0 rtD (fun w h => h) rfl rfl (.tmp 13) rfl rfl rfl ?_
                  simp only [Act.put, getElem_toArray, getElem_cons_zero, getElem_cons_succ, setIfInBounds_toArray, set_cons_zero, set_cons_succ]
                  refine Mm.sget0 rtD (fun w h => h) rfl rfl (.tmp 13) rfl rfl rfl ?_
                  simp only [Act.put, getElem_toArray, getElem_cons_zero, getElem_cons_succ, setIfInBounds_toArray, set_cons_zero, set_cons_succ]
                  refine Mm.o_callH (v := .int .i64 0) H (fun W h => h.sub (by simp)) rfl rfl 84 (#[.agg #[.int .u8 (k : Int), .string b, .int .i64 (y0 : Int), .int .i64 (y1 : Int), .int .i64 (y2 : Int), .int .i64 (y3 : Int), .string ⟨#[]⟩]]) (by go_simp; first | done | rfl) (cc.out _) ?_
                  clear H
                  intro _ H hb
                  clear hb
                  simp only [Act.put, getElem_toArray, getElem_cons_zero, getElem_cons_succ, setIfInBounds_toArray, set_cons_zero, set_cons_succ]
                  apply s_val
                  case ho | hw => rfl
                  case hv => intro w hw; go_simp; first | done | rfl
                  simp only [Act.put, getElem_toArray, getElem_cons_zero, getElem_cons_succ, setIfInBounds_toArray, set_cons_zero, set_cons_succ]
                  refine Mm.oput1 rtD H [.int .u8 (k : Int), .string b, .int .i64 (y0 : Int), .int .i64 (y1 : Int), .int .i64 (y2 : Int), .int .i64 (y3 : Int), .string ⟨#[]⟩] (fun W h => h.sub (by simp)) rfl rfl (.tmp 2) (.tmp 86) rfl rfl rfl rfl (by simp [Value.oneCell']) rfl ?_
                  intro _ H2 st
                  clear st H
                  have H := H2
                  clear H2
                  simp only [Act.put, getElem_toArray, getElem_cons_zero, getElem_cons_succ, setIfInBounds_toArray, set_cons_zero, set_cons_succ]
                  apply s_val
                  case ho | hw => rfl
                  case hv => intro w hw; go_simp; first | done | rfl
                  simp only [Act.put, getElem_toArray, getElem_cons_zero, getElem_cons_succ, setIfInBounds_toArray, set_cons_zero, set_cons_succ]
                  refine NoPanic.normal ?_
                  go_wp2
                  refine bodyPost_ret (Mm.ret_rowv rtD Tryz.results66 _ b2 _ _ rfl rfl H.out.at1 rfl) rfl ⟨⟨k, b, y0, y1, y2, y3, ⟨#[]⟩⟩, by rw [HRD.out]; rfl, fun d h => (by rw [HRD.out] at h; simpa using h), H.out.below⟩
              · have hq := toList_no hwt
                have HNN := hidp hwt
                obtain ⟨X, hX⟩ : ∃ X, dwd k = X := ⟨_, rfl⟩
                rw [hX] at ck hq
                have hqn : ¬ X.toList = a.toList := by intro g; rw [g] at hq; simp at hq
                clear hwt hX
                have hw1 : IntKind.u8.wrap ((k : Int) + 1) = (k : Int) + 1 := by unfold IntKind.wrap; simp [IntKind.bits, IntKind.signed]; omega
                go_wp2
                refine Mm.region H (.take 0 (.take 2 (.take 3 (.take 4 (.one 1 (.take 5 .done)))))) (by kernel_rfl) (by kernel_rfl) (by simp [Scr.depth]) (by kernel_rfl) ?_
                clear H
                intro _ H hb
                clear hb
                apply s_val
                case ho | hw => rfl
                case hv => intro w hw; go_simp; first | done | rfl
                simp only [Act.put, getElem_toArray, getElem_cons_zero, getElem_cons_succ, setIfInBounds_toArray, set_cons_zero, set_cons_succ]
                apply s_val
                case ho | hw => rfl
                case hv => intro w hw; go_simp; first | done | rfl
                simp only [Act.put, getElem_toArray, getElem_cons_zero, getElem_cons_succ, setIfInBounds_toArray, set_cons_zero, set_cons_succ]
                apply s_val
                case ho | hw => rfl
                case hv => intro w hw; go_simp; first | done | rfl
                simp only [Act.put, getElem_toArray, getElem_cons_zero, getElem_cons_succ, setIfInBounds_toArray, set_cons_zero, set_cons_succ]
                apply s_val
                case ho | hw => rfl
                case hv => intro w hw; obtain ⟨m0, m1⟩ := HSC.out w hw.below; go_simp; first | done | rfl
                simp only [Act.put, getElem_toArray, getElem_cons_zero, getElem_cons_succ, setIfInBounds_toArray, set_cons_zero, set_cons_succ]
                refine Mm.o_callH (v := .string X) H (fun W h => h) rfl rfl 83 (#[.int .u8 (k : Int)]) (by go_simp; first | done | rfl) (ck.out _) ?_
                clear H
                intro _ H hb
                clear hb
                simp only [Act.put, getElem_toArray, getElem_cons_zero, getElem_cons_succ, setIfInBounds_toArray, set_cons_zero, set_cons_succ]
                apply s_val
                case ho | hw => rfl
                case hv => intro w hw; go_simp; first | done | rfl
                simp only [Act.put, getElem_toArray, getElem_cons_zero, getElem_cons_succ, setIfInBounds_toArray, set_cons_zero, set_cons_succ]
                refine NoPanic.normal ?_
                go_wp2
                exact ⟨⟨k + 1, by go_num, by omega, by omega, fun j g1 g2 => (by
                  by_cases hj : j = k
                  · subst hj; exact HNN.out
                  · exact HALL.out j g1 (by omega)), H.out.below⟩, by simp [intOf]; omega⟩
            · have e0 : decide ((k : Int) < 3) = false := by simp; omega
              have n0 : ¬ (k : Int) < 3 := by omega
              have HN0 := hidp (show rd t = none from by
                rw [HRD.out, kOf_none fun j g1 g2 => HALL.out j g1 (by omega), dOk_zero]; rfl)
              replace H := hidp (Sl.join H5.out H.out)
              have tk0 := hidp trivial
              go_wp2_with (first | (clear tk0; (refine Rt.wpL_build rfl 91 _ rfl zDr (by kernel_rfl) ?_); (try simp only [Act.put, setIfInBounds_toArray, set_cons_zero, set_cons_succ]); have tk1 := hidp trivial) | (clear tk1; (refine Mm.put0 rtD H rfl (.tmp 2) (.tmp 90) zDr rfl rfl rfl rfl (by simp [zDr, Value.oneCell']) rfl ?_; intro _ H2 st; clear st H; have H := H2; clear H2); (try simp only [Act.put, setIfInBounds_toArray, set_cons_zero, set_cons_succ]); have tk2 := hidp trivial))
              try clear tk2
              refine bodyPost_ret (Mm.ret_rowv rtD Tryz.results66 _ b2 _ _ rfl rfl H.out.at0 rfl) rfl ⟨zD, by rw [HN0.out]; rfl, fun d h => (by rw [HN0.out] at h; cases h), H.out.below⟩
    · have HN0 := hidp (show rd t = none from rd_len h6)
      rw [h0] at ca
      obtain ⟨ss, hss⟩ : ∃ ss, (al t).1 = ss := ⟨_, rfl⟩
      rw [hss] at ca h6
      obtain ⟨n, hn⟩ : ∃ n, ss.length = n := ⟨_, rfl⟩
      have e1 : ((n : Int) != 6) = true := by simp; omega
      have g1 : ¬ n = 6 := by omega
      have g2 : (n != 6) = true := by simpa using g1
      clear hss h0
      have cb := hidp (fun W => (ca.out W).mono fun e w' ⟨v, h1, h2, h3⟩ => (⟨v, h1, ⟨Sl.strs_form h2.strs, h3⟩⟩ : ∃ v, e = Ending.returned (.tuple #[v, .int .i64 ((0 : Nat) : Int)]) ∧ (∃ a c, v = Value.slice a ss.length c) ∧ Below W.heap.size W w'))
      rw [hn] at cb
      clear ca hn h6
      go_enter Tryz.func66, Tryz.ntmps66
      have tk0 := hidp trivial
      go_wp2_with (first | (clear tk0; (refine Mm.new rtD H (some 2) rfl rfl rfl ?_; clear H; intro b2 _ H nw; have hb := nw.below; clear hb nw); (try simp only [Act.put, setIfInBounds_toArray, set_cons_zero, set_cons_succ]); have tk1 := hidp trivial) | (clear tk1; (go_at_call 29; refine (cb.out _).mono ?_; rintro e _ ⟨v, rfl, ⟨av, cv, rfl⟩, hb⟩; replace H := hidp (H.out.call hb); clear hb cb); (try simp only [Act.put, setIfInBounds_toArray, set_cons_zero, set_cons_succ]); have tk2 := hidp trivial) | (clear tk2; (refine Rt.wpL_build rfl 91 _ rfl zDr (by kernel_rfl) ?_); (try simp only [Act.put, setIfInBounds_toArray, set_cons_zero, set_cons_succ]); have tk3 := hidp trivial) | (clear tk3; (refine Mm.put0 rtD H rfl (.tmp 2) (.tmp 26) zDr rfl rfl rfl rfl (by simp [zDr, Value.oneCell']) rfl ?_; intro _ H2 st; clear st H; have H := H2; clear H2); (try simp only [Act.put, setIfInBounds_toArray, set_cons_zero, set_cons_succ]); have tk4 := hidp trivial))
      try clear tk4
      refine bodyPost_ret (Mm.ret_rowv rtD Tryz.results66 _ b2 _ _ rfl rfl H.out.at0 rfl) rfl ⟨zD, by rw [HN0.out]; rfl, fun d h => (by rw [HN0.out] at h; cases h), H.out.below⟩
  · have HN0 := hidp (show rd t = none from rd_bad h0)
    obtain ⟨E, hE⟩ : ∃ E, (al t).2 = E := ⟨_, rfl⟩
    rw [hE] at ca h0
    have e1 : ((E : Int) != 0) = true := by simp; omega
    have g1 : ¬ (E : Int) = 0 := by omega
    have g2 : ¬ E = 0 := h0
    clear hE h0
    go_enter Tryz.func66, Tryz.ntmps66
    have tk0 := hidp trivial
    go_wp2_with (first | (clear tk0; (refine Mm.new rtD H (some 2) rfl rfl rfl ?_; clear H; intro b2 _ H nw; have hb := nw.below; clear hb nw); (try simp only [Act.put, setIfInBounds_toArray, set_cons_zero, set_cons_succ]); have tk1 := hidp trivial) | (clear tk1; (go_at_call 29; refine (ca.out _).mono ?_; rintro e _ ⟨v, rfl, hst, hb⟩; replace H := hidp (H.out.call hb); obtain ⟨av, cv, rfl⟩ := Sl.strs_form hst.strs; clear hst hb ca); (try simp only [Act.put, setIfInBounds_toArray, set_cons_zero, set_cons_succ]); have tk2 := hidp trivial) | (clear tk2; (refine Rt.wpL_build rfl 91 _ rfl zDr (by kernel_rfl) ?_); (try simp only [Act.put, setIfInBounds_toArray, set_cons_zero, set_cons_succ]); have tk3 := hidp trivial) | (clear tk3; (refine Mm.put0 rtD H rfl (.tmp 2) (.tmp 26) zDr rfl rfl rfl rfl (by simp [zDr, Value.oneCell']) rfl ?_; intro _ H2 st; clear st H; have H := H2; clear H2); (try simp only [Act.put, setIfInBounds_toArray, set_cons_zero, set_cons_succ]); have tk4 := hidp trivial))
    try clear tk4
    refine bodyPost_ret (Mm.ret_rowv rtD Tryz.results66 _ b2 _ _ rfl rfl H.out.at0 rfl) rfl ⟨zD, by rw [HN0.out]; rfl, fun d h => (by rw [HN0.out] at h; cases h), H.out.below⟩

set_option maxHeartbeats 32000000 in
theorem rparse24_any (w : World) (t : ByteArray) (ht : t.size ≤ 281474976710656) :
    Calls Tryz.prog 53 #[.string t] w fun e w' => e = .returned (.tuple #[.agg (dpV t).row.toArray, .int .i64 (dpE t)]) ∧ Below w.heap.size w w' := by
  have ca := hidp (fun W => refAll2_any W t ht)
  have H := hidp (Mm.M.nil w)
  by_cases h0 : (al t).2 = 0
  · by_cases h6 : (al t).1.length = 2
    · obtain ⟨a, b, hL⟩ : ∃ a b, (al t).1 = [a, b] := by
        match hL : (al t).1, h6 with
        | [a, b], _ => exact ⟨a, b, rfl⟩
      have hSS := al_sz t ht
      rw [hL] at hSS
      have hP := dP_two h0 hL
      rw [h0, hL] at ca
      clear hL h6 h0
      have en : (((2 : Nat) : Int) != 2) = false := rfl
      have cr := hidp (fun W => rread_any W a (by have := hSS a (by simp); omega))
      clear hSS
      cases hr : rd a with
      | none =>
        rw [hr] at hP cr
        rw [show (none : Option De).isSome = false from rfl] at cr
        have HV := hidp (show dpV t = zD from by unfold dpV; rw [hP]; rfl)
        have HE := hidp (show dpE t = 6 from by unfold dpE; rw [hP]; rfl)
        clear hr hP
        go_enter Tryz.func53, Tryz.ntmps53
        have tk0 := hidp trivial
        go_wp2_with (first | (clear tk0; (refine Mm.new rtD H (some 2) rfl rfl rfl ?_; clear H; intro b2 _ H nw; have hb := nw.below; clear hb nw); (try simp only [Act.put, setIfInBounds_toArray, set_cons_zero, set_cons_succ]); have tk1 := hidp trivial) | (clear tk1; (go_at_call 29; refine (ca.out _).mono ?_; rintro e w1 ⟨v, rfl, hst, hb⟩; have H0 := hidp (H.out.call hb); obtain ⟨g, cv, rfl, hcv, hcs⟩ := strs_cells hst 2 rfl (by decide); clear H hst hb ca; have HC := hidp (show ∀ W, Below w1.heap.size w1 W → W.cell? ⟨g, 0, none⟩ = some (.string a) ∧ W.cell? ⟨g, 1, none⟩ = some (.string b) from fun W hW => ⟨hcs W hW 0 (by decide), hcs W hW 1 (by decide)⟩); clear hcs; have H := hidp (Mm.M.nil w1); obtain ⟨m1, m2⟩ := HC.out _ H.out.below); (try simp only [Act.put, setIfInBounds_toArray, set_cons_zero, set_cons_succ]); have tk2 := hidp trivial) | (clear tk2; (go_at_call 66; refine (cr.out _).mono ?_; rintro e _ ⟨D, rfl, hD, hb⟩; replace H := hidp (H.out.call hb); obtain ⟨k, r, x, y, z, u, sg0⟩ := D; clear hD hb cr m1 m2); (try simp only [Act.put, setIfInBounds_toArray, set_cons_zero, set_cons_succ]); have tk3 := hidp trivial) | (clear tk3; (refine Mm.new rtD H (some 6) rfl rfl rfl ?_; clear H; intro b6 _ H nw; have hb := nw.below; clear hb nw); (try simp only [Act.put, setIfInBounds_toArray, set_cons_zero, set_cons_succ]); have tk4 := hidp trivial) | (clear tk4; (refine Mm.put0 rtD H rfl (.tmp 6) (.tmp 26) [.int .u8 (k : Int), .string r, .int .i64 x, .int .i64 y, .int .i64 z, .int .i64 u, .string sg0] rfl rfl rfl rfl (by simp [Value.oneCell']) rfl ?_; intro _ H2 st; clear st H; have H := H2; clear H2; replace H := hidp (Sl.join H0.out H.out)); (try simp only [Act.put, setIfInBounds_toArray, set_cons_zero, set_cons_succ]); have tk5 := hidp trivial) | (clear tk5; (refine Rt.wpL_build rfl 91 _ rfl zDr (by kernel_rfl) ?_); (try simp only [Act.put, setIfInBounds_toArray, set_cons_zero, set_cons_succ]); have tk6 := hidp trivial) | (clear tk6; (refine Mm.put1 rtD H rfl (.tmp 2) (.tmp 30) zDr rfl rfl rfl rfl (by simp [zDr, Value.oneCell']) rfl ?_; intro _ H2 st; clear st H; have H := H2; clear H2); (try simp only [Act.put, setIfInBounds_toArray, set_cons_zero, set_cons_succ]); have tk7 := hidp trivial))
        try clear tk7
        refine bodyPost_ret (Mm.ret_rowv rtD Tryz.results53 _ b2 _ _ rfl rfl H.out.at1 rfl) rfl ⟨by rw [HV.out, HE.out]; rfl, H.out.below⟩
      | some d =>
        rw [hr] at hP cr
        have HV := hidp (show dpV t = wSig d b from by unfold dpV; rw [hP]; rfl)
        have HE := hidp (show dpE t = 0 from by unfold dpE; rw [hP]; rfl)
        rw [show (some d : Option De).isSome = true from rfl] at cr
        obtain ⟨k, r, x, y, z, u, sg0⟩ := d
        clear hr hP
        go_enter Tryz.func53, Tryz.ntmps53
        have tk0 := hidp trivial
        go_wp2_with (first | (clear tk0; (refine Mm.new rtD H (some 2) rfl rfl rfl ?_; clear H; intro b2 _ H nw; have hb := nw.below; clear hb nw); (try simp only [Act.put, setIfInBounds_toArray, set_cons_zero, set_cons_succ]); have tk1 := hidp trivial) | (clear tk1; (go_at_call 29; refine (ca.out _).mono ?_; rintro e w1 ⟨v, rfl, hst, hb⟩; have H0 := hidp (H.out.call hb); obtain ⟨g, cv, rfl, hcv, hcs⟩ := strs_cells hst 2 rfl (by decide); clear H hst hb ca; have HC := hidp (show ∀ W, Below w1.heap.size w1 W → W.cell? ⟨g, 0, none⟩ = some (.string a) ∧ W.cell? ⟨g, 1, none⟩ = some (.string b) from fun W hW => ⟨hcs W hW 0 (by decide), hcs W hW 1 (by decide)⟩); clear hcs; have H := hidp (Mm.M.nil w1); obtain ⟨m1, m2⟩ := HC.out _ H.out.below); (try simp only [Act.put, setIfInBounds_toArray, set_cons_zero, set_cons_succ]); have tk2 := hidp trivial) | (clear tk2; (go_at_call 66; refine (cr.out _).mono ?_; rintro e _ ⟨D, rfl, hD, hb⟩; replace H := hidp (H.out.call hb); obtain rfl := hD _ rfl; clear hD hb cr m1 m2); (try simp only [Act.put, setIfInBounds_toArray, set_cons_zero, set_cons_succ]); have tk3 := hidp trivial) | (clear tk3; (refine Mm.new rtD H (some 6) rfl rfl rfl ?_; clear H; intro b6 _ H nw; have hb := nw.below; clear hb nw); (try simp only [Act.put, setIfInBounds_toArray, set_cons_zero, set_cons_succ]); have tk4 := hidp trivial) | (clear tk4; (refine Mm.put0 rtD H rfl (.tmp 6) (.tmp 26) [.int .u8 (k : Int), .string r, .int .i64 x, .int .i64 y, .int .i64 z, .int .i64 u, .string sg0] rfl rfl rfl rfl (by simp [Value.oneCell']) rfl ?_; intro _ H2 st; clear st H; have H := H2; clear H2; obtain ⟨m1, m2⟩ := HC.out _ H.out.below); (try simp only [Act.put, setIfInBounds_toArray, set_cons_zero, set_cons_succ]); have tk5 := hidp trivial) | (clear tk5; (refine Mm.putF0 H rfl 9 (.tmp 34) (.tmp 33) 6 (.string b) rfl rfl rfl (by kernel_rfl) rfl (of_decide_eq_true rfl) ?_; intro _ H2 st; clear st H; have H : Hid (Mm.M w1.heap.size w1 _ ([⟨b6, 91, [.int .u8 (k : Int), .string r, .int .i64 x, .int .i64 y, .int .i64 z, .int .i64 u, .string b]⟩])) := H2; clear H2); (try simp only [Act.put, setIfInBounds_toArray, set_cons_zero, set_cons_succ]); have tk6 := hidp trivial) | (clear tk6; (refine Mm.get0 rtD H rfl (.tmp 6) rfl rfl rfl ?_; replace H := hidp (Sl.join H0.out H.out)); (try simp only [Act.put, setIfInBounds_toArray, set_cons_zero, set_cons_succ]); have tk7 := hidp trivial) | (clear tk7; (refine Mm.put1 rtD H rfl (.tmp 2) (.tmp 35) [.int .u8 (k : Int), .string r, .int .i64 x, .int .i64 y, .int .i64 z, .int .i64 u, .string b] rfl rfl rfl rfl (by simp [Value.oneCell']) rfl ?_; intro _ H2 st; clear st H; have H := H2; clear H2); (try simp only [Act.put, setIfInBounds_toArray, set_cons_zero, set_cons_succ]); have tk8 := hidp trivial))
        try clear tk8
        refine bodyPost_ret (Mm.ret_rowv rtD Tryz.results53 _ b2 _ _ rfl rfl H.out.at1 rfl) rfl ⟨by rw [HV.out, HE.out]; rfl, H.out.below⟩
    · have HV := hidp (show dpV t = zD from by unfold dpV; rw [dP_len h6]; rfl)
      have HE := hidp (show dpE t = 6 from by unfold dpE; rw [dP_len h6]; rfl)
      rw [h0] at ca
      obtain ⟨ss, hss⟩ : ∃ ss, (al t).1 = ss := ⟨_, rfl⟩
      rw [hss] at ca h6
      obtain ⟨n, hn⟩ : ∃ n, ss.length = n := ⟨_, rfl⟩
      have e1 : ((n : Int) != 2) = true := by simp; omega
      have g1 : ¬ n = 2 := by omega
      have g2 : (n != 2) = true := by simpa using g1
      clear hss h0
      have cb := hidp (fun W => (ca.out W).mono fun e w' ⟨v, h1, h2, h3⟩ => (⟨v, h1, ⟨Sl.strs_form h2.strs, h3⟩⟩ : ∃ v, e = Ending.returned (.tuple #[v, .int .i64 ((0 : Nat) : Int)]) ∧ (∃ a c, v = Value.slice a ss.length c) ∧ Below W.heap.size W w'))
      rw [hn] at cb
      clear ca hn h6
      go_enter Tryz.func53, Tryz.ntmps53
      have tk0 := hidp trivial
      go_wp2_with (first | (clear tk0; (refine Mm.new rtD H (some 2) rfl rfl rfl ?_; clear H; intro b2 _ H nw; have hb := nw.below; clear hb nw); (try simp only [Act.put, setIfInBounds_toArray, set_cons_zero, set_cons_succ]); have tk1 := hidp trivial) | (clear tk1; (go_at_call 29; refine (cb.out _).mono ?_; rintro e _ ⟨v, rfl, ⟨av, cv, rfl⟩, hb⟩; replace H := hidp (H.out.call hb); clear hb cb); (try simp only [Act.put, setIfInBounds_toArray, set_cons_zero, set_cons_succ]); have tk2 := hidp trivial) | (clear tk2; (refine Rt.wpL_build rfl 91 _ rfl zDr (by kernel_rfl) ?_); (try simp only [Act.put, setIfInBounds_toArray, set_cons_zero, set_cons_succ]); have tk3 := hidp trivial) | (clear tk3; (refine Mm.put0 rtD H rfl (.tmp 2) (.tmp 20) zDr rfl rfl rfl rfl (by simp [zDr, Value.oneCell']) rfl ?_; intro _ H2 st; clear st H; have H := H2; clear H2); (try simp only [Act.put, setIfInBounds_toArray, set_cons_zero, set_cons_succ]); have tk4 := hidp trivial))
      try clear tk4
      refine bodyPost_ret (Mm.ret_rowv rtD Tryz.results53 _ b2 _ _ rfl rfl H.out.at0 rfl) rfl ⟨by rw [HV.out, HE.out]; rfl, H.out.below⟩
  · have HV := hidp (show dpV t = zD from by unfold dpV; rw [dP_bad h0]; rfl)
    have HE := hidp (show dpE t = 6 from by unfold dpE; rw [dP_bad h0]; rfl)
    obtain ⟨E, hE⟩ : ∃ E, (al t).2 = E := ⟨_, rfl⟩
    rw [hE] at ca h0
    have e1 : ((E : Int) != 0) = true := by simp; omega
    have g1 : ¬ (E : Int) = 0 := by omega
    have g2 : ¬ E = 0 := h0
    clear hE h0
    go_enter Tryz.func53, Tryz.ntmps53
    have tk0 := hidp trivial
    go_wp2_with (first | (clear tk0; (refine Mm.new rtD H (some 2) rfl rfl rfl ?_; clear H; intro b2 _ H nw; have hb := nw.below; clear hb nw); (try simp only [Act.put, setIfInBounds_toArray, set_cons_zero, set_cons_succ]); have tk1 := hidp trivial) | (clear tk1; (go_at_call 29; refine (ca.out _).mono ?_; rintro e _ ⟨v, rfl, hst, hb⟩; replace H := hidp (H.out.call hb); obtain ⟨av, cv, rfl⟩ := Sl.strs_form hst.strs; clear hst hb ca); (try simp only [Act.put, setIfInBounds_toArray, set_cons_zero, set_cons_succ]); have tk2 := hidp trivial) | (clear tk2; (refine Rt.wpL_build rfl 91 _ rfl zDr (by kernel_rfl) ?_); (try simp only [Act.put, setIfInBounds_toArray, set_cons_zero, set_cons_succ]); have tk3 := hidp trivial) | (clear tk3; (refine Mm.put0 rtD H rfl (.tmp 2) (.tmp 20) zDr rfl rfl rfl rfl (by simp [zDr, Value.oneCell']) rfl ?_; intro _ H2 st; clear st H; have H := H2; clear H2); (try simp only [Act.put, setIfInBounds_toArray, set_cons_zero, set_cons_succ]); have tk4 := hidp trivial))
    try clear tk4
    refine bodyPost_ret (Mm.ret_rowv rtD Tryz.results53 _ b2 _ _ rfl rfl H.out.at0 rfl) rfl ⟨by rw [HV.out, HE.out]; rfl, H.out.below⟩
end Go.Proofs.YtfenjincbhkodaaGreatDoor.Ho
