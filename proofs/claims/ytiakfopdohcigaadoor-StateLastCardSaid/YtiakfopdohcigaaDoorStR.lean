
/-
  state: the last event of each kind and key.
-/
import Derived.Test.YtiakfopdohcigaaDoorStQ
import Derived.Test.YtiakfopdohcigaaDoorStV
namespace Go.Proofs.YtiakfopdohcigaaDoor
set_option maxRecDepth 100000
set_option linter.unusedVariables false
set_option linter.unusedSimpArgs false
open Go.RowKit Rw
open List (getElem_toArray getElem_cons_zero getElem_cons_succ setIfInBounds_toArray set_cons_zero set_cons_succ)

theorem same_bP {f : FuncId} {args : Array Value} {w : World} {v : Value} (h : Calls Tryd.prog f args w fun e w' => e = .returned v ∧ w' = w) : Calls Tryd.prog f args w fun e w' => e = .returned v ∧ Below w.heap.size w w' :=
  h.mono fun e w' ⟨h1, h2⟩ => by subst h2; exact ⟨h1, Below.refl _ _⟩
/-- An event is stored into a variable; cells do not lie there. -/
theorem CsAt.stpE {w W : World} {v : Value} {cs : List Ce} {b t : Nat} {e : Ev} (h : CsAt w v cs) (st : Rt.Stp b w W) (ha : Arr w b t e.row) : CsAt W v cs := by
  refine ⟨⟨h.rs.1, ?_⟩, h.ok, h.len⟩
  rcases h.rs.2 with h0 | ⟨B, o, c, e1, hc, hB, hr⟩
  · exact .inl h0
  · cases cs with
    | nil => exact .inr ⟨B, o, c, e1, hc, by rw [st.size]; exact hB, fun j u hj => by simp [rowsC] at hj⟩
    | cons p r =>
      refine .inr ⟨B, o, c, e1, hc, by rw [st.size]; exact hB, fun j u hj => ?_⟩
      have hne : B ≠ b := by
        rintro rfl
        have h0 := hr 0 (.int .u8 (p.k : Int)) rfl
        have h3 := hr 3 (.string p.e.sender) rfl
        have hc0 : ∀ q, w.cell? ⟨B, q, none⟩ = e.row[q]? := fun q => by simp [World.cell?, show w.heap[B]? = _ from ha]
        rw [hc0] at h0 h3
        simp only [Nat.add_zero] at h0
        match o, h0, h3 with
        | 0, h0, _ => cases h0
        | 1, h0, _ => cases h0
        | 2, _, h3 => cases h3
        | 3, h0, _ => cases h0
        | 4, h0, _ => cases h0
        | 5, h0, _ => cases h0
        | (q + 6), h0, _ => simp [Ev.row] at h0
      have hcell : W.cell? ⟨B, o + j, none⟩ = w.cell? ⟨B, o + j, none⟩ := World.cell?_of_block (w := w) (st.other B hne)
      rw [hcell]; exact hr j u hj
theorem zE_built : Tryd.prog.built 25 [] = some zEv.row.toArray := by kernel_rfl
/-- What stands between two rounds. -/
def laS (cs : List Ce) (i k : Nat) (y : ByteArray) (is : Bool) (e : Ev) : Prop := okS cs = true ∧ cs.length ≤ i ∧ is = (firS cs k y).isSome ∧ e = (firS cs k y).getD zEv
theorem laS_step {cs : List Ce} {i k : Nat} {y : ByteArray} {is : Bool} {l e : Ev} (h : laS cs i k y is l) (hi : i < 200) :
    (decide (setE cs e = 0) = lasB e) ∧ ((lasB e = true ∧ e.kind = k ∧ e.key = y) → laS (setV cs e) (i + 1) k y true e) ∧ (¬ (lasB e = true ∧ e.kind = k ∧ e.key = y) → laS (setV cs e) (i + 1) k y is l) := by
  obtain ⟨h1, h2, h3, h4⟩ := h
  obtain ⟨s1, s2, s3, s4⟩ := set_one (e := e) h1 (by omega)
  refine ⟨?_, fun hc => ⟨s1, by omega, ?_, ?_⟩, fun hc => ⟨s1, by omega, ?_, ?_⟩⟩
  · cases hl : lasB e with
    | true => exact decide_eq_true (s3.2 hl)
    | false => exact decide_eq_false fun g => by rw [s3.1 g] at hl; cases hl
  · rw [s4 k y, if_pos hc]; rfl
  · rw [s4 k y, if_pos hc]; rfl
  · rw [s4 k y, if_neg hc]; exact h3
  · rw [s4 k y, if_neg hc]; exact h4

set_option maxHeartbeats 32000000 in
theorem stateLast_nat (w : World) (v : Value) (es : List Ev) (hv : EsAt w v es) (k : Nat) (y : ByteArray) (hI : IT w) :
    Calls Tryd.prog 4 #[v, .int .u8 (k : Int), .string y] w fun x w' => x = .returned (.bool true) ∧ Below w.heap.size w w' := by
  have HI := hidp hI; have HV := hidp hv
  have li := hidp (fun W h => lives14_any W h)
  obtain ⟨av, cv, hv0⟩ := hv.form
  have h47 := hv.len
  obtain ⟨n, hn⟩ : ∃ n, es.length = n := ⟨_, rfl⟩
  rw [hn] at hv0 h47
  subst hv0
  have HN := hidp hn
  have H := hidp (Mm.M.nil w)
  clear hv hn hI
  go_enter Tryd.func4, Tryd.ntmps4
  have tk0 := hidp trivial
  go_wp2_with (first | (clear tk0; (go_at_call 7; refine (li.out _ (HI.out.below H.out.below (Nat.le_refl _))).mono ?_; rintro e _ ⟨rfl, hb⟩; replace H := hidp (H.out.call hb); clear li; clear hb); (try simp only [Act.put, setIfInBounds_toArray, set_cons_zero, set_cons_succ]); have tk1 := hidp trivial) | (clear tk1; (refine wpL_buildD 18 rfl rfl 25 _ rfl zEv.row (by kernel_rfl) ?_); (try simp only [Act.put, setIfInBounds_toArray, set_cons_zero, set_cons_succ]); have tk2 := hidp trivial) | (clear tk2; (refine Mm.new rtE H (some 8) rfl rfl rfl ?_; clear H; intro b8 _ H nw; have hb := nw.below; clear hb nw); (try simp only [Act.put, setIfInBounds_toArray, set_cons_zero, set_cons_succ]); have tk3 := hidp trivial) | (clear tk3; (refine Mm.put0 rtE H rfl (.tmp 8) (.tmp 18) zEv.row rfl rfl rfl rfl (Ev.one _) rfl ?_; intro _ H2 st; clear st H; have H := H2; clear H2); (try simp only [Act.put, setIfInBounds_toArray, set_cons_zero, set_cons_succ]); have tk4 := hidp trivial))
  try clear tk4
  have hb8 := hidp (show w.heap.size ≤ b8 from H.out.ge ⟨b8, 25, zEv.row⟩ (by simp))
  go_loopw [7, 9, 21] (fun t7 t9 t21 wr => ∃ (i : Nat) (p q : _) (cs : List Ce) (is : Bool) (l : Ev), t21 = .int .i64 (i : Int) ∧ i ≤ n ∧ i ≤ 200 ∧ t7 = .slice p cs.length q ∧ CsAt wr (.slice p cs.length q) cs ∧ t9 = .bool is ∧ laS cs i k y is l ∧ (Mm.M w.heap.size w wr [⟨b8, 25, l.row⟩])) (fun _ _ t21 _ => n - (intOf t21).toNat)
  case atStart => exact ⟨0, none, 0, [], false, zEv, rfl, by omega, by omega, rfl, CsAt.nil _, rfl, ⟨rfl, by simp, rfl, rfl⟩, H.out⟩
  case round =>
    clear H
    obtain ⟨i, p, q, cs, is, l, rfl, hi, hi2, rfl, hcs, rfl, hla, hM⟩ := hrel
    have H := hidp hM; have HS := hidp hcs; have HLA := hidp hla
    obtain ⟨nc, hnc⟩ : ∃ z, cs.length = z := ⟨_, rfl⟩
    rw [hnc] at HS ⊢
    clear hM hcs hla
    by_cases hlt : i < n
    · have e1 : decide ((i : Int) < (n : Int)) = true := by simp; omega
      have hgl : i < es.length := by rw [HN.out]; exact hlt
      obtain ⟨BK, off, c, e2, hc, hBK0, hR0⟩ := HV.out.get (by rw [HN.out]; omega)
      rw [HN.out] at e2
      simp only [Value.slice.injEq] at e2
      obtain ⟨rfl, -, rfl⟩ := e2
      obtain ⟨e, hge⟩ : ∃ e, es[i] = e := ⟨_, rfl⟩
      have HRI := hidp (show wr.rangeAt BK (off + 6 * i) e.row from by rw [← hge]; exact rangeAt_below (hR0 i hgl) H.out.below hBK0)
      have hfit : e.fit := by rw [← hge]; exact HV.out.fit _ (List.getElem_mem hgl)
      clear hR0 hBK0 hge hc
      by_cases h200 : i = 200
      · have e200 : ((i : Int) == 200) = true := by rw [h200]; rfl
        clear h200 hfit
        go_wp2_with (first | (refine wpL_idxR tyE rfl (.tmp 19) (.tmp 21) rfl BK off n _ i rfl rfl hlt ?_) | (refine wpL_atR tyE rfl (.tmp 24) rfl BK (off + 6 * i) e.row rfl rfl HRI.out ?_) | (refine Mm.new rtE H (some 11) rfl rfl rfl ?_; clear H; intro b11 _ H nw; have hb := nw.below; replace HS := hidp (HS.out.to hb); clear hb nw) | (refine Mm.put0 rtE H rfl (.tmp 11) (.tmp 25) e.row rfl rfl rfl rfl (Ev.one _) rfl ?_; intro _ H2 st; replace HS := hidp (HS.out.stpE (e := zEv) st H.out.at0); clear st H; have H := H2; clear H2))
        replace H := hidp H.out.tail
        have HO0 := HLA.out
        obtain ⟨o1, o2, o3, o4⟩ := HO0
        have cg := hidp (fun W v h h' => (show Calls Tryd.prog 13 #[v, .int .u8 (k : Int), .string y] W fun x w' => x = .returned (.tuple #[.agg l.row.toArray, .int .i64 (if is = true then 0 else 3)]) ∧ Below W.heap.size W w' from by
          have := get_any W v cs h k y h'
          rw [show geV cs k y = l from by unfold geV; rw [if_pos o1]; exact o4.symm, show geE cs k y = (if is = true then 0 else 3) from by unfold geE; rw [if_pos o1, o3]] at this
          exact this))
        have ck := hidp (fun W v h h' => (show Calls Tryd.prog 8 #[v] W fun x w' => x = .returned (.int .i64 0) ∧ Below W.heap.size W w' from by
          have := stCheck_any W v cs h h'
          rw [show ckS cs = 0 from if_pos o1] at this; exact this))
        have q1 := fun W => eq_ev W l
        have q2 := fun W => eqin_ev W l
        clear o1 o2 o3 o4 HLA
        cases is with
        | true =>
          simp only [if_true] at cg
          have tk0 := hidp trivial
          go_wp2_with (first | (clear tk0; (go_at_call 13; refine (cg.out _ _ HS.out (HI.out.below H.out.below (Nat.le_refl _))).mono ?_; rintro e _ ⟨rfl, hb⟩; replace H := hidp (H.out.call hb); clear cg; replace HS := hidp (HS.out.to hb); clear hb); (try simp only [Act.put, setIfInBounds_toArray, set_cons_zero, set_cons_succ]); have tk1 := hidp trivial) | (clear tk1; (refine Mm.new rtE H (some 14) rfl rfl rfl ?_; clear H; intro b14 _ H nw; have hb := nw.below; replace HS := hidp (HS.out.to hb); clear hb nw); (try simp only [Act.put, setIfInBounds_toArray, set_cons_zero, set_cons_succ]); have tk2 := hidp trivial) | (clear tk2; (refine Mm.put0 rtE H rfl (.tmp 14) (.tmp 67) l.row rfl rfl rfl rfl (Ev.one _) rfl ?_; intro _ H2 st; replace HS := hidp (HS.out.stpE (e := zEv) st H.out.at0); clear st H; have H := H2; clear H2); (try simp only [Act.put, setIfInBounds_toArray, set_cons_zero, set_cons_succ]); have tk3 := hidp trivial) | (clear tk3; (refine Mm.get0 rtE H rfl (.tmp 14) rfl rfl rfl ?_); (try simp only [Act.put, setIfInBounds_toArray, set_cons_zero, set_cons_succ]); have tk4 := hidp trivial) | (clear tk4; (refine Mm.get1 rtE H rfl (.tmp 8) rfl rfl rfl ?_); (try simp only [Act.put, setIfInBounds_toArray, set_cons_zero, set_cons_succ]); have tk5 := hidp trivial) | (clear tk5; (go_at_call 8; refine (ck.out _ _ HS.out (HI.out.below H.out.below (Nat.le_refl _))).mono ?_; rintro e _ ⟨rfl, hb⟩; replace H := hidp (H.out.call hb); clear ck; replace HS := hidp (HS.out.to hb); clear hb); (try simp only [Act.put, setIfInBounds_toArray, set_cons_zero, set_cons_succ]); have tk6 := hidp trivial))
          try clear tk6
          go_ret
          exact ⟨rfl, H.out.below⟩
        | false =>
          simp only [Bool.false_eq_true, if_false] at cg
          have tk0 := hidp trivial
          go_wp2_with (first | (clear tk0; (go_at_call 13; refine (cg.out _ _ HS.out (HI.out.below H.out.below (Nat.le_refl _))).mono ?_; rintro e _ ⟨rfl, hb⟩; replace H := hidp (H.out.call hb); clear cg; replace HS := hidp (HS.out.to hb); clear hb); (try simp only [Act.put, setIfInBounds_toArray, set_cons_zero, set_cons_succ]); have tk1 := hidp trivial) | (clear tk1; (refine Mm.new rtE H (some 14) rfl rfl rfl ?_; clear H; intro b14 _ H nw; have hb := nw.below; replace HS := hidp (HS.out.to hb); clear hb nw); (try simp only [Act.put, setIfInBounds_toArray, set_cons_zero, set_cons_succ]); have tk2 := hidp trivial) | (clear tk2; (refine Mm.put0 rtE H rfl (.tmp 14) (.tmp 67) l.row rfl rfl rfl rfl (Ev.one _) rfl ?_; intro _ H2 st; replace HS := hidp (HS.out.stpE (e := zEv) st H.out.at0); clear st H; have H := H2; clear H2); (try simp only [Act.put, setIfInBounds_toArray, set_cons_zero, set_cons_succ]); have tk3 := hidp trivial) | (clear tk3; (refine Mm.get0 rtE H rfl (.tmp 14) rfl rfl rfl ?_); (try simp only [Act.put, setIfInBounds_toArray, set_cons_zero, set_cons_succ]); have tk4 := hidp trivial) | (clear tk4; (refine Mm.get1 rtE H rfl (.tmp 8) rfl rfl rfl ?_); (try simp only [Act.put, setIfInBounds_toArray, set_cons_zero, set_cons_succ]); have tk5 := hidp trivial) | (clear tk5; (go_at_call 8; refine (ck.out _ _ HS.out (HI.out.below H.out.below (Nat.le_refl _))).mono ?_; rintro e _ ⟨rfl, hb⟩; replace H := hidp (H.out.call hb); clear ck; replace HS := hidp (HS.out.to hb); clear hb); (try simp only [Act.put, setIfInBounds_toArray, set_cons_zero, set_cons_succ]); have tk6 := hidp trivial))
          try clear tk6
          go_ret
          exact ⟨rfl, H.out.below⟩
      · have e200 : ((i : Int) == 200) = false := by rw [beq_eq_false_iff_ne]; omega
        have HI2 := hidp (show i + 1 ≤ 200 from by omega)
        obtain ⟨u1, u2, u3⟩ := laS_step (e := e) HLA.out (by omega)
        have U2 := hidp u2; have U3 := hidp u3
        have cz := hidp (fun W v h h' => set_any W v cs h e hfit.1 h')
        have cc := hidp (fun W h => evCheck_ev W e hfit.1 h)
        have cs9 := hidp (fun W => same_bP (state_any W e.kind hfit.1.k))
        obtain ⟨E, hE⟩ : ∃ z, setE cs e = z := ⟨_, rfl⟩
        obtain ⟨D, hD⟩ : ∃ z, setV cs e = z := ⟨_, rfl⟩
        rw [hE] at u1 cz
        rw [hD] at U2 U3 cz
        clear u2 u3 hfit hE hD HLA hnc
        cases hok : evOk e with
        | false =>
          have hl : lasB e = false := by unfold lasB; rw [hok, Bool.and_false]
          have eE : (E == 0) = false := by rw [hl] at u1; simpa using u1
          have HST := hidp (U3.out (by rw [hl]; simp))
          rw [show evE e = 2 from by unfold evE; rw [hok]; rfl] at cc
          clear u1 U2 U3 hok hl cs9 h200
          have tk0 := hidp trivial
          go_wp2_with (first | (refine Rt.wpL_skip _ _ rfl rfl ?_) | (clear tk0; (refine wpL_idxR tyE rfl (.tmp 19) (.tmp 21) rfl BK off n _ i rfl rfl hlt ?_); (try simp only [Act.put, setIfInBounds_toArray, set_cons_zero, set_cons_succ]); have tk1 := hidp trivial) | (clear tk1; (refine wpL_atR tyE rfl (.tmp 24) rfl BK (off + 6 * i) e.row rfl rfl HRI.out ?_); (try simp only [Act.put, setIfInBounds_toArray, set_cons_zero, set_cons_succ]); have tk2 := hidp trivial) | (clear tk2; (refine Mm.new rtE H (some 11) rfl rfl rfl ?_; clear H; intro b11 _ H nw; have hb := nw.below; replace HS := hidp (HS.out.to hb); clear hb nw); (try simp only [Act.put, setIfInBounds_toArray, set_cons_zero, set_cons_succ]); have tk3 := hidp trivial) | (clear tk3; (refine Mm.put0 rtE H rfl (.tmp 11) (.tmp 25) e.row rfl rfl rfl rfl (Ev.one _) rfl ?_; intro _ H2 st; replace HS := hidp (HS.out.stpE (e := zEv) st H.out.at0); clear st H; have H := H2; clear H2); (try simp only [Act.put, setIfInBounds_toArray, set_cons_zero, set_cons_succ]); have tk4 := hidp trivial) | (clear tk4; (refine Mm.get0 rtE H rfl (.tmp 11) rfl rfl rfl ?_); (try simp only [Act.put, setIfInBounds_toArray, set_cons_zero, set_cons_succ]); have tk5 := hidp trivial) | (clear tk5; (go_at_call 5; refine (cz.out _ _ HS.out (HI.out.below H.out.below (Nat.le_refl _))).mono ?_; rintro x _ ⟨v1, rfl, hcs, hb⟩; obtain ⟨p1, q1, rfl⟩ := hcs.form; replace H := hidp (H.out.call hb); clear HS; have HS := hidp hcs; clear hcs hb cz); (try simp only [Act.put, setIfInBounds_toArray, set_cons_zero, set_cons_succ]); have tk6 := hidp trivial) | (clear tk6; (refine Mm.get0 rtE H rfl (.tmp 11) rfl rfl rfl ?_); (try simp only [Act.put, setIfInBounds_toArray, set_cons_zero, set_cons_succ]); have tk7 := hidp trivial) | (clear tk7; (go_at_call 11; refine (cc.out _ (HI.out.below H.out.below (Nat.le_refl _))).mono ?_; rintro e _ ⟨rfl, hb⟩; replace H := hidp (H.out.call hb); clear cc; replace HS := hidp (HS.out.to hb); clear hb); (try simp only [Act.put, setIfInBounds_toArray, set_cons_zero, set_cons_succ]); have tk8 := hidp trivial))
          try clear tk8
          exact ⟨⟨i + 1, _, _, _, is, l, by go_num, by omega, HI2.out, rfl, HS.out, rfl, HST.out, H.out.tail⟩, by simp [intOf]; omega⟩
        | true =>
          rw [show evE e = 0 from by unfold evE; rw [hok]; rfl] at cc
          cases hst : stB e.kind with
          | false =>
            have hl : lasB e = false := by unfold lasB; rw [hst]; rfl
            have eE : (E == 0) = false := by rw [hl] at u1; simpa using u1
            have HST := hidp (U3.out (by rw [hl]; simp))
            have cs := cs9; rw [hst] at cs
            clear u1 U2 U3 hok hl cs9 hst h200
            have tk0 := hidp trivial
            go_wp2_with (first | (refine Rt.wpL_skip _ _ rfl rfl ?_) | (clear tk0; (refine wpL_idxR tyE rfl (.tmp 19) (.tmp 21) rfl BK off n _ i rfl rfl hlt ?_); (try simp only [Act.put, setIfInBounds_toArray, set_cons_zero, set_cons_succ]); have tk1 := hidp trivial) | (clear tk1; (refine wpL_atR tyE rfl (.tmp 24) rfl BK (off + 6 * i) e.row rfl rfl HRI.out ?_); (try simp only [Act.put, setIfInBounds_toArray, set_cons_zero, set_cons_succ]); have tk2 := hidp trivial) | (clear tk2; (refine Mm.new rtE H (some 11) rfl rfl rfl ?_; clear H; intro b11 _ H nw; have hb := nw.below; replace HS := hidp (HS.out.to hb); clear hb nw); (try simp only [Act.put, setIfInBounds_toArray, set_cons_zero, set_cons_succ]); have tk3 := hidp trivial) | (clear tk3; (refine Mm.put0 rtE H rfl (.tmp 11) (.tmp 25) e.row rfl rfl rfl rfl (Ev.one _) rfl ?_; intro _ H2 st; replace HS := hidp (HS.out.stpE (e := zEv) st H.out.at0); clear st H; have H := H2; clear H2); (try simp only [Act.put, setIfInBounds_toArray, set_cons_zero, set_cons_succ]); have tk4 := hidp trivial) | (clear tk4; (refine Mm.get0 rtE H rfl (.tmp 11) rfl rfl rfl ?_); (try simp only [Act.put, setIfInBounds_toArray, set_cons_zero, set_cons_succ]); have tk5 := hidp trivial) | (clear tk5; (go_at_call 5; refine (cz.out _ _ HS.out (HI.out.below H.out.below (Nat.le_refl _))).mono ?_; rintro x _ ⟨v1, rfl, hcs, hb⟩; obtain ⟨p1, q1, rfl⟩ := hcs.form; replace H := hidp (H.out.call hb); clear HS; have HS := hidp hcs; clear hcs hb cz); (try simp only [Act.put, setIfInBounds_toArray, set_cons_zero, set_cons_succ]); have tk6 := hidp trivial) | (clear tk6; (refine Mm.get0 rtE H rfl (.tmp 11) rfl rfl rfl ?_); (try simp only [Act.put, setIfInBounds_toArray, set_cons_zero, set_cons_succ]); have tk7 := hidp trivial) | (clear tk7; (go_at_call 11; refine (cc.out _ (HI.out.below H.out.below (Nat.le_refl _))).mono ?_; rintro e _ ⟨rfl, hb⟩; replace H := hidp (H.out.call hb); clear cc; replace HS := hidp (HS.out.to hb); clear hb); (try simp only [Act.put, setIfInBounds_toArray, set_cons_zero, set_cons_succ]); have tk8 := hidp trivial) | (clear tk8; (refine Mm.ld0 naK H rfl (.tmp 40) 2 (.int .u8 (e.kind : Int)) rfl rfl rfl ?_); (try simp only [Act.put, setIfInBounds_toArray, set_cons_zero, set_cons_succ]); have tk9 := hidp trivial) | (clear tk9; (go_at_call 12; refine (cs.out _).mono ?_; rintro e _ ⟨rfl, hb⟩; replace H := hidp (H.out.call hb); clear cs; replace HS := hidp (HS.out.to hb); clear hb); (try simp only [Act.put, setIfInBounds_toArray, set_cons_zero, set_cons_succ]); have tk10 := hidp trivial))
            try clear tk10
            exact ⟨⟨i + 1, _, _, _, is, l, by go_num, by omega, HI2.out, rfl, HS.out, rfl, HST.out, H.out.tail⟩, by simp [intOf]; omega⟩
          | true =>
            have hl : lasB e = true := by unfold lasB; rw [hst, hok]; rfl
            have eE : (E == 0) = true := by rw [hl] at u1; simpa using u1
            have cs := cs9; rw [hst] at cs
            clear cs9 hst hok u1 h200
            by_cases hk : e.kind = k
            · have ek : ((e.kind : Int) == (k : Int)) = true := by rw [hk]; simp
              by_cases hy : e.key = y
              · have ey : (e.key.toList == y.toList) = true := by rw [hy]; simp
                have HST := hidp (U2.out ⟨hl, hk, hy⟩)
                clear U2 U3 hl hk hy
                have tk0 := hidp trivial
                go_wp2_with (first | (refine Rt.wpL_skip _ _ rfl rfl ?_) | (clear tk0; (refine wpL_idxR tyE rfl (.tmp 19) (.tmp 21) rfl BK off n _ i rfl rfl hlt ?_); (try simp only [Act.put, setIfInBounds_toArray, set_cons_zero, set_cons_succ]); have tk1 := hidp trivial) | (clear tk1; (refine wpL_atR tyE rfl (.tmp 24) rfl BK (off + 6 * i) e.row rfl rfl HRI.out ?_); (try simp only [Act.put, setIfInBounds_toArray, set_cons_zero, set_cons_succ]); have tk2 := hidp trivial) | (clear tk2; (refine Mm.new rtE H (some 11) rfl rfl rfl ?_; clear H; intro b11 _ H nw; have hb := nw.below; replace HS := hidp (HS.out.to hb); clear hb nw); (try simp only [Act.put, setIfInBounds_toArray, set_cons_zero, set_cons_succ]); have tk3 := hidp trivial) | (clear tk3; (refine Mm.put0 rtE H rfl (.tmp 11) (.tmp 25) e.row rfl rfl rfl rfl (Ev.one _) rfl ?_; intro _ H2 st; replace HS := hidp (HS.out.stpE (e := zEv) st H.out.at0); clear st H; have H := H2; clear H2); (try simp only [Act.put, setIfInBounds_toArray, set_cons_zero, set_cons_succ]); have tk4 := hidp trivial) | (clear tk4; (refine Mm.get0 rtE H rfl (.tmp 11) rfl rfl rfl ?_); (try simp only [Act.put, setIfInBounds_toArray, set_cons_zero, set_cons_succ]); have tk5 := hidp trivial) | (clear tk5; (go_at_call 5; refine (cz.out _ _ HS.out (HI.out.below H.out.below (Nat.le_refl _))).mono ?_; rintro x _ ⟨v1, rfl, hcs, hb⟩; obtain ⟨p1, q1, rfl⟩ := hcs.form; replace H := hidp (H.out.call hb); clear HS; have HS := hidp hcs; clear hcs hb cz); (try simp only [Act.put, setIfInBounds_toArray, set_cons_zero, set_cons_succ]); have tk6 := hidp trivial) | (clear tk6; (refine Mm.get0 rtE H rfl (.tmp 11) rfl rfl rfl ?_); (try simp only [Act.put, setIfInBounds_toArray, set_cons_zero, set_cons_succ]); have tk7 := hidp trivial) | (clear tk7; (go_at_call 11; refine (cc.out _ (HI.out.below H.out.below (Nat.le_refl _))).mono ?_; rintro e _ ⟨rfl, hb⟩; replace H := hidp (H.out.call hb); clear cc; replace HS := hidp (HS.out.to hb); clear hb); (try simp only [Act.put, setIfInBounds_toArray, set_cons_zero, set_cons_succ]); have tk8 := hidp trivial) | (clear tk8; (refine Mm.ld0 naK H rfl (.tmp 40) 2 (.int .u8 (e.kind : Int)) rfl rfl rfl ?_); (try simp only [Act.put, setIfInBounds_toArray, set_cons_zero, set_cons_succ]); have tk9 := hidp trivial) | (clear tk9; (go_at_call 12; refine (cs.out _).mono ?_; rintro e _ ⟨rfl, hb⟩; replace H := hidp (H.out.call hb); clear cs; replace HS := hidp (HS.out.to hb); clear hb); (try simp only [Act.put, setIfInBounds_toArray, set_cons_zero, set_cons_succ]); have tk10 := hidp trivial) | (clear tk10; (refine Mm.ld0 naK H rfl (.tmp 48) 2 (.int .u8 (e.kind : Int)) rfl rfl rfl ?_); (try simp only [Act.put, setIfInBounds_toArray, set_cons_zero, set_cons_succ]); have tk11 := hidp trivial) | (clear tk11; (refine Mm.ld0 naS H rfl (.tmp 54) 3 (.string e.key) rfl rfl rfl ?_); (try simp only [Act.put, setIfInBounds_toArray, set_cons_zero, set_cons_succ]); have tk12 := hidp trivial) | (clear tk12; (refine Mm.get0 rtE H rfl (.tmp 11) rfl rfl rfl ?_); (try simp only [Act.put, setIfInBounds_toArray, set_cons_zero, set_cons_succ]); have tk13 := hidp trivial) | (clear tk13; (refine Mm.put1 rtE H rfl (.tmp 8) (.tmp 59) e.row rfl rfl rfl rfl (Ev.one _) rfl ?_; intro _ H2 st; replace HS := hidp (HS.out.stpE (e := l) st H.out.at1); clear st H; have H := H2; clear H2); (try simp only [Act.put, setIfInBounds_toArray, set_cons_zero, set_cons_succ]); have tk14 := hidp trivial))
                try clear tk14
                exact ⟨⟨i + 1, _, _, _, true, e, by go_num, by omega, HI2.out, rfl, HS.out, rfl, HST.out, H.out.tail⟩, by simp [intOf]; omega⟩
              · have ey : (e.key.toList == y.toList) = false := by rw [beq_eq_false_iff_ne]; exact fun g => hy (ba_inj' g)
                have HST := hidp (U3.out fun g => hy g.2.2)
                clear U2 U3 hl hk hy
                have tk0 := hidp trivial
                go_wp2_with (first | (refine Rt.wpL_skip _ _ rfl rfl ?_) | (clear tk0; (refine wpL_idxR tyE rfl (.tmp 19) (.tmp 21) rfl BK off n _ i rfl rfl hlt ?_); (try simp only [Act.put, setIfInBounds_toArray, set_cons_zero, set_cons_succ]); have tk1 := hidp trivial) | (clear tk1; (refine wpL_atR tyE rfl (.tmp 24) rfl BK (off + 6 * i) e.row rfl rfl HRI.out ?_); (try simp only [Act.put, setIfInBounds_toArray, set_cons_zero, set_cons_succ]); have tk2 := hidp trivial) | (clear tk2; (refine Mm.new rtE H (some 11) rfl rfl rfl ?_; clear H; intro b11 _ H nw; have hb := nw.below; replace HS := hidp (HS.out.to hb); clear hb nw); (try simp only [Act.put, setIfInBounds_toArray, set_cons_zero, set_cons_succ]); have tk3 := hidp trivial) | (clear tk3; (refine Mm.put0 rtE H rfl (.tmp 11) (.tmp 25) e.row rfl rfl rfl rfl (Ev.one _) rfl ?_; intro _ H2 st; replace HS := hidp (HS.out.stpE (e := zEv) st H.out.at0); clear st H; have H := H2; clear H2); (try simp only [Act.put, setIfInBounds_toArray, set_cons_zero, set_cons_succ]); have tk4 := hidp trivial) | (clear tk4; (refine Mm.get0 rtE H rfl (.tmp 11) rfl rfl rfl ?_); (try simp only [Act.put, setIfInBounds_toArray, set_cons_zero, set_cons_succ]); have tk5 := hidp trivial) | (clear tk5; (go_at_call 5; refine (cz.out _ _ HS.out (HI.out.below H.out.below (Nat.le_refl _))).mono ?_; rintro x _ ⟨v1, rfl, hcs, hb⟩; obtain ⟨p1, q1, rfl⟩ := hcs.form; replace H := hidp (H.out.call hb); clear HS; have HS := hidp hcs; clear hcs hb cz); (try simp only [Act.put, setIfInBounds_toArray, set_cons_zero, set_cons_succ]); have tk6 := hidp trivial) | (clear tk6; (refine Mm.get0 rtE H rfl (.tmp 11) rfl rfl rfl ?_); (try simp only [Act.put, setIfInBounds_toArray, set_cons_zero, set_cons_succ]); have tk7 := hidp trivial) | (clear tk7; (go_at_call 11; refine (cc.out _ (HI.out.below H.out.below (Nat.le_refl _))).mono ?_; rintro e _ ⟨rfl, hb⟩; replace H := hidp (H.out.call hb); clear cc; replace HS := hidp (HS.out.to hb); clear hb); (try simp only [Act.put, setIfInBounds_toArray, set_cons_zero, set_cons_succ]); have tk8 := hidp trivial) | (clear tk8; (refine Mm.ld0 naK H rfl (.tmp 40) 2 (.int .u8 (e.kind : Int)) rfl rfl rfl ?_); (try simp only [Act.put, setIfInBounds_toArray, set_cons_zero, set_cons_succ]); have tk9 := hidp trivial) | (clear tk9; (go_at_call 12; refine (cs.out _).mono ?_; rintro e _ ⟨rfl, hb⟩; replace H := hidp (H.out.call hb); clear cs; replace HS := hidp (HS.out.to hb); clear hb); (try simp only [Act.put, setIfInBounds_toArray, set_cons_zero, set_cons_succ]); have tk10 := hidp trivial) | (clear tk10; (refine Mm.ld0 naK H rfl (.tmp 48) 2 (.int .u8 (e.kind : Int)) rfl rfl rfl ?_); (try simp only [Act.put, setIfInBounds_toArray, set_cons_zero, set_cons_succ]); have tk11 := hidp trivial) | (clear tk11; (refine Mm.ld0 naS H rfl (.tmp 54) 3 (.string e.key) rfl rfl rfl ?_); (try simp only [Act.put, setIfInBounds_toArray, set_cons_zero, set_cons_succ]); have tk12 := hidp trivial))
                try clear tk12
                exact ⟨⟨i + 1, _, _, _, is, l, by go_num, by omega, HI2.out, rfl, HS.out, rfl, HST.out, H.out.tail⟩, by simp [intOf]; omega⟩
            · have ek : ((e.kind : Int) == (k : Int)) = false := by rw [beq_eq_false_iff_ne]; omega
              have HST := hidp (U3.out fun g => hk g.2.1)
              clear U2 U3 hl hk
              have tk0 := hidp trivial
              go_wp2_with (first | (refine Rt.wpL_skip _ _ rfl rfl ?_) | (clear tk0; (refine wpL_idxR tyE rfl (.tmp 19) (.tmp 21) rfl BK off n _ i rfl rfl hlt ?_); (try simp only [Act.put, setIfInBounds_toArray, set_cons_zero, set_cons_succ]); have tk1 := hidp trivial) | (clear tk1; (refine wpL_atR tyE rfl (.tmp 24) rfl BK (off + 6 * i) e.row rfl rfl HRI.out ?_); (try simp only [Act.put, setIfInBounds_toArray, set_cons_zero, set_cons_succ]); have tk2 := hidp trivial) | (clear tk2; (refine Mm.new rtE H (some 11) rfl rfl rfl ?_; clear H; intro b11 _ H nw; have hb := nw.below; replace HS := hidp (HS.out.to hb); clear hb nw); (try simp only [Act.put, setIfInBounds_toArray, set_cons_zero, set_cons_succ]); have tk3 := hidp trivial) | (clear tk3; (refine Mm.put0 rtE H rfl (.tmp 11) (.tmp 25) e.row rfl rfl rfl rfl (Ev.one _) rfl ?_; intro _ H2 st; replace HS := hidp (HS.out.stpE (e := zEv) st H.out.at0); clear st H; have H := H2; clear H2); (try simp only [Act.put, setIfInBounds_toArray, set_cons_zero, set_cons_succ]); have tk4 := hidp trivial) | (clear tk4; (refine Mm.get0 rtE H rfl (.tmp 11) rfl rfl rfl ?_); (try simp only [Act.put, setIfInBounds_toArray, set_cons_zero, set_cons_succ]); have tk5 := hidp trivial) | (clear tk5; (go_at_call 5; refine (cz.out _ _ HS.out (HI.out.below H.out.below (Nat.le_refl _))).mono ?_; rintro x _ ⟨v1, rfl, hcs, hb⟩; obtain ⟨p1, q1, rfl⟩ := hcs.form; replace H := hidp (H.out.call hb); clear HS; have HS := hidp hcs; clear hcs hb cz); (try simp only [Act.put, setIfInBounds_toArray, set_cons_zero, set_cons_succ]); have tk6 := hidp trivial) | (clear tk6; (refine Mm.get0 rtE H rfl (.tmp 11) rfl rfl rfl ?_); (try simp only [Act.put, setIfInBounds_toArray, set_cons_zero, set_cons_succ]); have tk7 := hidp trivial) | (clear tk7; (go_at_call 11; refine (cc.out _ (HI.out.below H.out.below (Nat.le_refl _))).mono ?_; rintro e _ ⟨rfl, hb⟩; replace H := hidp (H.out.call hb); clear cc; replace HS := hidp (HS.out.to hb); clear hb); (try simp only [Act.put, setIfInBounds_toArray, set_cons_zero, set_cons_succ]); have tk8 := hidp trivial) | (clear tk8; (refine Mm.ld0 naK H rfl (.tmp 40) 2 (.int .u8 (e.kind : Int)) rfl rfl rfl ?_); (try simp only [Act.put, setIfInBounds_toArray, set_cons_zero, set_cons_succ]); have tk9 := hidp trivial) | (clear tk9; (go_at_call 12; refine (cs.out _).mono ?_; rintro e _ ⟨rfl, hb⟩; replace H := hidp (H.out.call hb); clear cs; replace HS := hidp (HS.out.to hb); clear hb); (try simp only [Act.put, setIfInBounds_toArray, set_cons_zero, set_cons_succ]); have tk10 := hidp trivial) | (clear tk10; (refine Mm.ld0 naK H rfl (.tmp 48) 2 (.int .u8 (e.kind : Int)) rfl rfl rfl ?_); (try simp only [Act.put, setIfInBounds_toArray, set_cons_zero, set_cons_succ]); have tk11 := hidp trivial))
              try clear tk11
              exact ⟨⟨i + 1, _, _, _, is, l, by go_num, by omega, HI2.out, rfl, HS.out, rfl, HST.out, H.out.tail⟩, by simp [intOf]; omega⟩
    · have e1 : decide ((i : Int) < (n : Int)) = false := by simp; omega
      have HO0 := HLA.out
      obtain ⟨o1, o2, o3, o4⟩ := HO0
      have cg := hidp (fun W v h h' => (show Calls Tryd.prog 13 #[v, .int .u8 (k : Int), .string y] W fun x w' => x = .returned (.tuple #[.agg l.row.toArray, .int .i64 (if is = true then 0 else 3)]) ∧ Below W.heap.size W w' from by
        have := get_any W v cs h k y h'
        rw [show geV cs k y = l from by unfold geV; rw [if_pos o1]; exact o4.symm, show geE cs k y = (if is = true then 0 else 3) from by unfold geE; rw [if_pos o1, o3]] at this
        exact this))
      have ck := hidp (fun W v h h' => (show Calls Tryd.prog 8 #[v] W fun x w' => x = .returned (.int .i64 0) ∧ Below W.heap.size W w' from by
        have := stCheck_any W v cs h h'
        rw [show ckS cs = 0 from if_pos o1] at this; exact this))
      have q1 := fun W => eq_ev W l
      have q2 := fun W => eqin_ev W l
      clear o1 o2 o3 o4 HLA
      cases is with
      | true =>
        simp only [if_true] at cg
        have tk0 := hidp trivial
        go_wp2_with (first | (clear tk0; (go_at_call 13; refine (cg.out _ _ HS.out (HI.out.below H.out.below (Nat.le_refl _))).mono ?_; rintro e _ ⟨rfl, hb⟩; replace H := hidp (H.out.call hb); clear cg; replace HS := hidp (HS.out.to hb); clear hb); (try simp only [Act.put, setIfInBounds_toArray, set_cons_zero, set_cons_succ]); have tk1 := hidp trivial) | (clear tk1; (refine Mm.new rtE H (some 14) rfl rfl rfl ?_; clear H; intro b14 _ H nw; have hb := nw.below; replace HS := hidp (HS.out.to hb); clear hb nw); (try simp only [Act.put, setIfInBounds_toArray, set_cons_zero, set_cons_succ]); have tk2 := hidp trivial) | (clear tk2; (refine Mm.put0 rtE H rfl (.tmp 14) (.tmp 67) l.row rfl rfl rfl rfl (Ev.one _) rfl ?_; intro _ H2 st; replace HS := hidp (HS.out.stpE (e := zEv) st H.out.at0); clear st H; have H := H2; clear H2); (try simp only [Act.put, setIfInBounds_toArray, set_cons_zero, set_cons_succ]); have tk3 := hidp trivial) | (clear tk3; (refine Mm.get0 rtE H rfl (.tmp 14) rfl rfl rfl ?_); (try simp only [Act.put, setIfInBounds_toArray, set_cons_zero, set_cons_succ]); have tk4 := hidp trivial) | (clear tk4; (refine Mm.get1 rtE H rfl (.tmp 8) rfl rfl rfl ?_); (try simp only [Act.put, setIfInBounds_toArray, set_cons_zero, set_cons_succ]); have tk5 := hidp trivial) | (clear tk5; (go_at_call 8; refine (ck.out _ _ HS.out (HI.out.below H.out.below (Nat.le_refl _))).mono ?_; rintro e _ ⟨rfl, hb⟩; replace H := hidp (H.out.call hb); clear ck; replace HS := hidp (HS.out.to hb); clear hb); (try simp only [Act.put, setIfInBounds_toArray, set_cons_zero, set_cons_succ]); have tk6 := hidp trivial))
        try clear tk6
        go_ret
        exact ⟨rfl, H.out.below⟩
      | false =>
        simp only [Bool.false_eq_true, if_false] at cg
        have tk0 := hidp trivial
        go_wp2_with (first | (clear tk0; (go_at_call 13; refine (cg.out _ _ HS.out (HI.out.below H.out.below (Nat.le_refl _))).mono ?_; rintro e _ ⟨rfl, hb⟩; replace H := hidp (H.out.call hb); clear cg; replace HS := hidp (HS.out.to hb); clear hb); (try simp only [Act.put, setIfInBounds_toArray, set_cons_zero, set_cons_succ]); have tk1 := hidp trivial) | (clear tk1; (refine Mm.new rtE H (some 14) rfl rfl rfl ?_; clear H; intro b14 _ H nw; have hb := nw.below; replace HS := hidp (HS.out.to hb); clear hb nw); (try simp only [Act.put, setIfInBounds_toArray, set_cons_zero, set_cons_succ]); have tk2 := hidp trivial) | (clear tk2; (refine Mm.put0 rtE H rfl (.tmp 14) (.tmp 67) l.row rfl rfl rfl rfl (Ev.one _) rfl ?_; intro _ H2 st; replace HS := hidp (HS.out.stpE (e := zEv) st H.out.at0); clear st H; have H := H2; clear H2); (try simp only [Act.put, setIfInBounds_toArray, set_cons_zero, set_cons_succ]); have tk3 := hidp trivial) | (clear tk3; (refine Mm.get0 rtE H rfl (.tmp 14) rfl rfl rfl ?_); (try simp only [Act.put, setIfInBounds_toArray, set_cons_zero, set_cons_succ]); have tk4 := hidp trivial) | (clear tk4; (refine Mm.get1 rtE H rfl (.tmp 8) rfl rfl rfl ?_); (try simp only [Act.put, setIfInBounds_toArray, set_cons_zero, set_cons_succ]); have tk5 := hidp trivial) | (clear tk5; (go_at_call 8; refine (ck.out _ _ HS.out (HI.out.below H.out.below (Nat.le_refl _))).mono ?_; rintro e _ ⟨rfl, hb⟩; replace H := hidp (H.out.call hb); clear ck; replace HS := hidp (HS.out.to hb); clear hb); (try simp only [Act.put, setIfInBounds_toArray, set_cons_zero, set_cons_succ]); have tk6 := hidp trivial))
        try clear tk6
        go_ret
        exact ⟨rfl, H.out.below⟩
theorem walk_stateLast (w : World) (v : Value) (es : List Ev) (hv : EsAt w v es) (a : Int) (wa : (Lit.int .u8 a).wf = true) (y : ByteArray) (hy : y.size ≤ 140737488351232) (hI : IT w) :
    Calls Tryd.prog 4 #[v, .int .u8 a, .string y] w fun x w' => x = .returned (.bool true) ∧ Below w.heap.size w w' := by
  obtain ⟨k, rfl, -⟩ := u8_nat wa
  exact stateLast_nat w v es hv k y hI
end Go.Proofs.YtiakfopdohcigaaDoor
