
/-
  fold: Check, Run.
-/
import Derived.Test.YtkcgmimcopoknaaGreatDoorFoB
import Derived.Test.YtkcgmimcopoknaaGreatDoorFoO
namespace Go.Proofs.YtkcgmimcopoknaaGreatDoor
set_option maxRecDepth 100000
set_option linter.unusedVariables false
set_option linter.unusedSimpArgs false
open Go.RowKit Rw
open List (getElem_toArray getElem_cons_zero getElem_cons_succ setIfInBounds_toArray set_cons_zero set_cons_succ)

theorem ret_rowvv {P : Program} {T k : Nat} {z : List Value} {w : World} (R : Rt.RT P T k z) {fn : Func} {p u q : Tmp} (hr : fn.results = #[.cell p T, .tmp u, .tmp q]) (tmps : Array Value) (b : Nat) (xs : List Value) (v x : Value) (hp : tmps.getD p undef = .pointer (some ⟨b, 0, none⟩)) (hv : tmps.getD u undef = v) (hx : tmps.getD q undef = x) (ha : Arr w b T xs) (hl : xs.length = k) : (results fn tmps).run P w = .ok (.tuple #[.agg xs.toArray, v, x]) w := by
  have hp' : tmps[p]?.getD undef = .pointer (some ⟨b, 0, none⟩) := by simpa using hp
  have hv' : tmps[u]?.getD undef = v := by simpa using hv
  have hx' : tmps[q]?.getD undef = x := by simpa using hx
  rcases R.ut with ⟨fs, hu⟩ | ⟨n, e, hu⟩
  · have e2 := run_loadVar_row (P := P) w b T T xs.toArray (0, 0) _ ha hu rfl (R.size hl)
    simp [results, hr, hp', hv', hx', asAddr, e2]
  · have e2 := run_loadVar_row (P := P) w b T T xs.toArray (0, 0) _ ha hu rfl (R.size hl)
    simp [results, hr, hp', hv', hx', asAddr, e2]
def rkE (r : Rm) : Int := if r.h < 0 ∨ 63 < r.h ∨ r.ep < 0 ∨ r.n < r.ep ∨ 4096 < r.n then 2 else ckS r.cs

set_option maxHeartbeats 8000000 in
theorem foldCheck_any (w : World) (v : Value) (cs : List Ce) (hv : CsAt w v cs) (h ep n : Int) (hP : PT w) :
    Calls Tryz.prog 39 #[.agg #[v, .int .i64 h, .int .i64 ep, .int .i64 n]] w fun x w' => x = .returned (.int .i64 (rkE ⟨cs, h, ep, n⟩)) ∧ Below w.heap.size w w' := by
  have HP := hidp hP; have HV := hidp hv
  have ck := hidp (fun W h h' => stCheck_any W v cs h h')
  obtain ⟨a0, c0, hv0⟩ := hv.form
  obtain ⟨m, hm⟩ : ∃ m, cs.length = m := ⟨_, rfl⟩
  rw [hm] at hv0
  subst hv0
  clear hm hP
  have H := hidp (Mm.M.nil w)
  by_cases hc0 : h < 0
  · have HF := hidp (show rkE ⟨cs, h, ep, n⟩ = 2 from if_pos (by simp only; omega))
    have d0 : decide (h < 0) = true := decide_eq_true hc0
    have g0 : decide (h < 0) = true := d0
    clear hv ck hc0
    go_enter Tryz.func39, Tryz.ntmps39
    go_wp2_with (first | (refine Rt.wpL_skip _ _ rfl rfl ?_) | (refine Mm.box 35 H rfl (.tmp 0) rfl [.slice a0 m c0, .int .i64 h, .int .i64 ep, .int .i64 n] rfl ?_; clear H; intro b1 _ H nw; have hb := nw.below; clear hb nw) | (refine Mm.ld0 naInt H rfl (.tmp 3) 1 (.int .i64 h) rfl rfl rfl ?_))
    go_ret
    exact ⟨by rw [HF.out]; rfl, H.out.below⟩
  · skip
    have d0 : decide (h < 0) = false := decide_eq_false hc0
    have g0 : decide (h < 0) = false := d0
    by_cases hc1 : 63 < h
    · have HF := hidp (show rkE ⟨cs, h, ep, n⟩ = 2 from if_pos (by simp only; omega))
      have d1 : decide (63 < h) = true := decide_eq_true hc1
      have g1 : decide (h > 63) = true := d1
      clear hv ck hc0 hc1
      go_enter Tryz.func39, Tryz.ntmps39
      go_wp2_with (first | (refine Rt.wpL_skip _ _ rfl rfl ?_) | (refine Mm.box 35 H rfl (.tmp 0) rfl [.slice a0 m c0, .int .i64 h, .int .i64 ep, .int .i64 n] rfl ?_; clear H; intro b1 _ H nw; have hb := nw.below; clear hb nw) | (refine Mm.ld0 naInt H rfl (.tmp 3) 1 (.int .i64 h) rfl rfl rfl ?_) | (refine Mm.ld0 naInt H rfl (.tmp 7) 1 (.int .i64 h) rfl rfl rfl ?_))
      go_ret
      exact ⟨by rw [HF.out]; rfl, H.out.below⟩
    · skip
      have d1 : decide (63 < h) = false := decide_eq_false hc1
      have g1 : decide (h > 63) = false := d1
      by_cases hc2 : ep < 0
      · have HF := hidp (show rkE ⟨cs, h, ep, n⟩ = 2 from if_pos (by simp only; omega))
        have d2 : decide (ep < 0) = true := decide_eq_true hc2
        have g2 : decide (ep < 0) = true := d2
        clear hv ck hc0 hc1 hc2
        go_enter Tryz.func39, Tryz.ntmps39
        go_wp2_with (first | (refine Rt.wpL_skip _ _ rfl rfl ?_) | (refine Mm.box 35 H rfl (.tmp 0) rfl [.slice a0 m c0, .int .i64 h, .int .i64 ep, .int .i64 n] rfl ?_; clear H; intro b1 _ H nw; have hb := nw.below; clear hb nw) | (refine Mm.ld0 naInt H rfl (.tmp 3) 1 (.int .i64 h) rfl rfl rfl ?_) | (refine Mm.ld0 naInt H rfl (.tmp 7) 1 (.int .i64 h) rfl rfl rfl ?_) | (refine Mm.ld0 naInt H rfl (.tmp 12) 2 (.int .i64 ep) rfl rfl rfl ?_))
        go_ret
        exact ⟨by rw [HF.out]; rfl, H.out.below⟩
      · skip
        have d2 : decide (ep < 0) = false := decide_eq_false hc2
        have g2 : decide (ep < 0) = false := d2
        by_cases hc3 : n < ep
        · have HF := hidp (show rkE ⟨cs, h, ep, n⟩ = 2 from if_pos (by simp only; omega))
          have d3 : decide (n < ep) = true := decide_eq_true hc3
          have g3 : decide (ep > n) = true := d3
          clear hv ck hc0 hc1 hc2 hc3
          go_enter Tryz.func39, Tryz.ntmps39
          go_wp2_with (first | (refine Rt.wpL_skip _ _ rfl rfl ?_) | (refine Mm.box 35 H rfl (.tmp 0) rfl [.slice a0 m c0, .int .i64 h, .int .i64 ep, .int .i64 n] rfl ?_; clear H; intro b1 _ H nw; have hb := nw.below; clear hb nw) | (refine Mm.ld0 naInt H rfl (.tmp 3) 1 (.int .i64 h) rfl rfl rfl ?_) | (refine Mm.ld0 naInt H rfl (.tmp 7) 1 (.int .i64 h) rfl rfl rfl ?_) | (refine Mm.ld0 naInt H rfl (.tmp 12) 2 (.int .i64 ep) rfl rfl rfl ?_) | (refine Mm.ld0 naInt H rfl (.tmp 17) 2 (.int .i64 ep) rfl rfl rfl ?_) | (refine Mm.ld0 naInt H rfl (.tmp 19) 3 (.int .i64 n) rfl rfl rfl ?_))
          go_ret
          exact ⟨by rw [HF.out]; rfl, H.out.below⟩
        · skip
          have d3 : decide (n < ep) = false := decide_eq_false hc3
          have g3 : decide (ep > n) = false := d3
          by_cases hc4 : 4096 < n
          · have HF := hidp (show rkE ⟨cs, h, ep, n⟩ = 2 from if_pos (by simp only; omega))
            have d4 : decide (4096 < n) = true := decide_eq_true hc4
            have g4 : decide (n > 4096) = true := d4
            clear hv ck hc0 hc1 hc2 hc3 hc4
            go_enter Tryz.func39, Tryz.ntmps39
            go_wp2_with (first | (refine Rt.wpL_skip _ _ rfl rfl ?_) | (refine Mm.box 35 H rfl (.tmp 0) rfl [.slice a0 m c0, .int .i64 h, .int .i64 ep, .int .i64 n] rfl ?_; clear H; intro b1 _ H nw; have hb := nw.below; clear hb nw) | (refine Mm.ld0 naInt H rfl (.tmp 3) 1 (.int .i64 h) rfl rfl rfl ?_) | (refine Mm.ld0 naInt H rfl (.tmp 7) 1 (.int .i64 h) rfl rfl rfl ?_) | (refine Mm.ld0 naInt H rfl (.tmp 12) 2 (.int .i64 ep) rfl rfl rfl ?_) | (refine Mm.ld0 naInt H rfl (.tmp 17) 2 (.int .i64 ep) rfl rfl rfl ?_) | (refine Mm.ld0 naInt H rfl (.tmp 19) 3 (.int .i64 n) rfl rfl rfl ?_) | (refine Mm.ld0 naInt H rfl (.tmp 24) 3 (.int .i64 n) rfl rfl rfl ?_))
            go_ret
            exact ⟨by rw [HF.out]; rfl, H.out.below⟩
          · skip
            have d4 : decide (4096 < n) = false := decide_eq_false hc4
            have g4 : decide (n > 4096) = false := d4
            have HF := hidp (show rkE ⟨cs, h, ep, n⟩ = ckS cs from if_neg (by simp only; omega))
            clear hv hc0 hc1 hc2 hc3 hc4
            go_enter Tryz.func39, Tryz.ntmps39
            go_wp2_with (first | (refine Rt.wpL_skip _ _ rfl rfl ?_) | (refine Mm.box 35 H rfl (.tmp 0) rfl [.slice a0 m c0, .int .i64 h, .int .i64 ep, .int .i64 n] rfl ?_; clear H; intro b1 _ H nw; have hb := nw.below; clear hb nw) | (refine Mm.ld0 naInt H rfl (.tmp 3) 1 (.int .i64 h) rfl rfl rfl ?_) | (refine Mm.ld0 naInt H rfl (.tmp 7) 1 (.int .i64 h) rfl rfl rfl ?_) | (refine Mm.ld0 naInt H rfl (.tmp 12) 2 (.int .i64 ep) rfl rfl rfl ?_) | (refine Mm.ld0 naInt H rfl (.tmp 17) 2 (.int .i64 ep) rfl rfl rfl ?_) | (refine Mm.ld0 naInt H rfl (.tmp 19) 3 (.int .i64 n) rfl rfl rfl ?_) | (refine Mm.ld0 naInt H rfl (.tmp 24) 3 (.int .i64 n) rfl rfl rfl ?_) | (refine Mm.ld0 naSl H rfl (.tmp 28) 0 (.slice a0 m c0) rfl rfl rfl ?_) | (go_at_call 26; refine (ck.out _ (HV.out.to H.out.below) (HP.out.1.below H.out.below (Nat.le_refl _))).mono ?_; rintro e _ ⟨rfl, hb⟩; replace H := hidp (H.out.call hb); clear hb))
            go_ret
            exact ⟨by rw [HF.out]; rfl, H.out.below⟩

theorem spR_num {r : Rm} {e : Ev} (h : spE r e = 0) : (spR r e).n = r.n + 1 ∧ r.ep ≤ (spR r e).ep ∧ (spR r e).ep ≤ r.ep + 1 := by
  unfold spR
  rw [if_pos h]
  refine ⟨rfl, ?_, ?_⟩
  · show r.ep ≤ (hubK (r.h, r.ep) e).2
    unfold hubK; split
    · simp
    · split <;> simp; omega
  · show (hubK (r.h, r.ep) e).2 ≤ r.ep + 1
    unfold hubK; split
    · simp; omega
    · split <;> simp; omega
/-- What the rounds keep of the whole run. -/
def rnAt (es : List Ev) (r : Rm) (i : Nat) : Prop := rn rm0 es = ((rn r (es.drop i)).1, i + (rn r (es.drop i)).2.1, (rn r (es.drop i)).2.2)
theorem rnAt_0 (es : List Ev) : rnAt es rm0 0 := by unfold rnAt; simp
theorem rnAt_end {es : List Ev} {r : Rm} (h : rnAt es r es.length) : rn rm0 es = (r, es.length, 0) := by
  unfold rnAt at h; rw [List.drop_length, rn_nil] at h; exact h
theorem rnAt_no {es : List Ev} {r : Rm} {i : Nat} (h : rnAt es r i) (hi : i < es.length) (hz : spE r es[i] ≠ 0) : rn rm0 es = (r, i, spE r es[i]) := by
  unfold rnAt at h; rw [List.drop_eq_getElem_cons hi, rn_no hz] at h; exact h
theorem rnAt_yes {es : List Ev} {r : Rm} {i : Nat} (h : rnAt es r i) (hi : i < es.length) (hz : spE r es[i] = 0) : rnAt es (spR r es[i]) (i + 1) := by
  unfold rnAt at h ⊢; rw [List.drop_eq_getElem_cons hi, rn_yes hz] at h; rw [h]; simp only [Prod.mk.injEq, true_and, and_true]; omega
def numR (r : Rm) (i : Nat) : Prop := r.n = (i : Int) ∧ 0 ≤ r.ep ∧ r.ep ≤ (i : Int)
set_option maxHeartbeats 16000000 in
theorem run_any (w : World) (v : Value) (es : List Ev) (hv : EsAt w v es) (hP : PT w) :
    Calls Tryz.prog 13 #[v] w fun x w' => ∃ v', x = .returned (.tuple #[.agg #[v', .int .i64 (rn rm0 es).1.h, .int .i64 (rn rm0 es).1.ep, .int .i64 (rn rm0 es).1.n], .int .i64 (((rn rm0 es).2.1 : Nat) : Int), .int .i64 (rn rm0 es).2.2]) ∧ CsAt w' v' (rn rm0 es).1.cs ∧ Below w.heap.size w w' := by
  have HP := hidp hP; have HV := hidp hv
  obtain ⟨av, cv, rfl⟩ := HV.out.form
  have h47 := HV.out.len
  obtain ⟨n, hn⟩ : ∃ n, es.length = n := ⟨_, rfl⟩
  have HN := hidp hn
  rw [hn] at HV h47 ⊢
  clear hn hP hv
  have H := hidp (Mm.M.nil w)
  go_enter Tryz.func13, Tryz.ntmps13
  go_wp2_with (first | (refine Mm.new rtR H (some 2) rfl rfl rfl ?_; clear H; intro b2 _ H nw; have hb := nw.below; clear hb nw) | (refine Mm.new rtR H (some 5) rfl rfl rfl ?_; clear H; intro b5 _ H nw; have hb := nw.below; clear hb nw))
  go_loopw [11] (fun t11 wr => ∃ (i : Nat) (rr : Rm) (a1 : Option Addr) (n1 c1 : Nat), t11 = .int .i64 (i : Int) ∧ i ≤ n ∧ Hid (rnAt es rr i) ∧ numR rr i ∧ Hid (fitC rr.cs) ∧ CsAt wr (.slice a1 n1 c1) rr.cs ∧ Mm.M w.heap.size w wr [⟨b5, 35, [.slice a1 n1 c1, .int .i64 rr.h, .int .i64 rr.ep, .int .i64 rr.n]⟩, ⟨b2, 35, zR⟩]) (fun t11 _ => n - (intOf t11).toNat)
  case atStart => exact ⟨0, rm0, none, 0, 0, rfl, by omega, hidp (rnAt_0 es), ⟨rfl, by decide, by decide⟩, hidp (fun c hc => by cases hc), CsAt.nil _, H.out⟩
  case round =>
    clear H
    obtain ⟨i, ⟨cs0, h0, p0, k0⟩, a1, n1, c1, rfl, hi, HR1, hnum, HF1, hS, hM⟩ := hrel
    have H := hidp hM; have HS := hidp hS
    clear hM hS
    simp only [] at H HS HF1
    by_cases hlt : i < n
    · have e1 : decide ((i : Int) < (n : Int)) = true := by simp; omega
      have hgl : i < es.length := by rw [HN.out]; exact hlt
      obtain ⟨BK, off, c, e2, hc, hBK0, hR0⟩ := HV.out.get (by rw [HN.out]; omega)
      rw [HN.out] at e2
      simp only [Value.slice.injEq] at e2
      obtain ⟨rfl, -, rfl⟩ := e2
      obtain ⟨e, hge⟩ : ∃ e, es[i] = e := ⟨_, rfl⟩
      have HRI := hidp (show wr.rangeAt BK (off + 6 * i) e.row from by rw [← hge]; exact rangeAt_below (hR0 i hgl) H.out.below hBK0)
      have hfit : e.fit := by rw [← hge]; exact HV.out.fit _ (List.getElem_mem hgl)
      obtain ⟨m1, m2, m3⟩ := hnum
      simp only at m1 m2 m3
      have cst := hidp (fun W h hp => step_any W (.slice a1 n1 c1) cs0 h HF1.out h0 p0 k0 (by omega) (by omega) e hfit hp)
      by_cases hz : spE ⟨cs0, h0, p0, k0⟩ e = 0
      · rw [hz] at cst
        have HR2 := hidp (show rnAt es (spR ⟨cs0, h0, p0, k0⟩ e) (i + 1) from by have := rnAt_yes HR1.out hgl (by rw [hge]; exact hz); rw [hge] at this; exact this)
        have HF2 := hidp (spR_fit (r := ⟨cs0, h0, p0, k0⟩) HF1.out hfit)
        have hnm := spR_num hz
        obtain ⟨R2, hR2⟩ : ∃ R, spR ⟨cs0, h0, p0, k0⟩ e = R := ⟨_, rfl⟩
        rw [hR2] at cst HR2 HF2 hnm
        obtain ⟨cs2, h2, p2, k2⟩ := R2
        simp only at hnm
        have HB2 : numR ⟨cs2, h2, p2, k2⟩ (i + 1) := ⟨by show k2 = _; rw [hnm.1, m1]; push_cast; rfl, by show 0 ≤ p2; omega, by show p2 ≤ _; push_cast; omega⟩
        simp only [] at cst HF2
        clear hR0 hBK0 hge hc hz hR2 hnm m1 m2 m3 hfit HR1 HF1 hgl
        go_wp2_with (first | (refine wpL_idxR tyE rfl (.tmp 9) (.tmp 11) rfl BK off n _ i rfl rfl hlt ?_) | (refine wpL_atR tyE rfl (.tmp 14) rfl BK (off + 6 * i) e.row rfl rfl HRI.out ?_) | (refine Mm.new rtE H (some 7) rfl rfl rfl ?_; clear H; intro b7 _ H nw; have hb := nw.below; have hfar := hidp (HS.out.far nw.le); replace HS := hidp (HS.out.to hb); clear hb nw) | (refine Mm.put0 rtE H rfl (.tmp 7) (.tmp 15) e.row rfl rfl rfl rfl (Ev.one _) rfl ?_; intro _ H2 st; replace HS := hidp (HS.out.stpN st hfar.out); clear st H; have H := H2; clear H2) | (refine Mm.get1 rtR H rfl (.tmp 5) rfl rfl rfl ?_) | (refine Mm.get0 rtE H rfl (.tmp 7) rfl rfl rfl ?_) | (go_at_call 40; refine (cst.out _ HS.out (HP.out.below H.out.below (Nat.le_refl _))).mono ?_; rintro x _ ⟨v3, rfl, hcs, hb⟩; obtain ⟨a3, c3, rfl⟩ := hcs.form; replace H := hidp (H.out.call hb); clear HS; have HS := hidp hcs; clear hcs hb cst) | (refine Mm.put1 rtR H rfl (.tmp 5) (.tmp 20) [.slice a3 cs2.length c3, .int .i64 h2, .int .i64 p2, .int .i64 k2] rfl rfl rfl rfl (by simp [Value.oneCell']) rfl ?_; intro _ H2 st; replace HS := hidp (HS.out.stp st H.out.at1 (by simp)); clear st H; have H := H2; clear H2))
        exact ⟨⟨i + 1, ⟨cs2, h2, p2, k2⟩, a3, _, c3, by go_num, by omega, HR2.out, HB2, HF2.out, HS.out, H.out.tail⟩, by simp [intOf]; omega⟩
      · have HF := hidp (show rn rm0 es = (⟨cs0, h0, p0, k0⟩, i, spE ⟨cs0, h0, p0, k0⟩ e) from by have := rnAt_no HR1.out hgl (by rw [hge]; exact hz); rw [hge] at this; exact this)
        rw [spR_no hz] at cst
        obtain ⟨Z, hZ⟩ : ∃ Z, spE ⟨cs0, h0, p0, k0⟩ e = Z := ⟨_, rfl⟩
        rw [hZ] at cst HF hz
        simp only [] at cst
        have z1 : (Z != 0) = true := by simpa using hz
        have z2 : (Z == 0) = false := by simpa using hz
        clear hR0 hBK0 hge hc hz hZ m1 m2 m3 hfit HR1 HF1 hgl
        go_wp2_with (first | (refine wpL_idxR tyE rfl (.tmp 9) (.tmp 11) rfl BK off n _ i rfl rfl hlt ?_) | (refine wpL_atR tyE rfl (.tmp 14) rfl BK (off + 6 * i) e.row rfl rfl HRI.out ?_) | (refine Mm.new rtE H (some 7) rfl rfl rfl ?_; clear H; intro b7 _ H nw; have hb := nw.below; have hfar := hidp (HS.out.far nw.le); replace HS := hidp (HS.out.to hb); clear hb nw) | (refine Mm.put0 rtE H rfl (.tmp 7) (.tmp 15) e.row rfl rfl rfl rfl (Ev.one _) rfl ?_; intro _ H2 st; replace HS := hidp (HS.out.stpN st hfar.out); clear st H; have H := H2; clear H2) | (refine Mm.get1 rtR H rfl (.tmp 5) rfl rfl rfl ?_) | (refine Mm.get0 rtE H rfl (.tmp 7) rfl rfl rfl ?_) | (go_at_call 40; refine (cst.out _ HS.out (HP.out.below H.out.below (Nat.le_refl _))).mono ?_; rintro x _ ⟨v3, rfl, hcs, hb⟩; obtain ⟨a3, c3, rfl⟩ := hcs.form; replace H := hidp (H.out.call hb); clear HS; have HS := hidp hcs; clear hcs hb cst) | (refine Mm.put1 rtR H rfl (.tmp 5) (.tmp 20) [.slice a3 cs0.length c3, .int .i64 h0, .int .i64 p0, .int .i64 k0] rfl rfl rfl rfl (by simp [Value.oneCell']) rfl ?_; intro _ H2 st; replace HS := hidp (HS.out.stp st H.out.at1 (by simp)); clear st H; have H := H2; clear H2) | (refine Mm.get1 rtR H rfl (.tmp 5) rfl rfl rfl ?_) | (refine Mm.put2 rtR H rfl (.tmp 2) (.tmp 24) [.slice a3 cs0.length c3, .int .i64 h0, .int .i64 p0, .int .i64 k0] rfl rfl rfl rfl (by simp [Value.oneCell']) rfl ?_; intro _ H2 st; replace HS := hidp (HS.out.stp st H.out.at2 (by simp [zR])); clear st H; have H := H2; clear H2))
        refine bodyPost_ret (ret_rowvv rtR Tryz.results13 _ b2 _ _ _ rfl rfl rfl H.out.at2 rfl) rfl ⟨_, by rw [HF.out] <;> rfl, by rw [HF.out]; exact HS.out, H.out.below⟩
    · have e1 : decide ((i : Int) < (n : Int)) = false := by simp; omega
      have hin : i = n := by omega
      have HF := hidp (show rn rm0 es = (⟨cs0, h0, p0, k0⟩, n, 0) from by have := rnAt_end (es := es) (r := ⟨cs0, h0, p0, k0⟩) (by rw [HN.out, ← hin]; exact HR1.out); rw [HN.out] at this; exact this)
      clear hnum HR1 HF1 hin
      go_wp2_with (first | (refine Mm.get0 rtR H rfl (.tmp 5) rfl rfl rfl ?_) | (refine Mm.put1 rtR H rfl (.tmp 2) (.tmp 28) [.slice a1 n1 c1, .int .i64 h0, .int .i64 p0, .int .i64 k0] rfl rfl rfl rfl (by simp [Value.oneCell']) rfl ?_; intro _ H2 st; replace HS := hidp (HS.out.stp st H.out.at1 (by simp [zR])); clear st H; have H := H2; clear H2))
      refine bodyPost_ret (ret_rowvv rtR Tryz.results13 _ b2 _ _ _ rfl rfl rfl H.out.at1 rfl) rfl ⟨_, by rw [HF.out] <;> rfl, by rw [HF.out]; exact HS.out, H.out.below⟩
end Go.Proofs.YtkcgmimcopoknaaGreatDoor
