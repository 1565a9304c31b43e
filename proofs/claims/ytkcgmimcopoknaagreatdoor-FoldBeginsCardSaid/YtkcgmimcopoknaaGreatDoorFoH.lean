
/-
  fold: beginnings.
-/
import Derived.Test.YtkcgmimcopoknaaGreatDoorFoG
import Derived.Test.YtkcgmimcopoknaaGreatDoorFoL
namespace Go.Proofs.YtkcgmimcopoknaaGreatDoor
set_option maxRecDepth 100000
set_option linter.unusedVariables false
set_option linter.unusedSimpArgs false
open Go.RowKit Rw
open List (getElem_toArray getElem_cons_zero getElem_cons_succ setIfInBounds_toArray set_cons_zero set_cons_succ)

theorem eqin_evD (W : World) (e : Ev) : (Op.equalIn 9999 25 (.agg e.row.toArray) (.agg e.row.toArray)).run Tryz.prog W = .ok true W := by
  have ht : Tryz.prog.underlying 25 = some (.struct (Tryz.prog.fieldsOf 25)) := by kernel_rfl
  have hp : Tryz.prog.stoodInHeld 25 = false := by kernel_rfl
  have hu := Tryz.underlying25
  have hus := Tryz.underlying9
  have hui := Tryz.underlying2
  have huk := Tryz.underlying23
  rw [run_equalIn_agg W 9998 _ _ _ ht hp]
  unfold Program.fieldsOf
  rw [hu]
  unfold Ev.row
  go_simp
theorem eqin_ce (W : World) (c : Ce) : (Op.equalIn 10000 96 (.agg c.row.toArray) (.agg c.row.toArray)).run Tryz.prog W = .ok true W := by
  have ht : Tryz.prog.underlying 96 = some (.struct (Tryz.prog.fieldsOf 96)) := by kernel_rfl
  have hp : Tryz.prog.stoodInHeld 96 = false := by kernel_rfl
  have hu := Tryz.underlying96
  have hus := Tryz.underlying9
  have huk := Tryz.underlying23
  have qh := fun W => eqin_evD W c.e
  rw [run_equalIn_agg W 9999 _ _ _ ht hp]
  unfold Program.fieldsOf
  rw [hu]
  unfold Ev.row at qh
  unfold Ce.row
  go_simp
theorem guard_ce : Tryz.prog.eqGuardType Tryz.prog.depth 96 = false := by kernel_rfl
theorem s_neC {ops : Array Oper} {Q : Exit → Act → World → Prop} {S : World → Prop} {k : Nat} {o : Oper} {s : Scr} {a : Act} {w : World} (ho : ops[k]? = some o) (hw : Region.wanted o (yielded ops a.tmps) = true) (x y : Operand) (u : TypeId) (hop : o.op = .binOp .neq 96 x y u)
    (c : Ce) (hx : a.eval x = .agg c.row.toArray) (hy : a.eval y = .agg c.row.toArray) (h : wpScr Tryz.prog ops Q s S (a.put o.dst (.bool false)) w) : wpScr Tryz.prog ops Q (.take k s) S a w :=
  s_val ho hw (fun w _ => by
    unfold execOp
    simp only [hop, hx, hy, Sem.run_bind, run_eqGuard_agg (P := Tryz.prog) _ _ _ _ _ _ _ guard_ce, run_neq_struct, eqin_ce w c, Bool.not_true, Result.andThen_ok, Sem.run_pure]) h

set_option maxHeartbeats 16000000 in
theorem rsame14_any (w : World) (v u : Value) (cs : List Ce) (hv : CsAt w v cs) (hu : CsAt w u cs) :
    Calls Tryz.prog 41 #[v, u] w fun e w' => e = .returned (.bool true) ∧ Below w.heap.size w w' := by
  have HV := hidp hv; have HU := hidp hu
  have h47 := hv.len
  clear hv hu
  obtain ⟨av, cv, rfl⟩ := HV.out.form
  obtain ⟨au, cu, rfl⟩ := HU.out.form
  obtain ⟨n, hnn⟩ : ∃ n, cs.length = n := ⟨_, rfl⟩
  have HN := hidp hnn
  rw [hnn] at HV HU h47 ⊢
  clear hnn
  have e0 : ((n : Int) != (n : Int)) = false := by simp
  have H := hidp (Mm.M.nil w)
  go_enter Tryz.func41, Tryz.ntmps41
  go_wp2_with fail
  go_loopw [13] (fun t13 wr => ∃ i : Nat, t13 = .int .i64 (i : Int) ∧ i ≤ n ∧ Mm.M w.heap.size w wr []) (fun t13 _ => n - (intOf t13).toNat)
  case atStart => exact ⟨0, rfl, by omega, H.out⟩
  case round =>
    clear H
    obtain ⟨i, rfl, hi, hM⟩ := hrel
    have H := hidp hM
    clear hM
    by_cases hlt : i < n
    · have e1 : decide ((i : Int) < (n : Int)) = true := by simp; omega
      have hgl : i < cs.length := by rw [HN.out]; exact hlt
      obtain ⟨B1, o1, c1, e2, -, hB1, hR1⟩ := HV.out.get (by rw [HN.out]; omega)
      rw [HN.out] at e2
      simp only [Value.slice.injEq] at e2
      obtain ⟨rfl, -, rfl⟩ := e2
      obtain ⟨B2, o2, c2, e2, -, hB2, hR2⟩ := HU.out.get (by rw [HN.out]; omega)
      rw [HN.out] at e2
      simp only [Value.slice.injEq] at e2
      obtain ⟨rfl, -, rfl⟩ := e2
      obtain ⟨c, hge⟩ : ∃ g, cs[i] = g := ⟨_, rfl⟩
      have HR1 := hidp (hR1 i hgl); have HR2 := hidp (hR2 i hgl)
      rw [hge] at HR1 HR2
      replace hB1 := hidp hB1; replace hB2 := hidp hB2
      clear hR1 hR2 hge
      go_wp2_with fail
      refine Mm.region H (.take 0 (.take 1 (.take 2 (.take 3 (.take 4 (.take 5 (.take 6 (.take 7 (.take 8 .done))))))))) (by kernel_rfl) (by kernel_rfl) (by simp [Scr.depth]) (by kernel_rfl) ?_
      clear H
      intro _ H hb
      clear hb
      apply s_val
      case ho | hw => rfl
      case hv => intro w hw; go_simp; first | done | rfl
      simp only [Act.put, getElem_toArray, getElem_cons_zero, getElem_cons_succ, setIfInBounds_toArray, set_cons_zero, set_cons_succ]
      apply s_val
      case ho | hw => rfl
      case hv => intro w hw; go_simp; first | done | rfl
      simp only [Act.put, getElem_toArray, getElem_cons_zero, getElem_cons_succ, setIfInBounds_toArray, set_cons_zero, set_cons_succ]
      refine s_idxR tyC rfl rfl (.tmp 16) (.tmp 17) rfl B1 o1 n _ i rfl rfl hlt ?_
      simp only [Act.put, getElem_toArray, getElem_cons_zero, getElem_cons_succ, setIfInBounds_toArray, set_cons_zero, set_cons_succ]
      refine s_mid rtC rfl rfl (.tmp 18) B1 (o1 + 8 * i) c.row rfl rfl rfl (fun w h => rangeAt_below HR1.out h.below hB1.out) ?_
      simp only [Act.put, getElem_toArray, getElem_cons_zero, getElem_cons_succ, setIfInBounds_toArray, set_cons_zero, set_cons_succ]
      apply s_val
      case ho | hw => rfl
      case hv => intro w hw; go_simp; first | done | rfl
      simp only [Act.put, getElem_toArray, getElem_cons_zero, getElem_cons_succ, setIfInBounds_toArray, set_cons_zero, set_cons_succ]
      apply s_val
      case ho | hw => rfl
      case hv => intro w hw; go_simp; first | done | rfl
      simp only [Act.put, getElem_toArray, getElem_cons_zero, getElem_cons_succ, setIfInBounds_toArray, set_cons_zero, set_cons_succ]
      refine s_idxR tyC rfl rfl (.tmp 20) (.tmp 21) rfl B2 o2 n _ i rfl rfl hlt ?_
      simp only [Act.put, getElem_toArray, getElem_cons_zero, getElem_cons_succ, setIfInBounds_toArray, set_cons_zero, set_cons_succ]
      refine s_mid rtC rfl rfl (.tmp 22) B2 (o2 + 8 * i) c.row rfl rfl rfl (fun w h => rangeAt_below HR2.out h.below hB2.out) ?_
      simp only [Act.put, getElem_toArray, getElem_cons_zero, getElem_cons_succ, setIfInBounds_toArray, set_cons_zero, set_cons_succ]
      refine s_neC rfl rfl (.tmp 19) (.tmp 23) _ rfl c rfl rfl ?_
      simp only [Act.put, getElem_toArray, getElem_cons_zero, getElem_cons_succ, setIfInBounds_toArray, set_cons_zero, set_cons_succ]
      refine NoPanic.normal ?_
      go_wp2_with fail
      exact ⟨⟨i + 1, by go_num, by omega, H.out⟩, by simp [intOf]; omega⟩
    · have e1 : decide ((i : Int) < (n : Int)) = false := by simp; omega
      go_wp2_with fail
      go_ret
      exact ⟨rfl, H.out.below⟩

set_option maxHeartbeats 16000000 in
theorem rsame18_any (w : World) (a1 a2 : Option Addr) (n c1 c2 : Nat) (cs : List Ce) (hv : CsAt w (.slice a1 n c1) cs) (hu : CsAt w (.slice a2 n c2) cs) (h ep k : Int) :
    Calls Tryz.prog 14 #[.agg #[.slice a1 n c1, .int .i64 h, .int .i64 ep, .int .i64 k], .agg #[.slice a2 n c2, .int .i64 h, .int .i64 ep, .int .i64 k]] w fun e w' => e = .returned (.bool true) ∧ Below w.heap.size w w' := by
  have HV := hidp hv; have HU := hidp hu
  have ks := hidp (fun W h1 h2 => rsame14_any W (.slice a1 n c1) (.slice a2 n c2) cs h1 h2)
  have d1 : (h == h) = true := by simp
  have d2 : (ep == ep) = true := by simp
  have d3 : (k == k) = true := by simp
  clear hv hu
  have H := hidp (Mm.M.nil w)
  go_enter Tryz.func14, Tryz.ntmps14
  have tk0 := hidp trivial
  go_wp2_with (first | (clear tk0; (refine Mm.box 35 H rfl (.tmp 0) rfl [.slice a1 n c1, .int .i64 h, .int .i64 ep, .int .i64 k] rfl ?_; clear H; intro b2 _ H nw; have hb := nw.below; clear hb nw); (try simp only [Act.put, setIfInBounds_toArray, set_cons_zero, set_cons_succ]); have tk1 := hidp trivial) | (clear tk1; (refine Mm.box 35 H rfl (.tmp 1) rfl [.slice a2 n c2, .int .i64 h, .int .i64 ep, .int .i64 k] rfl ?_; clear H; intro b3 _ H nw; have hb := nw.below; clear hb nw); (try simp only [Act.put, setIfInBounds_toArray, set_cons_zero, set_cons_succ]); have tk2 := hidp trivial) | (clear tk2; (refine Mm.ld1 naSl H rfl (.tmp 5) 0 (.slice a1 n c1) rfl rfl rfl ?_); (try simp only [Act.put, setIfInBounds_toArray, set_cons_zero, set_cons_succ]); have tk3 := hidp trivial) | (clear tk3; (refine Mm.ld0 naSl H rfl (.tmp 7) 0 (.slice a2 n c2) rfl rfl rfl ?_); (try simp only [Act.put, setIfInBounds_toArray, set_cons_zero, set_cons_succ]); have tk4 := hidp trivial) | (clear tk4; (go_at_call 41; refine (ks.out _ (HV.out.to H.out.below) (HU.out.to H.out.below)).mono ?_; rintro e _ ⟨rfl, hb⟩; replace H := hidp (H.out.call hb); clear ks; clear hb); (try simp only [Act.put, setIfInBounds_toArray, set_cons_zero, set_cons_succ]); have tk5 := hidp trivial) | (clear tk5; (refine Mm.ld1 naInt H rfl (.tmp 11) 1 (.int .i64 h) rfl rfl rfl ?_); (try simp only [Act.put, setIfInBounds_toArray, set_cons_zero, set_cons_succ]); have tk6 := hidp trivial) | (clear tk6; (refine Mm.ld0 naInt H rfl (.tmp 13) 1 (.int .i64 h) rfl rfl rfl ?_); (try simp only [Act.put, setIfInBounds_toArray, set_cons_zero, set_cons_succ]); have tk7 := hidp trivial) | (clear tk7; (refine Mm.ld1 naInt H rfl (.tmp 18) 2 (.int .i64 ep) rfl rfl rfl ?_); (try simp only [Act.put, setIfInBounds_toArray, set_cons_zero, set_cons_succ]); have tk8 := hidp trivial) | (clear tk8; (refine Mm.ld0 naInt H rfl (.tmp 20) 2 (.int .i64 ep) rfl rfl rfl ?_); (try simp only [Act.put, setIfInBounds_toArray, set_cons_zero, set_cons_succ]); have tk9 := hidp trivial) | (clear tk9; (refine Mm.ld1 naInt H rfl (.tmp 25) 3 (.int .i64 k) rfl rfl rfl ?_); (try simp only [Act.put, setIfInBounds_toArray, set_cons_zero, set_cons_succ]); have tk10 := hidp trivial) | (clear tk10; (refine Mm.ld0 naInt H rfl (.tmp 27) 3 (.int .i64 k) rfl rfl rfl ?_); (try simp only [Act.put, setIfInBounds_toArray, set_cons_zero, set_cons_succ]); have tk11 := hidp trivial))
  go_ret
  exact ⟨rfl, H.out.below⟩

set_option maxHeartbeats 32000000 in
theorem walk_foldBegins (w : World) (v : Value) (es : List Ev) (hv : EsAt w v es) (t : Int) (hP : PT w) :
    Calls Tryz.prog 5 #[v, .int .i64 t] w fun x w' => x = .returned (.bool true) ∧ Below w.heap.size w w' := by
  have HP := hidp hP; have HV := hidp hv
  have li := hidp (fun W h => lives18_any W h)
  obtain ⟨av, cv, hv0⟩ := hv.form
  obtain ⟨n, hn⟩ : ∃ n, es.length = n := ⟨_, rfl⟩
  have HN := hidp hn
  rw [hn] at hv0
  subst hv0
  have H := hidp (Mm.M.nil w)
  by_cases h0 : t < 0
  · have d0 : decide (t < 0) = true := by simp; omega
    clear hv hn hP
    go_enter Tryz.func5, Tryz.ntmps5
    have tk0 := hidp trivial
    go_wp2_with (first | (refine Rt.wpL_skip _ _ rfl rfl ?_) | (clear tk0; (go_at_call 12; refine (li.out _ (HP.out.below H.out.below (Nat.le_refl _))).mono ?_; rintro e _ ⟨rfl, hb⟩; replace H := hidp (H.out.call hb); clear li; clear hb); (try simp only [Act.put, setIfInBounds_toArray, set_cons_zero, set_cons_succ]); have tk1 := hidp trivial))
    go_ret
    exact ⟨rfl, H.out.below⟩
  · have d0 : decide (t < 0) = false := by simp; omega
    by_cases h1 : (n : Int) < t
    · have d1 : decide ((n : Int) < t) = true := decide_eq_true (by omega)
      have d1g : decide (t > (n : Int)) = true := d1
      clear hv hn hP
      go_enter Tryz.func5, Tryz.ntmps5
      have tk0 := hidp trivial
      go_wp2_with (first | (refine Rt.wpL_skip _ _ rfl rfl ?_) | (clear tk0; (go_at_call 12; refine (li.out _ (HP.out.below H.out.below (Nat.le_refl _))).mono ?_; rintro e _ ⟨rfl, hb⟩; replace H := hidp (H.out.call hb); clear li; clear hb); (try simp only [Act.put, setIfInBounds_toArray, set_cons_zero, set_cons_succ]); have tk1 := hidp trivial))
      go_ret
      exact ⟨rfl, H.out.below⟩
    · have d1 : decide ((n : Int) < t) = false := decide_eq_false (by omega)
      have d1g : decide (t > (n : Int)) = false := d1
      by_cases h2 : 100 < n
      · have d2 : decide ((100 : Int) < (n : Int)) = true := decide_eq_true (by omega)
        have d2g : decide ((n : Int) > (100 : Int)) = true := d2
        clear hv hn hP
        go_enter Tryz.func5, Tryz.ntmps5
        have tk0 := hidp trivial
        go_wp2_with (first | (refine Rt.wpL_skip _ _ rfl rfl ?_) | (clear tk0; (go_at_call 12; refine (li.out _ (HP.out.below H.out.below (Nat.le_refl _))).mono ?_; rintro e _ ⟨rfl, hb⟩; replace H := hidp (H.out.call hb); clear li; clear hb); (try simp only [Act.put, setIfInBounds_toArray, set_cons_zero, set_cons_succ]); have tk1 := hidp trivial))
        go_ret
        exact ⟨rfl, H.out.below⟩
      · have d2 : decide ((100 : Int) < (n : Int)) = false := decide_eq_false (by omega)
        have d2g : decide ((n : Int) > (100 : Int)) = false := d2
        obtain ⟨k, hk⟩ : ∃ k : Nat, t = (k : Int) := ⟨t.toNat, by omega⟩
        subst hk
        have hkn1 : k ≤ n := by omega
        have hkl := hidp (show k ≤ es.length from by rw [hn]; exact hkn1)
        have HT := hidp (hv.pre hkl.out)
        have kr1 := hidp (fun W h h2 => run_any W (.slice av k cv) (es.take k) h h2)
        have kr2 := hidp (fun W h h2 => run_any W (.slice av n cv) es h h2)
        have hle := rn_le (es.take k) rm0
        rw [List.length_take, Nat.min_eq_left hkl.out] at hle
        have h100 : es.length ≤ 100 := by rw [hn]; omega
        have hfitC : fitC (rn rm0 (es.take k)).1.cs := rn_fit (es.take k) rm0 (fun c hc => by cases hc) HT.out.fit
        by_cases hm : (rn rm0 (es.take k)).2.1 < k
        · obtain ⟨q1, q2, q3, q4⟩ := begins_short hkl.out h100 hm
          rw [q1] at kr2
          obtain ⟨R, hR⟩ : ∃ R, (rn rm0 (es.take k)).1 = R := ⟨_, rfl⟩
          obtain ⟨m, hmm⟩ : ∃ m, (rn rm0 (es.take k)).2.1 = m := ⟨_, rfl⟩
          obtain ⟨E, hE⟩ : ∃ m, (rn rm0 (es.take k)).2.2 = m := ⟨_, rfl⟩
          rw [hR, hmm, hE] at kr1 kr2
          rw [hE] at q2 q4
          rw [hR] at q4 hfitC
          rw [hmm] at hm
          obtain ⟨nr, hnr⟩ : ∃ z, R.cs.length = z := ⟨_, rfl⟩
          have HNR := hidp hnr
          have hml : m < es.length := by omega
          have hmn : m < n := by omega
          obtain ⟨BK, off, c, e2, hc, hBK0, hR0⟩ := hv.get (by omega)
          rw [hn] at e2
          simp only [Value.slice.injEq] at e2
          obtain ⟨rfl, -, rfl⟩ := e2
          obtain ⟨e, hge⟩ : ∃ e, es[m] = e := ⟨_, rfl⟩
          have q5 : auE R.cs e = E := by rw [← q4, ← hge]; simp only [hmm]
          have HRI := hidp (hR0 m hml)
          rw [hge] at HRI
          have hBK := hidp hBK0
          have hfit : e.fit := by rw [← hge]; exact hv.fit _ (List.getElem_mem hml)
          have ka := hidp (fun W v h1 h2 => aallowed_any W v R.cs h1 hfitC e hfit.1 hfit.2.1 h2)
          rw [q5] at ka
          have k18 := hidp (fun W a1 a2 n c1 c2 h1 h2 h ep k => rsame18_any W a1 a2 n c1 c2 R.cs h1 h2 h ep k)
          have f1 : decide ((m : Int) < 0) = false := decide_eq_false (by omega)
          have f2 : decide ((k : Int) < (m : Int)) = false := decide_eq_false (by omega)
          have f2g : decide ((m : Int) > (k : Int)) = false := f2
          have f3 : (E == 0) = false := by simpa using q2
          have f4 : ((m : Int) == (k : Int)) = false := by rw [beq_eq_false_iff_ne]; omega
          have f5 : decide ((m : Int) < (k : Int)) = true := decide_eq_true (by omega)
          have f6 : ((m : Int) == (m : Int)) = true := by simp
          have f7 : (E == E) = true := by simp
          clear hv hn hP hle h100 hfitC q1 q2 q3 q4 q5 hR hmm hE hnr hc hBK0 hR0 hge hfit
          go_enter Tryz.func5, Tryz.ntmps5
          have tk0 := hidp trivial
          go_wp2_with (first | (refine Rt.wpL_skip _ _ rfl rfl ?_) | (clear tk0; (go_at_call 12; refine (li.out _ (HP.out.below H.out.below (Nat.le_refl _))).mono ?_; rintro e _ ⟨rfl, hb⟩; replace H := hidp (H.out.call hb); clear li; clear hb); (try simp only [Act.put, setIfInBounds_toArray, set_cons_zero, set_cons_succ]); have tk1 := hidp trivial) | (clear tk1; (refine wpL_toPre tyE rfl (.tmp 27) (.tmp 28) rfl _ n _ k (rowsE es) rfl rfl (HV.out.to H.out.below).rs (by rw [rowsE_len]; exact hkl.out) ?_); (try simp only [Act.put, setIfInBounds_toArray, set_cons_zero, set_cons_succ]); have tk2 := hidp trivial) | (clear tk2; (go_at_call 13; refine (kr1.out _ (HT.out.to H.out.below) (HP.out.below H.out.below (Nat.le_refl _))).mono ?_; rintro x _ ⟨v1, rfl, hcs, hb⟩; obtain ⟨a1, c1, rfl⟩ := hcs.form; rw [HNR.out] at hcs ⊢; replace H := hidp (H.out.call hb); have HR := hidp hcs; clear hcs hb kr1); (try simp only [Act.put, setIfInBounds_toArray, set_cons_zero, set_cons_succ]); have tk3 := hidp trivial) | (clear tk3; (refine Mm.new rtR H (some 5) rfl rfl rfl ?_; clear H; intro b5 _ H nw; have hb := nw.below; replace HR := hidp (HR.out.to hb); clear hb nw); (try simp only [Act.put, setIfInBounds_toArray, set_cons_zero, set_cons_succ]); have tk4 := hidp trivial) | (clear tk4; (refine Mm.put0 rtR H rfl (.tmp 5) (.tmp 31) [.slice a1 nr c1, .int .i64 R.h, .int .i64 R.ep, .int .i64 R.n] rfl rfl rfl rfl (by simp [Value.oneCell']) rfl ?_; intro _ H2 st; replace HR := hidp (HR.out.stp st H.out.at0 (by simp [zR])); clear st H; have H := H2; clear H2); (try simp only [Act.put, setIfInBounds_toArray, set_cons_zero, set_cons_succ]); have tk5 := hidp trivial) | (clear tk5; (go_at_call 13; refine (kr2.out _ (HV.out.to H.out.below) (HP.out.below H.out.below (Nat.le_refl _))).mono ?_; rintro x _ ⟨v2, rfl, hcs, hb⟩; obtain ⟨a2, c2, rfl⟩ := hcs.form; rw [HNR.out] at hcs ⊢; replace H := hidp (H.out.call hb); replace HR := hidp (HR.out.to hb); have HS := hidp hcs; clear hcs hb kr2); (try simp only [Act.put, setIfInBounds_toArray, set_cons_zero, set_cons_succ]); have tk6 := hidp trivial) | (clear tk6; (refine Mm.new rtR H (some 8) rfl rfl rfl ?_; clear H; intro b8 _ H nw; have hb := nw.below; replace HR := hidp (HR.out.to hb); replace HS := hidp (HS.out.to hb); clear hb nw); (try simp only [Act.put, setIfInBounds_toArray, set_cons_zero, set_cons_succ]); have tk7 := hidp trivial) | (clear tk7; (refine Mm.put0 rtR H rfl (.tmp 8) (.tmp 37) [.slice a2 nr c2, .int .i64 R.h, .int .i64 R.ep, .int .i64 R.n] rfl rfl rfl rfl (by simp [Value.oneCell']) rfl ?_; intro _ H2 st; replace HR := hidp (HR.out.stp st H.out.at0 (by simp [zR])); replace HS := hidp (HS.out.stp st H.out.at0 (by simp [zR])); clear st H; have H := H2; clear H2); (try simp only [Act.put, setIfInBounds_toArray, set_cons_zero, set_cons_succ]); have tk8 := hidp trivial))
          refine Mm.region H (.take 0 (.take 1 (.take 2 (.take 3 (.take 4 (.take 5 (.take 6 (.take 7 (.take 8 (.take 9 (.take 10 (.one 11 (.take 12 (.take 13 (.take 14 (.take 15 (.take 16 (.take 17 (.take 18 (.take 19 (.take 21 (.one 20 (.take 22 (.take 23 (.take 24 .done))))))))))))))))))))))))) (by kernel_rfl) (by kernel_rfl) (by simp [Scr.depth]) (by kernel_rfl) ?_
          clear H
          intro _ H hb
          replace HR := hidp (HR.out.to hb); replace HS := hidp (HS.out.to hb); clear hb
          apply s_val
          case ho | hw => rfl
          case hv => intro w hw; go_simp; first | done | rfl
          simp only [Act.put, getElem_toArray, getElem_cons_zero, getElem_cons_succ, setIfInBounds_toArray, set_cons_zero, set_cons_succ]
          apply s_val
          case ho | hw => rfl
          case hv => intro w hw; go_simp; first | done | rfl
          simp only [Act.put, getElem_toArray, getElem_cons_zero, getElem_cons_succ, setIfInBounds_toArray, set_cons_zero, set_cons_succ]
          apply s_val (v := .bool true)
          case ho | hw => rfl
          case hv => intro w hw; go_simp; first | done | rfl
          simp only [Act.put, getElem_toArray, getElem_cons_zero, getElem_cons_succ, setIfInBounds_toArray, set_cons_zero, set_cons_succ]
          apply s_val
          case ho | hw => rfl
          case hv => intro w hw; go_simp; first | done | rfl
          simp only [Act.put, getElem_toArray, getElem_cons_zero, getElem_cons_succ, setIfInBounds_toArray, set_cons_zero, set_cons_succ]
          apply s_val
          case ho | hw => rfl
          case hv => intro w hw; go_simp; first | done | rfl
          simp only [Act.put, getElem_toArray, getElem_cons_zero, getElem_cons_succ, setIfInBounds_toArray, set_cons_zero, set_cons_succ]
          apply s_val
          case ho | hw => rfl
          case hv => intro w hw; go_simp; first | done | rfl
          simp only [Act.put, getElem_toArray, getElem_cons_zero, getElem_cons_succ, setIfInBounds_toArray, set_cons_zero, set_cons_succ]
          apply s_val (v := .bool true)
          case ho | hw => rfl
          case hv => intro w hw; go_simp; first | done | rfl
          simp only [Act.put, getElem_toArray, getElem_cons_zero, getElem_cons_succ, setIfInBounds_toArray, set_cons_zero, set_cons_succ]
          apply s_val
          case ho | hw => rfl
          case hv => intro w hw; go_simp; first | done | rfl
          simp only [Act.put, getElem_toArray, getElem_cons_zero, getElem_cons_succ, setIfInBounds_toArray, set_cons_zero, set_cons_succ]
          apply s_val
          case ho | hw => rfl
          case hv => intro w hw; go_simp; first | done | rfl
          simp only [Act.put, getElem_toArray, getElem_cons_zero, getElem_cons_succ, setIfInBounds_toArray, set_cons_zero, set_cons_succ]
          refine Mm.sget1 rtR (fun w h => h) rfl rfl (.tmp 5) rfl rfl rfl ?_
          simp only [Act.put, getElem_toArray, getElem_cons_zero, getElem_cons_succ, setIfInBounds_toArray, set_cons_zero, set_cons_succ]
          refine Mm.sget0 rtR (fun w h => h) rfl rfl (.tmp 8) rfl rfl rfl ?_
          simp only [Act.put, getElem_toArray, getElem_cons_zero, getElem_cons_succ, setIfInBounds_toArray, set_cons_zero, set_cons_succ]
          refine Mm.o_callH (v := .bool true) H (fun W h => h) rfl rfl 14 (#[.agg #[.slice a1 nr c1, .int .i64 R.h, .int .i64 R.ep, .int .i64 R.n], .agg #[.slice a2 nr c2, .int .i64 R.h, .int .i64 R.ep, .int .i64 R.n]]) (by go_simp; first | done | rfl) (k18.out _ _ _ _ _ _ HR.out HS.out _ _ _) ?_
          clear H
          intro _ H hb
          replace HR := hidp (HR.out.to hb); replace HS := hidp (HS.out.to hb); clear hb
          simp only [Act.put, getElem_toArray, getElem_cons_zero, getElem_cons_succ, setIfInBounds_toArray, set_cons_zero, set_cons_succ]
          apply s_val
          case ho | hw => rfl
          case hv => intro w hw; go_simp; first | done | rfl
          simp only [Act.put, getElem_toArray, getElem_cons_zero, getElem_cons_succ, setIfInBounds_toArray, set_cons_zero, set_cons_succ]
          apply s_val
          case ho | hw => rfl
          case hv => intro w hw; go_simp; first | done | rfl
          simp only [Act.put, getElem_toArray, getElem_cons_zero, getElem_cons_succ, setIfInBounds_toArray, set_cons_zero, set_cons_succ]
          apply s_val
          case ho | hw => rfl
          case hv => intro w hw; go_simp; first | done | rfl
          simp only [Act.put, getElem_toArray, getElem_cons_zero, getElem_cons_succ, setIfInBounds_toArray, set_cons_zero, set_cons_succ]
          refine Mm.sld1 naSl (fun w h => h) rfl rfl (.tmp 72) 0 (.slice a1 nr c1) rfl rfl rfl ?_
          simp only [Act.put, getElem_toArray, getElem_cons_zero, getElem_cons_succ, setIfInBounds_toArray, set_cons_zero, set_cons_succ]
          apply s_val
          case ho | hw => rfl
          case hv => intro w hw; go_simp; first | done | rfl
          simp only [Act.put, getElem_toArray, getElem_cons_zero, getElem_cons_succ, setIfInBounds_toArray, set_cons_zero, set_cons_succ]
          apply s_val
          case ho | hw => rfl
          case hv => intro w hw; go_simp; first | done | rfl
          simp only [Act.put, getElem_toArray, getElem_cons_zero, getElem_cons_succ, setIfInBounds_toArray, set_cons_zero, set_cons_succ]
          refine s_idxR tyE rfl rfl (.tmp 74) (.tmp 75) rfl BK off n _ m rfl rfl hmn ?_
          simp only [Act.put, getElem_toArray, getElem_cons_zero, getElem_cons_succ, setIfInBounds_toArray, set_cons_zero, set_cons_succ]
          refine s_mid rtE rfl rfl (.tmp 76) BK (off + 6 * m) e.row rfl rfl rfl (fun w h => rangeAt_below HRI.out h.below hBK.out) ?_
          simp only [Act.put, getElem_toArray, getElem_cons_zero, getElem_cons_succ, setIfInBounds_toArray, set_cons_zero, set_cons_succ]
          apply s_val
          case ho | hw => rfl
          case hv => intro w hw; go_simp; first | done | rfl
          simp only [Act.put, getElem_toArray, getElem_cons_zero, getElem_cons_succ, setIfInBounds_toArray, set_cons_zero, set_cons_succ]
          refine Mm.o_callH (v := .int .i64 E) H (fun W h => h) rfl rfl 9 (#[.slice a1 nr c1, .agg e.row.toArray]) (by go_simp; first | done | rfl) (ka.out _ _ HR.out (HP.out.below H.out.below (Nat.le_refl _))) ?_
          clear H
          intro _ H hb
          replace HR := hidp (HR.out.to hb); replace HS := hidp (HS.out.to hb); clear hb
          simp only [Act.put, getElem_toArray, getElem_cons_zero, getElem_cons_succ, setIfInBounds_toArray, set_cons_zero, set_cons_succ]
          apply s_val (v := .bool true)
          case ho | hw => rfl
          case hv => intro w hw; go_simp; first | done | rfl
          simp only [Act.put, getElem_toArray, getElem_cons_zero, getElem_cons_succ, setIfInBounds_toArray, set_cons_zero, set_cons_succ]
          apply s_val
          case ho | hw => rfl
          case hv => intro w hw; go_simp; first | done | rfl
          simp only [Act.put, getElem_toArray, getElem_cons_zero, getElem_cons_succ, setIfInBounds_toArray, set_cons_zero, set_cons_succ]
          apply s_val
          case ho | hw => rfl
          case hv => intro w hw; go_simp; first | done | rfl
          simp only [Act.put, getElem_toArray, getElem_cons_zero, getElem_cons_succ, setIfInBounds_toArray, set_cons_zero, set_cons_succ]
          refine NoPanic.normal ?_
          go_wp2_with fail
          go_ret
          exact ⟨rfl, H.out.below⟩
        · have hm2 : (rn rm0 (es.take k)).2.1 = k := by omega
          obtain ⟨q1, q2, q3, q4⟩ := begins_whole hkl.out h100 hm2
          obtain ⟨R, hR⟩ : ∃ R, (rn rm0 (es.take k)).1 = R := ⟨_, rfl⟩
          obtain ⟨S, hS⟩ : ∃ R, (rn rm0 es).1 = R := ⟨_, rfl⟩
          obtain ⟨M, hM⟩ : ∃ m, (rn rm0 es).2.1 = m := ⟨_, rfl⟩
          obtain ⟨F, hF⟩ : ∃ m, (rn rm0 es).2.2 = m := ⟨_, rfl⟩
          rw [hR, hm2, q1] at kr1
          rw [hS, hM, hF] at kr2
          rw [hM] at q2 q3 q4
          rw [hR] at q4 hfitC
          obtain ⟨nr, hnr⟩ : ∃ z, R.cs.length = z := ⟨_, rfl⟩
          have HNR := hidp hnr
          have f1 : decide ((k : Int) < 0) = false := decide_eq_false (by omega)
          have f2 : decide ((k : Int) < (k : Int)) = false := by simp
          have f2g : decide ((k : Int) > (k : Int)) = false := f2
          have f4 : ((k : Int) == (k : Int)) = true := by simp
          have f5 : decide ((k : Int) ≤ (M : Int)) = true := decide_eq_true (by omega)
          have f6 : decide ((M : Int) ≥ (k : Int)) = true := f5
          have n1 : k ≤ M := q2
          have n1b : decide (k ≤ M) = true := decide_eq_true n1
          by_cases hkn : k < n
          · have f7 : ((k : Int) == (n : Int)) = false := by rw [beq_eq_false_iff_ne]; omega
            have hkl2 : k < es.length := by omega
            obtain ⟨BK, off, c, e2, hc, hBK0, hR0⟩ := hv.get (by omega)
            rw [hn] at e2
            simp only [Value.slice.injEq] at e2
            obtain ⟨rfl, -, rfl⟩ := e2
            obtain ⟨e, hge⟩ : ∃ e, es[k] = e := ⟨_, rfl⟩
            have HRI := hidp (hR0 k hkl2)
            rw [hge] at HRI
            have hBK := hidp hBK0
            have hfit : e.fit := by rw [← hge]; exact hv.fit _ (List.getElem_mem hkl2)
            have ka := hidp (fun W v h1 h2 => aallowed_any W v R.cs h1 hfitC e hfit.1 hfit.2.1 h2)
            have q5 := q4 hkl2
            rw [hge] at q5
            obtain ⟨Z, hZ⟩ : ∃ z, auE R.cs e = z := ⟨_, rfl⟩
            rw [hZ] at ka q5
            obtain ⟨X, hX⟩ : ∃ x, decide ((k : Int) < (M : Int)) = x := ⟨_, rfl⟩
            have g1 : decide ((M : Int) > (k : Int)) = X := hX
            have n2 : decide (k < M) = X := by rw [← hX]; by_cases h : k < M <;> simp [h]
            have g2 : (Z == 0) = X := by
              rw [← hX, Bool.eq_iff_iff, beq_iff_eq, decide_eq_true_iff]; constructor
              · intro h; have := q5.2 h; omega
              · intro h; exact q5.1 (by omega)
            have g3 : (X == X) = true := by simp
            clear hv hn hP hle h100 hfitC q1 q2 q3 q4 q5 hR hS hM hF hnr hc hBK0 hR0 hge hfit hZ hm hm2
            go_enter Tryz.func5, Tryz.ntmps5
            have tk0 := hidp trivial
            go_wp2_with (first | (refine Rt.wpL_skip _ _ rfl rfl ?_) | (clear tk0; (go_at_call 12; refine (li.out _ (HP.out.below H.out.below (Nat.le_refl _))).mono ?_; rintro e _ ⟨rfl, hb⟩; replace H := hidp (H.out.call hb); clear li; clear hb); (try simp only [Act.put, setIfInBounds_toArray, set_cons_zero, set_cons_succ]); have tk1 := hidp trivial) | (clear tk1; (refine wpL_toPre tyE rfl (.tmp 27) (.tmp 28) rfl _ n _ k (rowsE es) rfl rfl (HV.out.to H.out.below).rs (by rw [rowsE_len]; exact hkl.out) ?_); (try simp only [Act.put, setIfInBounds_toArray, set_cons_zero, set_cons_succ]); have tk2 := hidp trivial) | (clear tk2; (go_at_call 13; refine (kr1.out _ (HT.out.to H.out.below) (HP.out.below H.out.below (Nat.le_refl _))).mono ?_; rintro x _ ⟨v1, rfl, hcs, hb⟩; obtain ⟨a1, c1, rfl⟩ := hcs.form; rw [HNR.out] at hcs ⊢; replace H := hidp (H.out.call hb); have HR := hidp hcs; clear hcs hb kr1); (try simp only [Act.put, setIfInBounds_toArray, set_cons_zero, set_cons_succ]); have tk3 := hidp trivial) | (clear tk3; (refine Mm.new rtR H (some 5) rfl rfl rfl ?_; clear H; intro b5 _ H nw; have hb := nw.below; replace HR := hidp (HR.out.to hb); clear hb nw); (try simp only [Act.put, setIfInBounds_toArray, set_cons_zero, set_cons_succ]); have tk4 := hidp trivial) | (clear tk4; (refine Mm.put0 rtR H rfl (.tmp 5) (.tmp 31) [.slice a1 nr c1, .int .i64 R.h, .int .i64 R.ep, .int .i64 R.n] rfl rfl rfl rfl (by simp [Value.oneCell']) rfl ?_; intro _ H2 st; replace HR := hidp (HR.out.stp st H.out.at0 (by simp [zR])); clear st H; have H := H2; clear H2); (try simp only [Act.put, setIfInBounds_toArray, set_cons_zero, set_cons_succ]); have tk5 := hidp trivial) | (clear tk5; (go_at_call 13; refine (kr2.out _ (HV.out.to H.out.below) (HP.out.below H.out.below (Nat.le_refl _))).mono ?_; rintro x _ ⟨v2, rfl, hcs, hb⟩; obtain ⟨a2, c2, rfl⟩ := hcs.form; replace H := hidp (H.out.call hb); replace HR := hidp (HR.out.to hb); clear hcs hb kr2); (try simp only [Act.put, setIfInBounds_toArray, set_cons_zero, set_cons_succ]); have tk6 := hidp trivial) | (clear tk6; (refine Mm.new rtR H (some 8) rfl rfl rfl ?_; clear H; intro b8 _ H nw; have hb := nw.below; replace HR := hidp (HR.out.to hb); clear hb nw); (try simp only [Act.put, setIfInBounds_toArray, set_cons_zero, set_cons_succ]); have tk7 := hidp trivial) | (clear tk7; (refine Mm.put0 rtR H rfl (.tmp 8) (.tmp 37) [.slice a2 S.cs.length c2, .int .i64 S.h, .int .i64 S.ep, .int .i64 S.n] rfl rfl rfl rfl (by simp [Value.oneCell']) rfl ?_; intro _ H2 st; replace HR := hidp (HR.out.stp st H.out.at0 (by simp [zR])); clear st H; have H := H2; clear H2); (try simp only [Act.put, setIfInBounds_toArray, set_cons_zero, set_cons_succ]); have tk8 := hidp trivial))
            refine Mm.region H (.take 0 (.take 1 (.take 2 (.take 3 (.take 4 (.take 5 (.take 6 (.take 7 (.take 8 (.take 9 (.take 10 (.take 11 (.take 12 (.take 13 (.take 14 (.take 15 (.take 16 (.take 17 (.one 18 (.take 19 (.take 20 (.take 21 (.take 22 (.take 23 .done)))))))))))))))))))))))) (by kernel_rfl) (by kernel_rfl) (by simp [Scr.depth]) (by kernel_rfl) ?_
            clear H
            intro _ H hb
            replace HR := hidp (HR.out.to hb); clear hb
            apply s_val
            case ho | hw => rfl
            case hv => intro w hw; go_simp; first | done | rfl
            simp only [Act.put, getElem_toArray, getElem_cons_zero, getElem_cons_succ, setIfInBounds_toArray, set_cons_zero, set_cons_succ]
            apply s_val
            case ho | hw => rfl
            case hv => intro w hw; go_simp; first | done | rfl
            simp only [Act.put, getElem_toArray, getElem_cons_zero, getElem_cons_succ, setIfInBounds_toArray, set_cons_zero, set_cons_succ]
            apply s_val (v := .bool true)
            case ho | hw => rfl
            case hv => intro w hw; go_simp; first | done | rfl
            simp only [Act.put, getElem_toArray, getElem_cons_zero, getElem_cons_succ, setIfInBounds_toArray, set_cons_zero, set_cons_succ]
            apply s_val
            case ho | hw => rfl
            case hv => intro w hw; go_simp; first | done | rfl
            simp only [Act.put, getElem_toArray, getElem_cons_zero, getElem_cons_succ, setIfInBounds_toArray, set_cons_zero, set_cons_succ]
            apply s_val
            case ho | hw => rfl
            case hv => intro w hw; go_simp; first | done | rfl
            simp only [Act.put, getElem_toArray, getElem_cons_zero, getElem_cons_succ, setIfInBounds_toArray, set_cons_zero, set_cons_succ]
            apply s_val
            case ho | hw => rfl
            case hv => intro w hw; go_simp; first | done | rfl
            simp only [Act.put, getElem_toArray, getElem_cons_zero, getElem_cons_succ, setIfInBounds_toArray, set_cons_zero, set_cons_succ]
            apply s_val
            case ho | hw => rfl
            case hv => intro w hw; go_simp; first | done | rfl
            simp only [Act.put, getElem_toArray, getElem_cons_zero, getElem_cons_succ, setIfInBounds_toArray, set_cons_zero, set_cons_succ]
            apply s_val (v := .bool false)
            case ho | hw => rfl
            case hv => intro w hw; go_simp; first | done | rfl
            simp only [Act.put, getElem_toArray, getElem_cons_zero, getElem_cons_succ, setIfInBounds_toArray, set_cons_zero, set_cons_succ]
            apply s_val
            case ho | hw => rfl
            case hv => intro w hw; go_simp; first | done | rfl
            simp only [Act.put, getElem_toArray, getElem_cons_zero, getElem_cons_succ, setIfInBounds_toArray, set_cons_zero, set_cons_succ]
            apply s_val
            case ho | hw => rfl
            case hv => intro w hw; go_simp; first | done | rfl
            simp only [Act.put, getElem_toArray, getElem_cons_zero, getElem_cons_succ, setIfInBounds_toArray, set_cons_zero, set_cons_succ]
            apply s_val
            case ho | hw => rfl
            case hv => intro w hw; go_simp; first | done | rfl
            simp only [Act.put, getElem_toArray, getElem_cons_zero, getElem_cons_succ, setIfInBounds_toArray, set_cons_zero, set_cons_succ]
            apply s_val (v := .bool X)
            case ho | hw => rfl
            case hv => intro w hw; go_simp; first | done | rfl
            simp only [Act.put, getElem_toArray, getElem_cons_zero, getElem_cons_succ, setIfInBounds_toArray, set_cons_zero, set_cons_succ]
            apply s_val
            case ho | hw => rfl
            case hv => intro w hw; go_simp; first | done | rfl
            simp only [Act.put, getElem_toArray, getElem_cons_zero, getElem_cons_succ, setIfInBounds_toArray, set_cons_zero, set_cons_succ]
            refine Mm.sld1 naSl (fun w h => h) rfl rfl (.tmp 94) 0 (.slice a1 nr c1) rfl rfl rfl ?_
            simp only [Act.put, getElem_toArray, getElem_cons_zero, getElem_cons_succ, setIfInBounds_toArray, set_cons_zero, set_cons_succ]
            apply s_val
            case ho | hw => rfl
            case hv => intro w hw; go_simp; first | done | rfl
            simp only [Act.put, getElem_toArray, getElem_cons_zero, getElem_cons_succ, setIfInBounds_toArray, set_cons_zero, set_cons_succ]
            apply s_val
            case ho | hw => rfl
            case hv => intro w hw; go_simp; first | done | rfl
            simp only [Act.put, getElem_toArray, getElem_cons_zero, getElem_cons_succ, setIfInBounds_toArray, set_cons_zero, set_cons_succ]
            refine s_idxR tyE rfl rfl (.tmp 96) (.tmp 97) rfl BK off n _ k rfl rfl hkn ?_
            simp only [Act.put, getElem_toArray, getElem_cons_zero, getElem_cons_succ, setIfInBounds_toArray, set_cons_zero, set_cons_succ]
            refine s_mid rtE rfl rfl (.tmp 98) BK (off + 6 * k) e.row rfl rfl rfl (fun w h => rangeAt_below HRI.out h.below hBK.out) ?_
            simp only [Act.put, getElem_toArray, getElem_cons_zero, getElem_cons_succ, setIfInBounds_toArray, set_cons_zero, set_cons_succ]
            refine Mm.o_callH (v := .int .i64 Z) H (fun W h => h) rfl rfl 9 (#[.slice a1 nr c1, .agg e.row.toArray]) (by go_simp; first | done | rfl) (ka.out _ _ HR.out (HP.out.below H.out.below (Nat.le_refl _))) ?_
            clear H
            intro _ H hb
            replace HR := hidp (HR.out.to hb); clear hb
            simp only [Act.put, getElem_toArray, getElem_cons_zero, getElem_cons_succ, setIfInBounds_toArray, set_cons_zero, set_cons_succ]
            apply s_val (v := .bool X)
            case ho | hw => rfl
            case hv => intro w hw; go_simp; first | done | rfl
            simp only [Act.put, getElem_toArray, getElem_cons_zero, getElem_cons_succ, setIfInBounds_toArray, set_cons_zero, set_cons_succ]
            apply s_val (v := .bool true)
            case ho | hw => rfl
            case hv => intro w hw; go_simp; first | done | rfl
            simp only [Act.put, getElem_toArray, getElem_cons_zero, getElem_cons_succ, setIfInBounds_toArray, set_cons_zero, set_cons_succ]
            apply s_val
            case ho | hw => rfl
            case hv => intro w hw; go_simp; first | done | rfl
            simp only [Act.put, getElem_toArray, getElem_cons_zero, getElem_cons_succ, setIfInBounds_toArray, set_cons_zero, set_cons_succ]
            apply s_val
            case ho | hw => rfl
            case hv => intro w hw; go_simp; first | done | rfl
            simp only [Act.put, getElem_toArray, getElem_cons_zero, getElem_cons_succ, setIfInBounds_toArray, set_cons_zero, set_cons_succ]
            apply s_val
            case ho | hw => rfl
            case hv => intro w hw; go_simp; first | done | rfl
            simp only [Act.put, getElem_toArray, getElem_cons_zero, getElem_cons_succ, setIfInBounds_toArray, set_cons_zero, set_cons_succ]
            refine NoPanic.normal ?_
            go_wp2_with fail
            go_ret
            exact ⟨rfl, H.out.below⟩
          · have f7 : ((k : Int) == (n : Int)) = true := by rw [beq_iff_eq]; omega
            clear hv hn hP hle h100 hfitC q1 q2 q3 q4 hR hS hM hF hnr hm hm2
            go_enter Tryz.func5, Tryz.ntmps5
            have tk0 := hidp trivial
            go_wp2_with (first | (refine Rt.wpL_skip _ _ rfl rfl ?_) | (clear tk0; (go_at_call 12; refine (li.out _ (HP.out.below H.out.below (Nat.le_refl _))).mono ?_; rintro e _ ⟨rfl, hb⟩; replace H := hidp (H.out.call hb); clear li; clear hb); (try simp only [Act.put, setIfInBounds_toArray, set_cons_zero, set_cons_succ]); have tk1 := hidp trivial) | (clear tk1; (refine wpL_toPre tyE rfl (.tmp 27) (.tmp 28) rfl _ n _ k (rowsE es) rfl rfl (HV.out.to H.out.below).rs (by rw [rowsE_len]; exact hkl.out) ?_); (try simp only [Act.put, setIfInBounds_toArray, set_cons_zero, set_cons_succ]); have tk2 := hidp trivial) | (clear tk2; (go_at_call 13; refine (kr1.out _ (HT.out.to H.out.below) (HP.out.below H.out.below (Nat.le_refl _))).mono ?_; rintro x _ ⟨v1, rfl, hcs, hb⟩; obtain ⟨a1, c1, rfl⟩ := hcs.form; rw [HNR.out] at hcs ⊢; replace H := hidp (H.out.call hb); have HR := hidp hcs; clear hcs hb kr1); (try simp only [Act.put, setIfInBounds_toArray, set_cons_zero, set_cons_succ]); have tk3 := hidp trivial) | (clear tk3; (refine Mm.new rtR H (some 5) rfl rfl rfl ?_; clear H; intro b5 _ H nw; have hb := nw.below; replace HR := hidp (HR.out.to hb); clear hb nw); (try simp only [Act.put, setIfInBounds_toArray, set_cons_zero, set_cons_succ]); have tk4 := hidp trivial) | (clear tk4; (refine Mm.put0 rtR H rfl (.tmp 5) (.tmp 31) [.slice a1 nr c1, .int .i64 R.h, .int .i64 R.ep, .int .i64 R.n] rfl rfl rfl rfl (by simp [Value.oneCell']) rfl ?_; intro _ H2 st; replace HR := hidp (HR.out.stp st H.out.at0 (by simp [zR])); clear st H; have H := H2; clear H2); (try simp only [Act.put, setIfInBounds_toArray, set_cons_zero, set_cons_succ]); have tk5 := hidp trivial) | (clear tk5; (go_at_call 13; refine (kr2.out _ (HV.out.to H.out.below) (HP.out.below H.out.below (Nat.le_refl _))).mono ?_; rintro x _ ⟨v2, rfl, hcs, hb⟩; obtain ⟨a2, c2, rfl⟩ := hcs.form; replace H := hidp (H.out.call hb); replace HR := hidp (HR.out.to hb); clear hcs hb kr2); (try simp only [Act.put, setIfInBounds_toArray, set_cons_zero, set_cons_succ]); have tk6 := hidp trivial) | (clear tk6; (refine Mm.new rtR H (some 8) rfl rfl rfl ?_; clear H; intro b8 _ H nw; have hb := nw.below; replace HR := hidp (HR.out.to hb); clear hb nw); (try simp only [Act.put, setIfInBounds_toArray, set_cons_zero, set_cons_succ]); have tk7 := hidp trivial) | (clear tk7; (refine Mm.put0 rtR H rfl (.tmp 8) (.tmp 37) [.slice a2 S.cs.length c2, .int .i64 S.h, .int .i64 S.ep, .int .i64 S.n] rfl rfl rfl rfl (by simp [Value.oneCell']) rfl ?_; intro _ H2 st; replace HR := hidp (HR.out.stp st H.out.at0 (by simp [zR])); clear st H; have H := H2; clear H2); (try simp only [Act.put, setIfInBounds_toArray, set_cons_zero, set_cons_succ]); have tk8 := hidp trivial))
            refine Mm.region H (.take 0 (.take 1 (.take 2 (.take 3 (.take 4 (.take 5 (.take 6 (.take 7 (.take 8 (.take 9 (.take 10 (.take 11 (.take 12 (.take 13 (.take 14 (.take 15 (.take 16 (.take 17 (.take 18 (.take 19 (.take 20 (.take 21 (.take 22 (.take 23 .done)))))))))))))))))))))))) (by kernel_rfl) (by kernel_rfl) (by simp [Scr.depth]) (by kernel_rfl) ?_
            clear H
            intro _ H hb
            replace HR := hidp (HR.out.to hb); clear hb
            apply s_val
            case ho | hw => rfl
            case hv => intro w hw; go_simp; first | done | rfl
            simp only [Act.put, getElem_toArray, getElem_cons_zero, getElem_cons_succ, setIfInBounds_toArray, set_cons_zero, set_cons_succ]
            apply s_val
            case ho | hw => rfl
            case hv => intro w hw; go_simp; first | done | rfl
            simp only [Act.put, getElem_toArray, getElem_cons_zero, getElem_cons_succ, setIfInBounds_toArray, set_cons_zero, set_cons_succ]
            apply s_val (v := .bool true)
            case ho | hw => rfl
            case hv => intro w hw; go_simp; first | done | rfl
            simp only [Act.put, getElem_toArray, getElem_cons_zero, getElem_cons_succ, setIfInBounds_toArray, set_cons_zero, set_cons_succ]
            apply s_val
            case ho | hw => rfl
            case hv => intro w hw; go_simp; first | done | rfl
            simp only [Act.put, getElem_toArray, getElem_cons_zero, getElem_cons_succ, setIfInBounds_toArray, set_cons_zero, set_cons_succ]
            apply s_val
            case ho | hw => rfl
            case hv => intro w hw; go_simp; first | done | rfl
            simp only [Act.put, getElem_toArray, getElem_cons_zero, getElem_cons_succ, setIfInBounds_toArray, set_cons_zero, set_cons_succ]
            apply s_val
            case ho | hw => rfl
            case hv => intro w hw; go_simp; first | done | rfl
            simp only [Act.put, getElem_toArray, getElem_cons_zero, getElem_cons_succ, setIfInBounds_toArray, set_cons_zero, set_cons_succ]
            apply s_val
            case ho | hw => rfl
            case hv => intro w hw; go_simp; first | done | rfl
            simp only [Act.put, getElem_toArray, getElem_cons_zero, getElem_cons_succ, setIfInBounds_toArray, set_cons_zero, set_cons_succ]
            apply s_val (v := .bool true)
            case ho | hw => rfl
            case hv => intro w hw; go_simp; first | done | rfl
            simp only [Act.put, getElem_toArray, getElem_cons_zero, getElem_cons_succ, setIfInBounds_toArray, set_cons_zero, set_cons_succ]
            apply s_val
            case ho | hw => rfl
            case hv => intro w hw; go_simp; first | done | rfl
            simp only [Act.put, getElem_toArray, getElem_cons_zero, getElem_cons_succ, setIfInBounds_toArray, set_cons_zero, set_cons_succ]
            refine Rt.s_skip rfl rfl ?_
            simp only [Act.put, getElem_toArray, getElem_cons_zero, getElem_cons_succ, setIfInBounds_toArray, set_cons_zero, set_cons_succ]
            refine Rt.s_skip rfl rfl ?_
            simp only [Act.put, getElem_toArray, getElem_cons_zero, getElem_cons_succ, setIfInBounds_toArray, set_cons_zero, set_cons_succ]
            refine Rt.s_skip rfl rfl ?_
            simp only [Act.put, getElem_toArray, getElem_cons_zero, getElem_cons_succ, setIfInBounds_toArray, set_cons_zero, set_cons_succ]
            refine Rt.s_skip rfl rfl ?_
            simp only [Act.put, getElem_toArray, getElem_cons_zero, getElem_cons_succ, setIfInBounds_toArray, set_cons_zero, set_cons_succ]
            refine Rt.s_skip rfl rfl ?_
            simp only [Act.put, getElem_toArray, getElem_cons_zero, getElem_cons_succ, setIfInBounds_toArray, set_cons_zero, set_cons_succ]
            refine Rt.s_skip rfl rfl ?_
            simp only [Act.put, getElem_toArray, getElem_cons_zero, getElem_cons_succ, setIfInBounds_toArray, set_cons_zero, set_cons_succ]
            refine Rt.s_skip rfl rfl ?_
            simp only [Act.put, getElem_toArray, getElem_cons_zero, getElem_cons_succ, setIfInBounds_toArray, set_cons_zero, set_cons_succ]
            refine Rt.s_skip rfl rfl ?_
            simp only [Act.put, getElem_toArray, getElem_cons_zero, getElem_cons_succ, setIfInBounds_toArray, set_cons_zero, set_cons_succ]
            refine Rt.s_skip rfl rfl ?_
            simp only [Act.put, getElem_toArray, getElem_cons_zero, getElem_cons_succ, setIfInBounds_toArray, set_cons_zero, set_cons_succ]
            refine Rt.s_skip rfl rfl ?_
            simp only [Act.put, getElem_toArray, getElem_cons_zero, getElem_cons_succ, setIfInBounds_toArray, set_cons_zero, set_cons_succ]
            refine Rt.s_skip rfl rfl ?_
            simp only [Act.put, getElem_toArray, getElem_cons_zero, getElem_cons_succ, setIfInBounds_toArray, set_cons_zero, set_cons_succ]
            refine Rt.s_skip rfl rfl ?_
            simp only [Act.put, getElem_toArray, getElem_cons_zero, getElem_cons_succ, setIfInBounds_toArray, set_cons_zero, set_cons_succ]
            apply s_val
            case ho | hw => rfl
            case hv => intro w hw; go_simp; first | done | rfl
            simp only [Act.put, getElem_toArray, getElem_cons_zero, getElem_cons_succ, setIfInBounds_toArray, set_cons_zero, set_cons_succ]
            apply s_val
            case ho | hw => rfl
            case hv => intro w hw; go_simp; first | done | rfl
            simp only [Act.put, getElem_toArray, getElem_cons_zero, getElem_cons_succ, setIfInBounds_toArray, set_cons_zero, set_cons_succ]
            apply s_val
            case ho | hw => rfl
            case hv => intro w hw; go_simp; first | done | rfl
            simp only [Act.put, getElem_toArray, getElem_cons_zero, getElem_cons_succ, setIfInBounds_toArray, set_cons_zero, set_cons_succ]
            refine NoPanic.normal ?_
            go_wp2_with fail
            go_ret
            exact ⟨rfl, H.out.below⟩
end Go.Proofs.YtkcgmimcopoknaaGreatDoor
