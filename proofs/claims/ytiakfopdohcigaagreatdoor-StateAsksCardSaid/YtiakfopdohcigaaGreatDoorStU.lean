
/-
  state: the document's ahead and Check.
-/
import Derived.Test.YtiakfopdohcigaaGreatDoorStN
import Derived.Test.YtiakfopdohcigaaGreatDoorEvH
namespace Go.Proofs.YtiakfopdohcigaaGreatDoor
set_option maxRecDepth 100000
set_option linter.unusedVariables false
set_option linter.unusedSimpArgs false
open Go.RowKit Rw
open List (getElem_toArray getElem_cons_zero getElem_cons_succ setIfInBounds_toArray set_cons_zero set_cons_succ)

theorem revCheck_ev (w : World) (e : Ev) (h : e.ok) : Calls Tryz.prog 90 #[.agg e.row.toArray] w fun x w' => x = .returned (.int .i64 (evE e)) ∧ Below w.heap.size w w' :=
  revCheck_any w e.room e.sender e.kind e.key e.body e.nonce h.k h.r h.s h.y h.b
section
variable {P : Program} {T k : Nat} {z : List Value} {ops : Array Oper} {rest : List Oper} {o : Oper} {a : Act} {w : World} {Q : Exit → Act → World → Prop}
/-- A struct within a row is loaded, where the operation is guarded and wanted. -/
theorem wpL_midG (R : Rt.RT P T k z) (hw : Region.wanted o (yielded ops a.tmps) = true) (x : Operand) (b f : Nat) (xs : List Value) (ho : o.op = .load T x) (hx : a.eval x = .pointer (some ⟨b, f, none⟩)) (hl : xs.length = k) (hg : w.rangeAt b f xs)
    (h : wpList P ops Q rest (a.put o.dst (.agg xs.toArray)) w) : wpList P ops Q (o :: rest) a w := by
  refine wpList_step fun K hK => ?_
  rw [if_pos hw]
  have := hK _ _ h
  rcases R.ut with ⟨fs, hu⟩ | ⟨n, e, hu⟩
  · unfold Oper.wp execOp
    simp only [ho, hx, Sem.run_bind, run_loadAt_mid w b f T xs _ hg hu rfl (by have := R.size hl; simpa using this), Result.andThen_ok]
    exact this
  · unfold Oper.wp execOp
    simp only [ho, hx, Sem.run_bind, run_loadAt_mid w b f T xs _ hg hu rfl (by have := R.size hl; simpa using this), Result.andThen_ok]
    exact this
end

set_option maxHeartbeats 4000000 in
theorem rahead_any (w : World) (k l : Nat) (a b : ByteArray) : Calls Tryz.prog 103 #[.int .u8 (k : Int), .string a, .int .u8 (l : Int), .string b] w fun e w' => e = .returned (.bool (ahB k a l b)) ∧ Below w.heap.size w w' := by
  by_cases h : k < l
  · have d1 : decide ((k : Int) < (l : Int)) = true := by simp; omega
    have n1 : (k : Int) < (l : Int) := by omega
    have HF := hidp (show ahB k a l b = true from by unfold ahB; rw [decide_eq_true h]; rfl)
    go_enter Tryz.func103, Tryz.ntmps103
    go_wp2_with (first | (refine Rt.wpL_skip _ _ rfl rfl ?_))
    go_ret
    exact ⟨by rw [HF.out]; rfl, Below.refl _ _⟩
  · have d1 : decide ((k : Int) < (l : Int)) = false := by simp; omega
    have n1 : ¬ (k : Int) < (l : Int) := by omega
    by_cases h2 : k = l
    · have d2 : ((k : Int) == (l : Int)) = true := by simp [h2]
      cases hz : Op.bytesLess a.toList b.toList with
      | true =>
        have HF := hidp (show ahB k a l b = true from by unfold ahB; rw [decide_eq_true h2, hz]; simp)
        clear h h2
        go_enter Tryz.func103, Tryz.ntmps103
        go_wp2_with (first | (refine Rt.wpL_skip _ _ rfl rfl ?_))
        go_ret
        exact ⟨by rw [HF.out]; rfl, Below.refl _ _⟩
      | false =>
        have HF := hidp (show ahB k a l b = false from by unfold ahB; rw [hz, decide_eq_false h]; simp)
        clear h h2
        go_enter Tryz.func103, Tryz.ntmps103
        go_wp2_with (first | (refine Rt.wpL_skip _ _ rfl rfl ?_))
        go_ret
        exact ⟨by rw [HF.out]; rfl, Below.refl _ _⟩
    · have d2 : ((k : Int) == (l : Int)) = false := by rw [beq_eq_false_iff_ne]; omega
      have HF := hidp (show ahB k a l b = false from by unfold ahB; rw [decide_eq_false h2, decide_eq_false h]; rfl)
      go_enter Tryz.func103, Tryz.ntmps103
      go_wp2_with (first | (refine Rt.wpL_skip _ _ rfl rfl ?_))
      go_ret
      exact ⟨by rw [HF.out]; rfl, Below.refl _ _⟩

set_option maxHeartbeats 16000000 in
theorem rstCheck_any (w : World) (v : Value) (cs : List Ce) (hv : CsAt w v cs) :
    Calls Tryz.prog 56 #[v] w fun e w' => e = .returned (.int .i64 (ckS cs)) ∧ Below w.heap.size w w' := by
  have HV := hidp hv; clear hv
  obtain ⟨av, cv0, rfl⟩ := HV.out.form
  have HOKS := hidp HV.out.ok
  have h47 := HV.out.len
  obtain ⟨n, hn⟩ : ∃ n, cs.length = n := ⟨_, rfl⟩
  have HN := hidp hn
  rw [hn] at HV h47 ⊢
  clear hn
  have H := hidp (Mm.M.nil w)
  by_cases h256 : 256 < n
  · have e0 : decide ((n : Int) > 256) = true := by simp; omega
    have HF := hidp (show ckS cs = 2 from if_neg fun h => by unfold okS at h; rw [Bool.and_eq_true, decide_eq_true_eq, HN.out] at h; omega)
    go_enter Tryz.func56, Tryz.ntmps56
    go_wp2_with fail
    go_ret
    exact ⟨by rw [HF.out]; rfl, Below.refl _ _⟩
  · have e0 : decide ((n : Int) > 256) = false := by simp; omega
    have n0 : ¬ 256 < n := h256
    go_enter Tryz.func56, Tryz.ntmps56
    go_wp2_with fail
    go_loopw [10] (fun t10 wr => ∃ i : Nat, t10 = .int .i64 (i : Int) ∧ i ≤ n ∧ sTo cs i = true ∧ Mm.M w.heap.size w wr []) (fun t10 _ => n - (intOf t10).toNat)
    case atStart => exact ⟨0, rfl, by omega, rfl, H.out⟩
    case round =>
      clear H
      obtain ⟨i, rfl, hi, hok, hM⟩ := hrel
      have HOK := hidp hok; have H := hidp hM
      clear hok hM
      by_cases hlt : i < n
      · have e1 : decide ((i : Int) < (n : Int)) = true := by simp; omega
        have hgl : i < cs.length := by rw [HN.out]; exact hlt
        obtain ⟨BK, off, c0, e2, hc, hBK0, hR0⟩ := HV.out.get (by rw [HN.out]; omega)
        rw [HN.out] at e2
        simp only [Value.slice.injEq] at e2
        obtain ⟨rfl, -, rfl⟩ := e2
        have hBK := hidp hBK0
        have HR := hidp hR0
        obtain ⟨c, hge⟩ : ∃ c, cs[i] = c := ⟨_, rfl⟩
        have HRI := hidp (show wr.rangeAt BK (off + 8 * i) c.row from by rw [← hge]; exact rangeAt_below (hR0 i hgl) H.out.below hBK0)
        have hcok := hidp (show c.ok from by rw [← hge]; exact HOKS.out _ (List.getElem_mem hgl))
        have HAT := hidp (show sAt cs i = (vaC c && (decide (i = 0) || decide (cmpC (cs.getD (i - 1) cz) c < 0))) from by unfold sAt; rw [getD_ce hgl, hge])
        have hwi : i ≠ 0 → IntKind.i64.wrap ((i : Int) - 1) = ((i - 1 : Nat) : Int) := fun h => by rw [IntKind.wrap_i64]; omega
        have cs9 := hidp (fun W => rstate_any W c.k hcok.out.k)
        have cv := hidp (fun W => revCheck_ev W c.e hcok.out.e)
        have HVP := hidp (vaC_parts c)
        clear hR0 hBK0 hge hc
        cases hs : stB c.k with
        | false =>
          rw [hs] at cs9
          have HF := hidp (show ckS cs = 2 from ckS_bad hgl (by rw [HAT.out, HVP.out, hs]; rfl))
          clear hs
          have tk0 := hidp trivial
          go_wp2_with (first | (clear tk0; (refine wpL_idxR tyC rfl (.tmp 8) (.tmp 10) rfl BK off n _ i rfl rfl hlt ?_); (try simp only [Act.put, setIfInBounds_toArray, set_cons_zero, set_cons_succ]); have tk1 := hidp trivial) | (clear tk1; (refine wpL_atR tyC rfl (.tmp 13) rfl BK (off + 8 * i) c.row rfl rfl HRI.out ?_); (try simp only [Act.put, setIfInBounds_toArray, set_cons_zero, set_cons_succ]); have tk2 := hidp trivial) | (clear tk2; (refine Mm.new rtC H (some 4) rfl rfl rfl ?_; clear H; intro b4 _ H nw; have hb := nw.below; clear hb nw); (try simp only [Act.put, setIfInBounds_toArray, set_cons_zero, set_cons_succ]); have tk3 := hidp trivial) | (clear tk3; (refine Mm.put0 rtC H rfl (.tmp 4) (.tmp 14) c.row rfl rfl rfl rfl (Ce.one c) rfl ?_; intro _ H2 st; clear st H; have H := H2; clear H2); (try simp only [Act.put, setIfInBounds_toArray, set_cons_zero, set_cons_succ]); have tk4 := hidp trivial) | (clear tk4; (refine Mm.ld0 naK H rfl (.tmp 15) 0 (.int .u8 (c.k : Int)) rfl rfl rfl ?_); (try simp only [Act.put, setIfInBounds_toArray, set_cons_zero, set_cons_succ]); have tk5 := hidp trivial) | (clear tk5; (go_at_call 95; refine (cs9.out _).mono ?_; rintro e _ ⟨rfl, hb⟩; replace H := hidp (H.out.call hb); clear cs9; clear hb); (try simp only [Act.put, setIfInBounds_toArray, set_cons_zero, set_cons_succ]); have tk6 := hidp trivial) | (clear tk6; (refine Mm.skipd 20 rfl _ _ rfl rfl ?_); (try simp only [Act.put, setIfInBounds_toArray, set_cons_zero, set_cons_succ]); have tk7 := hidp trivial) | (clear tk7; (refine Mm.skipd 21 rfl _ _ rfl rfl ?_); (try simp only [Act.put, setIfInBounds_toArray, set_cons_zero, set_cons_succ]); have tk8 := hidp trivial) | (clear tk8; (refine Mm.skipd 22 rfl _ _ rfl rfl ?_); (try simp only [Act.put, setIfInBounds_toArray, set_cons_zero, set_cons_succ]); have tk9 := hidp trivial) | (clear tk9; (refine Mm.skipd 23 rfl _ _ rfl rfl ?_); (try simp only [Act.put, setIfInBounds_toArray, set_cons_zero, set_cons_succ]); have tk10 := hidp trivial) | (clear tk10; (refine Mm.skipd 26 rfl _ _ rfl rfl ?_); (try simp only [Act.put, setIfInBounds_toArray, set_cons_zero, set_cons_succ]); have tk11 := hidp trivial) | (clear tk11; (refine Mm.skipd 27 rfl _ _ rfl rfl ?_); (try simp only [Act.put, setIfInBounds_toArray, set_cons_zero, set_cons_succ]); have tk12 := hidp trivial) | (clear tk12; (refine Mm.skipd 28 rfl _ _ rfl rfl ?_); (try simp only [Act.put, setIfInBounds_toArray, set_cons_zero, set_cons_succ]); have tk13 := hidp trivial) | (clear tk13; (refine Mm.skipd 29 rfl _ _ rfl rfl ?_); (try simp only [Act.put, setIfInBounds_toArray, set_cons_zero, set_cons_succ]); have tk14 := hidp trivial) | (clear tk14; (refine Mm.skipd 30 rfl _ _ rfl rfl ?_); (try simp only [Act.put, setIfInBounds_toArray, set_cons_zero, set_cons_succ]); have tk15 := hidp trivial) | (clear tk15; (refine Mm.skipd 31 rfl _ _ rfl rfl ?_); (try simp only [Act.put, setIfInBounds_toArray, set_cons_zero, set_cons_succ]); have tk16 := hidp trivial) | (clear tk16; (refine Mm.skipd 34 rfl _ _ rfl rfl ?_); (try simp only [Act.put, setIfInBounds_toArray, set_cons_zero, set_cons_succ]); have tk17 := hidp trivial) | (clear tk17; (refine Mm.skipd 35 rfl _ _ rfl rfl ?_); (try simp only [Act.put, setIfInBounds_toArray, set_cons_zero, set_cons_succ]); have tk18 := hidp trivial) | (clear tk18; (refine Mm.skipd 36 rfl _ _ rfl rfl ?_); (try simp only [Act.put, setIfInBounds_toArray, set_cons_zero, set_cons_succ]); have tk19 := hidp trivial) | (clear tk19; (refine Mm.skipd 37 rfl _ _ rfl rfl ?_); (try simp only [Act.put, setIfInBounds_toArray, set_cons_zero, set_cons_succ]); have tk20 := hidp trivial) | (clear tk20; (refine Mm.skipd 38 rfl _ _ rfl rfl ?_); (try simp only [Act.put, setIfInBounds_toArray, set_cons_zero, set_cons_succ]); have tk21 := hidp trivial) | (clear tk21; (refine Mm.skipd 39 rfl _ _ rfl rfl ?_); (try simp only [Act.put, setIfInBounds_toArray, set_cons_zero, set_cons_succ]); have tk22 := hidp trivial))
          try clear tk22
          go_ret
          exact ⟨by rw [HF.out]; rfl, H.out.below⟩
        | true =>
          rw [hs] at cs9
          cases ho : evOk c.e with
          | false =>
            rw [show evE c.e = 2 from by unfold evE; rw [ho]; rfl] at cv
            have HF := hidp (show ckS cs = 2 from ckS_bad hgl (by rw [HAT.out, HVP.out, hs, ho]; rfl))
            clear hs ho
            have tk0 := hidp trivial
            go_wp2_with (first | (clear tk0; (refine wpL_idxR tyC rfl (.tmp 8) (.tmp 10) rfl BK off n _ i rfl rfl hlt ?_); (try simp only [Act.put, setIfInBounds_toArray, set_cons_zero, set_cons_succ]); have tk1 := hidp trivial) | (clear tk1; (refine wpL_atR tyC rfl (.tmp 13) rfl BK (off + 8 * i) c.row rfl rfl HRI.out ?_); (try simp only [Act.put, setIfInBounds_toArray, set_cons_zero, set_cons_succ]); have tk2 := hidp trivial) | (clear tk2; (refine Mm.new rtC H (some 4) rfl rfl rfl ?_; clear H; intro b4 _ H nw; have hb := nw.below; clear hb nw); (try simp only [Act.put, setIfInBounds_toArray, set_cons_zero, set_cons_succ]); have tk3 := hidp trivial) | (clear tk3; (refine Mm.put0 rtC H rfl (.tmp 4) (.tmp 14) c.row rfl rfl rfl rfl (Ce.one c) rfl ?_; intro _ H2 st; clear st H; have H := H2; clear H2); (try simp only [Act.put, setIfInBounds_toArray, set_cons_zero, set_cons_succ]); have tk4 := hidp trivial) | (clear tk4; (refine Mm.ld0 naK H rfl (.tmp 15) 0 (.int .u8 (c.k : Int)) rfl rfl rfl ?_); (try simp only [Act.put, setIfInBounds_toArray, set_cons_zero, set_cons_succ]); have tk5 := hidp trivial) | (clear tk5; (go_at_call 95; refine (cs9.out _).mono ?_; rintro e _ ⟨rfl, hb⟩; replace H := hidp (H.out.call hb); clear cs9; clear hb); (try simp only [Act.put, setIfInBounds_toArray, set_cons_zero, set_cons_succ]); have tk6 := hidp trivial) | (clear tk6; (refine wpL_midG rtE rfl (.tmp 20) b4 2 c.e.row rfl rfl rfl (ce_evA H.out.at0) ?_); (try simp only [Act.put, setIfInBounds_toArray, set_cons_zero, set_cons_succ]); have tk7 := hidp trivial) | (clear tk7; (go_at_call 90; refine (cv.out _).mono ?_; rintro e _ ⟨rfl, hb⟩; replace H := hidp (H.out.call hb); clear cv; clear hb); (try simp only [Act.put, setIfInBounds_toArray, set_cons_zero, set_cons_succ]); have tk8 := hidp trivial) | (clear tk8; (refine Mm.skipd 26 rfl _ _ rfl rfl ?_); (try simp only [Act.put, setIfInBounds_toArray, set_cons_zero, set_cons_succ]); have tk9 := hidp trivial) | (clear tk9; (refine Mm.skipd 27 rfl _ _ rfl rfl ?_); (try simp only [Act.put, setIfInBounds_toArray, set_cons_zero, set_cons_succ]); have tk10 := hidp trivial) | (clear tk10; (refine Mm.skipd 28 rfl _ _ rfl rfl ?_); (try simp only [Act.put, setIfInBounds_toArray, set_cons_zero, set_cons_succ]); have tk11 := hidp trivial) | (clear tk11; (refine Mm.skipd 29 rfl _ _ rfl rfl ?_); (try simp only [Act.put, setIfInBounds_toArray, set_cons_zero, set_cons_succ]); have tk12 := hidp trivial) | (clear tk12; (refine Mm.skipd 30 rfl _ _ rfl rfl ?_); (try simp only [Act.put, setIfInBounds_toArray, set_cons_zero, set_cons_succ]); have tk13 := hidp trivial) | (clear tk13; (refine Mm.skipd 31 rfl _ _ rfl rfl ?_); (try simp only [Act.put, setIfInBounds_toArray, set_cons_zero, set_cons_succ]); have tk14 := hidp trivial) | (clear tk14; (refine Mm.skipd 34 rfl _ _ rfl rfl ?_); (try simp only [Act.put, setIfInBounds_toArray, set_cons_zero, set_cons_succ]); have tk15 := hidp trivial) | (clear tk15; (refine Mm.skipd 35 rfl _ _ rfl rfl ?_); (try simp only [Act.put, setIfInBounds_toArray, set_cons_zero, set_cons_succ]); have tk16 := hidp trivial) | (clear tk16; (refine Mm.skipd 36 rfl _ _ rfl rfl ?_); (try simp only [Act.put, setIfInBounds_toArray, set_cons_zero, set_cons_succ]); have tk17 := hidp trivial) | (clear tk17; (refine Mm.skipd 37 rfl _ _ rfl rfl ?_); (try simp only [Act.put, setIfInBounds_toArray, set_cons_zero, set_cons_succ]); have tk18 := hidp trivial) | (clear tk18; (refine Mm.skipd 38 rfl _ _ rfl rfl ?_); (try simp only [Act.put, setIfInBounds_toArray, set_cons_zero, set_cons_succ]); have tk19 := hidp trivial) | (clear tk19; (refine Mm.skipd 39 rfl _ _ rfl rfl ?_); (try simp only [Act.put, setIfInBounds_toArray, set_cons_zero, set_cons_succ]); have tk20 := hidp trivial))
            try clear tk20
            go_ret
            exact ⟨by rw [HF.out]; rfl, H.out.below⟩
          | true =>
            rw [show evE c.e = 0 from by unfold evE; rw [ho]; rfl] at cv
            by_cases hk : c.e.kind = c.k
            · have ek : ((c.e.kind : Int) == (c.k : Int)) = true := by rw [hk]; simp
              have ekn : ((c.e.kind : Int) != (c.k : Int)) = false := by simp [bne, ek]
              by_cases hy : c.e.key = c.y
              · have ey : (c.e.key.toList == c.y.toList) = true := by rw [hy]; simp
                have hva := show vaC c = true from by rw [HVP.out, hs, ho, decide_eq_true hk, decide_eq_true hy]; rfl
                clear hs ho hk hy
                by_cases hz : i = 0
                · have ei : decide ((i : Int) > 0) = false := by simp; omega
                  have HOK2 := hidp (show sTo cs (i + 1) = true from by rw [sTo_succ, HOK.out, HAT.out, hva, decide_eq_true hz]; rfl)
                  clear hva
                  have tk0 := hidp trivial
                  go_wp2_with (first | (clear tk0; (refine wpL_idxR tyC rfl (.tmp 8) (.tmp 10) rfl BK off n _ i rfl rfl hlt ?_); (try simp only [Act.put, setIfInBounds_toArray, set_cons_zero, set_cons_succ]); have tk1 := hidp trivial) | (clear tk1; (refine wpL_atR tyC rfl (.tmp 13) rfl BK (off + 8 * i) c.row rfl rfl HRI.out ?_); (try simp only [Act.put, setIfInBounds_toArray, set_cons_zero, set_cons_succ]); have tk2 := hidp trivial) | (clear tk2; (refine Mm.new rtC H (some 4) rfl rfl rfl ?_; clear H; intro b4 _ H nw; have hb := nw.below; clear hb nw); (try simp only [Act.put, setIfInBounds_toArray, set_cons_zero, set_cons_succ]); have tk3 := hidp trivial) | (clear tk3; (refine Mm.put0 rtC H rfl (.tmp 4) (.tmp 14) c.row rfl rfl rfl rfl (Ce.one c) rfl ?_; intro _ H2 st; clear st H; have H := H2; clear H2); (try simp only [Act.put, setIfInBounds_toArray, set_cons_zero, set_cons_succ]); have tk4 := hidp trivial) | (clear tk4; (refine Mm.ld0 naK H rfl (.tmp 15) 0 (.int .u8 (c.k : Int)) rfl rfl rfl ?_); (try simp only [Act.put, setIfInBounds_toArray, set_cons_zero, set_cons_succ]); have tk5 := hidp trivial) | (clear tk5; (go_at_call 95; refine (cs9.out _).mono ?_; rintro e _ ⟨rfl, hb⟩; replace H := hidp (H.out.call hb); clear cs9; clear hb); (try simp only [Act.put, setIfInBounds_toArray, set_cons_zero, set_cons_succ]); have tk6 := hidp trivial) | (clear tk6; (refine wpL_midG rtE rfl (.tmp 20) b4 2 c.e.row rfl rfl rfl (ce_evA H.out.at0) ?_); (try simp only [Act.put, setIfInBounds_toArray, set_cons_zero, set_cons_succ]); have tk7 := hidp trivial) | (clear tk7; (go_at_call 90; refine (cv.out _).mono ?_; rintro e _ ⟨rfl, hb⟩; replace H := hidp (H.out.call hb); clear cv; clear hb); (try simp only [Act.put, setIfInBounds_toArray, set_cons_zero, set_cons_succ]); have tk8 := hidp trivial) | (clear tk8; (refine Mm.ld0 naK H rfl (.tmp 27) 4 (.int .u8 (c.e.kind : Int)) rfl rfl rfl ?_); (try simp only [Act.put, setIfInBounds_toArray, set_cons_zero, set_cons_succ]); have tk9 := hidp trivial) | (clear tk9; (refine Mm.ld0 naK H rfl (.tmp 29) 0 (.int .u8 (c.k : Int)) rfl rfl rfl ?_); (try simp only [Act.put, setIfInBounds_toArray, set_cons_zero, set_cons_succ]); have tk10 := hidp trivial) | (clear tk10; (refine Mm.ld0 naS H rfl (.tmp 35) 5 (.string c.e.key) rfl rfl rfl ?_); (try simp only [Act.put, setIfInBounds_toArray, set_cons_zero, set_cons_succ]); have tk11 := hidp trivial) | (clear tk11; (refine Mm.ld0 naS H rfl (.tmp 37) 1 (.string c.y) rfl rfl rfl ?_); (try simp only [Act.put, setIfInBounds_toArray, set_cons_zero, set_cons_succ]); have tk12 := hidp trivial))
                  try clear tk12
                  refine Mm.region H (.take 0 (.take 1 (.take 2 (.take 3 (.take 4 (.take 5 (.take 6 (.take 7 (.take 8 (.take 9 (.take 10 (.take 11 (.take 12 (.take 13 (.take 14 (.take 15 (.take 16 (.take 17 (.take 18 (.take 19 (.take 20 (.take 21 .done)))))))))))))))))))))) (by kernel_rfl) (by kernel_rfl) (by simp [Scr.depth]) (by kernel_rfl) ?_
                  clear H
                  intro _ H hb
                  clear hb
                  apply s_val
                  case ho | hw => rfl
                  case hv => intro w hw; go_simp; first | done | rfl
                  simp only [Act.put, getElem_toArray, getElem_cons_zero, getElem_cons_succ, setIfInBounds_toArray, set_cons_zero, set_cons_succ]
                  apply s_val
                  case ho | hw => rfl
                  case hv => intro w hw; have q := ei; go_simp; first | done | rfl
                  simp only [Act.put, getElem_toArray, getElem_cons_zero, getElem_cons_succ, setIfInBounds_toArray, set_cons_zero, set_cons_succ]
                  apply s_val
                  case ho | hw => rfl
                  case hv => intro w hw; go_simp; first | done | rfl
                  simp only [Act.put, getElem_toArray, getElem_cons_zero, getElem_cons_succ, setIfInBounds_toArray, set_cons_zero, set_cons_succ]
                  refine Rt.s_skip rfl rfl ?_
                  simp only [Act.put, getElem_toArray, getElem_cons_zero, getElem_cons_succ, setIfInBounds_toArray, set_cons_zero, set_cons_succ]
                  refine Rt.s_skip rfl rfl ?_
                  simp only [Act.put, getElem_toArray, getElem_cons_zero, getElem_cons_succ, setIfInBounds_toArray, set_cons_zero, set_cons_succ]
                  refine Rt.s_skip rfl rfl ?_
                  simp only [Act.put, getElem_toArray, getElem_cons_zero, getElem_cons_succ, setIfInBounds_toArray, set_cons_zero, set_cons_succ]
                  refine Rt.s_skip rfl rfl ?_
                  simp only [Act.put, getElem_toArray, getElem_cons_zero, getElem_cons_succ, setIfInBounds_toArray, set_cons_zero, set_cons_succ]
                  refine Rt.s_skip rfl rfl ?_
                  simp only [Act.put, getElem_toArray, getElem_cons_zero, getElem_cons_succ, setIfInBounds_toArray, set_cons_zero, set_cons_succ]
                  refine Rt.s_skip rfl rfl ?_
                  simp only [Act.put, getElem_toArray, getElem_cons_zero, getElem_cons_succ, setIfInBounds_toArray, set_cons_zero, set_cons_succ]
                  refine Rt.s_skip rfl rfl ?_
                  simp only [Act.put, getElem_toArray, getElem_cons_zero, getElem_cons_succ, setIfInBounds_toArray, set_cons_zero, set_cons_succ]
                  refine Rt.s_skip rfl rfl ?_
                  simp only [Act.put, getElem_toArray, getElem_cons_zero, getElem_cons_succ, setIfInBounds_toArray, set_cons_zero, set_cons_succ]
                  refine Rt.s_skip rfl rfl ?_
                  simp only [Act.put, getElem_toArray, getElem_cons_zero, getElem_cons_succ, setIfInBounds_toArray, set_cons_zero, set_cons_succ]
                  refine Rt.s_skip rfl rfl ?_
                  simp only [Act.put, getElem_toArray, getElem_cons_zero, getElem_cons_succ, setIfInBounds_toArray, set_cons_zero, set_cons_succ]
                  refine Rt.s_skip rfl rfl ?_
                  simp only [Act.put, getElem_toArray, getElem_cons_zero, getElem_cons_succ, setIfInBounds_toArray, set_cons_zero, set_cons_succ]
                  refine Rt.s_skip rfl rfl ?_
                  simp only [Act.put, getElem_toArray, getElem_cons_zero, getElem_cons_succ, setIfInBounds_toArray, set_cons_zero, set_cons_succ]
                  refine Rt.s_skip rfl rfl ?_
                  simp only [Act.put, getElem_toArray, getElem_cons_zero, getElem_cons_succ, setIfInBounds_toArray, set_cons_zero, set_cons_succ]
                  refine Rt.s_skip rfl rfl ?_
                  simp only [Act.put, getElem_toArray, getElem_cons_zero, getElem_cons_succ, setIfInBounds_toArray, set_cons_zero, set_cons_succ]
                  refine Rt.s_skip rfl rfl ?_
                  simp only [Act.put, getElem_toArray, getElem_cons_zero, getElem_cons_succ, setIfInBounds_toArray, set_cons_zero, set_cons_succ]
                  refine Rt.s_skip rfl rfl ?_
                  simp only [Act.put, getElem_toArray, getElem_cons_zero, getElem_cons_succ, setIfInBounds_toArray, set_cons_zero, set_cons_succ]
                  refine Rt.s_skip rfl rfl ?_
                  simp only [Act.put, getElem_toArray, getElem_cons_zero, getElem_cons_succ, setIfInBounds_toArray, set_cons_zero, set_cons_succ]
                  refine Rt.s_skip rfl rfl ?_
                  simp only [Act.put, getElem_toArray, getElem_cons_zero, getElem_cons_succ, setIfInBounds_toArray, set_cons_zero, set_cons_succ]
                  apply s_val
                  case ho | hw => rfl
                  case hv => intro w hw; go_simp; first | done | rfl
                  simp only [Act.put, getElem_toArray, getElem_cons_zero, getElem_cons_succ, setIfInBounds_toArray, set_cons_zero, set_cons_succ]
                  refine NoPanic.normal ?_
                  go_wp2_with fail
                  exact ⟨⟨i + 1, by go_num, by omega, HOK2.out, H.out.sub (List.nil_sublist _)⟩, by simp [intOf]; omega⟩
                · have hi0 : 0 < i := by omega
                  have ei : decide ((i : Int) > 0) = true := by simp; omega
                  have hwi := hwi hz
                  have hpl : i - 1 < cs.length := by omega
                  obtain ⟨p, hpe0⟩ : ∃ p, cs[i - 1] = p := ⟨_, rfl⟩
                  have HRP := hidp (show w.rangeAt BK (off + 8 * (i - 1)) p.row from by rw [← hpe0]; exact HR.out (i - 1) hpl)
                  have hpd := hidp (show cs.getD (i - 1) cz = p from by rw [getD_ce hpl]; exact hpe0)
                  have ca := hidp (fun W => rahead_any W p.k c.k p.y c.y)
                  have hal := ahB_lt p c
                  obtain ⟨X, hX⟩ : ∃ X, ahB p.k p.y c.k c.y = X := ⟨_, rfl⟩
                  rw [hX] at ca hal
                  clear hpe0 hX
                  cases X with
                  | true =>
                    have HOK2 := hidp (show sTo cs (i + 1) = true from by rw [sTo_succ, HOK.out, HAT.out, hva, hpd.out, ← hal]; simp)
                    clear hva hal
                    have tk0 := hidp trivial
                    go_wp2_with (first | (clear tk0; (refine wpL_idxR tyC rfl (.tmp 8) (.tmp 10) rfl BK off n _ i rfl rfl hlt ?_); (try simp only [Act.put, setIfInBounds_toArray, set_cons_zero, set_cons_succ]); have tk1 := hidp trivial) | (clear tk1; (refine wpL_atR tyC rfl (.tmp 13) rfl BK (off + 8 * i) c.row rfl rfl HRI.out ?_); (try simp only [Act.put, setIfInBounds_toArray, set_cons_zero, set_cons_succ]); have tk2 := hidp trivial) | (clear tk2; (refine Mm.new rtC H (some 4) rfl rfl rfl ?_; clear H; intro b4 _ H nw; have hb := nw.below; clear hb nw); (try simp only [Act.put, setIfInBounds_toArray, set_cons_zero, set_cons_succ]); have tk3 := hidp trivial) | (clear tk3; (refine Mm.put0 rtC H rfl (.tmp 4) (.tmp 14) c.row rfl rfl rfl rfl (Ce.one c) rfl ?_; intro _ H2 st; clear st H; have H := H2; clear H2); (try simp only [Act.put, setIfInBounds_toArray, set_cons_zero, set_cons_succ]); have tk4 := hidp trivial) | (clear tk4; (refine Mm.ld0 naK H rfl (.tmp 15) 0 (.int .u8 (c.k : Int)) rfl rfl rfl ?_); (try simp only [Act.put, setIfInBounds_toArray, set_cons_zero, set_cons_succ]); have tk5 := hidp trivial) | (clear tk5; (go_at_call 95; refine (cs9.out _).mono ?_; rintro e _ ⟨rfl, hb⟩; replace H := hidp (H.out.call hb); clear cs9; clear hb); (try simp only [Act.put, setIfInBounds_toArray, set_cons_zero, set_cons_succ]); have tk6 := hidp trivial) | (clear tk6; (refine wpL_midG rtE rfl (.tmp 20) b4 2 c.e.row rfl rfl rfl (ce_evA H.out.at0) ?_); (try simp only [Act.put, setIfInBounds_toArray, set_cons_zero, set_cons_succ]); have tk7 := hidp trivial) | (clear tk7; (go_at_call 90; refine (cv.out _).mono ?_; rintro e _ ⟨rfl, hb⟩; replace H := hidp (H.out.call hb); clear cv; clear hb); (try simp only [Act.put, setIfInBounds_toArray, set_cons_zero, set_cons_succ]); have tk8 := hidp trivial) | (clear tk8; (refine Mm.ld0 naK H rfl (.tmp 27) 4 (.int .u8 (c.e.kind : Int)) rfl rfl rfl ?_); (try simp only [Act.put, setIfInBounds_toArray, set_cons_zero, set_cons_succ]); have tk9 := hidp trivial) | (clear tk9; (refine Mm.ld0 naK H rfl (.tmp 29) 0 (.int .u8 (c.k : Int)) rfl rfl rfl ?_); (try simp only [Act.put, setIfInBounds_toArray, set_cons_zero, set_cons_succ]); have tk10 := hidp trivial) | (clear tk10; (refine Mm.ld0 naS H rfl (.tmp 35) 5 (.string c.e.key) rfl rfl rfl ?_); (try simp only [Act.put, setIfInBounds_toArray, set_cons_zero, set_cons_succ]); have tk11 := hidp trivial) | (clear tk11; (refine Mm.ld0 naS H rfl (.tmp 37) 1 (.string c.y) rfl rfl rfl ?_); (try simp only [Act.put, setIfInBounds_toArray, set_cons_zero, set_cons_succ]); have tk12 := hidp trivial))
                    try clear tk12
                    refine Mm.region H (.take 0 (.take 1 (.take 2 (.take 3 (.take 4 (.take 5 (.take 6 (.take 7 (.take 8 (.take 9 (.take 10 (.take 11 (.take 12 (.take 13 (.take 14 (.take 15 (.take 16 (.take 17 (.take 18 (.one 19 (.take 20 (.take 21 .done)))))))))))))))))))))) (by kernel_rfl) (by kernel_rfl) (by simp [Scr.depth]) (by kernel_rfl) ?_
                    clear H
                    intro _ H hb
                    clear hb
                    apply s_val
                    case ho | hw => rfl
                    case hv => intro w hw; go_simp; first | done | rfl
                    simp only [Act.put, getElem_toArray, getElem_cons_zero, getElem_cons_succ, setIfInBounds_toArray, set_cons_zero, set_cons_succ]
                    apply s_val
                    case ho | hw => rfl
                    case hv => intro w hw; have q := ei; go_simp; first | done | rfl
                    simp only [Act.put, getElem_toArray, getElem_cons_zero, getElem_cons_succ, setIfInBounds_toArray, set_cons_zero, set_cons_succ]
                    apply s_val
                    case ho | hw => rfl
                    case hv => intro w hw; go_simp; first | done | rfl
                    simp only [Act.put, getElem_toArray, getElem_cons_zero, getElem_cons_succ, setIfInBounds_toArray, set_cons_zero, set_cons_succ]
                    apply s_val
                    case ho | hw => rfl
                    case hv => intro w hw; go_simp; first | done | rfl
                    simp only [Act.put, getElem_toArray, getElem_cons_zero, getElem_cons_succ, setIfInBounds_toArray, set_cons_zero, set_cons_succ]
                    apply s_val
                    case ho | hw => rfl
                    case hv => intro w hw; go_simp; first | done | rfl
                    simp only [Act.put, getElem_toArray, getElem_cons_zero, getElem_cons_succ, setIfInBounds_toArray, set_cons_zero, set_cons_succ]
                    apply s_val (v := .int .i64 ((i - 1 : Nat) : Int))
                    case ho | hw => rfl
                    case hv => intro w hw; have q := hwi; go_simp; first | done | rfl
                    simp only [Act.put, getElem_toArray, getElem_cons_zero, getElem_cons_succ, setIfInBounds_toArray, set_cons_zero, set_cons_succ]
                    refine s_idxR tyC rfl rfl (.tmp 44) (.tmp 46) rfl BK off n _ (i - 1) rfl rfl (by omega) ?_
                    simp only [Act.put, getElem_toArray, getElem_cons_zero, getElem_cons_succ, setIfInBounds_toArray, set_cons_zero, set_cons_succ]
                    apply s_val
                    case ho | hw => rfl
                    case hv => intro w hw; go_simp; first | done | rfl
                    simp only [Act.put, getElem_toArray, getElem_cons_zero, getElem_cons_succ, setIfInBounds_toArray, set_cons_zero, set_cons_succ]
                    refine Mm.s_ldc naK rfl rfl (.tmp 48) ⟨BK, off + 8 * (i - 1), none⟩ (.int .u8 (p.k : Int)) rfl rfl (fun w h => (rangeAt_below HRP.out h.below hBK.out) 0 _ rfl) ?_
                    simp only [Act.put, getElem_toArray, getElem_cons_zero, getElem_cons_succ, setIfInBounds_toArray, set_cons_zero, set_cons_succ]
                    apply s_val
                    case ho | hw => rfl
                    case hv => intro w hw; go_simp; first | done | rfl
                    simp only [Act.put, getElem_toArray, getElem_cons_zero, getElem_cons_succ, setIfInBounds_toArray, set_cons_zero, set_cons_succ]
                    apply s_val
                    case ho | hw => rfl
                    case hv => intro w hw; go_simp; first | done | rfl
                    simp only [Act.put, getElem_toArray, getElem_cons_zero, getElem_cons_succ, setIfInBounds_toArray, set_cons_zero, set_cons_succ]
                    apply s_val (v := .int .i64 ((i - 1 : Nat) : Int))
                    case ho | hw => rfl
                    case hv => intro w hw; have q := hwi; go_simp; first | done | rfl
                    simp only [Act.put, getElem_toArray, getElem_cons_zero, getElem_cons_succ, setIfInBounds_toArray, set_cons_zero, set_cons_succ]
                    refine s_idxR tyC rfl rfl (.tmp 50) (.tmp 52) rfl BK off n _ (i - 1) rfl rfl (by omega) ?_
                    simp only [Act.put, getElem_toArray, getElem_cons_zero, getElem_cons_succ, setIfInBounds_toArray, set_cons_zero, set_cons_succ]
                    apply s_val
                    case ho | hw => rfl
                    case hv => intro w hw; go_simp; first | done | rfl
                    simp only [Act.put, getElem_toArray, getElem_cons_zero, getElem_cons_succ, setIfInBounds_toArray, set_cons_zero, set_cons_succ]
                    refine Mm.s_ldc naS rfl rfl (.tmp 54) ⟨BK, off + 8 * (i - 1) + 1, none⟩ (.string p.y) rfl rfl (fun w h => (rangeAt_below HRP.out h.below hBK.out) 1 _ rfl) ?_
                    simp only [Act.put, getElem_toArray, getElem_cons_zero, getElem_cons_succ, setIfInBounds_toArray, set_cons_zero, set_cons_succ]
                    apply s_val
                    case ho | hw => rfl
                    case hv => intro w hw; go_simp; first | done | rfl
                    simp only [Act.put, getElem_toArray, getElem_cons_zero, getElem_cons_succ, setIfInBounds_toArray, set_cons_zero, set_cons_succ]
                    refine Mm.sld0 naK (fun w h => h) rfl rfl (.tmp 56) 0 (.int .u8 (c.k : Int)) rfl rfl rfl ?_
                    simp only [Act.put, getElem_toArray, getElem_cons_zero, getElem_cons_succ, setIfInBounds_toArray, set_cons_zero, set_cons_succ]
                    apply s_val
                    case ho | hw => rfl
                    case hv => intro w hw; go_simp; first | done | rfl
                    simp only [Act.put, getElem_toArray, getElem_cons_zero, getElem_cons_succ, setIfInBounds_toArray, set_cons_zero, set_cons_succ]
                    refine Mm.sld0 naS (fun w h => h) rfl rfl (.tmp 58) 1 (.string c.y) rfl rfl rfl ?_
                    simp only [Act.put, getElem_toArray, getElem_cons_zero, getElem_cons_succ, setIfInBounds_toArray, set_cons_zero, set_cons_succ]
                    refine Mm.o_callH (v := .bool true) H (fun W h => h) rfl rfl 103 (#[.int .u8 (p.k : Int), .string p.y, .int .u8 (c.k : Int), .string c.y]) (by go_simp; first | done | rfl) (ca.out _) ?_
                    clear H
                    intro _ H hb
                    clear hb
                    simp only [Act.put, getElem_toArray, getElem_cons_zero, getElem_cons_succ, setIfInBounds_toArray, set_cons_zero, set_cons_succ]
                    apply s_val
                    case ho | hw => rfl
                    case hv => intro w hw; go_simp; first | done | rfl
                    simp only [Act.put, getElem_toArray, getElem_cons_zero, getElem_cons_succ, setIfInBounds_toArray, set_cons_zero, set_cons_succ]
                    apply s_val
                    case ho | hw => rfl
                    case hv => intro w hw; go_simp; first | done | rfl
                    simp only [Act.put, getElem_toArray, getElem_cons_zero, getElem_cons_succ, setIfInBounds_toArray, set_cons_zero, set_cons_succ]
                    refine NoPanic.normal ?_
                    go_wp2_with fail
                    exact ⟨⟨i + 1, by go_num, by omega, HOK2.out, H.out.sub (List.nil_sublist _)⟩, by simp [intOf]; omega⟩
                  | false =>
                    have HF := hidp (show ckS cs = 2 from ckS_bad hgl (by rw [HAT.out, hva, hpd.out, ← hal, decide_eq_false hz]; rfl))
                    clear hva hal
                    have tk0 := hidp trivial
                    go_wp2_with (first | (clear tk0; (refine wpL_idxR tyC rfl (.tmp 8) (.tmp 10) rfl BK off n _ i rfl rfl hlt ?_); (try simp only [Act.put, setIfInBounds_toArray, set_cons_zero, set_cons_succ]); have tk1 := hidp trivial) | (clear tk1; (refine wpL_atR tyC rfl (.tmp 13) rfl BK (off + 8 * i) c.row rfl rfl HRI.out ?_); (try simp only [Act.put, setIfInBounds_toArray, set_cons_zero, set_cons_succ]); have tk2 := hidp trivial) | (clear tk2; (refine Mm.new rtC H (some 4) rfl rfl rfl ?_; clear H; intro b4 _ H nw; have hb := nw.below; clear hb nw); (try simp only [Act.put, setIfInBounds_toArray, set_cons_zero, set_cons_succ]); have tk3 := hidp trivial) | (clear tk3; (refine Mm.put0 rtC H rfl (.tmp 4) (.tmp 14) c.row rfl rfl rfl rfl (Ce.one c) rfl ?_; intro _ H2 st; clear st H; have H := H2; clear H2); (try simp only [Act.put, setIfInBounds_toArray, set_cons_zero, set_cons_succ]); have tk4 := hidp trivial) | (clear tk4; (refine Mm.ld0 naK H rfl (.tmp 15) 0 (.int .u8 (c.k : Int)) rfl rfl rfl ?_); (try simp only [Act.put, setIfInBounds_toArray, set_cons_zero, set_cons_succ]); have tk5 := hidp trivial) | (clear tk5; (go_at_call 95; refine (cs9.out _).mono ?_; rintro e _ ⟨rfl, hb⟩; replace H := hidp (H.out.call hb); clear cs9; clear hb); (try simp only [Act.put, setIfInBounds_toArray, set_cons_zero, set_cons_succ]); have tk6 := hidp trivial) | (clear tk6; (refine wpL_midG rtE rfl (.tmp 20) b4 2 c.e.row rfl rfl rfl (ce_evA H.out.at0) ?_); (try simp only [Act.put, setIfInBounds_toArray, set_cons_zero, set_cons_succ]); have tk7 := hidp trivial) | (clear tk7; (go_at_call 90; refine (cv.out _).mono ?_; rintro e _ ⟨rfl, hb⟩; replace H := hidp (H.out.call hb); clear cv; clear hb); (try simp only [Act.put, setIfInBounds_toArray, set_cons_zero, set_cons_succ]); have tk8 := hidp trivial) | (clear tk8; (refine Mm.ld0 naK H rfl (.tmp 27) 4 (.int .u8 (c.e.kind : Int)) rfl rfl rfl ?_); (try simp only [Act.put, setIfInBounds_toArray, set_cons_zero, set_cons_succ]); have tk9 := hidp trivial) | (clear tk9; (refine Mm.ld0 naK H rfl (.tmp 29) 0 (.int .u8 (c.k : Int)) rfl rfl rfl ?_); (try simp only [Act.put, setIfInBounds_toArray, set_cons_zero, set_cons_succ]); have tk10 := hidp trivial) | (clear tk10; (refine Mm.ld0 naS H rfl (.tmp 35) 5 (.string c.e.key) rfl rfl rfl ?_); (try simp only [Act.put, setIfInBounds_toArray, set_cons_zero, set_cons_succ]); have tk11 := hidp trivial) | (clear tk11; (refine Mm.ld0 naS H rfl (.tmp 37) 1 (.string c.y) rfl rfl rfl ?_); (try simp only [Act.put, setIfInBounds_toArray, set_cons_zero, set_cons_succ]); have tk12 := hidp trivial))
                    try clear tk12
                    refine Mm.region H (.take 0 (.take 1 (.take 2 (.take 3 (.take 4 (.take 5 (.take 6 (.take 7 (.take 8 (.take 9 (.take 10 (.take 11 (.take 12 (.take 13 (.take 14 (.take 15 (.take 16 (.take 17 (.take 18 (.one 19 (.take 20 (.take 21 .done)))))))))))))))))))))) (by kernel_rfl) (by kernel_rfl) (by simp [Scr.depth]) (by kernel_rfl) ?_
                    clear H
                    intro _ H hb
                    clear hb
                    apply s_val
                    case ho | hw => rfl
                    case hv => intro w hw; go_simp; first | done | rfl
                    simp only [Act.put, getElem_toArray, getElem_cons_zero, getElem_cons_succ, setIfInBounds_toArray, set_cons_zero, set_cons_succ]
                    apply s_val
                    case ho | hw => rfl
                    case hv => intro w hw; have q := ei; go_simp; first | done | rfl
                    simp only [Act.put, getElem_toArray, getElem_cons_zero, getElem_cons_succ, setIfInBounds_toArray, set_cons_zero, set_cons_succ]
                    apply s_val
                    case ho | hw => rfl
                    case hv => intro w hw; go_simp; first | done | rfl
                    simp only [Act.put, getElem_toArray, getElem_cons_zero, getElem_cons_succ, setIfInBounds_toArray, set_cons_zero, set_cons_succ]
                    apply s_val
                    case ho | hw => rfl
                    case hv => intro w hw; go_simp; first | done | rfl
                    simp only [Act.put, getElem_toArray, getElem_cons_zero, getElem_cons_succ, setIfInBounds_toArray, set_cons_zero, set_cons_succ]
                    apply s_val
                    case ho | hw => rfl
                    case hv => intro w hw; go_simp; first | done | rfl
                    simp only [Act.put, getElem_toArray, getElem_cons_zero, getElem_cons_succ, setIfInBounds_toArray, set_cons_zero, set_cons_succ]
                    apply s_val (v := .int .i64 ((i - 1 : Nat) : Int))
                    case ho | hw => rfl
                    case hv => intro w hw; have q := hwi; go_simp; first | done | rfl
                    simp only [Act.put, getElem_toArray, getElem_cons_zero, getElem_cons_succ, setIfInBounds_toArray, set_cons_zero, set_cons_succ]
                    refine s_idxR tyC rfl rfl (.tmp 44) (.tmp 46) rfl BK off n _ (i - 1) rfl rfl (by omega) ?_
                    simp only [Act.put, getElem_toArray, getElem_cons_zero, getElem_cons_succ, setIfInBounds_toArray, set_cons_zero, set_cons_succ]
                    apply s_val
                    case ho | hw => rfl
                    case hv => intro w hw; go_simp; first | done | rfl
                    simp only [Act.put, getElem_toArray, getElem_cons_zero, getElem_cons_succ, setIfInBounds_toArray, set_cons_zero, set_cons_succ]
                    refine Mm.s_ldc naK rfl rfl (.tmp 48) ⟨BK, off + 8 * (i - 1), none⟩ (.int .u8 (p.k : Int)) rfl rfl (fun w h => (rangeAt_below HRP.out h.below hBK.out) 0 _ rfl) ?_
                    simp only [Act.put, getElem_toArray, getElem_cons_zero, getElem_cons_succ, setIfInBounds_toArray, set_cons_zero, set_cons_succ]
                    apply s_val
                    case ho | hw => rfl
                    case hv => intro w hw; go_simp; first | done | rfl
                    simp only [Act.put, getElem_toArray, getElem_cons_zero, getElem_cons_succ, setIfInBounds_toArray, set_cons_zero, set_cons_succ]
                    apply s_val
                    case ho | hw => rfl
                    case hv => intro w hw; go_simp; first | done | rfl
                    simp only [Act.put, getElem_toArray, getElem_cons_zero, getElem_cons_succ, setIfInBounds_toArray, set_cons_zero, set_cons_succ]
                    apply s_val (v := .int .i64 ((i - 1 : Nat) : Int))
                    case ho | hw => rfl
                    case hv => intro w hw; have q := hwi; go_simp; first | done | rfl
                    simp only [Act.put, getElem_toArray, getElem_cons_zero, getElem_cons_succ, setIfInBounds_toArray, set_cons_zero, set_cons_succ]
                    refine s_idxR tyC rfl rfl (.tmp 50) (.tmp 52) rfl BK off n _ (i - 1) rfl rfl (by omega) ?_
                    simp only [Act.put, getElem_toArray, getElem_cons_zero, getElem_cons_succ, setIfInBounds_toArray, set_cons_zero, set_cons_succ]
                    apply s_val
                    case ho | hw => rfl
                    case hv => intro w hw; go_simp; first | done | rfl
                    simp only [Act.put, getElem_toArray, getElem_cons_zero, getElem_cons_succ, setIfInBounds_toArray, set_cons_zero, set_cons_succ]
                    refine Mm.s_ldc naS rfl rfl (.tmp 54) ⟨BK, off + 8 * (i - 1) + 1, none⟩ (.string p.y) rfl rfl (fun w h => (rangeAt_below HRP.out h.below hBK.out) 1 _ rfl) ?_
                    simp only [Act.put, getElem_toArray, getElem_cons_zero, getElem_cons_succ, setIfInBounds_toArray, set_cons_zero, set_cons_succ]
                    apply s_val
                    case ho | hw => rfl
                    case hv => intro w hw; go_simp; first | done | rfl
                    simp only [Act.put, getElem_toArray, getElem_cons_zero, getElem_cons_succ, setIfInBounds_toArray, set_cons_zero, set_cons_succ]
                    refine Mm.sld0 naK (fun w h => h) rfl rfl (.tmp 56) 0 (.int .u8 (c.k : Int)) rfl rfl rfl ?_
                    simp only [Act.put, getElem_toArray, getElem_cons_zero, getElem_cons_succ, setIfInBounds_toArray, set_cons_zero, set_cons_succ]
                    apply s_val
                    case ho | hw => rfl
                    case hv => intro w hw; go_simp; first | done | rfl
                    simp only [Act.put, getElem_toArray, getElem_cons_zero, getElem_cons_succ, setIfInBounds_toArray, set_cons_zero, set_cons_succ]
                    refine Mm.sld0 naS (fun w h => h) rfl rfl (.tmp 58) 1 (.string c.y) rfl rfl rfl ?_
                    simp only [Act.put, getElem_toArray, getElem_cons_zero, getElem_cons_succ, setIfInBounds_toArray, set_cons_zero, set_cons_succ]
                    refine Mm.o_callH (v := .bool false) H (fun W h => h) rfl rfl 103 (#[.int .u8 (p.k : Int), .string p.y, .int .u8 (c.k : Int), .string c.y]) (by go_simp; first | done | rfl) (ca.out _) ?_
                    clear H
                    intro _ H hb
                    clear hb
                    simp only [Act.put, getElem_toArray, getElem_cons_zero, getElem_cons_succ, setIfInBounds_toArray, set_cons_zero, set_cons_succ]
                    apply s_val
                    case ho | hw => rfl
                    case hv => intro w hw; go_simp; first | done | rfl
                    simp only [Act.put, getElem_toArray, getElem_cons_zero, getElem_cons_succ, setIfInBounds_toArray, set_cons_zero, set_cons_succ]
                    apply s_val
                    case ho | hw => rfl
                    case hv => intro w hw; go_simp; first | done | rfl
                    simp only [Act.put, getElem_toArray, getElem_cons_zero, getElem_cons_succ, setIfInBounds_toArray, set_cons_zero, set_cons_succ]
                    refine NoPanic.normal ?_
                    go_wp2_with fail
                    go_ret
                    exact ⟨by rw [HF.out]; rfl, H.out.below⟩
              · have ey : (c.e.key.toList == c.y.toList) = false := by rw [beq_eq_false_iff_ne]; exact fun g => hy (ba_inj' g)
                have HF := hidp (show ckS cs = 2 from ckS_bad hgl (by rw [HAT.out, HVP.out, decide_eq_false hy]; simp))
                clear hs ho hk hy
                have tk0 := hidp trivial
                go_wp2_with (first | (clear tk0; (refine wpL_idxR tyC rfl (.tmp 8) (.tmp 10) rfl BK off n _ i rfl rfl hlt ?_); (try simp only [Act.put, setIfInBounds_toArray, set_cons_zero, set_cons_succ]); have tk1 := hidp trivial) | (clear tk1; (refine wpL_atR tyC rfl (.tmp 13) rfl BK (off + 8 * i) c.row rfl rfl HRI.out ?_); (try simp only [Act.put, setIfInBounds_toArray, set_cons_zero, set_cons_succ]); have tk2 := hidp trivial) | (clear tk2; (refine Mm.new rtC H (some 4) rfl rfl rfl ?_; clear H; intro b4 _ H nw; have hb := nw.below; clear hb nw); (try simp only [Act.put, setIfInBounds_toArray, set_cons_zero, set_cons_succ]); have tk3 := hidp trivial) | (clear tk3; (refine Mm.put0 rtC H rfl (.tmp 4) (.tmp 14) c.row rfl rfl rfl rfl (Ce.one c) rfl ?_; intro _ H2 st; clear st H; have H := H2; clear H2); (try simp only [Act.put, setIfInBounds_toArray, set_cons_zero, set_cons_succ]); have tk4 := hidp trivial) | (clear tk4; (refine Mm.ld0 naK H rfl (.tmp 15) 0 (.int .u8 (c.k : Int)) rfl rfl rfl ?_); (try simp only [Act.put, setIfInBounds_toArray, set_cons_zero, set_cons_succ]); have tk5 := hidp trivial) | (clear tk5; (go_at_call 95; refine (cs9.out _).mono ?_; rintro e _ ⟨rfl, hb⟩; replace H := hidp (H.out.call hb); clear cs9; clear hb); (try simp only [Act.put, setIfInBounds_toArray, set_cons_zero, set_cons_succ]); have tk6 := hidp trivial) | (clear tk6; (refine wpL_midG rtE rfl (.tmp 20) b4 2 c.e.row rfl rfl rfl (ce_evA H.out.at0) ?_); (try simp only [Act.put, setIfInBounds_toArray, set_cons_zero, set_cons_succ]); have tk7 := hidp trivial) | (clear tk7; (go_at_call 90; refine (cv.out _).mono ?_; rintro e _ ⟨rfl, hb⟩; replace H := hidp (H.out.call hb); clear cv; clear hb); (try simp only [Act.put, setIfInBounds_toArray, set_cons_zero, set_cons_succ]); have tk8 := hidp trivial) | (clear tk8; (refine Mm.ld0 naK H rfl (.tmp 27) 4 (.int .u8 (c.e.kind : Int)) rfl rfl rfl ?_); (try simp only [Act.put, setIfInBounds_toArray, set_cons_zero, set_cons_succ]); have tk9 := hidp trivial) | (clear tk9; (refine Mm.ld0 naK H rfl (.tmp 29) 0 (.int .u8 (c.k : Int)) rfl rfl rfl ?_); (try simp only [Act.put, setIfInBounds_toArray, set_cons_zero, set_cons_succ]); have tk10 := hidp trivial) | (clear tk10; (refine Mm.ld0 naS H rfl (.tmp 35) 5 (.string c.e.key) rfl rfl rfl ?_); (try simp only [Act.put, setIfInBounds_toArray, set_cons_zero, set_cons_succ]); have tk11 := hidp trivial) | (clear tk11; (refine Mm.ld0 naS H rfl (.tmp 37) 1 (.string c.y) rfl rfl rfl ?_); (try simp only [Act.put, setIfInBounds_toArray, set_cons_zero, set_cons_succ]); have tk12 := hidp trivial))
                try clear tk12
                go_ret
                exact ⟨by rw [HF.out]; rfl, H.out.below⟩
            · have ek : ((c.e.kind : Int) == (c.k : Int)) = false := by rw [beq_eq_false_iff_ne]; omega
              have ekn : ((c.e.kind : Int) != (c.k : Int)) = true := by simp [bne, ek]
              have HF := hidp (show ckS cs = 2 from ckS_bad hgl (by rw [HAT.out, HVP.out, decide_eq_false hk]; simp))
              clear hs ho hk
              have tk0 := hidp trivial
              go_wp2_with (first | (clear tk0; (refine wpL_idxR tyC rfl (.tmp 8) (.tmp 10) rfl BK off n _ i rfl rfl hlt ?_); (try simp only [Act.put, setIfInBounds_toArray, set_cons_zero, set_cons_succ]); have tk1 := hidp trivial) | (clear tk1; (refine wpL_atR tyC rfl (.tmp 13) rfl BK (off + 8 * i) c.row rfl rfl HRI.out ?_); (try simp only [Act.put, setIfInBounds_toArray, set_cons_zero, set_cons_succ]); have tk2 := hidp trivial) | (clear tk2; (refine Mm.new rtC H (some 4) rfl rfl rfl ?_; clear H; intro b4 _ H nw; have hb := nw.below; clear hb nw); (try simp only [Act.put, setIfInBounds_toArray, set_cons_zero, set_cons_succ]); have tk3 := hidp trivial) | (clear tk3; (refine Mm.put0 rtC H rfl (.tmp 4) (.tmp 14) c.row rfl rfl rfl rfl (Ce.one c) rfl ?_; intro _ H2 st; clear st H; have H := H2; clear H2); (try simp only [Act.put, setIfInBounds_toArray, set_cons_zero, set_cons_succ]); have tk4 := hidp trivial) | (clear tk4; (refine Mm.ld0 naK H rfl (.tmp 15) 0 (.int .u8 (c.k : Int)) rfl rfl rfl ?_); (try simp only [Act.put, setIfInBounds_toArray, set_cons_zero, set_cons_succ]); have tk5 := hidp trivial) | (clear tk5; (go_at_call 95; refine (cs9.out _).mono ?_; rintro e _ ⟨rfl, hb⟩; replace H := hidp (H.out.call hb); clear cs9; clear hb); (try simp only [Act.put, setIfInBounds_toArray, set_cons_zero, set_cons_succ]); have tk6 := hidp trivial) | (clear tk6; (refine wpL_midG rtE rfl (.tmp 20) b4 2 c.e.row rfl rfl rfl (ce_evA H.out.at0) ?_); (try simp only [Act.put, setIfInBounds_toArray, set_cons_zero, set_cons_succ]); have tk7 := hidp trivial) | (clear tk7; (go_at_call 90; refine (cv.out _).mono ?_; rintro e _ ⟨rfl, hb⟩; replace H := hidp (H.out.call hb); clear cv; clear hb); (try simp only [Act.put, setIfInBounds_toArray, set_cons_zero, set_cons_succ]); have tk8 := hidp trivial) | (clear tk8; (refine Mm.ld0 naK H rfl (.tmp 27) 4 (.int .u8 (c.e.kind : Int)) rfl rfl rfl ?_); (try simp only [Act.put, setIfInBounds_toArray, set_cons_zero, set_cons_succ]); have tk9 := hidp trivial) | (clear tk9; (refine Mm.ld0 naK H rfl (.tmp 29) 0 (.int .u8 (c.k : Int)) rfl rfl rfl ?_); (try simp only [Act.put, setIfInBounds_toArray, set_cons_zero, set_cons_succ]); have tk10 := hidp trivial) | (clear tk10; (refine Mm.skipd 34 rfl _ _ rfl rfl ?_); (try simp only [Act.put, setIfInBounds_toArray, set_cons_zero, set_cons_succ]); have tk11 := hidp trivial) | (clear tk11; (refine Mm.skipd 35 rfl _ _ rfl rfl ?_); (try simp only [Act.put, setIfInBounds_toArray, set_cons_zero, set_cons_succ]); have tk12 := hidp trivial) | (clear tk12; (refine Mm.skipd 36 rfl _ _ rfl rfl ?_); (try simp only [Act.put, setIfInBounds_toArray, set_cons_zero, set_cons_succ]); have tk13 := hidp trivial) | (clear tk13; (refine Mm.skipd 37 rfl _ _ rfl rfl ?_); (try simp only [Act.put, setIfInBounds_toArray, set_cons_zero, set_cons_succ]); have tk14 := hidp trivial) | (clear tk14; (refine Mm.skipd 38 rfl _ _ rfl rfl ?_); (try simp only [Act.put, setIfInBounds_toArray, set_cons_zero, set_cons_succ]); have tk15 := hidp trivial) | (clear tk15; (refine Mm.skipd 39 rfl _ _ rfl rfl ?_); (try simp only [Act.put, setIfInBounds_toArray, set_cons_zero, set_cons_succ]); have tk16 := hidp trivial))
              try clear tk16
              go_ret
              exact ⟨by rw [HF.out]; rfl, H.out.below⟩
      · have e1 : decide ((i : Int) < (n : Int)) = false := by simp; omega
        have hin : i = n := by omega
        have HF := hidp (show ckS cs = 0 from if_pos (by unfold okS; rw [Bool.and_eq_true, decide_eq_true_eq, HN.out]; exact ⟨by omega, by rw [← hin]; exact HOK.out⟩))
        go_wp2_with fail
        go_ret
        exact ⟨by rw [HF.out]; rfl, H.out.below⟩
end Go.Proofs.YtiakfopdohcigaaGreatDoor
