
/-
  state: the document's Same; what is set.
-/
import Derived.Test.YtiakfopdohcigaaDoorStQ
import Derived.Test.YtiakfopdohcigaaDoorStX
import Derived.Test.YtiakfopdohcigaaDoorStV
namespace Go.Proofs.YtiakfopdohcigaaDoor
set_option maxRecDepth 100000
set_option linter.unusedVariables false
set_option linter.unusedSimpArgs false
open Go.RowKit Rw
open List (getElem_toArray getElem_cons_zero getElem_cons_succ setIfInBounds_toArray set_cons_zero set_cons_succ)

theorem eqin_evS (W : World) (e : Ev) : (Op.equalIn 9999 25 (.agg e.row.toArray) (.agg e.row.toArray)).run Tryd.prog W = .ok true W := by
  have ht : Tryd.prog.underlying 25 = some (.struct (Tryd.prog.fieldsOf 25)) := by kernel_rfl
  have hp : Tryd.prog.stoodInHeld 25 = false := by kernel_rfl
  have hu := Tryd.underlying25
  have hus := Tryd.underlying9
  have hui := Tryd.underlying2
  have huk := Tryd.underlying23
  rw [run_equalIn_agg W 9998 _ _ _ ht hp]
  unfold Program.fieldsOf
  rw [hu]
  unfold Ev.row
  go_simp
theorem eqin_ce (W : World) (c : Ce) : (Op.equalIn 10000 42 (.agg c.row.toArray) (.agg c.row.toArray)).run Tryd.prog W = .ok true W := by
  have ht : Tryd.prog.underlying 42 = some (.struct (Tryd.prog.fieldsOf 42)) := by kernel_rfl
  have hp : Tryd.prog.stoodInHeld 42 = false := by kernel_rfl
  have hu := Tryd.underlying42
  have hus := Tryd.underlying9
  have huk := Tryd.underlying23
  have qh := fun W => eqin_evS W c.e
  rw [run_equalIn_agg W 9999 _ _ _ ht hp]
  unfold Program.fieldsOf
  rw [hu]
  unfold Ev.row at qh
  unfold Ce.row
  go_simp
theorem guard_ce : Tryd.prog.eqGuardType Tryd.prog.depth 42 = false := by kernel_rfl
theorem s_neC {ops : Array Oper} {Q : Exit → Act → World → Prop} {S : World → Prop} {k : Nat} {o : Oper} {s : Scr} {a : Act} {w : World} (ho : ops[k]? = some o) (hw : Region.wanted o (yielded ops a.tmps) = true) (x y : Operand) (u : TypeId) (hop : o.op = .binOp .neq 42 x y u)
    (c : Ce) (hx : a.eval x = .agg c.row.toArray) (hy : a.eval y = .agg c.row.toArray) (h : wpScr Tryd.prog ops Q s S (a.put o.dst (.bool false)) w) : wpScr Tryd.prog ops Q (.take k s) S a w :=
  s_val ho hw (fun w _ => by
    unfold execOp
    simp only [hop, hx, hy, Sem.run_bind, run_eqGuard_agg (P := Tryd.prog) _ _ _ _ _ _ _ guard_ce, run_neq_struct, eqin_ce w c, Bool.not_true, Result.andThen_ok, Sem.run_pure]) h

set_option maxHeartbeats 16000000 in
theorem rsame14_any (w : World) (v u : Value) (cs : List Ce) (hv : CsAt w v cs) (hu : CsAt w u cs) :
    Calls Tryd.prog 10 #[v, u] w fun e w' => e = .returned (.bool true) ∧ Below w.heap.size w w' := by
  have HV := hidp hv; have HU := hidp hu
  have h47 := hv.len
  clear hv hu
  obtain ⟨av, cv, rfl⟩ := HV.out.form
  obtain ⟨au, cu, rfl⟩ := HU.out.form
  obtain ⟨n, hnn⟩ : ∃ n, cs.length = n := ⟨_, rfl⟩
  have HN := hidp hnn
  rw [hnn] at HV HU h47 ⊢
  clear hnn
  have e0 : ((n : Int) != (n : Int)) = false := by simp
  have H := hidp (Mm.M.nil w)
  go_enter Tryd.func10, Tryd.ntmps10
  go_wp2_with fail
  go_loopw [13] (fun t13 wr => ∃ i : Nat, t13 = .int .i64 (i : Int) ∧ i ≤ n ∧ Mm.M w.heap.size w wr []) (fun t13 _ => n - (intOf t13).toNat)
  case atStart => exact ⟨0, rfl, by omega, H.out⟩
  case round =>
    clear H
    obtain ⟨i, rfl, hi, hM⟩ := hrel
    have H := hidp hM
    clear hM
    by_cases hlt : i < n
    · have e1 : decide ((i : Int) < (n : Int)) = true := by simp; omega
      have hgl : i < cs.length := by rw [HN.out]; exact hlt
      obtain ⟨B1, o1, c1, e2, -, hB1, hR1⟩ := HV.out.get (by rw [HN.out]; omega)
      rw [HN.out] at e2
      simp only [Value.slice.injEq] at e2
      obtain ⟨rfl, -, rfl⟩ := e2
      obtain ⟨B2, o2, c2, e2, -, hB2, hR2⟩ := HU.out.get (by rw [HN.out]; omega)
      rw [HN.out] at e2
      simp only [Value.slice.injEq] at e2
      obtain ⟨rfl, -, rfl⟩ := e2
      obtain ⟨c, hge⟩ : ∃ g, cs[i] = g := ⟨_, rfl⟩
      have HR1 := hidp (hR1 i hgl); have HR2 := hidp (hR2 i hgl)
      rw [hge] at HR1 HR2
      replace hB1 := hidp hB1; replace hB2 := hidp hB2
      clear hR1 hR2 hge
      go_wp2_with fail
      refine Mm.region H (.take 0 (.take 1 (.take 2 (.take 3 (.take 4 (.take 5 (.take 6 (.take 7 (.take 8 .done))))))))) (by kernel_rfl) (by kernel_rfl) (by simp [Scr.depth]) (by kernel_rfl) ?_
      clear H
      intro _ H hb
      clear hb
      apply s_val
      case ho | hw => rfl
      case hv => intro w hw; go_simp; first | done | rfl
      simp only [Act.put, getElem_toArray, getElem_cons_zero, getElem_cons_succ, setIfInBounds_toArray, set_cons_zero, set_cons_succ]
      apply s_val
      case ho | hw => rfl
      case hv => intro w hw; go_simp; first | done | rfl
      simp only [Act.put, getElem_toArray, getElem_cons_zero, getElem_cons_succ, setIfInBounds_toArray, set_cons_zero, set_cons_succ]
      refine s_idxR tyC rfl rfl (.tmp 16) (.tmp 17) rfl B1 o1 n _ i rfl rfl hlt ?_
      simp only [Act.put, getElem_toArray, getElem_cons_zero, getElem_cons_succ, setIfInBounds_toArray, set_cons_zero, set_cons_succ]
      refine s_mid rtC rfl rfl (.tmp 18) B1 (o1 + 8 * i) c.row rfl rfl rfl (fun w h => rangeAt_below HR1.out h.below hB1.out) ?_
      simp only [Act.put, getElem_toArray, getElem_cons_zero, getElem_cons_succ, setIfInBounds_toArray, set_cons_zero, set_cons_succ]
      apply s_val
      case ho | hw => rfl
      case hv => intro w hw; go_simp; first | done | rfl
      simp only [Act.put, getElem_toArray, getElem_cons_zero, getElem_cons_succ, setIfInBounds_toArray, set_cons_zero, set_cons_succ]
      apply s_val
      case ho | hw => rfl
      case hv => intro w hw; go_simp; first | done | rfl
      simp only [Act.put, getElem_toArray, getElem_cons_zero, getElem_cons_succ, setIfInBounds_toArray, set_cons_zero, set_cons_succ]
      refine s_idxR tyC rfl rfl (.tmp 20) (.tmp 21) rfl B2 o2 n _ i rfl rfl hlt ?_
      simp only [Act.put, getElem_toArray, getElem_cons_zero, getElem_cons_succ, setIfInBounds_toArray, set_cons_zero, set_cons_succ]
      refine s_mid rtC rfl rfl (.tmp 22) B2 (o2 + 8 * i) c.row rfl rfl rfl (fun w h => rangeAt_below HR2.out h.below hB2.out) ?_
      simp only [Act.put, getElem_toArray, getElem_cons_zero, getElem_cons_succ, setIfInBounds_toArray, set_cons_zero, set_cons_succ]
      refine s_neC rfl rfl (.tmp 19) (.tmp 23) _ rfl c rfl rfl ?_
      simp only [Act.put, getElem_toArray, getElem_cons_zero, getElem_cons_succ, setIfInBounds_toArray, set_cons_zero, set_cons_succ]
      refine NoPanic.normal ?_
      go_wp2_with fail
      exact ⟨⟨i + 1, by go_num, by omega, H.out⟩, by simp [intOf]; omega⟩
    · have e1 : decide ((i : Int) < (n : Int)) = false := by simp; omega
      go_wp2_with fail
      go_ret
      exact ⟨rfl, H.out.below⟩


set_option maxHeartbeats 16000000 in
theorem stateSets_ev (w : World) (v : Value) (cs : List Ce) (hv : CsAt w v cs) (e : Ev) (he : e.ok) (hI : IT w) :
    Calls Tryd.prog 3 #[v, .agg e.row.toArray] w fun x w' => x = .returned (.bool true) ∧ Below w.heap.size w w' := by
  have HI := hidp hI; have HV := hidp hv
  have li := hidp (fun W h => lives14_any W h); have ck := hidp (fun W h h' => stCheck_any W v cs h h'); have rk := hidp (fun W h => rstCheck_any W v cs h)
  have c1 := hidp (fun W v h h' => set_any W v cs h e he h'); have c2 := hidp (fun W v h => rset_any W v cs h e he)
  have k14 := hidp (fun W v u h h' => rsame14_any W v u (setV cs e) h h')
  obtain ⟨E, hE⟩ : ∃ z, setE cs e = z := ⟨_, rfl⟩
  obtain ⟨D, hD⟩ : ∃ z, setV cs e = z := ⟨_, rfl⟩
  obtain ⟨C, hC⟩ : ∃ z, ckS cs = z := ⟨_, rfl⟩
  rw [hE, hD] at c1 c2
  rw [hD] at k14
  rw [hC] at ck rk
  have eE : (E == E) = true := by simp
  have eC : (C == C) = true := by simp
  clear hv hI hE hD hC
  have H := hidp (Mm.M.nil w)
  go_enter Tryd.func3, Tryd.ntmps3
  have tk0 := hidp trivial
  go_wp2_with (first | (clear tk0; (refine Mm.box 25 H rfl (.tmp 1) rfl e.row rfl ?_; clear H; intro b3 _ H nw; have hb := nw.below; clear hb nw); (try simp only [Act.put, setIfInBounds_toArray, set_cons_zero, set_cons_succ]); have tk1 := hidp trivial) | (clear tk1; (refine Mm.get0 rtE H rfl (.tmp 3) rfl rfl rfl ?_); (try simp only [Act.put, setIfInBounds_toArray, set_cons_zero, set_cons_succ]); have tk2 := hidp trivial) | (clear tk2; (go_at_call 5; refine (c1.out _ _ (HV.out.to H.out.below) (HI.out.below H.out.below (Nat.le_refl _))).mono ?_; rintro x _ ⟨v1, rfl, hcs, hb⟩; obtain ⟨p1, q1, rfl⟩ := hcs.form; replace H := hidp (H.out.call hb); have HS1 := hidp hcs; clear hcs hb c1); (try simp only [Act.put, setIfInBounds_toArray, set_cons_zero, set_cons_succ]); have tk3 := hidp trivial) | (clear tk3; (refine Mm.get0 rtE H rfl (.tmp 3) rfl rfl rfl ?_); (try simp only [Act.put, setIfInBounds_toArray, set_cons_zero, set_cons_succ]); have tk4 := hidp trivial) | (clear tk4; (go_at_call 6; refine (c2.out _ _ (HV.out.to H.out.below)).mono ?_; rintro x _ ⟨v2, rfl, hcs, hb⟩; obtain ⟨p2, q2, rfl⟩ := hcs.form; replace H := hidp (H.out.call hb); replace HS1 := hidp (HS1.out.to hb); have HS2 := hidp hcs; clear hcs hb c2); (try simp only [Act.put, setIfInBounds_toArray, set_cons_zero, set_cons_succ]); have tk5 := hidp trivial) | (clear tk5; (go_at_call 7; refine (li.out _ (HI.out.below H.out.below (Nat.le_refl _))).mono ?_; rintro e _ ⟨rfl, hb⟩; replace H := hidp (H.out.call hb); clear li; replace HS1 := hidp (HS1.out.to hb); replace HS2 := hidp (HS2.out.to hb); clear hb); (try simp only [Act.put, setIfInBounds_toArray, set_cons_zero, set_cons_succ]); have tk6 := hidp trivial) | (clear tk6; (go_at_call 8; refine (ck.out _ (HV.out.to H.out.below) (HI.out.below H.out.below (Nat.le_refl _))).mono ?_; rintro e _ ⟨rfl, hb⟩; replace H := hidp (H.out.call hb); clear ck; replace HS1 := hidp (HS1.out.to hb); replace HS2 := hidp (HS2.out.to hb); clear hb); (try simp only [Act.put, setIfInBounds_toArray, set_cons_zero, set_cons_succ]); have tk7 := hidp trivial) | (clear tk7; (go_at_call 9; refine (rk.out _ (HV.out.to H.out.below)).mono ?_; rintro e _ ⟨rfl, hb⟩; replace H := hidp (H.out.call hb); clear rk; replace HS1 := hidp (HS1.out.to hb); replace HS2 := hidp (HS2.out.to hb); clear hb); (try simp only [Act.put, setIfInBounds_toArray, set_cons_zero, set_cons_succ]); have tk8 := hidp trivial) | (clear tk8; (go_at_call 10; refine (k14.out _ _ _ HS1.out HS2.out).mono ?_; rintro e _ ⟨rfl, hb⟩; replace H := hidp (H.out.call hb); clear k14; replace HS1 := hidp (HS1.out.to hb); replace HS2 := hidp (HS2.out.to hb); clear hb); (try simp only [Act.put, setIfInBounds_toArray, set_cons_zero, set_cons_succ]); have tk9 := hidp trivial))
  try clear tk9
  go_ret
  exact ⟨rfl, H.out.below⟩
theorem walk_stateSets (w : World) (v : Value) (cs : List Ce) (hv : CsAt w v cs) (n0 : cs.length ≤ 1400000000000 ∧ ∀ c ∈ cs, c.e.body.size ≤ 140737488351232 ∧ c.e.sender.size ≤ 140737488351232) (e : Ev) (he : e.ok) (hb : e.body.size ≤ 140737488351232) (hI : IT w) :
    Calls Tryd.prog 3 #[v, .agg #[.string e.room, .string e.sender, .int .u8 (e.kind : Int), .string e.key, .string e.body, .int .i64 e.nonce]] w fun x w' => x = .returned (.bool true) ∧ Below w.heap.size w w' := stateSets_ev w v cs hv e he hI
end Go.Proofs.YtiakfopdohcigaaDoor
