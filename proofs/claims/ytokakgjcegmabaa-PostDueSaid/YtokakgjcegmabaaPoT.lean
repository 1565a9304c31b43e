/-
  The document's boxes: All, Same.
-/
import Derived.Test.YtokakgjcegmabaaPoR
namespace Go.Proofs.Ytokakgjcegmabaa.Po
set_option maxRecDepth 100000
set_option linter.unusedVariables false
set_option linter.unusedSimpArgs false
open Go.RowKit
open List (getElem_toArray getElem_cons_zero getElem_cons_succ setIfInBounds_toArray set_cons_zero set_cons_succ)

open Go.Conc Go.Shelf Rw
theorem mls_all (L : List Lt) : AllK 3 (mls L) := fun e he => by obtain ⟨x, -, rfl⟩ := List.mem_map.1 he; rfl
theorem mls_one (L : List Lt) : One1 (mls L) := fun e he => by obtain ⟨x, -, rfl⟩ := List.mem_map.1 he; exact x.mone
theorem mailAt4 (x : Lt) {w : World} {b : Nat} (h : Arr w b 92 x.one4) : w.rangeAt b 0 x.mail := fun j u hj => by
  have hl := (List.getElem?_eq_some_iff.1 hj).1
  exact h.range j u (by rw [show x.one4 = x.mail ++ [.int .i64 (atD x)] from rfl, List.getElem?_append_left hl]; exact hj)
section
variable {P : Program} {ST T k by_ : Nat} {z : List Value} {ops : Array Oper} {rest : List Oper} {o : Oper} {a : Act} {w : World} {Q : Exit → Act → World → Prop} {S : World → Prop} {j : Nat} {s : Scr}
theorem wpL_app1R (R : RowTy P ST T k by_ z) (hgd : o.guard = none) (s x : Operand) (ho : o.op = .call { callee := .builtin .append, args := #[s, x], argTypes := #[ST, ST] }) (B g : Nat) (v : Value) (es : List (List Value)) (f : List Value)
    (hv : a.eval s = v) (hx : a.eval x = .slice (some ⟨g, 0, none⟩) 1 1) (hown : OwnR T k w B v es) (hg : Arr w g T f) (h1 : ∀ y ∈ f, y.oneCell' = true) (hl : f.length = k) (hB : B ≤ w.heap.size) (hn : es.length + 1 ≤ 1048576)
    (h : ∀ v' W, OwnR T k W B v' (es ++ [f]) → w.grownBy W v.ownBlock → wpList P ops Q rest (a.put o.dst v') W) : wpList P ops Q (o :: rest) a w := by
  obtain ⟨v', W, hrun, r1, r2⟩ := run_app1 R o.type B g v es f hown hg h1 hl hB hn
  exact wpL_appRun hgd s x ST ST ho v _ hv hx hrun (h v' W r1 r2)
theorem s_atR (R : RowTy P ST T k by_ z) (ho : ops[j]? = some o) (hw : Region.wanted o (yielded ops a.tmps) = true) (x : Operand) (hop : o.op = .load T x) (b off : Nat) (xs : List Value) (hx : a.eval x = .pointer (some ⟨b, off, none⟩)) (hl : xs.length = k) (hg : ∀ w, S w → w.rangeAt b off xs)
    (h : wpScr P ops Q s S (a.put o.dst (.agg xs.toArray)) w) : wpScr P ops Q (.take j s) S a w := by
  obtain ⟨fs, hu⟩ := R.ut
  exact s_val ho hw (fun w hS => by
    unfold execOp
    simp only [hop, hx, Instr.loadAt, Instr.sureAddr, Sem.run_bind, Sem.run_pure, Result.andThen_ok, run_loadVar_mid w b off T xs _ (hg w hS) hu rfl (by rw [R.isz, hl])]) h
end
theorem guard_mail : Try.prog.eqGuardType Try.prog.depth 75 = false := by kernel_rfl
def eqM (a b : Lt) : Bool := a.id == b.id && (a.to == b.to && a.tx.toList == b.tx.toList)
theorem eqM_refl (a : Lt) : eqM a a = true := by simp [eqM]
theorem s_neM {ops : Array Oper} {o : Oper} {a : Act} {w : World} {Q : Exit → Act → World → Prop} {S : World → Prop} {j : Nat} {s : Scr} (ho : ops[j]? = some o) (hw : Region.wanted o (yielded ops a.tmps) = true) (x y : Operand) (u : TypeId) (hop : o.op = .binOp .neq 75 x y u) (p q : Lt) (hx : a.eval x = .agg p.mail.toArray) (hy : a.eval y = .agg q.mail.toArray)
    (h : wpScr Try.prog ops Q s S (a.put o.dst (.bool (!eqM p q))) w) : wpScr Try.prog ops Q (.take j s) S a w :=
  s_val ho hw (fun w _ => by
    unfold execOp
    simp only [hop, hx, hy, Lt.mail, Sem.run_bind, run_eqGuard_agg (P := Try.prog) _ _ _ _ _ _ _ guard_mail, neq_mail, Result.andThen_ok, Sem.run_pure]
    rfl) h
theorem wpL_eqM {ops : Array Oper} {rest : List Oper} {o : Oper} {a : Act} {w : World} {Q : Exit → Act → World → Prop} (hw : Region.wanted o (yielded ops a.tmps) = true) (x y : Operand) (u : TypeId) (hop : o.op = .binOp .eql 75 x y u) (p q : Lt) (hx : a.eval x = .agg p.mail.toArray) (hy : a.eval y = .agg q.mail.toArray)
    (h : wpList Try.prog ops Q rest (a.put o.dst (.bool (eqM p q))) w) : wpList Try.prog ops Q (o :: rest) a w := by
  refine wpList_step fun K hK => ?_
  rw [if_pos hw]
  have := hK _ _ h
  unfold Oper.wp execOp
  simp only [hop, hx, hy, Lt.mail, Sem.run_bind, run_eqGuard_agg (P := Try.prog) _ _ _ _ _ _ _ guard_mail, eql_mail, Result.andThen_ok, Sem.run_pure]
  exact this
set_option maxHeartbeats 8000000 in
theorem rall_any (w : World) (room gap : Int) (v : Value) (L : List Lt) (hv : RsAt 4 w v (ones L)) (hL : L.length ≤ 1048575) (last lost : Int) : Calls Try.prog 34 #[.agg (dR room gap v last lost).toArray] w fun e w' => ∃ v', e = .returned v' ∧ OwnR 75 3 w' w.heap.size v' (mls L) ∧ Below w.heap.size w w' := by
  have HV := hidp hv
  have H := hidp (Mm.M.nil w)
  obtain ⟨a, cv, hva⟩ := hv.form
  rw [ones_len] at hva
  obtain ⟨n, hn⟩ : ∃ n, L.length = n := ⟨_, rfl⟩
  have HN := hidp hn
  rw [hn] at hva hL
  subst hva
  clear hv hn
  go_enter Try.func34, Try.ntmps34
  have tk0 := hidp trivial
  go_wp2_with (first | (clear tk0; (refine Mm.box 54 H rfl (.tmp 0) rfl (dR room gap (.slice a n cv) last lost) rfl ?_; clear H; intro b1 _ H nw; have hb := nw.below; clear hb nw); (try simp only [Act.put, setIfInBounds_toArray, set_cons_zero, set_cons_succ]); have tk1 := hidp trivial) | (clear tk1; (refine Mm.ld0 na1S H rfl (.tmp 6) 2 _ rfl rfl rfl ?_); (try simp only [Act.put, setIfInBounds_toArray, set_cons_zero, set_cons_succ]); have tk2 := hidp trivial))
  try clear tk2
  go_loopw [3, 9] (fun t3 t9 wr => ∃ (i : Nat) (v3 : Value), t9 = .int .i64 (i : Int) ∧ v3 = t3 ∧ i ≤ n ∧ OwnR 75 3 wr w.heap.size v3 (mls (L.take i)) ∧ Below w.heap.size w wr) (fun _ t9 _ => n - (intOf t9).toNat)
  case atStart => exact ⟨0, _, rfl, rfl, by omega, by rw [List.take_zero]; exact OwnR.nil _ _, H.out.below⟩
  case round =>
    obtain ⟨i, v3, rfl, rfl, hi, ho, hb⟩ := hrel
    have HO := hidp ho; have HB := hidp hb
    clear ho hb H
    by_cases hlt : i < n
    · have e1 : decide ((i : Int) < (n : Int)) = true := by simp; omega
      have hgl : i < L.length := by rw [HN.out]; exact hlt
      obtain ⟨BK, off, c, e2, hc, hBK, hR0⟩ := HV.out.get (by rw [ones_len, HN.out]; omega)
      rw [ones_len, HN.out] at e2
      simp only [Value.slice.injEq] at e2
      obtain ⟨rfl, -, rfl⟩ := e2
      obtain ⟨x, hge⟩ : ∃ x, L[i] = x := ⟨_, rfl⟩
      have HRI := hidp (show wr.rangeAt BK (off + 4 * i) x.one4 from by
        have := rAt_nth hR0 (ones_all L) i (by rw [ones_len]; exact hgl)
        rw [show (ones L)[i]'(by rw [ones_len]; exact hgl) = x.one4 from by simp [ones, hge]] at this
        exact rangeAt_below this HB.out hBK)
      have HS := hidp (show mls (L.take (i + 1)) = mls (L.take i) ++ [x.mail] from by rw [List.take_add_one, List.getElem?_eq_getElem hgl, hge]; simp [mls])
      have hml := hidp (show (mls (L.take i)).length + 1 ≤ 1048576 from by rw [mls_len, List.length_take]; have := HN.out; omega)
      have H := hidp (Mm.M.nil wr)
      clear hR0 hc hge hgl
      have tk0 := hidp trivial
      go_wp2_with (first | (clear tk0; (refine wpL_idxR ty1 rfl (.tmp 7) (.tmp 9) rfl BK off n _ i rfl rfl hlt ?_); (try simp only [Act.put, setIfInBounds_toArray, set_cons_zero, set_cons_succ]); have tk1 := hidp trivial) | (clear tk1; (refine wpL_atR ty1 rfl (.tmp 11) rfl BK (off + 4 * i) x.one4 rfl rfl HRI.out ?_); (try simp only [Act.put, setIfInBounds_toArray, set_cons_zero, set_cons_succ]); have tk2 := hidp trivial) | (clear tk2; (refine Mm.new rt1 H (some 5) rfl rfl rfl ?_; clear H; intro b5 _ H nw; clear nw); (try simp only [Act.put, setIfInBounds_toArray, set_cons_zero, set_cons_succ]); have tk3 := hidp trivial) | (clear tk3; (refine Mm.put0 rt1 H rfl (.tmp 5) (.tmp 12) x.one4 rfl rfl rfl rfl (Lt.one41 x) rfl ?_; intro _ H2 st; clear st H; have H := H2; clear H2); (try simp only [Act.put, setIfInBounds_toArray, set_cons_zero, set_cons_succ]); have tk4 := hidp trivial) | (clear tk4; (refine wpL_mid rtM rfl (.tmp 14) b5 0 x.mail rfl rfl rfl (mailAt4 x H.out.at0) ?_); (try simp only [Act.put, setIfInBounds_toArray, set_cons_zero, set_cons_succ]); have tk5 := hidp trivial) | (clear tk5; (refine wpL_bs1R tyM rfl _ rfl x.mail rfl rfl ?_; intro g1 _ nw; have HG := hidp nw.arr; replace H := hidp (H.out.call nw.below); clear nw); (try simp only [Act.put, setIfInBounds_toArray, set_cons_zero, set_cons_succ]); have tk6 := hidp trivial) | (clear tk6; (refine wpL_app1R tyM rfl (.tmp 13) (.tmp 16) rfl w.heap.size g1 v3 (mls (L.take i)) x.mail rfl rfl (HO.out.to H.out.below (Nat.le_refl _)) HG.out (Lt.mone x) rfl (Nat.le_trans HB.out.size H.out.below.size) hml.out ?_; intro v2 W2 ho2 hg2; have HO2 := hidp ho2; have HB2 := hidp ((HB.out.trans (H.out.below.mono HB.out.size)).grown hg2 (Nat.le_trans HB.out.size H.out.below.size) (fun k hk => (World.ownsRow.lt HO.out.2 k hk).1)); clear ho2 hg2); (try simp only [Act.put, setIfInBounds_toArray, set_cons_zero, set_cons_succ]); have tk7 := hidp trivial))
      try clear tk7
      exact ⟨⟨i + 1, _, by go_num, rfl, by omega, by rw [HS.out]; exact HO2.out, HB2.out⟩, by simp [intOf]; omega⟩
    · have e1 : decide ((i : Int) < (n : Int)) = false := by simp; omega
      have HX := hidp (show L.take i = L from by rw [List.take_of_length_le]; have := HN.out; omega)
      go_wp2_with fail
      go_ret
      exact ⟨_, rfl, by have := HO.out; rw [HX.out] at this; exact this, HB.out⟩

set_option maxHeartbeats 8000000 in
theorem rsame_any (w : World) (v u : Value) (L : List Lt) (hv : RsAt 3 w v (mls L)) (hu : RsAt 3 w u (mls L)) (hL : L.length ≤ 1048575) : Calls Try.prog 28 #[v, u] w fun e w' => e = .returned (.bool true) ∧ Below w.heap.size w w' := by
  have HV := hidp hv; have HU := hidp hu
  obtain ⟨a, cv, hva⟩ := hv.form
  obtain ⟨a', cv', hua⟩ := hu.form
  rw [mls_len] at hva hua
  obtain ⟨n, hn⟩ : ∃ n, L.length = n := ⟨_, rfl⟩
  have HN := hidp hn
  rw [hn] at hva hua hL
  subst hva hua
  clear hv hu hn
  go_enter Try.func28, Try.ntmps28
  go_wp2_with fail
  go_loopw [5, 13] (fun t5 t13 wr => ∃ i : Nat, t13 = .int .i64 (i : Int) ∧ i ≤ n ∧ Below w.heap.size w wr) (fun _ t13 _ => n - (intOf t13).toNat)
  case atStart => exact ⟨0, rfl, by omega, Below.refl _ _⟩
  case round =>
    obtain ⟨i, rfl, hi, hb⟩ := hrel
    have HB := hidp hb
    clear hb
    by_cases hlt : i < n
    · have e1 : decide ((i : Int) < (n : Int)) = true := by simp; omega
      have hgl : i < L.length := by rw [HN.out]; exact hlt
      obtain ⟨BK, off, c, e2, hc, hBK, hR0⟩ := HV.out.get (by rw [mls_len, HN.out]; omega)
      rw [mls_len, HN.out] at e2
      simp only [Value.slice.injEq] at e2
      obtain ⟨rfl, -, rfl⟩ := e2
      obtain ⟨BU, ofu, c', e3, hc', hBU, hR1⟩ := HU.out.get (by rw [mls_len, HN.out]; omega)
      rw [mls_len, HN.out] at e3
      simp only [Value.slice.injEq] at e3
      obtain ⟨rfl, -, rfl⟩ := e3
      obtain ⟨x, hge⟩ : ∃ x, L[i] = x := ⟨_, rfl⟩
      have hnth := fun (B o : Nat) (hBB : B < w.heap.size) (h : w.rangeAt B o (mls L).flatten) => (show wr.rangeAt B (o + 3 * i) x.mail from by
        have := rAt_nth h (mls_all L) i (by rw [mls_len]; exact hgl)
        rw [show (mls L)[i]'(by rw [mls_len]; exact hgl) = x.mail from by simp [mls, hge]] at this
        exact rangeAt_below this HB.out hBB)
      have HBK := hidp hBK; have HBU := hidp hBU
      have HR1 := hidp (hnth BK off hBK hR0); have HR2 := hidp (hnth BU ofu hBU hR1)
      have qe := eqM_refl x
      clear hR0 hR1 hnth hge hgl hc hc'
      go_wp2_with fail
      obtain ⟨X0, hU⟩ : ∃ U, ({ wr with drawn := wr.drawn + 1 } : World) = U := ⟨_, rfl⟩
      have HX0 := hidp (show Below wr.heap.size wr X0 from by rw [← hU]; exact (Below.refl _ _).drew)
      refine regionQ (S := fun U => Below wr.heap.size wr U) (.take 0 (.take 1 (.take 2 (.take 3 (.take 4 (.take 5 (.take 6 (.take 7 (.take 8 .done))))))))) (by kernel_rfl) (by kernel_rfl) (by simp [Scr.depth]) (by kernel_rfl) (Below.refl _ _).drew ?_
      rw [show wr.drew = X0 from hU]
      apply s_val
      case ho | hw => rfl
      case hv => intro w hw; go_simp; first | done | rfl
      simp only [Act.put, getElem_toArray, getElem_cons_zero, getElem_cons_succ, setIfInBounds_toArray, set_cons_zero, set_cons_succ]
      apply s_val
      case ho | hw => rfl
      case hv => intro w hw; go_simp; first | done | rfl
      simp only [Act.put, getElem_toArray, getElem_cons_zero, getElem_cons_succ, setIfInBounds_toArray, set_cons_zero, set_cons_succ]
      refine s_idxR tyM rfl rfl (.tmp 16) (.tmp 17) rfl BK off n _ i rfl rfl hlt ?_
      simp only [Act.put, getElem_toArray, getElem_cons_zero, getElem_cons_succ, setIfInBounds_toArray, set_cons_zero, set_cons_succ]
      refine s_atR tyM rfl rfl (.tmp 18) rfl BK (off + 3 * i) x.mail rfl rfl (fun U h => rangeAt_below HR1.out h (Nat.lt_of_lt_of_le HBK.out HB.out.size)) ?_
      simp only [Act.put, getElem_toArray, getElem_cons_zero, getElem_cons_succ, setIfInBounds_toArray, set_cons_zero, set_cons_succ]
      apply s_val
      case ho | hw => rfl
      case hv => intro w hw; go_simp; first | done | rfl
      simp only [Act.put, getElem_toArray, getElem_cons_zero, getElem_cons_succ, setIfInBounds_toArray, set_cons_zero, set_cons_succ]
      apply s_val
      case ho | hw => rfl
      case hv => intro w hw; go_simp; first | done | rfl
      simp only [Act.put, getElem_toArray, getElem_cons_zero, getElem_cons_succ, setIfInBounds_toArray, set_cons_zero, set_cons_succ]
      refine s_idxR tyM rfl rfl (.tmp 20) (.tmp 21) rfl BU ofu n _ i rfl rfl hlt ?_
      simp only [Act.put, getElem_toArray, getElem_cons_zero, getElem_cons_succ, setIfInBounds_toArray, set_cons_zero, set_cons_succ]
      refine s_atR tyM rfl rfl (.tmp 22) rfl BU (ofu + 3 * i) x.mail rfl rfl (fun U h => rangeAt_below HR2.out h (Nat.lt_of_lt_of_le HBU.out HB.out.size)) ?_
      simp only [Act.put, getElem_toArray, getElem_cons_zero, getElem_cons_succ, setIfInBounds_toArray, set_cons_zero, set_cons_succ]
      refine s_neM rfl rfl (.tmp 19) (.tmp 23) _ rfl x x rfl rfl ?_
      rw [qe]
      simp only [Act.put, getElem_toArray, getElem_cons_zero, getElem_cons_succ, setIfInBounds_toArray, set_cons_zero, set_cons_succ]
      refine NoPanic.normal ?_
      go_wp2_with fail
      exact ⟨⟨i + 1, by go_num, by omega, HB.out.trans (HX0.out.mono HB.out.size)⟩, by simp [intOf]; omega⟩
    · have e1 : decide ((i : Int) < (n : Int)) = false := by simp; omega
      go_wp2_with fail
      go_ret
      exact ⟨rfl, HB.out⟩

end Go.Proofs.Ytokakgjcegmabaa.Po
