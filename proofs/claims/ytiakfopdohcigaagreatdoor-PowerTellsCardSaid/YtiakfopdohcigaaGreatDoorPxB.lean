
/-
  power: the document's Check, Of, in.
-/
import Derived.Test.YtiakfopdohcigaaGreatDoorPxA
import Derived.Test.YtiakfopdohcigaaGreatDoorPwM
import Derived.Test.YtiakfopdohcigaaGreatDoorMm
import Derived.Test.YtiakfopdohcigaaGreatDoorIdR
namespace Go.Proofs.YtiakfopdohcigaaGreatDoor
set_option maxRecDepth 100000
set_option linter.unusedVariables false
set_option linter.unusedSimpArgs false
open Go.RowKit Rw
open List (getElem_toArray getElem_cons_zero getElem_cons_succ setIfInBounds_toArray set_cons_zero set_cons_succ)

theorem naIx : Mm.NA Tryz.prog 3 := ⟨_, Tryz.underlying3, rfl⟩
theorem naSx : Mm.NA Tryz.prog 9 := ⟨_, Tryz.underlying9, rfl⟩
theorem naSU : Mm.NA Tryz.prog 35 := ⟨_, Tryz.underlying35, rfl⟩
theorem whoVx (o : Option Nat) : whoV o = .tuple #[.int .i64 ((o.getD 0 : Nat) : Int), .bool o.isSome] := by cases o <;> rfl
theorem same_bx {f : FuncId} {args : Array Value} {w : World} {v : Value} (h : Calls Tryz.prog f args w fun e w' => e = .returned v ∧ w' = w) : Calls Tryz.prog f args w fun e w' => e = .returned v ∧ Below w.heap.size w w' :=
  h.mono fun e w' ⟨h1, h2⟩ => by subst h2; exact ⟨h1, Below.refl _ _⟩
set_option maxHeartbeats 4000000 in
theorem six2_any (w : World) (l : Lv) (v : Value) :
    Calls Tryz.prog 63 #[.agg #[.int .i64 l.a, .int .i64 l.s, .int .i64 l.i, .int .i64 l.k, .int .i64 l.b, .int .i64 l.r, v]] w fun e w' => ∃ v', e = .returned v' ∧ (∃ g, v' = .slice (some ⟨g, 0, none⟩) 6 6 ∧ w.heap.size ≤ g ∧ Arr w' g 3 [.int .i64 l.a, .int .i64 l.s, .int .i64 l.i, .int .i64 l.k, .int .i64 l.b, .int .i64 l.r]) ∧ Below w.heap.size w w' := by
  go_enter Tryz.func63, Tryz.ntmps63
  go_wp2_with (refine Rt.wpL_box 37 rfl (.tmp 0) rfl [.int .i64 l.a, .int .i64 l.s, .int .i64 l.i, .int .i64 l.k, .int .i64 l.b, .int .i64 l.r, v] rfl ?_; intro b1 w1 n1; have HB1 := hidp n1.below; have HA1 := hidp n1.arr; clear n1; obtain ⟨x0, x1, x2, x3, x4, x5, x6⟩ := arr7 HA1.out)
  go_ret
  exact ⟨_, rfl, ⟨_, rfl, HB1.out.size, Arr.new _ _ _⟩, HB1.out.alloc HB1.out.size _⟩
theorem rlevel_any (w : World) (n : Int) : Calls Tryz.prog 73 #[.int .i64 n] w fun e w' => e = .returned (.bool (inR n)) ∧ Below w.heap.size w w' := by
  by_cases h : 0 ≤ n
  · have d1 : decide (n ≥ 0) = true := by simp; omega
    have d1b : decide (0 ≤ n) = true := d1
    by_cases h2 : n ≤ 100
    · have d2 : decide (n ≤ 100) = true := by simp; omega
      have HF := hidp (show inR n = true from by unfold inR; rw [d1b, d2]; rfl)
      go_enter Tryz.func73, Tryz.ntmps73
      go_wp2_with fail
      go_ret
      exact ⟨by rw [HF.out]; rfl, Below.refl _ _⟩
    · have d2 : decide (n ≤ 100) = false := by simp; omega
      have HF := hidp (show inR n = false from by unfold inR; rw [d1b, d2]; rfl)
      go_enter Tryz.func73, Tryz.ntmps73
      go_wp2_with fail
      go_ret
      exact ⟨by rw [HF.out]; rfl, Below.refl _ _⟩
  · have d1 : decide (n ≥ 0) = false := by simp; omega
    have d1b : decide (0 ≤ n) = false := d1
    have HF := hidp (show inR n = false from by unfold inR; rw [d1b]; rfl)
    go_enter Tryz.func73, Tryz.ntmps73
    go_wp2_with (first | (refine Rt.wpL_skip _ _ rfl rfl ?_))
    go_ret
    exact ⟨by rw [HF.out]; rfl, Below.refl _ _⟩
theorem eqin_u (W : World) (a b : ByteArray × Int) : (Op.equalIn 10000 83 (.agg (uR a).toArray) (.agg (uR b).toArray)).run Tryz.prog W = .ok (decide (a = b)) W := by
  have ht : Tryz.prog.underlying 83 = some (.struct (Tryz.prog.fieldsOf 83)) := by kernel_rfl
  have hp : Tryz.prog.stoodInHeld 83 = false := by kernel_rfl
  have hu := Tryz.underlying83
  have hus := Tryz.underlying9
  have hui := Tryz.underlying3
  unfold uR
  rw [run_equalIn_agg W 9999 _ _ _ ht hp]
  unfold Program.fieldsOf
  rw [hu]
  by_cases h1 : a.1 = b.1
  · by_cases h2 : a.2 = b.2
    · obtain rfl : a = b := Prod.ext h1 h2
      rw [decide_eq_true rfl]
      go_simp
    · have e1 : (a.1.toList == b.1.toList) = true := by rw [h1]; simp
      have e2 : (a.2 == b.2) = false := by rw [beq_eq_false_iff_ne]; exact h2
      rw [decide_eq_false fun g => h2 (by rw [g])]
      go_simp
  · have e1 : (a.1.toList == b.1.toList) = false := by rw [beq_eq_false_iff_ne]; exact fun g => h1 (ba_inj g)
    rw [decide_eq_false fun g => h1 (by rw [g])]
    go_simp
theorem eq_u (W : World) (a b : ByteArray × Int) : (binOp .eql 83 (.agg (uR a).toArray) (.agg (uR b).toArray)).run Tryz.prog W = .ok (.bool (decide (a = b))) W := by
  rw [run_eql_struct, eqin_u]; rfl

set_option maxHeartbeats 8000000 in
theorem rof_any (w : World) (l : Lv) (v : Value) (u : ByteArray) (hv : UsAt w v l.us) :
    Calls Tryz.prog 28 #[.agg #[.int .i64 l.a, .int .i64 l.s, .int .i64 l.i, .int .i64 l.k, .int .i64 l.b, .int .i64 l.r, v], .string u] w fun e w' => e = .returned (.int .i64 (ofL l u)) ∧ Below w.heap.size w w' := by
  have HV := hidp hv; clear hv
  obtain ⟨av, cv, rfl⟩ := HV.out.form
  obtain ⟨n, hn⟩ : ∃ n, l.us.length = n := ⟨_, rfl⟩
  have HN := hidp hn
  have h47 := HV.out.len
  rw [hn] at HV h47 ⊢
  clear hn
  have H := hidp (Mm.M.nil w)
  go_enter Tryz.func28, Tryz.ntmps28
  have tk0 := hidp trivial
  go_wp2_with (first | (clear tk0; (refine Mm.box 37 H rfl (.tmp 0) rfl [.int .i64 l.a, .int .i64 l.s, .int .i64 l.i, .int .i64 l.k, .int .i64 l.b, .int .i64 l.r, .slice av n cv] rfl ?_; clear H; intro b2 _ H nw; have hb := nw.below; clear hb nw); (try simp only [Act.put, setIfInBounds_toArray, set_cons_zero, set_cons_succ]); have tk1 := hidp trivial) | (clear tk1; (refine Mm.ld0 naSU H rfl (.tmp 7) 6 (.slice av n cv) rfl rfl rfl ?_); (try simp only [Act.put, setIfInBounds_toArray, set_cons_zero, set_cons_succ]); have tk2 := hidp trivial))
  try clear tk2
  go_loopw [10] (fun t10 wr => ∃ i : Nat, t10 = .int .i64 (i : Int) ∧ i ≤ n ∧ ownL (l.us.drop i) u = ownL l.us u ∧ Mm.M w.heap.size w wr [⟨b2, 37, [.int .i64 l.a, .int .i64 l.s, .int .i64 l.i, .int .i64 l.k, .int .i64 l.b, .int .i64 l.r, .slice av n cv]⟩]) (fun t10 _ => n - (intOf t10).toNat)
  case atStart => exact ⟨0, rfl, by omega, rfl, H.out⟩
  case round =>
    clear H
    obtain ⟨i, rfl, hi, hst, hM⟩ := hrel
    have HS := hidp hst; have H := hidp hM
    clear hst hM
    by_cases hlt : i < n
    · have e1 : decide ((i : Int) < (n : Int)) = true := by simp; omega
      have hgl : i < l.us.length := by rw [HN.out]; exact hlt
      obtain ⟨BK, off, c0, e2, hc, hBK0, hR0⟩ := HV.out.get (by rw [HN.out]; omega)
      rw [HN.out] at e2
      simp only [Value.slice.injEq] at e2
      obtain ⟨rfl, -, rfl⟩ := e2
      have hBK := hidp hBK0
      obtain ⟨p, hpe⟩ : ∃ p, l.us[i] = p := ⟨_, rfl⟩
      have HRI := hidp (show wr.rangeAt BK (off + 2 * i) (uR p) from by rw [← hpe]; exact rangeAt_below (hR0 i hgl) H.out.below hBK0)
      have hs := own_step (u := u) hgl
      rw [hpe, HS.out] at hs
      clear hR0 hBK0 hc hpe
      cases he : (p.1.toList == u.toList) with
      | true =>
        have HF := hidp (show ofL l u = p.2 from by unfold ofL; rw [hs, if_pos he]; rfl)
        clear hs
        have tk0 := hidp trivial
        go_wp2_with (first | (clear tk0; (refine wpL_idxR tyU rfl (.tmp 8) (.tmp 10) rfl BK off n _ i rfl rfl hlt ?_); (try simp only [Act.put, setIfInBounds_toArray, set_cons_zero, set_cons_succ]); have tk1 := hidp trivial) | (clear tk1; (refine wpL_atR tyU rfl (.tmp 12) rfl BK (off + 2 * i) (uR p) rfl rfl HRI.out ?_); (try simp only [Act.put, setIfInBounds_toArray, set_cons_zero, set_cons_succ]); have tk2 := hidp trivial) | (clear tk2; (refine Mm.new tyP H (some 6) rfl rfl rfl ?_; clear H; intro b6 _ H nw; have hb := nw.below; clear hb nw); (try simp only [Act.put, setIfInBounds_toArray, set_cons_zero, set_cons_succ]); have tk3 := hidp trivial) | (clear tk3; (refine Mm.put0 tyP H rfl (.tmp 6) (.tmp 13) (uR p) rfl rfl rfl rfl (uR_one p) rfl ?_; intro _ H2 st; clear st H; have H := H2; clear H2); (try simp only [Act.put, setIfInBounds_toArray, set_cons_zero, set_cons_succ]); have tk4 := hidp trivial) | (clear tk4; (refine Mm.ld0 naSx H rfl (.tmp 14) 0 (.string p.1) rfl rfl rfl ?_); (try simp only [Act.put, setIfInBounds_toArray, set_cons_zero, set_cons_succ]); have tk5 := hidp trivial) | (clear tk5; (refine Mm.ld0 naIx H rfl (.tmp 18) 1 (.int .i64 p.2) rfl rfl rfl ?_); (try simp only [Act.put, setIfInBounds_toArray, set_cons_zero, set_cons_succ]); have tk6 := hidp trivial))
        try clear tk6
        go_ret
        exact ⟨by rw [HF.out]; rfl, H.out.below⟩
      | false =>
        have HST := hidp (show ownL (l.us.drop (i + 1)) u = ownL l.us u from by rw [hs, if_neg (by rw [he]; exact Bool.false_ne_true)])
        clear hs
        have tk0 := hidp trivial
        go_wp2_with (first | (clear tk0; (refine wpL_idxR tyU rfl (.tmp 8) (.tmp 10) rfl BK off n _ i rfl rfl hlt ?_); (try simp only [Act.put, setIfInBounds_toArray, set_cons_zero, set_cons_succ]); have tk1 := hidp trivial) | (clear tk1; (refine wpL_atR tyU rfl (.tmp 12) rfl BK (off + 2 * i) (uR p) rfl rfl HRI.out ?_); (try simp only [Act.put, setIfInBounds_toArray, set_cons_zero, set_cons_succ]); have tk2 := hidp trivial) | (clear tk2; (refine Mm.new tyP H (some 6) rfl rfl rfl ?_; clear H; intro b6 _ H nw; have hb := nw.below; clear hb nw); (try simp only [Act.put, setIfInBounds_toArray, set_cons_zero, set_cons_succ]); have tk3 := hidp trivial) | (clear tk3; (refine Mm.put0 tyP H rfl (.tmp 6) (.tmp 13) (uR p) rfl rfl rfl rfl (uR_one p) rfl ?_; intro _ H2 st; clear st H; have H := H2; clear H2); (try simp only [Act.put, setIfInBounds_toArray, set_cons_zero, set_cons_succ]); have tk4 := hidp trivial) | (clear tk4; (refine Mm.ld0 naSx H rfl (.tmp 14) 0 (.string p.1) rfl rfl rfl ?_); (try simp only [Act.put, setIfInBounds_toArray, set_cons_zero, set_cons_succ]); have tk5 := hidp trivial))
        try clear tk5
        exact ⟨⟨i + 1, by go_num, by omega, HST.out, H.out.tail⟩, by simp [intOf]; omega⟩
    · have e1 : decide ((i : Int) < (n : Int)) = false := by simp; omega
      have hin : i = n := by omega
      have HF := hidp (show ofL l u = l.a from by unfold ofL; rw [← HS.out, hin, ← HN.out, List.drop_length]; rfl)
      clear hin
      have tk0 := hidp trivial
      go_wp2_with (first | (clear tk0; (refine Mm.ld0 naIx H rfl (.tmp 21) 0 (.int .i64 l.a) rfl rfl rfl ?_); (try simp only [Act.put, setIfInBounds_toArray, set_cons_zero, set_cons_succ]); have tk1 := hidp trivial))
      try clear tk1
      go_ret
      exact ⟨by rw [HF.out]; rfl, H.out.below⟩

set_option maxHeartbeats 8000000 in
theorem rin_any (w : World) (us : List (ByteArray × Int)) (v : Value) (z : ByteArray × Int) (hv : UsAt w v us) :
    Calls Tryz.prog 77 #[v, .agg (uR z).toArray] w fun e w' => e = .returned (.bool (inB us z)) ∧ Below w.heap.size w w' := by
  have HV := hidp hv; clear hv
  obtain ⟨av, cv, rfl⟩ := HV.out.form
  obtain ⟨n, hn⟩ : ∃ n, us.length = n := ⟨_, rfl⟩
  have HN := hidp hn
  have h47 := HV.out.len
  rw [hn] at HV h47 ⊢
  clear hn
  have H := hidp (Mm.M.nil w)
  go_enter Tryz.func77, Tryz.ntmps77
  have tk0 := hidp trivial
  go_wp2_with (first | (clear tk0; (refine Mm.box 83 H rfl (.tmp 1) rfl (uR z) rfl ?_; clear H; intro b3 _ H nw; have hb := nw.below; clear hb nw); (try simp only [Act.put, setIfInBounds_toArray, set_cons_zero, set_cons_succ]); have tk1 := hidp trivial))
  try clear tk1
  go_wp2_with fail
  go_loopw [9] (fun t9 wr => ∃ i : Nat, t9 = .int .i64 (i : Int) ∧ i ≤ n ∧ inB (us.drop i) z = inB us z ∧ Mm.M w.heap.size w wr [⟨b3, 83, uR z⟩]) (fun t9 _ => n - (intOf t9).toNat)
  case atStart => exact ⟨0, rfl, by omega, rfl, H.out⟩
  case round =>
    clear H
    obtain ⟨i, rfl, hi, hst, hM⟩ := hrel
    have HS := hidp hst; have H := hidp hM
    clear hst hM
    by_cases hlt : i < n
    · have e1 : decide ((i : Int) < (n : Int)) = true := by simp; omega
      have hgl : i < us.length := by rw [HN.out]; exact hlt
      obtain ⟨BK, off, c0, e2, hc, hBK0, hR0⟩ := HV.out.get (by rw [HN.out]; omega)
      rw [HN.out] at e2
      simp only [Value.slice.injEq] at e2
      obtain ⟨rfl, -, rfl⟩ := e2
      have hBK := hidp hBK0
      obtain ⟨p, hpe⟩ : ∃ p, us[i] = p := ⟨_, rfl⟩
      have HRI := hidp (show wr.rangeAt BK (off + 2 * i) (uR p) from by rw [← hpe]; exact rangeAt_below (hR0 i hgl) H.out.below hBK0)
      have hs := inB_step (p := z) hgl
      rw [hpe, HS.out] at hs
      clear hR0 hBK0 hc hpe
      have q1 := fun W => eqin_u W p z; have q2 := fun W => eq_u W p z
      by_cases he : p = z
      · rw [decide_eq_true he] at hs
        simp only [decide_eq_true he] at q1 q2
        have HF := hidp (show inB us z = true from by rw [hs]; rfl)
        clear hs he
        have tk0 := hidp trivial
        go_wp2_with (first | (clear tk0; (refine wpL_idxR tyU rfl (.tmp 7) (.tmp 9) rfl BK off n _ i rfl rfl hlt ?_); (try simp only [Act.put, setIfInBounds_toArray, set_cons_zero, set_cons_succ]); have tk1 := hidp trivial) | (clear tk1; (refine wpL_atR tyU rfl (.tmp 11) rfl BK (off + 2 * i) (uR p) rfl rfl HRI.out ?_); (try simp only [Act.put, setIfInBounds_toArray, set_cons_zero, set_cons_succ]); have tk2 := hidp trivial) | (clear tk2; (refine Mm.new tyP H (some 6) rfl rfl rfl ?_; clear H; intro b6 _ H nw; have hb := nw.below; clear hb nw); (try simp only [Act.put, setIfInBounds_toArray, set_cons_zero, set_cons_succ]); have tk3 := hidp trivial) | (clear tk3; (refine Mm.put0 tyP H rfl (.tmp 6) (.tmp 12) (uR p) rfl rfl rfl rfl (uR_one p) rfl ?_; intro _ H2 st; clear st H; have H := H2; clear H2); (try simp only [Act.put, setIfInBounds_toArray, set_cons_zero, set_cons_succ]); have tk4 := hidp trivial) | (clear tk4; (refine Mm.get0 tyP H rfl (.tmp 6) rfl rfl rfl ?_); (try simp only [Act.put, setIfInBounds_toArray, set_cons_zero, set_cons_succ]); have tk5 := hidp trivial) | (clear tk5; (refine Mm.get1 tyP H rfl (.tmp 3) rfl rfl rfl ?_); (try simp only [Act.put, setIfInBounds_toArray, set_cons_zero, set_cons_succ]); have tk6 := hidp trivial))
        try clear tk6
        go_ret
        exact ⟨by rw [HF.out]; rfl, H.out.below⟩
      · rw [decide_eq_false he] at hs
        simp only [decide_eq_false he] at q1 q2
        have HST := hidp (show inB (us.drop (i + 1)) z = inB us z from by rw [hs]; rfl)
        clear hs he
        have tk0 := hidp trivial
        go_wp2_with (first | (clear tk0; (refine wpL_idxR tyU rfl (.tmp 7) (.tmp 9) rfl BK off n _ i rfl rfl hlt ?_); (try simp only [Act.put, setIfInBounds_toArray, set_cons_zero, set_cons_succ]); have tk1 := hidp trivial) | (clear tk1; (refine wpL_atR tyU rfl (.tmp 11) rfl BK (off + 2 * i) (uR p) rfl rfl HRI.out ?_); (try simp only [Act.put, setIfInBounds_toArray, set_cons_zero, set_cons_succ]); have tk2 := hidp trivial) | (clear tk2; (refine Mm.new tyP H (some 6) rfl rfl rfl ?_; clear H; intro b6 _ H nw; have hb := nw.below; clear hb nw); (try simp only [Act.put, setIfInBounds_toArray, set_cons_zero, set_cons_succ]); have tk3 := hidp trivial) | (clear tk3; (refine Mm.put0 tyP H rfl (.tmp 6) (.tmp 12) (uR p) rfl rfl rfl rfl (uR_one p) rfl ?_; intro _ H2 st; clear st H; have H := H2; clear H2); (try simp only [Act.put, setIfInBounds_toArray, set_cons_zero, set_cons_succ]); have tk4 := hidp trivial) | (clear tk4; (refine Mm.get0 tyP H rfl (.tmp 6) rfl rfl rfl ?_); (try simp only [Act.put, setIfInBounds_toArray, set_cons_zero, set_cons_succ]); have tk5 := hidp trivial) | (clear tk5; (refine Mm.get1 tyP H rfl (.tmp 3) rfl rfl rfl ?_); (try simp only [Act.put, setIfInBounds_toArray, set_cons_zero, set_cons_succ]); have tk6 := hidp trivial))
        try clear tk6
        exact ⟨⟨i + 1, by go_num, by omega, HST.out, H.out.tail⟩, by simp [intOf]; omega⟩
    · have e1 : decide ((i : Int) < (n : Int)) = false := by simp; omega
      have hin : i = n := by omega
      have HF := hidp (show inB us z = false from by rw [← HS.out, hin, ← HN.out, List.drop_length]; rfl)
      clear hin
      go_wp2_with fail
      go_ret
      exact ⟨by rw [HF.out]; rfl, H.out.below⟩
end Go.Proofs.YtiakfopdohcigaaGreatDoor
