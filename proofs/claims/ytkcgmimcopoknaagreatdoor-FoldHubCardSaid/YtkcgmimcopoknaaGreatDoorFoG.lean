
/-
  fold: the hub.
-/
import Derived.Test.YtkcgmimcopoknaaGreatDoorFoL
namespace Go.Proofs.YtkcgmimcopoknaaGreatDoor
set_option maxRecDepth 100000
set_option linter.unusedVariables false
set_option linter.unusedSimpArgs false
open Go.RowKit Rw

section
variable {P : Program} {ST T k by_ : Nat} {z : List Value} {ops : Array Oper} {rest : List Oper} {o : Oper} {a : Act} {w : World} {Q : Exit → Act → World → Prop}
theorem RsAt.pre {av : Option Addr} {n c i : Nat} {fs : List (List Value)} (hu : RsAt k w (.slice av n c) fs) (hi : i ≤ fs.length) : RsAt k w (.slice av i c) (fs.take i) := by
  rcases hu.2 with ⟨e, rfl⟩ | ⟨g, off, c', e, hc, hg, hr⟩
  · simp only [Value.slice.injEq] at e
    obtain ⟨rfl, -, rfl⟩ := e
    have h0 : i = 0 := by simpa using hi
    subst h0; exact RsAt.nil w
  · simp only [Value.slice.injEq] at e
    obtain ⟨rfl, -, rfl⟩ := e
    have hl : (fs.take i).length = i := by rw [List.length_take]; omega
    exact ⟨hu.1.take i, .inr ⟨g, off, c, by rw [hl], by omega, hg, rAt_take hr i⟩⟩
theorem wpL_toPre (R : RowTy P ST T k by_ z) (hgd : o.guard = none) (x y : Operand) (ho : o.op = .slice ST x none (some y) none) (av : Option Addr) (n c i : Nat) (fs : List (List Value)) (hx : a.eval x = .slice av n c) (hy : a.eval y = .int .i64 (i : Int)) (hu : RsAt k w (.slice av n c) fs) (hi : i ≤ fs.length)
    (h : wpList P ops Q rest (a.put o.dst (.slice av i c)) w) : wpList P ops Q (o :: rest) a w := by
  rcases hu.2 with ⟨e, rfl⟩ | ⟨g, off, c', e, hc, hg, hr⟩
  · simp only [Value.slice.injEq] at e
    obtain ⟨rfl, rfl, rfl⟩ := e
    have h0 : i = 0 := by simpa using hi
    subst h0
    refine wpList_plain hgd fun K hK => ?_
    have := hK _ _ h
    have e : (Instr.sliceAt ST (.slice none 0 0) none (some (.int .i64 ((0 : Nat) : Int))) none).run P w = .ok (.slice none 0 0) w := by
      rw [run_sliceAt_slice (P := P) (w := w) ST _ _ _ _ (by rw [R.el]; exact R.us)]
      rw [run_slice_h (P := P) (w := w) ST none 0 0 (by rw [R.el]; exact R.us) .i64 ((0 : Nat) : Int) (by omega) (by omega), R.el, R.sz]
      simp [Result.andThen, sliced]
    unfold Oper.wp execOp
    simp only [ho, hx, hy, Option.map_none, Option.map_some, Sem.run_bind, e, Result.andThen_ok]
    exact this
  · simp only [Value.slice.injEq] at e
    obtain ⟨rfl, rfl, rfl⟩ := e
    exact wpL_toR R hgd x y ho g off fs.length c i hx hy (by omega) h
end
theorem EsAt.pre {w : World} {av : Option Addr} {n c k : Nat} {es : List Ev} (h : EsAt w (.slice av n c) es) (hk : k ≤ es.length) : EsAt w (.slice av k c) (es.take k) :=
  ⟨by rw [show rowsE (es.take k) = (rowsE es).take k from by simp [rowsE, List.map_take]]; exact RsAt.pre h.rs (by rw [rowsE_len]; exact hk), fun e he => h.fit e (List.mem_of_mem_take he), by have := h.len; simp; omega⟩
theorem hubF_le : ∀ (l : List Ev) (p : Int × Int), p.2 ≤ (l.foldl hubK p).2 ∧ (l.foldl hubK p).2 ≤ p.2 + l.length
  | [], p => by simp
  | e :: l, p => by
    have := hubF_le l (hubK p e)
    have h2 : p.2 ≤ (hubK p e).2 ∧ (hubK p e).2 ≤ p.2 + 1 := by
      unfold hubK; split
      · simp; omega
      · split <;> simp <;> omega
    simp only [List.foldl_cons, List.length_cons]
    push_cast
    omega
theorem hubF_step {es : List Ev} {i : Nat} {e : Ev} (h : i < es.length) (he : es[i] = e) (p : Int × Int) : (es.take (i + 1)).foldl hubK p = hubK ((es.take i).foldl hubK p) e := by
  rw [List.take_add_one, List.getElem?_eq_getElem h, he, List.foldl_append]; rfl

set_option maxHeartbeats 16000000 in
theorem walk_foldHub (w : World) (v : Value) (es : List Ev) (hv : EsAt w v es) (hP : PT w) :
    Calls Tryz.prog 6 #[v] w fun x w' => x = .returned (.bool true) ∧ Below w.heap.size w w' := by
  have HP := hidp hP; have HV := hidp hv
  have li := hidp (fun W h => lives18_any W h)
  have kr := hidp (fun W h h2 => run_any W v es h h2)
  obtain ⟨av, cv, hv0⟩ := hv.form
  have h47 := hv.len
  obtain ⟨n, hn⟩ : ∃ n, es.length = n := ⟨_, rfl⟩
  rw [hn] at hv0 h47
  subst hv0
  have HN := hidp hn
  have H := hidp (Mm.M.nil w)
  by_cases hbig : 100 < n
  · have d1 : decide ((n : Int) > 100) = true := by simp; omega
    have d2 : decide ((100 : Int) < (n : Int)) = true := d1
    clear hv hn hP kr hbig
    go_enter Tryz.func6, Tryz.ntmps6
    have tk0 := hidp trivial
    go_wp2_with (first | (clear tk0; (go_at_call 12; refine (li.out _ (HP.out.below H.out.below (Nat.le_refl _))).mono ?_; rintro e _ ⟨rfl, hb⟩; replace H := hidp (H.out.call hb); clear li; clear hb); (try simp only [Act.put, List.setIfInBounds_toArray, List.set_cons_zero, List.set_cons_succ]); have tk1 := hidp trivial))
    go_ret
    exact ⟨rfl, H.out.below⟩
  · have d1 : decide ((n : Int) > 100) = false := by simp; omega
    have d2 : decide ((100 : Int) < (n : Int)) = false := d1
    obtain ⟨hh, hk⟩ := rn_hub es rm0
    have hle := rn_le es rm0
    obtain ⟨R, hR⟩ : ∃ R, (rn rm0 es).1 = R := ⟨_, rfl⟩
    obtain ⟨m, hm⟩ : ∃ m, (rn rm0 es).2.1 = m := ⟨_, rfl⟩
    obtain ⟨E, hE⟩ : ∃ m, (rn rm0 es).2.2 = m := ⟨_, rfl⟩
    rw [hR, hm] at hh hk
    rw [hR, hm, hE] at kr
    rw [hm, hn] at hle
    have q1 : R.h = ((es.take m).foldl hubK (0, 0)).1 := congrArg Prod.fst hh
    have q2 : R.ep = ((es.take m).foldl hubK (0, 0)).2 := congrArg Prod.snd hh
    have q3 : R.n = (m : Int) := by rw [hk]; show (0 : Int) + _ = _; omega
    have Q1 := hidp q1; have Q2 := hidp q2; have Q3 := hidp q3
    have hmn := hidp (show m ≤ es.length from by rw [hn]; exact hle)
    have hmx : ∀ W ts, (Builtin.max_ ts 3 #[.int .i64 (m : Int), .int .i64 0]).run Tryz.prog W = .ok (.int .i64 (m : Int)) W := fun W ts => by
      rw [run_max_int2, if_neg (by omega)]
    have hmi : ∀ W ts, (Builtin.min_ ts 3 #[.int .i64 (m : Int), .int .i64 (n : Int)]).run Tryz.prog W = .ok (.int .i64 (m : Int)) W := fun W ts => by
      rw [run_min_int2]; by_cases h : (n : Int) < (m : Int) <;> simp [h] <;> omega
    have hm100 : m ≤ 100 := by omega
    have HE := hidp (hv.pre hmn.out)
    obtain ⟨n3, hn3⟩ : ∃ z, R.cs.length = z := ⟨_, rfl⟩
    have HN3 := hidp hn3
    have hl27 : (es.take m).length = m := by rw [List.length_take]; exact Nat.min_eq_left hmn.out
    have HL := hidp hl27
    clear hv hn hP hbig hh hk hR hm hE q1 q2 q3 hle hn3 hl27
    go_enter Tryz.func6, Tryz.ntmps6
    have tk0 := hidp trivial
    go_wp2_with (first | (clear tk0; (go_at_call 12; refine (li.out _ (HP.out.below H.out.below (Nat.le_refl _))).mono ?_; rintro e _ ⟨rfl, hb⟩; replace H := hidp (H.out.call hb); clear li; clear hb); (try simp only [Act.put, List.setIfInBounds_toArray, List.set_cons_zero, List.set_cons_succ]); have tk1 := hidp trivial) | (clear tk1; (go_at_call 13; refine (kr.out _ (HV.out.to H.out.below) (HP.out.below H.out.below (Nat.le_refl _))).mono ?_; rintro x _ ⟨v3, rfl, hcs, hb⟩; obtain ⟨a3, c3, rfl⟩ := hcs.form; rw [HN3.out]; replace H := hidp (H.out.call hb); clear hcs hb kr); (try simp only [Act.put, List.setIfInBounds_toArray, List.set_cons_zero, List.set_cons_succ]); have tk2 := hidp trivial) | (clear tk2; (refine Mm.new rtR H (some 3) rfl rfl rfl ?_; clear H; intro b3 _ H nw; have hb := nw.below; clear hb nw); (try simp only [Act.put, List.setIfInBounds_toArray, List.set_cons_zero, List.set_cons_succ]); have tk3 := hidp trivial) | (clear tk3; (refine Mm.put0 rtR H rfl (.tmp 3) (.tmp 18) [.slice a3 n3 c3, .int .i64 R.h, .int .i64 R.ep, .int .i64 R.n] rfl rfl rfl rfl (by simp [Value.oneCell']) rfl ?_; intro _ H2 st; clear st H; have H := H2; clear H2); (try simp only [Act.put, List.setIfInBounds_toArray, List.set_cons_zero, List.set_cons_succ]); have tk4 := hidp trivial) | (clear tk4; (refine wpL_toPre tyE rfl (.tmp 21) (.tmp 26) rfl av n cv m (rowsE es) rfl rfl (HV.out.to H.out.below).rs (by rw [rowsE_len]; exact hmn.out) ?_); (try simp only [Act.put, List.setIfInBounds_toArray, List.set_cons_zero, List.set_cons_succ]); have tk5 := hidp trivial))
    go_loopw [6, 7, 29] (fun t6 t7 t29 wr => ∃ i : Nat, t29 = .int .i64 (i : Int) ∧ i ≤ m ∧ t6 = .int .i64 ((es.take i).foldl hubK (0, 0)).1 ∧ t7 = .int .i64 ((es.take i).foldl hubK (0, 0)).2 ∧ Mm.M w.heap.size w wr [⟨b3, 35, [.slice a3 n3 c3, .int .i64 R.h, .int .i64 R.ep, .int .i64 R.n]⟩]) (fun _ _ t29 _ => m - (intOf t29).toNat)
    case atStart => exact ⟨0, rfl, by omega, rfl, rfl, H.out⟩
    case round =>
      clear H
      obtain ⟨i, rfl, hi, rfl, rfl, hM⟩ := hrel
      have H := hidp hM
      clear hM
      by_cases hlt : i < m
      · have e1 : decide ((i : Int) < (m : Int)) = true := by simp; omega
        have hgl : i < (es.take m).length := by rw [HL.out]; exact hlt
        have hgl2 : i < es.length := by have := hmn.out; omega
        obtain ⟨BK, off, c, e2, hc, hBK0, hR0⟩ := HE.out.get (by rw [HL.out]; omega)
        rw [HL.out] at e2
        simp only [Value.slice.injEq] at e2
        obtain ⟨rfl, -, rfl⟩ := e2
        obtain ⟨e, hge⟩ : ∃ e, es[i] = e := ⟨_, rfl⟩
        have hge2 : (es.take m)[i] = e := by rw [List.getElem_take]; exact hge
        have HRI := hidp (show wr.rangeAt BK (off + 6 * i) e.row from by rw [← hge2]; exact rangeAt_below (hR0 i hgl) H.out.below hBK0)
        have hfit : e.fit := by rw [← hge]; exact HV.out.fit _ (List.getElem_mem hgl2)
        have HST := hidp (hubF_step hgl2 hge (0, 0))
        have hb := hubF_le (es.take i) (0, 0)
        have hli : (es.take i).length ≤ i := by simp; omega
        obtain ⟨P0, hP0⟩ : ∃ p, (es.take i).foldl hubK (0, 0) = p := ⟨_, rfl⟩
        rw [hP0] at HST hb
        rw [hP0]
        obtain ⟨h0, p0⟩ := P0
        simp only at hb
        have hw2 : IntKind.i64.wrap (p0 + 1) = p0 + 1 := by rw [IntKind.wrap_i64]; omega
        have cr := hidp (fun W h => room_any W e.room hfit.1.r h); have cn := hidp (fun W h => next_any W e.body hfit.1.b h)
        simp only [whoV_eq] at cr
        simp only [nxV_eq] at cn
        clear hR0 hBK0 hge hge2 hc hP0 hb hfit hli
        by_cases h1 : e.kind = 1
        · have k1 : ((e.kind : Int) == 1) = true := by rw [h1]; rfl
          have k8 : ((e.kind : Int) == 8) = false := by rw [h1]; rfl
          have HF := hidp (show hubK (h0, p0) e = ((((who 2 e.room).getD 0 : Nat) : Int), p0) from if_pos h1)
          obtain ⟨hb0, hhb⟩ : ∃ z : Int, (((who 2 e.room).getD 0 : Nat) : Int) = z := ⟨_, rfl⟩
          rw [hhb] at HF cr
          clear h1 hhb cn
          have tk0 := hidp trivial
          go_wp2_with (first | (clear tk0; (refine wpL_idxR tyE rfl (.tmp 27) (.tmp 29) rfl BK off m _ i rfl rfl hlt ?_); (try simp only [Act.put, List.setIfInBounds_toArray, List.set_cons_zero, List.set_cons_succ]); have tk1 := hidp trivial) | (clear tk1; (refine wpL_atR tyE rfl (.tmp 31) rfl BK (off + 6 * i) e.row rfl rfl HRI.out ?_); (try simp only [Act.put, List.setIfInBounds_toArray, List.set_cons_zero, List.set_cons_succ]); have tk2 := hidp trivial) | (clear tk2; (refine Mm.new rtE H (some 9) rfl rfl rfl ?_; clear H; intro b9 _ H nw; have hb := nw.below; clear hb nw); (try simp only [Act.put, List.setIfInBounds_toArray, List.set_cons_zero, List.set_cons_succ]); have tk3 := hidp trivial) | (clear tk3; (refine Mm.put0 rtE H rfl (.tmp 9) (.tmp 32) e.row rfl rfl rfl rfl (Ev.one _) rfl ?_; intro _ H2 st; clear st H; have H := H2; clear H2); (try simp only [Act.put, List.setIfInBounds_toArray, List.set_cons_zero, List.set_cons_succ]); have tk4 := hidp trivial) | (clear tk4; (refine Mm.ld0 naK H rfl (.tmp 33) 2 (.int .u8 (e.kind : Int)) rfl rfl rfl ?_); (try simp only [Act.put, List.setIfInBounds_toArray, List.set_cons_zero, List.set_cons_succ]); have tk5 := hidp trivial) | (clear tk5; (refine Mm.ld0 naS H rfl (.tmp 37) 0 (.string e.room) rfl rfl rfl ?_); (try simp only [Act.put, List.setIfInBounds_toArray, List.set_cons_zero, List.set_cons_succ]); have tk6 := hidp trivial) | (clear tk6; (go_at_call 15; refine (cr.out _ (HP.out.1.below H.out.below (Nat.le_refl _))).mono ?_; rintro e _ ⟨rfl, hb⟩; replace H := hidp (H.out.call hb); clear cr; clear hb); (try simp only [Act.put, List.setIfInBounds_toArray, List.set_cons_zero, List.set_cons_succ]); have tk7 := hidp trivial) | (clear tk7; (refine Mm.ld0 naK H rfl (.tmp 42) 2 (.int .u8 (e.kind : Int)) rfl rfl rfl ?_); (try simp only [Act.put, List.setIfInBounds_toArray, List.set_cons_zero, List.set_cons_succ]); have tk8 := hidp trivial))
          exact ⟨⟨i + 1, by go_num, by omega, by rw [HST.out, HF.out], by rw [HST.out, HF.out], H.out.tail⟩, by simp [intOf]; omega⟩
        · have k1 : ((e.kind : Int) == 1) = false := by rw [beq_eq_false_iff_ne]; omega
          by_cases h8 : e.kind = 8
          · have k8 : ((e.kind : Int) == 8) = true := by rw [h8]; rfl
            have HF := hidp (show hubK (h0, p0) e = ((nxO e.body).getD 0, p0 + 1) from (if_neg h1).trans (if_pos h8))
            obtain ⟨hb0, hhb⟩ : ∃ z : Int, (nxO e.body).getD 0 = z := ⟨_, rfl⟩
            rw [hhb] at HF cn
            clear h1 h8 hhb cr
            have tk0 := hidp trivial
            go_wp2_with (first | (clear tk0; (refine wpL_idxR tyE rfl (.tmp 27) (.tmp 29) rfl BK off m _ i rfl rfl hlt ?_); (try simp only [Act.put, List.setIfInBounds_toArray, List.set_cons_zero, List.set_cons_succ]); have tk1 := hidp trivial) | (clear tk1; (refine wpL_atR tyE rfl (.tmp 31) rfl BK (off + 6 * i) e.row rfl rfl HRI.out ?_); (try simp only [Act.put, List.setIfInBounds_toArray, List.set_cons_zero, List.set_cons_succ]); have tk2 := hidp trivial) | (clear tk2; (refine Mm.new rtE H (some 9) rfl rfl rfl ?_; clear H; intro b9 _ H nw; have hb := nw.below; clear hb nw); (try simp only [Act.put, List.setIfInBounds_toArray, List.set_cons_zero, List.set_cons_succ]); have tk3 := hidp trivial) | (clear tk3; (refine Mm.put0 rtE H rfl (.tmp 9) (.tmp 32) e.row rfl rfl rfl rfl (Ev.one _) rfl ?_; intro _ H2 st; clear st H; have H := H2; clear H2); (try simp only [Act.put, List.setIfInBounds_toArray, List.set_cons_zero, List.set_cons_succ]); have tk4 := hidp trivial) | (clear tk4; (refine Mm.ld0 naK H rfl (.tmp 33) 2 (.int .u8 (e.kind : Int)) rfl rfl rfl ?_); (try simp only [Act.put, List.setIfInBounds_toArray, List.set_cons_zero, List.set_cons_succ]); have tk5 := hidp trivial) | (clear tk5; (refine Mm.ld0 naK H rfl (.tmp 42) 2 (.int .u8 (e.kind : Int)) rfl rfl rfl ?_); (try simp only [Act.put, List.setIfInBounds_toArray, List.set_cons_zero, List.set_cons_succ]); have tk6 := hidp trivial) | (clear tk6; (refine Mm.ld0 naS H rfl (.tmp 46) 4 (.string e.body) rfl rfl rfl ?_); (try simp only [Act.put, List.setIfInBounds_toArray, List.set_cons_zero, List.set_cons_succ]); have tk7 := hidp trivial) | (clear tk7; (go_at_call 16; refine (cn.out _ (HP.out.below H.out.below (Nat.le_refl _))).mono ?_; rintro e _ ⟨rfl, hb⟩; replace H := hidp (H.out.call hb); clear cn; clear hb); (try simp only [Act.put, List.setIfInBounds_toArray, List.set_cons_zero, List.set_cons_succ]); have tk8 := hidp trivial))
            exact ⟨⟨i + 1, by go_num, by omega, by rw [HST.out, HF.out], by rw [HST.out, HF.out], H.out.tail⟩, by simp [intOf]; omega⟩
          · have k8 : ((e.kind : Int) == 8) = false := by rw [beq_eq_false_iff_ne]; omega
            have HF := hidp (show hubK (h0, p0) e = (h0, p0) from (if_neg h1).trans (if_neg h8))
            clear h1 h8 cr cn
            have tk0 := hidp trivial
            go_wp2_with (first | (clear tk0; (refine wpL_idxR tyE rfl (.tmp 27) (.tmp 29) rfl BK off m _ i rfl rfl hlt ?_); (try simp only [Act.put, List.setIfInBounds_toArray, List.set_cons_zero, List.set_cons_succ]); have tk1 := hidp trivial) | (clear tk1; (refine wpL_atR tyE rfl (.tmp 31) rfl BK (off + 6 * i) e.row rfl rfl HRI.out ?_); (try simp only [Act.put, List.setIfInBounds_toArray, List.set_cons_zero, List.set_cons_succ]); have tk2 := hidp trivial) | (clear tk2; (refine Mm.new rtE H (some 9) rfl rfl rfl ?_; clear H; intro b9 _ H nw; have hb := nw.below; clear hb nw); (try simp only [Act.put, List.setIfInBounds_toArray, List.set_cons_zero, List.set_cons_succ]); have tk3 := hidp trivial) | (clear tk3; (refine Mm.put0 rtE H rfl (.tmp 9) (.tmp 32) e.row rfl rfl rfl rfl (Ev.one _) rfl ?_; intro _ H2 st; clear st H; have H := H2; clear H2); (try simp only [Act.put, List.setIfInBounds_toArray, List.set_cons_zero, List.set_cons_succ]); have tk4 := hidp trivial) | (clear tk4; (refine Mm.ld0 naK H rfl (.tmp 33) 2 (.int .u8 (e.kind : Int)) rfl rfl rfl ?_); (try simp only [Act.put, List.setIfInBounds_toArray, List.set_cons_zero, List.set_cons_succ]); have tk5 := hidp trivial) | (clear tk5; (refine Mm.ld0 naK H rfl (.tmp 42) 2 (.int .u8 (e.kind : Int)) rfl rfl rfl ?_); (try simp only [Act.put, List.setIfInBounds_toArray, List.set_cons_zero, List.set_cons_succ]); have tk6 := hidp trivial))
            exact ⟨⟨i + 1, by go_num, by omega, by rw [HST.out, HF.out], by rw [HST.out, HF.out], H.out.tail⟩, by simp [intOf]; omega⟩
      · have e1 : decide ((i : Int) < (m : Int)) = false := by simp; omega
        have hin : i = m := by omega
        subst hin
        rw [← Q1.out, ← Q2.out]
        have d3 : (R.h == R.h) = true := by simp
        have d4 : (R.ep == R.ep) = true := by simp
        have d5 : (R.n == (i : Int)) = true := by rw [Q3.out]; simp
        have tk0 := hidp trivial
        go_wp2_with (first | (clear tk0; (refine Mm.ld0 naInt H rfl (.tmp 54) 1 (.int .i64 R.h) rfl rfl rfl ?_); (try simp only [Act.put, List.setIfInBounds_toArray, List.set_cons_zero, List.set_cons_succ]); have tk1 := hidp trivial) | (clear tk1; (refine Mm.ld0 naInt H rfl (.tmp 59) 2 (.int .i64 R.ep) rfl rfl rfl ?_); (try simp only [Act.put, List.setIfInBounds_toArray, List.set_cons_zero, List.set_cons_succ]); have tk2 := hidp trivial) | (clear tk2; (refine Mm.ld0 naInt H rfl (.tmp 65) 3 (.int .i64 R.n) rfl rfl rfl ?_); (try simp only [Act.put, List.setIfInBounds_toArray, List.set_cons_zero, List.set_cons_succ]); have tk3 := hidp trivial))
        go_ret
        exact ⟨rfl, H.out.below⟩
end Go.Proofs.YtkcgmimcopoknaaGreatDoor
