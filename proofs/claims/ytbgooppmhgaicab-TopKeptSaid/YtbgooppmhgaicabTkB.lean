/-
  TopKept: the walk (begun).
-/
import Derived.Test.YtbgooppmhgaicabTkA
import Derived.Test.YtbgooppmhgaicabSl
import Derived.Test.YtbgooppmhgaicabJrnG
import Derived.Test.YtbgooppmhgaicabOctQ
import Derived.Test.YtbgooppmhgaicabOctL
import Derived.Deep.Cut
namespace Go.Proofs.Ytbgooppmhgaicab.Tk
set_option maxRecDepth 100000
set_option linter.unusedVariables false
set_option linter.unusedSimpArgs false
open Go.RowKit Rw
open List (getElem_toArray getElem_cons_zero getElem_cons_succ setIfInBounds_toArray set_cons_zero set_cons_succ)

def zD : List Value := [.string ⟨#[]⟩, .int .i64 0, .int .i64 0]
theorem rtD : Rt.RT Try.prog 26 3 zD := ⟨by decide, .inl ⟨_, Try.underlying26⟩, by kernel_rfl⟩
theorem naS : Mm.NA Try.prog 9 := ⟨_, Try.underlying9, rfl⟩
theorem strV_snoc (al : List ByteArray) (t : ByteArray) : strV (al ++ [t]) = strV al ++ [.string t] := by simp [strV]
theorem strV_length (al : List ByteArray) : (strV al).length = al.length := by simp [strV]
theorem grownM {N B e : Nat} {w0 w W : World} {L : List Mm.Bx} {v : Value} {l : List Value} (h : Mm.M N w0 w L) (hown : OwnV w B e v l) (hg : w.grownBy W v.ownBlock) (hb : Below N w W) (hn : ∀ x ∈ L, x.t ≠ e) : Mm.M N w0 W L :=
  ⟨h.below.trans hb, Nat.le_trans h.le hb.size, h.ge, h.inc, fun x hx => (h.has x hx).grown (hn x hx) hown hg⟩
section
variable {ops : Array Oper} {o : Oper} {a : Act} {w : World} {j : Nat} {Q : Exit → Act → World → Prop} {S : World → Prop} {K : Act → World → Prop}
theorem o_appS (ho : ops[j]? = some o) (hw : Region.wanted o (yielded ops a.tmps) = true) (s x : Operand)
    (hop : o.op = .call { callee := .builtin .append, args := #[s, x], argTypes := #[22, 22] }) (B g : Nat) (v : Value) (l : List Value) (u : ByteArray)
    (hv : a.eval s = v) (hx : a.eval x = .slice (some ⟨g, 0, none⟩) 1 1) (hown : OwnV w B 9 v l) (hg : Arr w g 9 [.string u]) (hB : B ≤ w.heap.size) (hn : l.length ≤ 4398046511104)
    (h : ∀ v' W, OwnV W B 9 v' (l ++ [.string u]) → w.grownBy W v.ownBlock → Below B w W → S W ∧ K (a.put o.dst v') W) : opW Try.prog ops Q S j K a w := by
  obtain ⟨i0, hi, hz0, hz1, hz2⟩ := info_parts Sl.infoS
  obtain ⟨v', w', hrun, r1, r2, -⟩ := run_append_own_at (P := Try.prog) (w := w) B 22 o.type 9 i0 _ 1 16 Try.underlying22 hi hz0 hz1 hz2 rfl (by decide) v l.length l hown ⟨g, 0, none⟩ 1 1 [.string u] rfl
    (fun j y hj => by
      match j, hj with
      | 0, hj => simp at hj; subst hj; simpa [Addr.add] using hg.cell 0 (by simp)) (fun y hy => by simp at hy; subst hy; rfl) (by unfold maxLen; omega) (by omega) hB
  refine ⟨o, ho, hw, ?_⟩
  unfold Oper.wp
  simp [execOp, hop, resolve, invoke, builtin, hv, hx, hrun, Result.andThen]
  refine h v' w' ?_ r2 ((Below.refl B w).grown r2 hB fun k hk => (World.ownsRow.lt hown k hk).1)
  unfold OwnV
  rw [List.length_append]
  simpa using r1
end

theorem maxNN (W : World) (ts : Array TypeId) (x y : Nat) : (Builtin.max_ ts 3 #[.int .i64 (x : Int), .int .i64 (y : Int)]).run Try.prog W = .ok (.int .i64 ((max x y : Nat) : Int)) W := by
  go_simp
  first | done | (congr 2; first | done | omega | (split <;> omega))
theorem minNN (W : World) (ts : Array TypeId) (x : Nat) : (Builtin.min_ ts 3 #[.int .i64 (x : Int), .int .i64 1]).run Try.prog W = .ok (.int .i64 ((min x 1 : Nat) : Int)) W := by
  go_simp
  first | done | (congr 2; first | done | omega | (split <;> omega))
theorem rtS : Rt.RT Try.prog 35 2 [.slice none 0 0, .int .i64 0] := ⟨by decide, .inl ⟨_, Try.underlying35⟩, by kernel_rfl⟩
theorem naSS : Mm.NA Try.prog 22 := ⟨_, Try.underlying22, rfl⟩
/-- A slice of texts in memory of its own. -/
def OV (w : World) (v : Value) (l : List ByteArray) : Prop := ∃ B, OwnV w B 9 v (strV l)
theorem ov_to {w w' : World} {v : Value} {l : List ByteArray} (h : OV w v l) (hb : Below w.heap.size w w') : OV w' v l := h.elim fun B h => ⟨B, Sl.own_to h hb⟩
theorem ov_stp {w W : World} {b t : Nat} {v : Value} {l : List ByteArray} {xs : List Value} (h : OV w v l) (st : Rt.Stp b w W) (ha : Arr w b t xs) (hne : t ≠ 9) : OV W v l := h.elim fun B h => ⟨B, Sl.own_stp h st ha hne⟩
theorem ov_cells {w : World} {v : Value} {l : List ByteArray} (h : OV w v l) (hp : 0 < l.length) : ∃ g c, v = .slice (some ⟨g, 0, none⟩) l.length c ∧ ∀ i, i < l.length → w.cell? ⟨g, i, none⟩ = some (.string (Sl.sAt l i)) := by
  obtain ⟨B, h⟩ := h
  obtain ⟨g, c, h1, -, -, h2⟩ := Sl.own_cells h (by rw [strV_length]; exact hp)
  rw [strV_length] at h1
  refine ⟨g, c, h1, fun i hi => ?_⟩
  rw [h2 i (by rw [strV_length]; exact hi), Sl.sAt_get hi]
  simp [strV]
theorem naI : Mm.NA Try.prog 3 := ⟨_, Try.underlying3, rfl⟩
theorem baglast {N : Nat} {w0 w : World} {L : List Mm.Bx} {x : Mm.Bx} (h : Mm.M N w0 w (L ++ [x])) : Mm.M N w0 w [x] := h.sub (List.sublist_append_right L [x])
theorem begins_any (w : World) : Calls Try.prog 4 #[] w fun e w' => e = .returned (.bool true) ∧ Below w.heap.size w w' := by
  have c1 : Hid (∀ w, Calls Try.prog 14 #[.int .u64 300] w fun e w' => e = .returned (.tuple #[.string ⟨#[172, 2]⟩, .int .i64 0]) ∧ Below w.heap.size w w') := fun w => by
    have := num_any w 300 (by omega); rw [numS_yes (by omega), numE_yes (by omega), e300] at this; exact this
  go_enter Try.func4, Try.ntmps4
  go_wp2_with fail
  refine (c1.out _).mono ?_
  rintro e w1 ⟨rfl, hb1⟩
  go_wp2_with fail
  go_ret
  exact ⟨rfl, hb1⟩
/-- Numbers in memory. -/
def CnAt (w : World) (v : Value) (ns : List Int) : Prop := (∃ a c, v = .slice a ns.length c) ∧ (0 < ns.length → ∃ g off c, v = .slice (some ⟨g, off, none⟩) ns.length c ∧ g < w.heap.size ∧ ∀ i, i < ns.length → w.cell? ⟨g, off + i, none⟩ = some (.int .i64 (ns.getD i 0)))
set_option maxHeartbeats 16000000 in
theorem main_topKept (w : World) (v0 v1 : Value) (es : List ByteArray) (ns : List Int) (h0 : StrsAt w v0 es) (h1 : CnAt w v1 ns) (hn0 : es.length ≤ 20) (hn1 : ns.length ≤ 20) (tl : ByteArray) (htl : tl.size ≤ 16384) (kp : Int) (bt : UInt8) :
    Calls Try.prog 3 #[v0, v1, .string tl, .int .i64 kp, .int .u8 bt.toNat] w fun e w' => e = .returned (.bool true) ∧ Below w.heap.size w w' := by
  have bg := hidp (fun W => begins_any W)
  have HS0 := hidp h0
  have HC0 := hidp h1.2
  obtain ⟨a0, c0, rfl⟩ := Sl.strs_form h0
  obtain ⟨⟨a1, c1, rfl⟩, -⟩ := h1
  obtain ⟨n0, hl0⟩ : ∃ n, es.length = n := ⟨_, rfl⟩
  obtain ⟨n1, hl1⟩ : ∃ n, ns.length = n := ⟨_, rfl⟩
  have HL0 := hidp hl0
  have HL1 := hidp hl1
  rw [hl0] at hn0 HS0
  rw [hl1] at hn1 HC0
  rw [hl0, hl1]
  clear h0 hl0 hl1
  have hmx := fun (W : World) (ts : Array TypeId) => maxNN W ts n0 n1
  have d0 : decide ((20 : Int) < (n0 : Int)) = false := by simp; omega
  have d1 : decide ((20 : Int) < (n1 : Int)) = false := by simp; omega
  have d2 : decide ((16384 : Int) < (tl.size : Int)) = false := by simp; omega
  have H := hidp (Mm.M.nil w)
  go_enter Try.func3, Try.ntmps3
  have tk0 := hidp trivial
  go_wp2_with (first | (clear tk0; (go_at_call 4; refine (bg.out _).mono ?_; rintro e _ ⟨rfl, hb⟩; replace H := hidp (H.out.call hb); clear bg; clear hb); (try simp only [Act.put, setIfInBounds_toArray, set_cons_zero, set_cons_succ]); have tk1 := hidp trivial) | (clear tk1; (go_at_call 5; refine (new_any _).mono ?_; rintro e _ ⟨rfl, hb⟩; replace H := hidp (H.out.call hb); clear hb); (try simp only [Act.put, setIfInBounds_toArray, set_cons_zero, set_cons_succ]); have tk2 := hidp trivial) | (clear tk2; (refine Mm.new rtD H (some 11) rfl rfl rfl ?_; clear H; intro b11 _ H nw; have hb := nw.below; clear hb nw); (try simp only [Act.put, setIfInBounds_toArray, set_cons_zero, set_cons_succ]); have tk3 := hidp trivial) | (clear tk3; (refine Mm.put0 rtD H rfl (.tmp 11) (.tmp 53) (dR [] 0) rfl rfl rfl rfl (dR_one _ _) rfl ?_; intro _ H2 st; clear st H; have H := H2; clear H2); (try simp only [Act.put, setIfInBounds_toArray, set_cons_zero, set_cons_succ]); have tk4 := hidp trivial))
  try clear tk4
  have HB0 := hidp H.out
  clear hmx d0 d1 d2
  go_loopw [13, 14, 62] (fun t13 t14 t62 wr => ∃ (i : Nat) (rs al : List ByteArray) (mo : Nat) (tv : Value), tv = t13 ∧ t62 = .int .i64 (i : Int) ∧ t14 = .int .i64 (mo : Int) ∧ i ≤ max n0 n1 ∧ Hid (Kp rs al mo) ∧ Hid ((cat rs).length ≤ 1048576) ∧ al.length ≤ i ∧ OwnV wr w.heap.size 9 tv (strV al) ∧ Mm.M w.heap.size w wr [⟨b11, 26, dR rs 0⟩]) (fun _ _ t62 _ => max n0 n1 - (intOf t62).toNat)
  case atStart => exact ⟨0, [], [], 0, _, rfl, rfl, rfl, by omega, hidp Kp.nil, hidp (by decide), by simp, ⟨by simp [strV], .inl ⟨rfl, rfl⟩⟩, HB0.out⟩
  case round =>
    obtain ⟨i, rs, al, mo, tv, rfl, rfl, rfl, hi, HK, HR, hal, ho, hM⟩ := hrel
    clear H HB0
    have HO := hidp ho
    have HAL := hidp hal
    have H := hidp hM
    clear hM ho hal
    by_cases hlt : i < max n0 n1
    · have e1 : decide ((i : Int) < ((max n0 n1 : Nat) : Int)) = true := by rw [decide_eq_true_eq]; omega
      have HCN := hidp (show 0 < n1 → ∃ g off c, Value.slice a1 n1 c1 = .slice (some ⟨g, off, none⟩) n1 c ∧ g < w.heap.size ∧ ∀ i, i < n1 → w.cell? ⟨g, off + i, none⟩ = some (.int .i64 (ns.getD i 0)) from HC0.out)
      by_cases hA : i < n0
      · have eA : decide ((i : Int) < (n0 : Int)) = true := by simp; omega
        obtain ⟨g, off, c, ev, hg0', hcs⟩ := Sl.strs_pos HS0.out (by rw [HL0.out]; omega)
        rw [HL0.out] at ev hcs
        simp only [Value.slice.injEq] at ev
        obtain ⟨rfl, -, rfl⟩ := ev
        have hg0 := hidp hg0'
        obtain ⟨t, ht⟩ : ∃ t, Sl.sAt es i = t := ⟨_, rfl⟩
        have HCE := hidp (show w.cell? ⟨g, off + i, none⟩ = some (.string t) from by rw [← ht]; exact hcs i hA)
        clear ht hcs hg0'
        obtain ⟨rs2, E, cp', hp1, hp2, hp3⟩ := put_any rs HR.out 0 (Nat.zero_le _) t
        have cp := hidp cp'
        clear cp'
        have HR2 := hidp hp1
        rcases hp3 with ⟨rfl, hr2, ht8, hte⟩ | ⟨hp3, rfl⟩
        · have HK2 := hidp (show Kp rs2 (al ++ [t]) mo from by rw [hr2]; exact HK.out.ent ht8 hte)
          clear hr2 ht8 hte hp2 hp1
          by_cases hB : i < n1
          · have eB : decide ((i : Int) < (n1 : Int)) = true := by simp; omega
            obtain ⟨g1, off1, c1, ev1, hg1', hcz'⟩ := HCN.out (by omega)
            simp only [Value.slice.injEq] at ev1
            obtain ⟨rfl, -, rfl⟩ := ev1
            have hg1 := hidp hg1'
            obtain ⟨z, hz⟩ : ∃ z, ns.getD i 0 = z := ⟨_, rfl⟩
            have HCZ := hidp (show w.cell? ⟨g1, off1 + i, none⟩ = some (.int .i64 z) from by rw [← hz]; exact hcz' i hB)
            clear hz hcz' hg1' HCN
            obtain ⟨rs3, E2, cq', hq1, hq2, hq3⟩ := putc_any rs2 HR2.out 0 (Nat.zero_le _) z
            have cq := hidp cq'
            clear cq'
            rcases hq3 with ⟨rfl, m, rfl, hm, hr3⟩ | ⟨hq3, rfl⟩
            · have HKE := hidp (show Kp rs3 (al ++ [t]) (max mo m) from by rw [hr3]; exact HK2.out.cnt hm)
              have HCE2 := hidp hq1
              have hmx := fun (W : World) (ts : Array TypeId) => maxNN W ts mo m
              clear hr3 hq2
              go_upto_region 14 with fail
              refine Mm.region H (.take 0 (.take 1 (.take 2 (.take 3 (.take 4 (.two 5 (.take 6 (.take 7 (.take 8 (.one 9 (.one 10 (.take 11 .done)))))) 9 (.one 5 (.take 6 (.take 7 (.take 8 (.one 10 (.take 11 .done)))))))))))) (by kernel_rfl) (by kernel_rfl) (by simp [Scr.depth]) (by kernel_rfl) ?_
              clear H
              intro _ H hb
              replace HO := hidp (Sl.own_to HO.out hb); clear hb
              refine Mm.sget0 rtD (fun w h => h) rfl rfl (.tmp 11) rfl rfl rfl ?_
              simp only [Act.put, getElem_toArray, getElem_cons_zero, getElem_cons_succ, setIfInBounds_toArray, set_cons_zero, set_cons_succ]
              apply s_val
              case ho | hw => rfl
              case hv => intro w hw; go_simp; first | done | rfl
              simp only [Act.put, getElem_toArray, getElem_cons_zero, getElem_cons_succ, setIfInBounds_toArray, set_cons_zero, set_cons_succ]
              apply s_val
              case ho | hw => rfl
              case hv => intro w hw; go_simp; first | done | rfl
              simp only [Act.put, getElem_toArray, getElem_cons_zero, getElem_cons_succ, setIfInBounds_toArray, set_cons_zero, set_cons_succ]
              refine Sl.s_idx1 Sl.tyS (by kernel_rfl) rfl rfl (.tmp 71) (.tmp 72) rfl g off n0 c0 i rfl rfl hA ?_
              simp only [Act.put, getElem_toArray, getElem_cons_zero, getElem_cons_succ, setIfInBounds_toArray, set_cons_zero, set_cons_succ]
              refine Mm.s_ldc naS rfl rfl (.tmp 73) ⟨g, off + i, none⟩ (.string t) rfl rfl (fun W h => (h.below.cell (p := ⟨g, off + i, none⟩) hg0.out).trans HCE.out) ?_
              simp only [Act.put, getElem_toArray, getElem_cons_zero, getElem_cons_succ, setIfInBounds_toArray, set_cons_zero, set_cons_succ]
              refine ⟨?_, ?_⟩
              · refine Mm.o_callH (v := .tuple #[.agg (dR rs2 0).toArray, .int .i64 0]) H (fun W h => h) rfl rfl 6 (#[.agg (dR rs 0).toArray, .string t]) (by go_simp; first | done | rfl) (cp.out _) ?_
                clear H
                intro _ H hb
                replace HO := hidp (Sl.own_to HO.out hb); clear hb
                simp only [Act.put, getElem_toArray, getElem_cons_zero, getElem_cons_succ, setIfInBounds_toArray, set_cons_zero, set_cons_succ]
                apply s_val
                case ho | hw => rfl
                case hv => intro w hw; go_simp; first | done | rfl
                simp only [Act.put, getElem_toArray, getElem_cons_zero, getElem_cons_succ, setIfInBounds_toArray, set_cons_zero, set_cons_succ]
                apply s_val
                case ho | hw => rfl
                case hv => intro w hw; go_simp; first | done | rfl
                simp only [Act.put, getElem_toArray, getElem_cons_zero, getElem_cons_succ, setIfInBounds_toArray, set_cons_zero, set_cons_succ]
                apply s_val
                case ho | hw => rfl
                case hv => intro w hw; go_simp; first | done | rfl
                simp only [Act.put, getElem_toArray, getElem_cons_zero, getElem_cons_succ, setIfInBounds_toArray, set_cons_zero, set_cons_succ]
                refine Mm.o_newH rtD H (fun W h => h) rfl rfl rfl ?_
                clear H
                intro b16 _ H nw
                have hb := nw.below

                replace HO := hidp (Sl.own_to HO.out hb); clear hb nw
                simp only [Act.put, getElem_toArray, getElem_cons_zero, getElem_cons_succ, setIfInBounds_toArray, set_cons_zero, set_cons_succ]
                refine Mm.oput0 rtD H (dR rs2 0) (fun W h => h.tail) rfl rfl (.tmp 16) (.tmp 76) rfl rfl rfl rfl (dR_one _ _) rfl ?_
                intro _ H2 st
                replace HO := hidp (Sl.own_stp HO.out st H.out.at0 (by decide)); clear st H
                have H := H2
                clear H2
                simp only [Act.put, getElem_toArray, getElem_cons_zero, getElem_cons_succ, setIfInBounds_toArray, set_cons_zero, set_cons_succ]
                apply s_val
                case ho | hw => rfl
                case hv => intro w hw; go_simp; first | done | rfl
                simp only [Act.put, getElem_toArray, getElem_cons_zero, getElem_cons_succ, setIfInBounds_toArray, set_cons_zero, set_cons_succ]
                refine NoPanic.normal ?_
                go_upto_region 16 with fail
                refine Sl.regionS [⟨b16, 26, (dR rs2 0)⟩] (fun W h => h.sub (by simp)) H (.take 0 (.take 1 (.take 2 (.take 3 (.take 4 (.take 5 (.one 6 (.one 7 (.one 8 (.take 9 .done)))))))))) (by kernel_rfl) (by kernel_rfl) (by simp [Scr.depth]) (by kernel_rfl) ?_
                clear H
                intro _ H hb
                replace HO := hidp (Sl.own_to HO.out hb); clear hb
                refine Mm.sget0 rtD (fun w h => h) rfl rfl (.tmp 16) rfl rfl rfl ?_
                simp only [Act.put, getElem_toArray, getElem_cons_zero, getElem_cons_succ, setIfInBounds_toArray, set_cons_zero, set_cons_succ]
                apply s_val
                case ho | hw => rfl
                case hv => intro w hw; go_simp; first | done | rfl
                simp only [Act.put, getElem_toArray, getElem_cons_zero, getElem_cons_succ, setIfInBounds_toArray, set_cons_zero, set_cons_succ]
                apply s_val
                case ho | hw => rfl
                case hv => intro w hw; go_simp; first | done | rfl
                simp only [Act.put, getElem_toArray, getElem_cons_zero, getElem_cons_succ, setIfInBounds_toArray, set_cons_zero, set_cons_succ]
                apply s_val
                case ho | hw => rfl
                case hv => intro w hw; go_simp; first | done | rfl
                simp only [Act.put, getElem_toArray, getElem_cons_zero, getElem_cons_succ, setIfInBounds_toArray, set_cons_zero, set_cons_succ]
                refine Sl.s_idx1 Sl.tyS (by kernel_rfl) rfl rfl (.tmp 82) (.tmp 83) rfl g off n0 c0 i rfl rfl hA ?_
                simp only [Act.put, getElem_toArray, getElem_cons_zero, getElem_cons_succ, setIfInBounds_toArray, set_cons_zero, set_cons_succ]
                refine Mm.s_ldc naS rfl rfl (.tmp 84) ⟨g, off + i, none⟩ (.string t) rfl rfl (fun W h => (h.below.cell (p := ⟨g, off + i, none⟩) hg0.out).trans HCE.out) ?_
                simp only [Act.put, getElem_toArray, getElem_cons_zero, getElem_cons_succ, setIfInBounds_toArray, set_cons_zero, set_cons_succ]
                refine Sl.o_bsS1 H (fun W h => h.sub (by simp)) rfl rfl (.tmp 85) t rfl rfl ?_
                clear H
                intro bz _ H nw
                have hb := nw.below
                replace HO := hidp (Sl.own_to HO.out hb); clear hb nw
                simp only [Act.put, getElem_toArray, getElem_cons_zero, getElem_cons_succ, setIfInBounds_toArray, set_cons_zero, set_cons_succ]
                refine o_appS rfl rfl (.tmp 81) (.tmp 86) rfl w.heap.size bz tv (strV al) t rfl rfl HO.out H.out.at0 H.out.le (by rw [strV_length]; have := HAL.out; omega) ?_
                intro v13 W1 ho9 hg9 hb9
                have hM9 := grownM H.out.tail HO.out hg9 hb9 (by intro x hx; simp at hx; rcases hx with rfl | rfl <;> exact (show 26 ≠ 9 from by decide))
                refine ⟨hM9.sub (by simp), ?_⟩
                clear H HO
                have H := hidp hM9
                have HO := hidp (show OwnV W1 w.heap.size 9 v13 (strV (al ++ [t])) from by rw [strV_snoc]; exact ho9)
                clear ho9 hg9 hb9 hM9
                simp only [Act.put, getElem_toArray, getElem_cons_zero, getElem_cons_succ, setIfInBounds_toArray, set_cons_zero, set_cons_succ]
                refine Mm.oput1 rtD H (dR rs2 0) (fun W h => h.sub (by simp)) rfl rfl (.tmp 11) (.tmp 80) rfl rfl rfl rfl (dR_one _ _) rfl ?_
                intro _ H2 st
                replace HO := hidp (Sl.own_stp HO.out st H.out.at1 (by decide)); clear st H
                have H := H2
                clear H2
                simp only [Act.put, getElem_toArray, getElem_cons_zero, getElem_cons_succ, setIfInBounds_toArray, set_cons_zero, set_cons_succ]
                apply s_val
                case ho | hw => rfl
                case hv => intro w hw; go_simp; first | done | rfl
                simp only [Act.put, getElem_toArray, getElem_cons_zero, getElem_cons_succ, setIfInBounds_toArray, set_cons_zero, set_cons_succ]
                refine NoPanic.normal ?_
                go_upto_region 17 with fail
                go_upto_region 18 with fail
                refine Mm.region H (.take 0 (.take 1 (.take 2 (.take 3 (.take 4 (.two 5 (.take 6 (.take 7 (.take 8 (.one 9 (.one 10 (.take 11 .done)))))) 9 (.one 5 (.take 6 (.take 7 (.take 8 (.one 10 (.take 11 .done)))))))))))) (by kernel_rfl) (by kernel_rfl) (by simp [Scr.depth]) (by kernel_rfl) ?_
                clear H
                intro _ H hb
                replace HO := hidp (Sl.own_to HO.out hb); clear hb
                refine Mm.sget1 rtD (fun w h => h) rfl rfl (.tmp 11) rfl rfl rfl ?_
                simp only [Act.put, getElem_toArray, getElem_cons_zero, getElem_cons_succ, setIfInBounds_toArray, set_cons_zero, set_cons_succ]
                apply s_val
                case ho | hw => rfl
                case hv => intro w hw; go_simp; first | done | rfl
                simp only [Act.put, getElem_toArray, getElem_cons_zero, getElem_cons_succ, setIfInBounds_toArray, set_cons_zero, set_cons_succ]
                apply s_val
                case ho | hw => rfl
                case hv => intro w hw; go_simp; first | done | rfl
                simp only [Act.put, getElem_toArray, getElem_cons_zero, getElem_cons_succ, setIfInBounds_toArray, set_cons_zero, set_cons_succ]
                refine Sl.s_idx1 Sl.tyI (by kernel_rfl) rfl rfl (.tmp 94) (.tmp 95) rfl g1 off1 n1 c1 i rfl rfl hB ?_
                simp only [Act.put, getElem_toArray, getElem_cons_zero, getElem_cons_succ, setIfInBounds_toArray, set_cons_zero, set_cons_succ]
                refine Mm.s_ldc naI rfl rfl (.tmp 96) ⟨g1, off1 + i, none⟩ (.int .i64 (m : Int)) rfl rfl (fun W h => (h.below.cell (p := ⟨g1, off1 + i, none⟩) hg1.out).trans HCZ.out) ?_
                simp only [Act.put, getElem_toArray, getElem_cons_zero, getElem_cons_succ, setIfInBounds_toArray, set_cons_zero, set_cons_succ]
                refine ⟨?_, ?_⟩
                · refine Mm.o_callH (v := .tuple #[.agg (dR rs3 0).toArray, .int .i64 0]) H (fun W h => h) rfl rfl 7 (#[.agg (dR rs2 0).toArray, .int .i64 (m : Int)]) (by go_simp; first | done | rfl) (cq.out _) ?_
                  clear H
                  intro _ H hb
                  replace HO := hidp (Sl.own_to HO.out hb); clear hb
                  simp only [Act.put, getElem_toArray, getElem_cons_zero, getElem_cons_succ, setIfInBounds_toArray, set_cons_zero, set_cons_succ]
                  apply s_val
                  case ho | hw => rfl
                  case hv => intro w hw; go_simp; first | done | rfl
                  simp only [Act.put, getElem_toArray, getElem_cons_zero, getElem_cons_succ, setIfInBounds_toArray, set_cons_zero, set_cons_succ]
                  apply s_val
                  case ho | hw => rfl
                  case hv => intro w hw; go_simp; first | done | rfl
                  simp only [Act.put, getElem_toArray, getElem_cons_zero, getElem_cons_succ, setIfInBounds_toArray, set_cons_zero, set_cons_succ]
                  apply s_val
                  case ho | hw => rfl
                  case hv => intro w hw; go_simp; first | done | rfl
                  simp only [Act.put, getElem_toArray, getElem_cons_zero, getElem_cons_succ, setIfInBounds_toArray, set_cons_zero, set_cons_succ]
                  refine Mm.o_newH rtD H (fun W h => h) rfl rfl rfl ?_
                  clear H
                  intro b18 _ H nw
                  have hb := nw.below
                
                  replace HO := hidp (Sl.own_to HO.out hb); clear hb nw
                  simp only [Act.put, getElem_toArray, getElem_cons_zero, getElem_cons_succ, setIfInBounds_toArray, set_cons_zero, set_cons_succ]
                  refine Mm.oput0 rtD H (dR rs3 0) (fun W h => h.tail) rfl rfl (.tmp 18) (.tmp 99) rfl rfl rfl rfl (dR_one _ _) rfl ?_
                  intro _ H2 st
                  replace HO := hidp (Sl.own_stp HO.out st H.out.at0 (by decide)); clear st H
                  have H := H2
                  clear H2
                  simp only [Act.put, getElem_toArray, getElem_cons_zero, getElem_cons_succ, setIfInBounds_toArray, set_cons_zero, set_cons_succ]
                  apply s_val
                  case ho | hw => rfl
                  case hv => intro w hw; go_simp; first | done | rfl
                  simp only [Act.put, getElem_toArray, getElem_cons_zero, getElem_cons_succ, setIfInBounds_toArray, set_cons_zero, set_cons_succ]
                  refine NoPanic.normal ?_
                  go_upto_region 20 with fail
                  refine Sl.regionS [⟨b18, 26, (dR rs3 0)⟩] (fun W h => h.sub (by simp)) H (.take 0 (.take 1 (.take 2 (.take 3 (.take 4 (.take 5 (.take 6 (.one 7 (.take 8 .done))))))))) (by kernel_rfl) (by kernel_rfl) (by simp [Scr.depth]) (by kernel_rfl) ?_
                  clear H
                  intro _ H hb
                  replace HO := hidp (Sl.own_to HO.out hb); clear hb
                  refine Mm.sget0 rtD (fun w h => h) rfl rfl (.tmp 18) rfl rfl rfl ?_
                  simp only [Act.put, getElem_toArray, getElem_cons_zero, getElem_cons_succ, setIfInBounds_toArray, set_cons_zero, set_cons_succ]
                  apply s_val
                  case ho | hw => rfl
                  case hv => intro w hw; go_simp; first | done | rfl
                  simp only [Act.put, getElem_toArray, getElem_cons_zero, getElem_cons_succ, setIfInBounds_toArray, set_cons_zero, set_cons_succ]
                  apply s_val
                  case ho | hw => rfl
                  case hv => intro w hw; go_simp; first | done | rfl
                  simp only [Act.put, getElem_toArray, getElem_cons_zero, getElem_cons_succ, setIfInBounds_toArray, set_cons_zero, set_cons_succ]
                  apply s_val
                  case ho | hw => rfl
                  case hv => intro w hw; go_simp; first | done | rfl
                  simp only [Act.put, getElem_toArray, getElem_cons_zero, getElem_cons_succ, setIfInBounds_toArray, set_cons_zero, set_cons_succ]
                  refine Sl.s_idx1 Sl.tyI (by kernel_rfl) rfl rfl (.tmp 105) (.tmp 106) rfl g1 off1 n1 c1 i rfl rfl hB ?_
                  simp only [Act.put, getElem_toArray, getElem_cons_zero, getElem_cons_succ, setIfInBounds_toArray, set_cons_zero, set_cons_succ]
                  refine Mm.s_ldc naI rfl rfl (.tmp 107) ⟨g1, off1 + i, none⟩ (.int .i64 (m : Int)) rfl rfl (fun W h => (h.below.cell (p := ⟨g1, off1 + i, none⟩) hg1.out).trans HCZ.out) ?_
                  simp only [Act.put, getElem_toArray, getElem_cons_zero, getElem_cons_succ, setIfInBounds_toArray, set_cons_zero, set_cons_succ]
                  apply s_val
                  case ho | hw => rfl
                  case hv => intro w hw; go_simp; first | done | rfl
                  simp only [Act.put, getElem_toArray, getElem_cons_zero, getElem_cons_succ, setIfInBounds_toArray, set_cons_zero, set_cons_succ]
                  refine Mm.oput2 rtD H (dR rs3 0) (fun W h => h.sub (by simp)) rfl rfl (.tmp 11) (.tmp 103) rfl rfl rfl rfl (dR_one _ _) rfl ?_
                  intro _ H2 st
                  replace HO := hidp (Sl.own_stp HO.out st H.out.at2 (by decide)); clear st H
                  have H := H2
                  clear H2
                  simp only [Act.put, getElem_toArray, getElem_cons_zero, getElem_cons_succ, setIfInBounds_toArray, set_cons_zero, set_cons_succ]
                  apply s_val
                  case ho | hw => rfl
                  case hv => intro w hw; go_simp; first | done | rfl
                  simp only [Act.put, getElem_toArray, getElem_cons_zero, getElem_cons_succ, setIfInBounds_toArray, set_cons_zero, set_cons_succ]
                  refine NoPanic.normal ?_
                  go_wp2_with fail
                  exact ⟨⟨i + 1, rs3, (al ++ [t]), (max mo m), _, rfl, by go_num, rfl, by omega, HKE, HCE2, by have := HAL.out; (try simp only [List.length_append, List.length_singleton]); omega, HO.out, H.out.tail.tail⟩, by simp [intOf]; omega⟩
                · refine Mm.o_newH rtD H (fun W h => h) rfl rfl rfl ?_
                  clear H
                  intro b18 _ H nw
                  have hb := nw.below
                
                  replace HO := hidp (Sl.own_to HO.out hb); clear hb nw
                  simp only [Act.put, getElem_toArray, getElem_cons_zero, getElem_cons_succ, setIfInBounds_toArray, set_cons_zero, set_cons_succ]
                  refine Mm.o_callH (v := .tuple #[.agg (dR rs3 0).toArray, .int .i64 0]) H (fun W h => h.tail) rfl rfl 7 (#[.agg (dR rs2 0).toArray, .int .i64 (m : Int)]) (by go_simp; first | done | rfl) (cq.out _) ?_
                  clear H
                  intro _ H hb
                  replace HO := hidp (Sl.own_to HO.out hb); clear hb
                  simp only [Act.put, getElem_toArray, getElem_cons_zero, getElem_cons_succ, setIfInBounds_toArray, set_cons_zero, set_cons_succ]
                  apply s_val
                  case ho | hw => rfl
                  case hv => intro w hw; go_simp; first | done | rfl
                  simp only [Act.put, getElem_toArray, getElem_cons_zero, getElem_cons_succ, setIfInBounds_toArray, set_cons_zero, set_cons_succ]
                  apply s_val
                  case ho | hw => rfl
                  case hv => intro w hw; go_simp; first | done | rfl
                  simp only [Act.put, getElem_toArray, getElem_cons_zero, getElem_cons_succ, setIfInBounds_toArray, set_cons_zero, set_cons_succ]
                  apply s_val
                  case ho | hw => rfl
                  case hv => intro w hw; go_simp; first | done | rfl
                  simp only [Act.put, getElem_toArray, getElem_cons_zero, getElem_cons_succ, setIfInBounds_toArray, set_cons_zero, set_cons_succ]
                  refine Mm.oput0 rtD H (dR rs3 0) (fun W h => h.tail) rfl rfl (.tmp 18) (.tmp 99) rfl rfl rfl rfl (dR_one _ _) rfl ?_
                  intro _ H2 st
                  replace HO := hidp (Sl.own_stp HO.out st H.out.at0 (by decide)); clear st H
                  have H := H2
                  clear H2
                  simp only [Act.put, getElem_toArray, getElem_cons_zero, getElem_cons_succ, setIfInBounds_toArray, set_cons_zero, set_cons_succ]
                  apply s_val
                  case ho | hw => rfl
                  case hv => intro w hw; go_simp; first | done | rfl
                  simp only [Act.put, getElem_toArray, getElem_cons_zero, getElem_cons_succ, setIfInBounds_toArray, set_cons_zero, set_cons_succ]
                  refine NoPanic.normal ?_
                  go_upto_region 20 with fail
                  refine Sl.regionS [⟨b18, 26, (dR rs3 0)⟩] (fun W h => h.sub (by simp)) H (.take 0 (.take 1 (.take 2 (.take 3 (.take 4 (.take 5 (.take 6 (.one 7 (.take 8 .done))))))))) (by kernel_rfl) (by kernel_rfl) (by simp [Scr.depth]) (by kernel_rfl) ?_
                  clear H
                  intro _ H hb
                  replace HO := hidp (Sl.own_to HO.out hb); clear hb
                  refine Mm.sget0 rtD (fun w h => h) rfl rfl (.tmp 18) rfl rfl rfl ?_
                  simp only [Act.put, getElem_toArray, getElem_cons_zero, getElem_cons_succ, setIfInBounds_toArray, set_cons_zero, set_cons_succ]
                  apply s_val
                  case ho | hw => rfl
                  case hv => intro w hw; go_simp; first | done | rfl
                  simp only [Act.put, getElem_toArray, getElem_cons_zero, getElem_cons_succ, setIfInBounds_toArray, set_cons_zero, set_cons_succ]
                  apply s_val
                  case ho | hw => rfl
                  case hv => intro w hw; go_simp; first | done | rfl
                  simp only [Act.put, getElem_toArray, getElem_cons_zero, getElem_cons_succ, setIfInBounds_toArray, set_cons_zero, set_cons_succ]
                  apply s_val
                  case ho | hw => rfl
                  case hv => intro w hw; go_simp; first | done | rfl
                  simp only [Act.put, getElem_toArray, getElem_cons_zero, getElem_cons_succ, setIfInBounds_toArray, set_cons_zero, set_cons_succ]
                  refine Sl.s_idx1 Sl.tyI (by kernel_rfl) rfl rfl (.tmp 105) (.tmp 106) rfl g1 off1 n1 c1 i rfl rfl hB ?_
                  simp only [Act.put, getElem_toArray, getElem_cons_zero, getElem_cons_succ, setIfInBounds_toArray, set_cons_zero, set_cons_succ]
                  refine Mm.s_ldc naI rfl rfl (.tmp 107) ⟨g1, off1 + i, none⟩ (.int .i64 (m : Int)) rfl rfl (fun W h => (h.below.cell (p := ⟨g1, off1 + i, none⟩) hg1.out).trans HCZ.out) ?_
                  simp only [Act.put, getElem_toArray, getElem_cons_zero, getElem_cons_succ, setIfInBounds_toArray, set_cons_zero, set_cons_succ]
                  apply s_val
                  case ho | hw => rfl
                  case hv => intro w hw; go_simp; first | done | rfl
                  simp only [Act.put, getElem_toArray, getElem_cons_zero, getElem_cons_succ, setIfInBounds_toArray, set_cons_zero, set_cons_succ]
                  refine Mm.oput2 rtD H (dR rs3 0) (fun W h => h.sub (by simp)) rfl rfl (.tmp 11) (.tmp 103) rfl rfl rfl rfl (dR_one _ _) rfl ?_
                  intro _ H2 st
                  replace HO := hidp (Sl.own_stp HO.out st H.out.at2 (by decide)); clear st H
                  have H := H2
                  clear H2
                  simp only [Act.put, getElem_toArray, getElem_cons_zero, getElem_cons_succ, setIfInBounds_toArray, set_cons_zero, set_cons_succ]
                  apply s_val
                  case ho | hw => rfl
                  case hv => intro w hw; go_simp; first | done | rfl
                  simp only [Act.put, getElem_toArray, getElem_cons_zero, getElem_cons_succ, setIfInBounds_toArray, set_cons_zero, set_cons_succ]
                  refine NoPanic.normal ?_
                  go_wp2_with fail
                  exact ⟨⟨i + 1, rs3, (al ++ [t]), (max mo m), _, rfl, by go_num, rfl, by omega, HKE, HCE2, by have := HAL.out; (try simp only [List.length_append, List.length_singleton]); omega, HO.out, H.out.tail.tail⟩, by simp [intOf]; omega⟩
              · refine Mm.o_newH rtD H (fun W h => h) rfl rfl rfl ?_
                clear H
                intro b16 _ H nw
                have hb := nw.below

                replace HO := hidp (Sl.own_to HO.out hb); clear hb nw
                simp only [Act.put, getElem_toArray, getElem_cons_zero, getElem_cons_succ, setIfInBounds_toArray, set_cons_zero, set_cons_succ]
                refine Mm.o_callH (v := .tuple #[.agg (dR rs2 0).toArray, .int .i64 0]) H (fun W h => h.tail) rfl rfl 6 (#[.agg (dR rs 0).toArray, .string t]) (by go_simp; first | done | rfl) (cp.out _) ?_
                clear H
                intro _ H hb
                replace HO := hidp (Sl.own_to HO.out hb); clear hb
                simp only [Act.put, getElem_toArray, getElem_cons_zero, getElem_cons_succ, setIfInBounds_toArray, set_cons_zero, set_cons_succ]
                apply s_val
                case ho | hw => rfl
                case hv => intro w hw; go_simp; first | done | rfl
                simp only [Act.put, getElem_toArray, getElem_cons_zero, getElem_cons_succ, setIfInBounds_toArray, set_cons_zero, set_cons_succ]
                apply s_val
                case ho | hw => rfl
                case hv => intro w hw; go_simp; first | done | rfl
                simp only [Act.put, getElem_toArray, getElem_cons_zero, getElem_cons_succ, setIfInBounds_toArray, set_cons_zero, set_cons_succ]
                apply s_val
                case ho | hw => rfl
                case hv => intro w hw; go_simp; first | done | rfl
                simp only [Act.put, getElem_toArray, getElem_cons_zero, getElem_cons_succ, setIfInBounds_toArray, set_cons_zero, set_cons_succ]
                refine Mm.oput0 rtD H (dR rs2 0) (fun W h => h.tail) rfl rfl (.tmp 16) (.tmp 76) rfl rfl rfl rfl (dR_one _ _) rfl ?_
                intro _ H2 st
                replace HO := hidp (Sl.own_stp HO.out st H.out.at0 (by decide)); clear st H
                have H := H2
                clear H2
                simp only [Act.put, getElem_toArray, getElem_cons_zero, getElem_cons_succ, setIfInBounds_toArray, set_cons_zero, set_cons_succ]
                apply s_val
                case ho | hw => rfl
                case hv => intro w hw; go_simp; first | done | rfl
                simp only [Act.put, getElem_toArray, getElem_cons_zero, getElem_cons_succ, setIfInBounds_toArray, set_cons_zero, set_cons_succ]
                refine NoPanic.normal ?_
                go_upto_region 16 with fail
                refine Sl.regionS [⟨b16, 26, (dR rs2 0)⟩] (fun W h => h.sub (by simp)) H (.take 0 (.take 1 (.take 2 (.take 3 (.take 4 (.take 5 (.one 6 (.one 7 (.one 8 (.take 9 .done)))))))))) (by kernel_rfl) (by kernel_rfl) (by simp [Scr.depth]) (by kernel_rfl) ?_
                clear H
                intro _ H hb
                replace HO := hidp (Sl.own_to HO.out hb); clear hb
                refine Mm.sget0 rtD (fun w h => h) rfl rfl (.tmp 16) rfl rfl rfl ?_
                simp only [Act.put, getElem_toArray, getElem_cons_zero, getElem_cons_succ, setIfInBounds_toArray, set_cons_zero, set_cons_succ]
                apply s_val
                case ho | hw => rfl
                case hv => intro w hw; go_simp; first | done | rfl
                simp only [Act.put, getElem_toArray, getElem_cons_zero, getElem_cons_succ, setIfInBounds_toArray, set_cons_zero, set_cons_succ]
                apply s_val
                case ho | hw => rfl
                case hv => intro w hw; go_simp; first | done | rfl
                simp only [Act.put, getElem_toArray, getElem_cons_zero, getElem_cons_succ, setIfInBounds_toArray, set_cons_zero, set_cons_succ]
                apply s_val
                case ho | hw => rfl
                case hv => intro w hw; go_simp; first | done | rfl
                simp only [Act.put, getElem_toArray, getElem_cons_zero, getElem_cons_succ, setIfInBounds_toArray, set_cons_zero, set_cons_succ]
                refine Sl.s_idx1 Sl.tyS (by kernel_rfl) rfl rfl (.tmp 82) (.tmp 83) rfl g off n0 c0 i rfl rfl hA ?_
                simp only [Act.put, getElem_toArray, getElem_cons_zero, getElem_cons_succ, setIfInBounds_toArray, set_cons_zero, set_cons_succ]
                refine Mm.s_ldc naS rfl rfl (.tmp 84) ⟨g, off + i, none⟩ (.string t) rfl rfl (fun W h => (h.below.cell (p := ⟨g, off + i, none⟩) hg0.out).trans HCE.out) ?_
                simp only [Act.put, getElem_toArray, getElem_cons_zero, getElem_cons_succ, setIfInBounds_toArray, set_cons_zero, set_cons_succ]
                refine Sl.o_bsS1 H (fun W h => h.sub (by simp)) rfl rfl (.tmp 85) t rfl rfl ?_
                clear H
                intro bz _ H nw
                have hb := nw.below
                replace HO := hidp (Sl.own_to HO.out hb); clear hb nw
                simp only [Act.put, getElem_toArray, getElem_cons_zero, getElem_cons_succ, setIfInBounds_toArray, set_cons_zero, set_cons_succ]
                refine o_appS rfl rfl (.tmp 81) (.tmp 86) rfl w.heap.size bz tv (strV al) t rfl rfl HO.out H.out.at0 H.out.le (by rw [strV_length]; have := HAL.out; omega) ?_
                intro v13 W1 ho9 hg9 hb9
                have hM9 := grownM H.out.tail HO.out hg9 hb9 (by intro x hx; simp at hx; rcases hx with rfl | rfl <;> exact (show 26 ≠ 9 from by decide))
                refine ⟨hM9.sub (by simp), ?_⟩
                clear H HO
                have H := hidp hM9
                have HO := hidp (show OwnV W1 w.heap.size 9 v13 (strV (al ++ [t])) from by rw [strV_snoc]; exact ho9)
                clear ho9 hg9 hb9 hM9
                simp only [Act.put, getElem_toArray, getElem_cons_zero, getElem_cons_succ, setIfInBounds_toArray, set_cons_zero, set_cons_succ]
                refine Mm.oput1 rtD H (dR rs2 0) (fun W h => h.sub (by simp)) rfl rfl (.tmp 11) (.tmp 80) rfl rfl rfl rfl (dR_one _ _) rfl ?_
                intro _ H2 st
                replace HO := hidp (Sl.own_stp HO.out st H.out.at1 (by decide)); clear st H
                have H := H2
                clear H2
                simp only [Act.put, getElem_toArray, getElem_cons_zero, getElem_cons_succ, setIfInBounds_toArray, set_cons_zero, set_cons_succ]
                apply s_val
                case ho | hw => rfl
                case hv => intro w hw; go_simp; first | done | rfl
                simp only [Act.put, getElem_toArray, getElem_cons_zero, getElem_cons_succ, setIfInBounds_toArray, set_cons_zero, set_cons_succ]
                refine NoPanic.normal ?_
                go_upto_region 17 with fail
                go_upto_region 18 with fail
                refine Mm.region H (.take 0 (.take 1 (.take 2 (.take 3 (.take 4 (.two 5 (.take 6 (.take 7 (.take 8 (.one 9 (.one 10 (.take 11 .done)))))) 9 (.one 5 (.take 6 (.take 7 (.take 8 (.one 10 (.take 11 .done)))))))))))) (by kernel_rfl) (by kernel_rfl) (by simp [Scr.depth]) (by kernel_rfl) ?_
                clear H
                intro _ H hb
                replace HO := hidp (Sl.own_to HO.out hb); clear hb
                refine Mm.sget1 rtD (fun w h => h) rfl rfl (.tmp 11) rfl rfl rfl ?_
                simp only [Act.put, getElem_toArray, getElem_cons_zero, getElem_cons_succ, setIfInBounds_toArray, set_cons_zero, set_cons_succ]
                apply s_val
                case ho | hw => rfl
                case hv => intro w hw; go_simp; first | done | rfl
                simp only [Act.put, getElem_toArray, getElem_cons_zero, getElem_cons_succ, setIfInBounds_toArray, set_cons_zero, set_cons_succ]
                apply s_val
                case ho | hw => rfl
                case hv => intro w hw; go_simp; first | done | rfl
                simp only [Act.put, getElem_toArray, getElem_cons_zero, getElem_cons_succ, setIfInBounds_toArray, set_cons_zero, set_cons_succ]
                refine Sl.s_idx1 Sl.tyI (by kernel_rfl) rfl rfl (.tmp 94) (.tmp 95) rfl g1 off1 n1 c1 i rfl rfl hB ?_
                simp only [Act.put, getElem_toArray, getElem_cons_zero, getElem_cons_succ, setIfInBounds_toArray, set_cons_zero, set_cons_succ]
                refine Mm.s_ldc naI rfl rfl (.tmp 96) ⟨g1, off1 + i, none⟩ (.int .i64 (m : Int)) rfl rfl (fun W h => (h.below.cell (p := ⟨g1, off1 + i, none⟩) hg1.out).trans HCZ.out) ?_
                simp only [Act.put, getElem_toArray, getElem_cons_zero, getElem_cons_succ, setIfInBounds_toArray, set_cons_zero, set_cons_succ]
                refine ⟨?_, ?_⟩
                · refine Mm.o_callH (v := .tuple #[.agg (dR rs3 0).toArray, .int .i64 0]) H (fun W h => h) rfl rfl 7 (#[.agg (dR rs2 0).toArray, .int .i64 (m : Int)]) (by go_simp; first | done | rfl) (cq.out _) ?_
                  clear H
                  intro _ H hb
                  replace HO := hidp (Sl.own_to HO.out hb); clear hb
                  simp only [Act.put, getElem_toArray, getElem_cons_zero, getElem_cons_succ, setIfInBounds_toArray, set_cons_zero, set_cons_succ]
                  apply s_val
                  case ho | hw => rfl
                  case hv => intro w hw; go_simp; first | done | rfl
                  simp only [Act.put, getElem_toArray, getElem_cons_zero, getElem_cons_succ, setIfInBounds_toArray, set_cons_zero, set_cons_succ]
                  apply s_val
                  case ho | hw => rfl
                  case hv => intro w hw; go_simp; first | done | rfl
                  simp only [Act.put, getElem_toArray, getElem_cons_zero, getElem_cons_succ, setIfInBounds_toArray, set_cons_zero, set_cons_succ]
                  apply s_val
                  case ho | hw => rfl
                  case hv => intro w hw; go_simp; first | done | rfl
                  simp only [Act.put, getElem_toArray, getElem_cons_zero, getElem_cons_succ, setIfInBounds_toArray, set_cons_zero, set_cons_succ]
                  refine Mm.o_newH rtD H (fun W h => h) rfl rfl rfl ?_
                  clear H
                  intro b18 _ H nw
                  have hb := nw.below
                
                  replace HO := hidp (Sl.own_to HO.out hb); clear hb nw
                  simp only [Act.put, getElem_toArray, getElem_cons_zero, getElem_cons_succ, setIfInBounds_toArray, set_cons_zero, set_cons_succ]
                  refine Mm.oput0 rtD H (dR rs3 0) (fun W h => h.tail) rfl rfl (.tmp 18) (.tmp 99) rfl rfl rfl rfl (dR_one _ _) rfl ?_
                  intro _ H2 st
                  replace HO := hidp (Sl.own_stp HO.out st H.out.at0 (by decide)); clear st H
                  have H := H2
                  clear H2
                  simp only [Act.put, getElem_toArray, getElem_cons_zero, getElem_cons_succ, setIfInBounds_toArray, set_cons_zero, set_cons_succ]
                  apply s_val
                  case ho | hw => rfl
                  case hv => intro w hw; go_simp; first | done | rfl
                  simp only [Act.put, getElem_toArray, getElem_cons_zero, getElem_cons_succ, setIfInBounds_toArray, set_cons_zero, set_cons_succ]
                  refine NoPanic.normal ?_
                  go_upto_region 20 with fail
                  refine Sl.regionS [⟨b18, 26, (dR rs3 0)⟩] (fun W h => h.sub (by simp)) H (.take 0 (.take 1 (.take 2 (.take 3 (.take 4 (.take 5 (.take 6 (.one 7 (.take 8 .done))))))))) (by kernel_rfl) (by kernel_rfl) (by simp [Scr.depth]) (by kernel_rfl) ?_
                  clear H
                  intro _ H hb
                  replace HO := hidp (Sl.own_to HO.out hb); clear hb
                  refine Mm.sget0 rtD (fun w h => h) rfl rfl (.tmp 18) rfl rfl rfl ?_
                  simp only [Act.put, getElem_toArray, getElem_cons_zero, getElem_cons_succ, setIfInBounds_toArray, set_cons_zero, set_cons_succ]
                  apply s_val
                  case ho | hw => rfl
                  case hv => intro w hw; go_simp; first | done | rfl
                  simp only [Act.put, getElem_toArray, getElem_cons_zero, getElem_cons_succ, setIfInBounds_toArray, set_cons_zero, set_cons_succ]
                  apply s_val
                  case ho | hw => rfl
                  case hv => intro w hw; go_simp; first | done | rfl
                  simp only [Act.put, getElem_toArray, getElem_cons_zero, getElem_cons_succ, setIfInBounds_toArray, set_cons_zero, set_cons_succ]
                  apply s_val
                  case ho | hw => rfl
                  case hv => intro w hw; go_simp; first | done | rfl
                  simp only [Act.put, getElem_toArray, getElem_cons_zero, getElem_cons_succ, setIfInBounds_toArray, set_cons_zero, set_cons_succ]
                  refine Sl.s_idx1 Sl.tyI (by kernel_rfl) rfl rfl (.tmp 105) (.tmp 106) rfl g1 off1 n1 c1 i rfl rfl hB ?_
                  simp only [Act.put, getElem_toArray, getElem_cons_zero, getElem_cons_succ, setIfInBounds_toArray, set_cons_zero, set_cons_succ]
                  refine Mm.s_ldc naI rfl rfl (.tmp 107) ⟨g1, off1 + i, none⟩ (.int .i64 (m : Int)) rfl rfl (fun W h => (h.below.cell (p := ⟨g1, off1 + i, none⟩) hg1.out).trans HCZ.out) ?_
                  simp only [Act.put, getElem_toArray, getElem_cons_zero, getElem_cons_succ, setIfInBounds_toArray, set_cons_zero, set_cons_succ]
                  apply s_val
                  case ho | hw => rfl
                  case hv => intro w hw; go_simp; first | done | rfl
                  simp only [Act.put, getElem_toArray, getElem_cons_zero, getElem_cons_succ, setIfInBounds_toArray, set_cons_zero, set_cons_succ]
                  refine Mm.oput2 rtD H (dR rs3 0) (fun W h => h.sub (by simp)) rfl rfl (.tmp 11) (.tmp 103) rfl rfl rfl rfl (dR_one _ _) rfl ?_
                  intro _ H2 st
                  replace HO := hidp (Sl.own_stp HO.out st H.out.at2 (by decide)); clear st H
                  have H := H2
                  clear H2
                  simp only [Act.put, getElem_toArray, getElem_cons_zero, getElem_cons_succ, setIfInBounds_toArray, set_cons_zero, set_cons_succ]
                  apply s_val
                  case ho | hw => rfl
                  case hv => intro w hw; go_simp; first | done | rfl
                  simp only [Act.put, getElem_toArray, getElem_cons_zero, getElem_cons_succ, setIfInBounds_toArray, set_cons_zero, set_cons_succ]
                  refine NoPanic.normal ?_
                  go_wp2_with fail
                  exact ⟨⟨i + 1, rs3, (al ++ [t]), (max mo m), _, rfl, by go_num, rfl, by omega, HKE, HCE2, by have := HAL.out; (try simp only [List.length_append, List.length_singleton]); omega, HO.out, H.out.tail.tail⟩, by simp [intOf]; omega⟩
                · refine Mm.o_newH rtD H (fun W h => h) rfl rfl rfl ?_
                  clear H
                  intro b18 _ H nw
                  have hb := nw.below
                
                  replace HO := hidp (Sl.own_to HO.out hb); clear hb nw
                  simp only [Act.put, getElem_toArray, getElem_cons_zero, getElem_cons_succ, setIfInBounds_toArray, set_cons_zero, set_cons_succ]
                  refine Mm.o_callH (v := .tuple #[.agg (dR rs3 0).toArray, .int .i64 0]) H (fun W h => h.tail) rfl rfl 7 (#[.agg (dR rs2 0).toArray, .int .i64 (m : Int)]) (by go_simp; first | done | rfl) (cq.out _) ?_
                  clear H
                  intro _ H hb
                  replace HO := hidp (Sl.own_to HO.out hb); clear hb
                  simp only [Act.put, getElem_toArray, getElem_cons_zero, getElem_cons_succ, setIfInBounds_toArray, set_cons_zero, set_cons_succ]
                  apply s_val
                  case ho | hw => rfl
                  case hv => intro w hw; go_simp; first | done | rfl
                  simp only [Act.put, getElem_toArray, getElem_cons_zero, getElem_cons_succ, setIfInBounds_toArray, set_cons_zero, set_cons_succ]
                  apply s_val
                  case ho | hw => rfl
                  case hv => intro w hw; go_simp; first | done | rfl
                  simp only [Act.put, getElem_toArray, getElem_cons_zero, getElem_cons_succ, setIfInBounds_toArray, set_cons_zero, set_cons_succ]
                  apply s_val
                  case ho | hw => rfl
                  case hv => intro w hw; go_simp; first | done | rfl
                  simp only [Act.put, getElem_toArray, getElem_cons_zero, getElem_cons_succ, setIfInBounds_toArray, set_cons_zero, set_cons_succ]
                  refine Mm.oput0 rtD H (dR rs3 0) (fun W h => h.tail) rfl rfl (.tmp 18) (.tmp 99) rfl rfl rfl rfl (dR_one _ _) rfl ?_
                  intro _ H2 st
                  replace HO := hidp (Sl.own_stp HO.out st H.out.at0 (by decide)); clear st H
                  have H := H2
                  clear H2
                  simp only [Act.put, getElem_toArray, getElem_cons_zero, getElem_cons_succ, setIfInBounds_toArray, set_cons_zero, set_cons_succ]
                  apply s_val
                  case ho | hw => rfl
                  case hv => intro w hw; go_simp; first | done | rfl
                  simp only [Act.put, getElem_toArray, getElem_cons_zero, getElem_cons_succ, setIfInBounds_toArray, set_cons_zero, set_cons_succ]
                  refine NoPanic.normal ?_
                  go_upto_region 20 with fail
                  refine Sl.regionS [⟨b18, 26, (dR rs3 0)⟩] (fun W h => h.sub (by simp)) H (.take 0 (.take 1 (.take 2 (.take 3 (.take 4 (.take 5 (.take 6 (.one 7 (.take 8 .done))))))))) (by kernel_rfl) (by kernel_rfl) (by simp [Scr.depth]) (by kernel_rfl) ?_
                  clear H
                  intro _ H hb
                  replace HO := hidp (Sl.own_to HO.out hb); clear hb
                  refine Mm.sget0 rtD (fun w h => h) rfl rfl (.tmp 18) rfl rfl rfl ?_
                  simp only [Act.put, getElem_toArray, getElem_cons_zero, getElem_cons_succ, setIfInBounds_toArray, set_cons_zero, set_cons_succ]
                  apply s_val
                  case ho | hw => rfl
                  case hv => intro w hw; go_simp; first | done | rfl
                  simp only [Act.put, getElem_toArray, getElem_cons_zero, getElem_cons_succ, setIfInBounds_toArray, set_cons_zero, set_cons_succ]
                  apply s_val
                  case ho | hw => rfl
                  case hv => intro w hw; go_simp; first | done | rfl
                  simp only [Act.put, getElem_toArray, getElem_cons_zero, getElem_cons_succ, setIfInBounds_toArray, set_cons_zero, set_cons_succ]
                  apply s_val
                  case ho | hw => rfl
                  case hv => intro w hw; go_simp; first | done | rfl
                  simp only [Act.put, getElem_toArray, getElem_cons_zero, getElem_cons_succ, setIfInBounds_toArray, set_cons_zero, set_cons_succ]
                  refine Sl.s_idx1 Sl.tyI (by kernel_rfl) rfl rfl (.tmp 105) (.tmp 106) rfl g1 off1 n1 c1 i rfl rfl hB ?_
                  simp only [Act.put, getElem_toArray, getElem_cons_zero, getElem_cons_succ, setIfInBounds_toArray, set_cons_zero, set_cons_succ]
                  refine Mm.s_ldc naI rfl rfl (.tmp 107) ⟨g1, off1 + i, none⟩ (.int .i64 (m : Int)) rfl rfl (fun W h => (h.below.cell (p := ⟨g1, off1 + i, none⟩) hg1.out).trans HCZ.out) ?_
                  simp only [Act.put, getElem_toArray, getElem_cons_zero, getElem_cons_succ, setIfInBounds_toArray, set_cons_zero, set_cons_succ]
                  apply s_val
                  case ho | hw => rfl
                  case hv => intro w hw; go_simp; first | done | rfl
                  simp only [Act.put, getElem_toArray, getElem_cons_zero, getElem_cons_succ, setIfInBounds_toArray, set_cons_zero, set_cons_succ]
                  refine Mm.oput2 rtD H (dR rs3 0) (fun W h => h.sub (by simp)) rfl rfl (.tmp 11) (.tmp 103) rfl rfl rfl rfl (dR_one _ _) rfl ?_
                  intro _ H2 st
                  replace HO := hidp (Sl.own_stp HO.out st H.out.at2 (by decide)); clear st H
                  have H := H2
                  clear H2
                  simp only [Act.put, getElem_toArray, getElem_cons_zero, getElem_cons_succ, setIfInBounds_toArray, set_cons_zero, set_cons_succ]
                  apply s_val
                  case ho | hw => rfl
                  case hv => intro w hw; go_simp; first | done | rfl
                  simp only [Act.put, getElem_toArray, getElem_cons_zero, getElem_cons_succ, setIfInBounds_toArray, set_cons_zero, set_cons_succ]
                  refine NoPanic.normal ?_
                  go_wp2_with fail
                  exact ⟨⟨i + 1, rs3, (al ++ [t]), (max mo m), _, rfl, by go_num, rfl, by omega, HKE, HCE2, by have := HAL.out; (try simp only [List.length_append, List.length_singleton]); omega, HO.out, H.out.tail.tail⟩, by simp [intOf]; omega⟩
            · have eE2 : (E2 == 0) = false := by rcases hq3 with rfl | rfl <;> rfl
              have HKE := HK2
              have HCE2 := HR2
              clear hq3 hq2
              go_upto_region 14 with fail
              refine Mm.region H (.take 0 (.take 1 (.take 2 (.take 3 (.take 4 (.two 5 (.take 6 (.take 7 (.take 8 (.one 9 (.one 10 (.take 11 .done)))))) 9 (.one 5 (.take 6 (.take 7 (.take 8 (.one 10 (.take 11 .done)))))))))))) (by kernel_rfl) (by kernel_rfl) (by simp [Scr.depth]) (by kernel_rfl) ?_
              clear H
              intro _ H hb
              replace HO := hidp (Sl.own_to HO.out hb); clear hb
              refine Mm.sget0 rtD (fun w h => h) rfl rfl (.tmp 11) rfl rfl rfl ?_
              simp only [Act.put, getElem_toArray, getElem_cons_zero, getElem_cons_succ, setIfInBounds_toArray, set_cons_zero, set_cons_succ]
              apply s_val
              case ho | hw => rfl
              case hv => intro w hw; go_simp; first | done | rfl
              simp only [Act.put, getElem_toArray, getElem_cons_zero, getElem_cons_succ, setIfInBounds_toArray, set_cons_zero, set_cons_succ]
              apply s_val
              case ho | hw => rfl
              case hv => intro w hw; go_simp; first | done | rfl
              simp only [Act.put, getElem_toArray, getElem_cons_zero, getElem_cons_succ, setIfInBounds_toArray, set_cons_zero, set_cons_succ]
              refine Sl.s_idx1 Sl.tyS (by kernel_rfl) rfl rfl (.tmp 71) (.tmp 72) rfl g off n0 c0 i rfl rfl hA ?_
              simp only [Act.put, getElem_toArray, getElem_cons_zero, getElem_cons_succ, setIfInBounds_toArray, set_cons_zero, set_cons_succ]
              refine Mm.s_ldc naS rfl rfl (.tmp 73) ⟨g, off + i, none⟩ (.string t) rfl rfl (fun W h => (h.below.cell (p := ⟨g, off + i, none⟩) hg0.out).trans HCE.out) ?_
              simp only [Act.put, getElem_toArray, getElem_cons_zero, getElem_cons_succ, setIfInBounds_toArray, set_cons_zero, set_cons_succ]
              refine ⟨?_, ?_⟩
              · refine Mm.o_callH (v := .tuple #[.agg (dR rs3 0).toArray, .int .i64 0]) H (fun W h => h) rfl rfl 6 (#[.agg (dR rs 0).toArray, .string t]) (by go_simp; first | done | rfl) (cp.out _) ?_
                clear H
                intro _ H hb
                replace HO := hidp (Sl.own_to HO.out hb); clear hb
                simp only [Act.put, getElem_toArray, getElem_cons_zero, getElem_cons_succ, setIfInBounds_toArray, set_cons_zero, set_cons_succ]
                apply s_val
                case ho | hw => rfl
                case hv => intro w hw; go_simp; first | done | rfl
                simp only [Act.put, getElem_toArray, getElem_cons_zero, getElem_cons_succ, setIfInBounds_toArray, set_cons_zero, set_cons_succ]
                apply s_val
                case ho | hw => rfl
                case hv => intro w hw; go_simp; first | done | rfl
                simp only [Act.put, getElem_toArray, getElem_cons_zero, getElem_cons_succ, setIfInBounds_toArray, set_cons_zero, set_cons_succ]
                apply s_val
                case ho | hw => rfl
                case hv => intro w hw; go_simp; first | done | rfl
                simp only [Act.put, getElem_toArray, getElem_cons_zero, getElem_cons_succ, setIfInBounds_toArray, set_cons_zero, set_cons_succ]
                refine Mm.o_newH rtD H (fun W h => h) rfl rfl rfl ?_
                clear H
                intro b16 _ H nw
                have hb := nw.below

                replace HO := hidp (Sl.own_to HO.out hb); clear hb nw
                simp only [Act.put, getElem_toArray, getElem_cons_zero, getElem_cons_succ, setIfInBounds_toArray, set_cons_zero, set_cons_succ]
                refine Mm.oput0 rtD H (dR rs3 0) (fun W h => h.tail) rfl rfl (.tmp 16) (.tmp 76) rfl rfl rfl rfl (dR_one _ _) rfl ?_
                intro _ H2 st
                replace HO := hidp (Sl.own_stp HO.out st H.out.at0 (by decide)); clear st H
                have H := H2
                clear H2
                simp only [Act.put, getElem_toArray, getElem_cons_zero, getElem_cons_succ, setIfInBounds_toArray, set_cons_zero, set_cons_succ]
                apply s_val
                case ho | hw => rfl
                case hv => intro w hw; go_simp; first | done | rfl
                simp only [Act.put, getElem_toArray, getElem_cons_zero, getElem_cons_succ, setIfInBounds_toArray, set_cons_zero, set_cons_succ]
                refine NoPanic.normal ?_
                go_upto_region 16 with fail
                refine Sl.regionS [⟨b16, 26, (dR rs3 0)⟩] (fun W h => h.sub (by simp)) H (.take 0 (.take 1 (.take 2 (.take 3 (.take 4 (.take 5 (.one 6 (.one 7 (.one 8 (.take 9 .done)))))))))) (by kernel_rfl) (by kernel_rfl) (by simp [Scr.depth]) (by kernel_rfl) ?_
                clear H
                intro _ H hb
                replace HO := hidp (Sl.own_to HO.out hb); clear hb
                refine Mm.sget0 rtD (fun w h => h) rfl rfl (.tmp 16) rfl rfl rfl ?_
                simp only [Act.put, getElem_toArray, getElem_cons_zero, getElem_cons_succ, setIfInBounds_toArray, set_cons_zero, set_cons_succ]
                apply s_val
                case ho | hw => rfl
                case hv => intro w hw; go_simp; first | done | rfl
                simp only [Act.put, getElem_toArray, getElem_cons_zero, getElem_cons_succ, setIfInBounds_toArray, set_cons_zero, set_cons_succ]
                apply s_val
                case ho | hw => rfl
                case hv => intro w hw; go_simp; first | done | rfl
                simp only [Act.put, getElem_toArray, getElem_cons_zero, getElem_cons_succ, setIfInBounds_toArray, set_cons_zero, set_cons_succ]
                apply s_val
                case ho | hw => rfl
                case hv => intro w hw; go_simp; first | done | rfl
                simp only [Act.put, getElem_toArray, getElem_cons_zero, getElem_cons_succ, setIfInBounds_toArray, set_cons_zero, set_cons_succ]
                refine Sl.s_idx1 Sl.tyS (by kernel_rfl) rfl rfl (.tmp 82) (.tmp 83) rfl g off n0 c0 i rfl rfl hA ?_
                simp only [Act.put, getElem_toArray, getElem_cons_zero, getElem_cons_succ, setIfInBounds_toArray, set_cons_zero, set_cons_succ]
                refine Mm.s_ldc naS rfl rfl (.tmp 84) ⟨g, off + i, none⟩ (.string t) rfl rfl (fun W h => (h.below.cell (p := ⟨g, off + i, none⟩) hg0.out).trans HCE.out) ?_
                simp only [Act.put, getElem_toArray, getElem_cons_zero, getElem_cons_succ, setIfInBounds_toArray, set_cons_zero, set_cons_succ]
                refine Sl.o_bsS1 H (fun W h => h.sub (by simp)) rfl rfl (.tmp 85) t rfl rfl ?_
                clear H
                intro bz _ H nw
                have hb := nw.below
                replace HO := hidp (Sl.own_to HO.out hb); clear hb nw
                simp only [Act.put, getElem_toArray, getElem_cons_zero, getElem_cons_succ, setIfInBounds_toArray, set_cons_zero, set_cons_succ]
                refine o_appS rfl rfl (.tmp 81) (.tmp 86) rfl w.heap.size bz tv (strV al) t rfl rfl HO.out H.out.at0 H.out.le (by rw [strV_length]; have := HAL.out; omega) ?_
                intro v13 W1 ho9 hg9 hb9
                have hM9 := grownM H.out.tail HO.out hg9 hb9 (by intro x hx; simp at hx; rcases hx with rfl | rfl <;> exact (show 26 ≠ 9 from by decide))
                refine ⟨hM9.sub (by simp), ?_⟩
                clear H HO
                have H := hidp hM9
                have HO := hidp (show OwnV W1 w.heap.size 9 v13 (strV (al ++ [t])) from by rw [strV_snoc]; exact ho9)
                clear ho9 hg9 hb9 hM9
                simp only [Act.put, getElem_toArray, getElem_cons_zero, getElem_cons_succ, setIfInBounds_toArray, set_cons_zero, set_cons_succ]
                refine Mm.oput1 rtD H (dR rs3 0) (fun W h => h.sub (by simp)) rfl rfl (.tmp 11) (.tmp 80) rfl rfl rfl rfl (dR_one _ _) rfl ?_
                intro _ H2 st
                replace HO := hidp (Sl.own_stp HO.out st H.out.at1 (by decide)); clear st H
                have H := H2
                clear H2
                simp only [Act.put, getElem_toArray, getElem_cons_zero, getElem_cons_succ, setIfInBounds_toArray, set_cons_zero, set_cons_succ]
                apply s_val
                case ho | hw => rfl
                case hv => intro w hw; go_simp; first | done | rfl
                simp only [Act.put, getElem_toArray, getElem_cons_zero, getElem_cons_succ, setIfInBounds_toArray, set_cons_zero, set_cons_succ]
                refine NoPanic.normal ?_
                go_upto_region 17 with fail
                go_upto_region 18 with fail
                refine Mm.region H (.take 0 (.take 1 (.take 2 (.take 3 (.take 4 (.two 5 (.take 6 (.take 7 (.take 8 (.one 9 (.one 10 (.take 11 .done)))))) 9 (.one 5 (.take 6 (.take 7 (.take 8 (.one 10 (.take 11 .done)))))))))))) (by kernel_rfl) (by kernel_rfl) (by simp [Scr.depth]) (by kernel_rfl) ?_
                clear H
                intro _ H hb
                replace HO := hidp (Sl.own_to HO.out hb); clear hb
                refine Mm.sget1 rtD (fun w h => h) rfl rfl (.tmp 11) rfl rfl rfl ?_
                simp only [Act.put, getElem_toArray, getElem_cons_zero, getElem_cons_succ, setIfInBounds_toArray, set_cons_zero, set_cons_succ]
                apply s_val
                case ho | hw => rfl
                case hv => intro w hw; go_simp; first | done | rfl
                simp only [Act.put, getElem_toArray, getElem_cons_zero, getElem_cons_succ, setIfInBounds_toArray, set_cons_zero, set_cons_succ]
                apply s_val
                case ho | hw => rfl
                case hv => intro w hw; go_simp; first | done | rfl
                simp only [Act.put, getElem_toArray, getElem_cons_zero, getElem_cons_succ, setIfInBounds_toArray, set_cons_zero, set_cons_succ]
                refine Sl.s_idx1 Sl.tyI (by kernel_rfl) rfl rfl (.tmp 94) (.tmp 95) rfl g1 off1 n1 c1 i rfl rfl hB ?_
                simp only [Act.put, getElem_toArray, getElem_cons_zero, getElem_cons_succ, setIfInBounds_toArray, set_cons_zero, set_cons_succ]
                refine Mm.s_ldc naI rfl rfl (.tmp 96) ⟨g1, off1 + i, none⟩ (.int .i64 z) rfl rfl (fun W h => (h.below.cell (p := ⟨g1, off1 + i, none⟩) hg1.out).trans HCZ.out) ?_
                simp only [Act.put, getElem_toArray, getElem_cons_zero, getElem_cons_succ, setIfInBounds_toArray, set_cons_zero, set_cons_succ]
                refine ⟨?_, ?_⟩
                · refine Mm.o_callH (v := .tuple #[.agg (dR rs3 0).toArray, .int .i64 E2]) H (fun W h => h) rfl rfl 7 (#[.agg (dR rs3 0).toArray, .int .i64 z]) (by go_simp; first | done | rfl) (cq.out _) ?_
                  clear H
                  intro _ H hb
                  replace HO := hidp (Sl.own_to HO.out hb); clear hb
                  simp only [Act.put, getElem_toArray, getElem_cons_zero, getElem_cons_succ, setIfInBounds_toArray, set_cons_zero, set_cons_succ]
                  apply s_val
                  case ho | hw => rfl
                  case hv => intro w hw; go_simp; first | done | rfl
                  simp only [Act.put, getElem_toArray, getElem_cons_zero, getElem_cons_succ, setIfInBounds_toArray, set_cons_zero, set_cons_succ]
                  apply s_val
                  case ho | hw => rfl
                  case hv => intro w hw; go_simp; first | done | rfl
                  simp only [Act.put, getElem_toArray, getElem_cons_zero, getElem_cons_succ, setIfInBounds_toArray, set_cons_zero, set_cons_succ]
                  apply s_val
                  case ho | hw => rfl
                  case hv => intro w hw; go_simp; first | done | rfl
                  simp only [Act.put, getElem_toArray, getElem_cons_zero, getElem_cons_succ, setIfInBounds_toArray, set_cons_zero, set_cons_succ]
                  refine Mm.o_newH rtD H (fun W h => h) rfl rfl rfl ?_
                  clear H
                  intro b18 _ H nw
                  have hb := nw.below
                
                  replace HO := hidp (Sl.own_to HO.out hb); clear hb nw
                  simp only [Act.put, getElem_toArray, getElem_cons_zero, getElem_cons_succ, setIfInBounds_toArray, set_cons_zero, set_cons_succ]
                  refine Mm.oput0 rtD H (dR rs3 0) (fun W h => h.tail) rfl rfl (.tmp 18) (.tmp 99) rfl rfl rfl rfl (dR_one _ _) rfl ?_
                  intro _ H2 st
                  replace HO := hidp (Sl.own_stp HO.out st H.out.at0 (by decide)); clear st H
                  have H := H2
                  clear H2
                  simp only [Act.put, getElem_toArray, getElem_cons_zero, getElem_cons_succ, setIfInBounds_toArray, set_cons_zero, set_cons_succ]
                  apply s_val
                  case ho | hw => rfl
                  case hv => intro w hw; go_simp; first | done | rfl
                  simp only [Act.put, getElem_toArray, getElem_cons_zero, getElem_cons_succ, setIfInBounds_toArray, set_cons_zero, set_cons_succ]
                  refine NoPanic.normal ?_
                  go_wp2_with fail
                  exact ⟨⟨i + 1, rs3, (al ++ [t]), mo, _, rfl, by go_num, rfl, by omega, HKE, HCE2, by have := HAL.out; (try simp only [List.length_append, List.length_singleton]); omega, HO.out, H.out.tail.tail⟩, by simp [intOf]; omega⟩
                · refine Mm.o_newH rtD H (fun W h => h) rfl rfl rfl ?_
                  clear H
                  intro b18 _ H nw
                  have hb := nw.below
                
                  replace HO := hidp (Sl.own_to HO.out hb); clear hb nw
                  simp only [Act.put, getElem_toArray, getElem_cons_zero, getElem_cons_succ, setIfInBounds_toArray, set_cons_zero, set_cons_succ]
                  refine Mm.o_callH (v := .tuple #[.agg (dR rs3 0).toArray, .int .i64 E2]) H (fun W h => h.tail) rfl rfl 7 (#[.agg (dR rs3 0).toArray, .int .i64 z]) (by go_simp; first | done | rfl) (cq.out _) ?_
                  clear H
                  intro _ H hb
                  replace HO := hidp (Sl.own_to HO.out hb); clear hb
                  simp only [Act.put, getElem_toArray, getElem_cons_zero, getElem_cons_succ, setIfInBounds_toArray, set_cons_zero, set_cons_succ]
                  apply s_val
                  case ho | hw => rfl
                  case hv => intro w hw; go_simp; first | done | rfl
                  simp only [Act.put, getElem_toArray, getElem_cons_zero, getElem_cons_succ, setIfInBounds_toArray, set_cons_zero, set_cons_succ]
                  apply s_val
                  case ho | hw => rfl
                  case hv => intro w hw; go_simp; first | done | rfl
                  simp only [Act.put, getElem_toArray, getElem_cons_zero, getElem_cons_succ, setIfInBounds_toArray, set_cons_zero, set_cons_succ]
                  apply s_val
                  case ho | hw => rfl
                  case hv => intro w hw; go_simp; first | done | rfl
                  simp only [Act.put, getElem_toArray, getElem_cons_zero, getElem_cons_succ, setIfInBounds_toArray, set_cons_zero, set_cons_succ]
                  refine Mm.oput0 rtD H (dR rs3 0) (fun W h => h.tail) rfl rfl (.tmp 18) (.tmp 99) rfl rfl rfl rfl (dR_one _ _) rfl ?_
                  intro _ H2 st
                  replace HO := hidp (Sl.own_stp HO.out st H.out.at0 (by decide)); clear st H
                  have H := H2
                  clear H2
                  simp only [Act.put, getElem_toArray, getElem_cons_zero, getElem_cons_succ, setIfInBounds_toArray, set_cons_zero, set_cons_succ]
                  apply s_val
                  case ho | hw => rfl
                  case hv => intro w hw; go_simp; first | done | rfl
                  simp only [Act.put, getElem_toArray, getElem_cons_zero, getElem_cons_succ, setIfInBounds_toArray, set_cons_zero, set_cons_succ]
                  refine NoPanic.normal ?_
                  go_wp2_with fail
                  exact ⟨⟨i + 1, rs3, (al ++ [t]), mo, _, rfl, by go_num, rfl, by omega, HKE, HCE2, by have := HAL.out; (try simp only [List.length_append, List.length_singleton]); omega, HO.out, H.out.tail.tail⟩, by simp [intOf]; omega⟩
              · refine Mm.o_newH rtD H (fun W h => h) rfl rfl rfl ?_
                clear H
                intro b16 _ H nw
                have hb := nw.below

                replace HO := hidp (Sl.own_to HO.out hb); clear hb nw
                simp only [Act.put, getElem_toArray, getElem_cons_zero, getElem_cons_succ, setIfInBounds_toArray, set_cons_zero, set_cons_succ]
                refine Mm.o_callH (v := .tuple #[.agg (dR rs3 0).toArray, .int .i64 0]) H (fun W h => h.tail) rfl rfl 6 (#[.agg (dR rs 0).toArray, .string t]) (by go_simp; first | done | rfl) (cp.out _) ?_
                clear H
                intro _ H hb
                replace HO := hidp (Sl.own_to HO.out hb); clear hb
                simp only [Act.put, getElem_toArray, getElem_cons_zero, getElem_cons_succ, setIfInBounds_toArray, set_cons_zero, set_cons_succ]
                apply s_val
                case ho | hw => rfl
                case hv => intro w hw; go_simp; first | done | rfl
                simp only [Act.put, getElem_toArray, getElem_cons_zero, getElem_cons_succ, setIfInBounds_toArray, set_cons_zero, set_cons_succ]
                apply s_val
                case ho | hw => rfl
                case hv => intro w hw; go_simp; first | done | rfl
                simp only [Act.put, getElem_toArray, getElem_cons_zero, getElem_cons_succ, setIfInBounds_toArray, set_cons_zero, set_cons_succ]
                apply s_val
                case ho | hw => rfl
                case hv => intro w hw; go_simp; first | done | rfl
                simp only [Act.put, getElem_toArray, getElem_cons_zero, getElem_cons_succ, setIfInBounds_toArray, set_cons_zero, set_cons_succ]
                refine Mm.oput0 rtD H (dR rs3 0) (fun W h => h.tail) rfl rfl (.tmp 16) (.tmp 76) rfl rfl rfl rfl (dR_one _ _) rfl ?_
                intro _ H2 st
                replace HO := hidp (Sl.own_stp HO.out st H.out.at0 (by decide)); clear st H
                have H := H2
                clear H2
                simp only [Act.put, getElem_toArray, getElem_cons_zero, getElem_cons_succ, setIfInBounds_toArray, set_cons_zero, set_cons_succ]
                apply s_val
                case ho | hw => rfl
                case hv => intro w hw; go_simp; first | done | rfl
                simp only [Act.put, getElem_toArray, getElem_cons_zero, getElem_cons_succ, setIfInBounds_toArray, set_cons_zero, set_cons_succ]
                refine NoPanic.normal ?_
                go_upto_region 16 with fail
                refine Sl.regionS [⟨b16, 26, (dR rs3 0)⟩] (fun W h => h.sub (by simp)) H (.take 0 (.take 1 (.take 2 (.take 3 (.take 4 (.take 5 (.one 6 (.one 7 (.one 8 (.take 9 .done)))))))))) (by kernel_rfl) (by kernel_rfl) (by simp [Scr.depth]) (by kernel_rfl) ?_
                clear H
                intro _ H hb
                replace HO := hidp (Sl.own_to HO.out hb); clear hb
                refine Mm.sget0 rtD (fun w h => h) rfl rfl (.tmp 16) rfl rfl rfl ?_
                simp only [Act.put, getElem_toArray, getElem_cons_zero, getElem_cons_succ, setIfInBounds_toArray, set_cons_zero, set_cons_succ]
                apply s_val
                case ho | hw => rfl
                case hv => intro w hw; go_simp; first | done | rfl
                simp only [Act.put, getElem_toArray, getElem_cons_zero, getElem_cons_succ, setIfInBounds_toArray, set_cons_zero, set_cons_succ]
                apply s_val
                case ho | hw => rfl
                case hv => intro w hw; go_simp; first | done | rfl
                simp only [Act.put, getElem_toArray, getElem_cons_zero, getElem_cons_succ, setIfInBounds_toArray, set_cons_zero, set_cons_succ]
                apply s_val
                case ho | hw => rfl
                case hv => intro w hw; go_simp; first | done | rfl
                simp only [Act.put, getElem_toArray, getElem_cons_zero, getElem_cons_succ, setIfInBounds_toArray, set_cons_zero, set_cons_succ]
                refine Sl.s_idx1 Sl.tyS (by kernel_rfl) rfl rfl (.tmp 82) (.tmp 83) rfl g off n0 c0 i rfl rfl hA ?_
                simp only [Act.put, getElem_toArray, getElem_cons_zero, getElem_cons_succ, setIfInBounds_toArray, set_cons_zero, set_cons_succ]
                refine Mm.s_ldc naS rfl rfl (.tmp 84) ⟨g, off + i, none⟩ (.string t) rfl rfl (fun W h => (h.below.cell (p := ⟨g, off + i, none⟩) hg0.out).trans HCE.out) ?_
                simp only [Act.put, getElem_toArray, getElem_cons_zero, getElem_cons_succ, setIfInBounds_toArray, set_cons_zero, set_cons_succ]
                refine Sl.o_bsS1 H (fun W h => h.sub (by simp)) rfl rfl (.tmp 85) t rfl rfl ?_
                clear H
                intro bz _ H nw
                have hb := nw.below
                replace HO := hidp (Sl.own_to HO.out hb); clear hb nw
                simp only [Act.put, getElem_toArray, getElem_cons_zero, getElem_cons_succ, setIfInBounds_toArray, set_cons_zero, set_cons_succ]
                refine o_appS rfl rfl (.tmp 81) (.tmp 86) rfl w.heap.size bz tv (strV al) t rfl rfl HO.out H.out.at0 H.out.le (by rw [strV_length]; have := HAL.out; omega) ?_
                intro v13 W1 ho9 hg9 hb9
                have hM9 := grownM H.out.tail HO.out hg9 hb9 (by intro x hx; simp at hx; rcases hx with rfl | rfl <;> exact (show 26 ≠ 9 from by decide))
                refine ⟨hM9.sub (by simp), ?_⟩
                clear H HO
                have H := hidp hM9
                have HO := hidp (show OwnV W1 w.heap.size 9 v13 (strV (al ++ [t])) from by rw [strV_snoc]; exact ho9)
                clear ho9 hg9 hb9 hM9
                simp only [Act.put, getElem_toArray, getElem_cons_zero, getElem_cons_succ, setIfInBounds_toArray, set_cons_zero, set_cons_succ]
                refine Mm.oput1 rtD H (dR rs3 0) (fun W h => h.sub (by simp)) rfl rfl (.tmp 11) (.tmp 80) rfl rfl rfl rfl (dR_one _ _) rfl ?_
                intro _ H2 st
                replace HO := hidp (Sl.own_stp HO.out st H.out.at1 (by decide)); clear st H
                have H := H2
                clear H2
                simp only [Act.put, getElem_toArray, getElem_cons_zero, getElem_cons_succ, setIfInBounds_toArray, set_cons_zero, set_cons_succ]
                apply s_val
                case ho | hw => rfl
                case hv => intro w hw; go_simp; first | done | rfl
                simp only [Act.put, getElem_toArray, getElem_cons_zero, getElem_cons_succ, setIfInBounds_toArray, set_cons_zero, set_cons_succ]
                refine NoPanic.normal ?_
                go_upto_region 17 with fail
                go_upto_region 18 with fail
                refine Mm.region H (.take 0 (.take 1 (.take 2 (.take 3 (.take 4 (.two 5 (.take 6 (.take 7 (.take 8 (.one 9 (.one 10 (.take 11 .done)))))) 9 (.one 5 (.take 6 (.take 7 (.take 8 (.one 10 (.take 11 .done)))))))))))) (by kernel_rfl) (by kernel_rfl) (by simp [Scr.depth]) (by kernel_rfl) ?_
                clear H
                intro _ H hb
                replace HO := hidp (Sl.own_to HO.out hb); clear hb
                refine Mm.sget1 rtD (fun w h => h) rfl rfl (.tmp 11) rfl rfl rfl ?_
                simp only [Act.put, getElem_toArray, getElem_cons_zero, getElem_cons_succ, setIfInBounds_toArray, set_cons_zero, set_cons_succ]
                apply s_val
                case ho | hw => rfl
                case hv => intro w hw; go_simp; first | done | rfl
                simp only [Act.put, getElem_toArray, getElem_cons_zero, getElem_cons_succ, setIfInBounds_toArray, set_cons_zero, set_cons_succ]
                apply s_val
                case ho | hw => rfl
                case hv => intro w hw; go_simp; first | done | rfl
                simp only [Act.put, getElem_toArray, getElem_cons_zero, getElem_cons_succ, setIfInBounds_toArray, set_cons_zero, set_cons_succ]
                refine Sl.s_idx1 Sl.tyI (by kernel_rfl) rfl rfl (.tmp 94) (.tmp 95) rfl g1 off1 n1 c1 i rfl rfl hB ?_
                simp only [Act.put, getElem_toArray, getElem_cons_zero, getElem_cons_succ, setIfInBounds_toArray, set_cons_zero, set_cons_succ]
                refine Mm.s_ldc naI rfl rfl (.tmp 96) ⟨g1, off1 + i, none⟩ (.int .i64 z) rfl rfl (fun W h => (h.below.cell (p := ⟨g1, off1 + i, none⟩) hg1.out).trans HCZ.out) ?_
                simp only [Act.put, getElem_toArray, getElem_cons_zero, getElem_cons_succ, setIfInBounds_toArray, set_cons_zero, set_cons_succ]
                refine ⟨?_, ?_⟩
                · refine Mm.o_callH (v := .tuple #[.agg (dR rs3 0).toArray, .int .i64 E2]) H (fun W h => h) rfl rfl 7 (#[.agg (dR rs3 0).toArray, .int .i64 z]) (by go_simp; first | done | rfl) (cq.out _) ?_
                  clear H
                  intro _ H hb
                  replace HO := hidp (Sl.own_to HO.out hb); clear hb
                  simp only [Act.put, getElem_toArray, getElem_cons_zero, getElem_cons_succ, setIfInBounds_toArray, set_cons_zero, set_cons_succ]
                  apply s_val
                  case ho | hw => rfl
                  case hv => intro w hw; go_simp; first | done | rfl
                  simp only [Act.put, getElem_toArray, getElem_cons_zero, getElem_cons_succ, setIfInBounds_toArray, set_cons_zero, set_cons_succ]
                  apply s_val
                  case ho | hw => rfl
                  case hv => intro w hw; go_simp; first | done | rfl
                  simp only [Act.put, getElem_toArray, getElem_cons_zero, getElem_cons_succ, setIfInBounds_toArray, set_cons_zero, set_cons_succ]
                  apply s_val
                  case ho | hw => rfl
                  case hv => intro w hw; go_simp; first | done | rfl
                  simp only [Act.put, getElem_toArray, getElem_cons_zero, getElem_cons_succ, setIfInBounds_toArray, set_cons_zero, set_cons_succ]
                  refine Mm.o_newH rtD H (fun W h => h) rfl rfl rfl ?_
                  clear H
                  intro b18 _ H nw
                  have hb := nw.below
                
                  replace HO := hidp (Sl.own_to HO.out hb); clear hb nw
                  simp only [Act.put, getElem_toArray, getElem_cons_zero, getElem_cons_succ, setIfInBounds_toArray, set_cons_zero, set_cons_succ]
                  refine Mm.oput0 rtD H (dR rs3 0) (fun W h => h.tail) rfl rfl (.tmp 18) (.tmp 99) rfl rfl rfl rfl (dR_one _ _) rfl ?_
                  intro _ H2 st
                  replace HO := hidp (Sl.own_stp HO.out st H.out.at0 (by decide)); clear st H
                  have H := H2
                  clear H2
                  simp only [Act.put, getElem_toArray, getElem_cons_zero, getElem_cons_succ, setIfInBounds_toArray, set_cons_zero, set_cons_succ]
                  apply s_val
                  case ho | hw => rfl
                  case hv => intro w hw; go_simp; first | done | rfl
                  simp only [Act.put, getElem_toArray, getElem_cons_zero, getElem_cons_succ, setIfInBounds_toArray, set_cons_zero, set_cons_succ]
                  refine NoPanic.normal ?_
                  go_wp2_with fail
                  exact ⟨⟨i + 1, rs3, (al ++ [t]), mo, _, rfl, by go_num, rfl, by omega, HKE, HCE2, by have := HAL.out; (try simp only [List.length_append, List.length_singleton]); omega, HO.out, H.out.tail.tail⟩, by simp [intOf]; omega⟩
                · refine Mm.o_newH rtD H (fun W h => h) rfl rfl rfl ?_
                  clear H
                  intro b18 _ H nw
                  have hb := nw.below
                
                  replace HO := hidp (Sl.own_to HO.out hb); clear hb nw
                  simp only [Act.put, getElem_toArray, getElem_cons_zero, getElem_cons_succ, setIfInBounds_toArray, set_cons_zero, set_cons_succ]
                  refine Mm.o_callH (v := .tuple #[.agg (dR rs3 0).toArray, .int .i64 E2]) H (fun W h => h.tail) rfl rfl 7 (#[.agg (dR rs3 0).toArray, .int .i64 z]) (by go_simp; first | done | rfl) (cq.out _) ?_
                  clear H
                  intro _ H hb
                  replace HO := hidp (Sl.own_to HO.out hb); clear hb
                  simp only [Act.put, getElem_toArray, getElem_cons_zero, getElem_cons_succ, setIfInBounds_toArray, set_cons_zero, set_cons_succ]
                  apply s_val
                  case ho | hw => rfl
                  case hv => intro w hw; go_simp; first | done | rfl
                  simp only [Act.put, getElem_toArray, getElem_cons_zero, getElem_cons_succ, setIfInBounds_toArray, set_cons_zero, set_cons_succ]
                  apply s_val
                  case ho | hw => rfl
                  case hv => intro w hw; go_simp; first | done | rfl
                  simp only [Act.put, getElem_toArray, getElem_cons_zero, getElem_cons_succ, setIfInBounds_toArray, set_cons_zero, set_cons_succ]
                  apply s_val
                  case ho | hw => rfl
                  case hv => intro w hw; go_simp; first | done | rfl
                  simp only [Act.put, getElem_toArray, getElem_cons_zero, getElem_cons_succ, setIfInBounds_toArray, set_cons_zero, set_cons_succ]
                  refine Mm.oput0 rtD H (dR rs3 0) (fun W h => h.tail) rfl rfl (.tmp 18) (.tmp 99) rfl rfl rfl rfl (dR_one _ _) rfl ?_
                  intro _ H2 st
                  replace HO := hidp (Sl.own_stp HO.out st H.out.at0 (by decide)); clear st H
                  have H := H2
                  clear H2
                  simp only [Act.put, getElem_toArray, getElem_cons_zero, getElem_cons_succ, setIfInBounds_toArray, set_cons_zero, set_cons_succ]
                  apply s_val
                  case ho | hw => rfl
                  case hv => intro w hw; go_simp; first | done | rfl
                  simp only [Act.put, getElem_toArray, getElem_cons_zero, getElem_cons_succ, setIfInBounds_toArray, set_cons_zero, set_cons_succ]
                  refine NoPanic.normal ?_
                  go_wp2_with fail
                  exact ⟨⟨i + 1, rs3, (al ++ [t]), mo, _, rfl, by go_num, rfl, by omega, HKE, HCE2, by have := HAL.out; (try simp only [List.length_append, List.length_singleton]); omega, HO.out, H.out.tail.tail⟩, by simp [intOf]; omega⟩
          · have eB : decide ((i : Int) < (n1 : Int)) = false := by simp; omega
            have HKE := HK2
            have HCE2 := HR2
            go_upto_region 14 with fail
            refine Mm.region H (.take 0 (.take 1 (.take 2 (.take 3 (.take 4 (.two 5 (.take 6 (.take 7 (.take 8 (.one 9 (.one 10 (.take 11 .done)))))) 9 (.one 5 (.take 6 (.take 7 (.take 8 (.one 10 (.take 11 .done)))))))))))) (by kernel_rfl) (by kernel_rfl) (by simp [Scr.depth]) (by kernel_rfl) ?_
            clear H
            intro _ H hb
            replace HO := hidp (Sl.own_to HO.out hb); clear hb
            refine Mm.sget0 rtD (fun w h => h) rfl rfl (.tmp 11) rfl rfl rfl ?_
            simp only [Act.put, getElem_toArray, getElem_cons_zero, getElem_cons_succ, setIfInBounds_toArray, set_cons_zero, set_cons_succ]
            apply s_val
            case ho | hw => rfl
            case hv => intro w hw; go_simp; first | done | rfl
            simp only [Act.put, getElem_toArray, getElem_cons_zero, getElem_cons_succ, setIfInBounds_toArray, set_cons_zero, set_cons_succ]
            apply s_val
            case ho | hw => rfl
            case hv => intro w hw; go_simp; first | done | rfl
            simp only [Act.put, getElem_toArray, getElem_cons_zero, getElem_cons_succ, setIfInBounds_toArray, set_cons_zero, set_cons_succ]
            refine Sl.s_idx1 Sl.tyS (by kernel_rfl) rfl rfl (.tmp 71) (.tmp 72) rfl g off n0 c0 i rfl rfl hA ?_
            simp only [Act.put, getElem_toArray, getElem_cons_zero, getElem_cons_succ, setIfInBounds_toArray, set_cons_zero, set_cons_succ]
            refine Mm.s_ldc naS rfl rfl (.tmp 73) ⟨g, off + i, none⟩ (.string t) rfl rfl (fun W h => (h.below.cell (p := ⟨g, off + i, none⟩) hg0.out).trans HCE.out) ?_
            simp only [Act.put, getElem_toArray, getElem_cons_zero, getElem_cons_succ, setIfInBounds_toArray, set_cons_zero, set_cons_succ]
            refine ⟨?_, ?_⟩
            · refine Mm.o_callH (v := .tuple #[.agg (dR rs2 0).toArray, .int .i64 0]) H (fun W h => h) rfl rfl 6 (#[.agg (dR rs 0).toArray, .string t]) (by go_simp; first | done | rfl) (cp.out _) ?_
              clear H
              intro _ H hb
              replace HO := hidp (Sl.own_to HO.out hb); clear hb
              simp only [Act.put, getElem_toArray, getElem_cons_zero, getElem_cons_succ, setIfInBounds_toArray, set_cons_zero, set_cons_succ]
              apply s_val
              case ho | hw => rfl
              case hv => intro w hw; go_simp; first | done | rfl
              simp only [Act.put, getElem_toArray, getElem_cons_zero, getElem_cons_succ, setIfInBounds_toArray, set_cons_zero, set_cons_succ]
              apply s_val
              case ho | hw => rfl
              case hv => intro w hw; go_simp; first | done | rfl
              simp only [Act.put, getElem_toArray, getElem_cons_zero, getElem_cons_succ, setIfInBounds_toArray, set_cons_zero, set_cons_succ]
              apply s_val
              case ho | hw => rfl
              case hv => intro w hw; go_simp; first | done | rfl
              simp only [Act.put, getElem_toArray, getElem_cons_zero, getElem_cons_succ, setIfInBounds_toArray, set_cons_zero, set_cons_succ]
              refine Mm.o_newH rtD H (fun W h => h) rfl rfl rfl ?_
              clear H
              intro b16 _ H nw
              have hb := nw.below

              replace HO := hidp (Sl.own_to HO.out hb); clear hb nw
              simp only [Act.put, getElem_toArray, getElem_cons_zero, getElem_cons_succ, setIfInBounds_toArray, set_cons_zero, set_cons_succ]
              refine Mm.oput0 rtD H (dR rs2 0) (fun W h => h.tail) rfl rfl (.tmp 16) (.tmp 76) rfl rfl rfl rfl (dR_one _ _) rfl ?_
              intro _ H2 st
              replace HO := hidp (Sl.own_stp HO.out st H.out.at0 (by decide)); clear st H
              have H := H2
              clear H2
              simp only [Act.put, getElem_toArray, getElem_cons_zero, getElem_cons_succ, setIfInBounds_toArray, set_cons_zero, set_cons_succ]
              apply s_val
              case ho | hw => rfl
              case hv => intro w hw; go_simp; first | done | rfl
              simp only [Act.put, getElem_toArray, getElem_cons_zero, getElem_cons_succ, setIfInBounds_toArray, set_cons_zero, set_cons_succ]
              refine NoPanic.normal ?_
              go_upto_region 16 with fail
              refine Sl.regionS [⟨b16, 26, (dR rs2 0)⟩] (fun W h => h.sub (by simp)) H (.take 0 (.take 1 (.take 2 (.take 3 (.take 4 (.take 5 (.one 6 (.one 7 (.one 8 (.take 9 .done)))))))))) (by kernel_rfl) (by kernel_rfl) (by simp [Scr.depth]) (by kernel_rfl) ?_
              clear H
              intro _ H hb
              replace HO := hidp (Sl.own_to HO.out hb); clear hb
              refine Mm.sget0 rtD (fun w h => h) rfl rfl (.tmp 16) rfl rfl rfl ?_
              simp only [Act.put, getElem_toArray, getElem_cons_zero, getElem_cons_succ, setIfInBounds_toArray, set_cons_zero, set_cons_succ]
              apply s_val
              case ho | hw => rfl
              case hv => intro w hw; go_simp; first | done | rfl
              simp only [Act.put, getElem_toArray, getElem_cons_zero, getElem_cons_succ, setIfInBounds_toArray, set_cons_zero, set_cons_succ]
              apply s_val
              case ho | hw => rfl
              case hv => intro w hw; go_simp; first | done | rfl
              simp only [Act.put, getElem_toArray, getElem_cons_zero, getElem_cons_succ, setIfInBounds_toArray, set_cons_zero, set_cons_succ]
              apply s_val
              case ho | hw => rfl
              case hv => intro w hw; go_simp; first | done | rfl
              simp only [Act.put, getElem_toArray, getElem_cons_zero, getElem_cons_succ, setIfInBounds_toArray, set_cons_zero, set_cons_succ]
              refine Sl.s_idx1 Sl.tyS (by kernel_rfl) rfl rfl (.tmp 82) (.tmp 83) rfl g off n0 c0 i rfl rfl hA ?_
              simp only [Act.put, getElem_toArray, getElem_cons_zero, getElem_cons_succ, setIfInBounds_toArray, set_cons_zero, set_cons_succ]
              refine Mm.s_ldc naS rfl rfl (.tmp 84) ⟨g, off + i, none⟩ (.string t) rfl rfl (fun W h => (h.below.cell (p := ⟨g, off + i, none⟩) hg0.out).trans HCE.out) ?_
              simp only [Act.put, getElem_toArray, getElem_cons_zero, getElem_cons_succ, setIfInBounds_toArray, set_cons_zero, set_cons_succ]
              refine Sl.o_bsS1 H (fun W h => h.sub (by simp)) rfl rfl (.tmp 85) t rfl rfl ?_
              clear H
              intro bz _ H nw
              have hb := nw.below
              replace HO := hidp (Sl.own_to HO.out hb); clear hb nw
              simp only [Act.put, getElem_toArray, getElem_cons_zero, getElem_cons_succ, setIfInBounds_toArray, set_cons_zero, set_cons_succ]
              refine o_appS rfl rfl (.tmp 81) (.tmp 86) rfl w.heap.size bz tv (strV al) t rfl rfl HO.out H.out.at0 H.out.le (by rw [strV_length]; have := HAL.out; omega) ?_
              intro v13 W1 ho9 hg9 hb9
              have hM9 := grownM H.out.tail HO.out hg9 hb9 (by intro x hx; simp at hx; rcases hx with rfl | rfl <;> exact (show 26 ≠ 9 from by decide))
              refine ⟨hM9.sub (by simp), ?_⟩
              clear H HO
              have H := hidp hM9
              have HO := hidp (show OwnV W1 w.heap.size 9 v13 (strV (al ++ [t])) from by rw [strV_snoc]; exact ho9)
              clear ho9 hg9 hb9 hM9
              simp only [Act.put, getElem_toArray, getElem_cons_zero, getElem_cons_succ, setIfInBounds_toArray, set_cons_zero, set_cons_succ]
              refine Mm.oput1 rtD H (dR rs2 0) (fun W h => h.sub (by simp)) rfl rfl (.tmp 11) (.tmp 80) rfl rfl rfl rfl (dR_one _ _) rfl ?_
              intro _ H2 st
              replace HO := hidp (Sl.own_stp HO.out st H.out.at1 (by decide)); clear st H
              have H := H2
              clear H2
              simp only [Act.put, getElem_toArray, getElem_cons_zero, getElem_cons_succ, setIfInBounds_toArray, set_cons_zero, set_cons_succ]
              apply s_val
              case ho | hw => rfl
              case hv => intro w hw; go_simp; first | done | rfl
              simp only [Act.put, getElem_toArray, getElem_cons_zero, getElem_cons_succ, setIfInBounds_toArray, set_cons_zero, set_cons_succ]
              refine NoPanic.normal ?_
              go_upto_region 17 with fail
              go_wp2_with fail
              exact ⟨⟨i + 1, rs2, (al ++ [t]), mo, _, rfl, by go_num, rfl, by omega, HKE, HCE2, by have := HAL.out; (try simp only [List.length_append, List.length_singleton]); omega, HO.out, H.out.tail⟩, by simp [intOf]; omega⟩
            · refine Mm.o_newH rtD H (fun W h => h) rfl rfl rfl ?_
              clear H
              intro b16 _ H nw
              have hb := nw.below

              replace HO := hidp (Sl.own_to HO.out hb); clear hb nw
              simp only [Act.put, getElem_toArray, getElem_cons_zero, getElem_cons_succ, setIfInBounds_toArray, set_cons_zero, set_cons_succ]
              refine Mm.o_callH (v := .tuple #[.agg (dR rs2 0).toArray, .int .i64 0]) H (fun W h => h.tail) rfl rfl 6 (#[.agg (dR rs 0).toArray, .string t]) (by go_simp; first | done | rfl) (cp.out _) ?_
              clear H
              intro _ H hb
              replace HO := hidp (Sl.own_to HO.out hb); clear hb
              simp only [Act.put, getElem_toArray, getElem_cons_zero, getElem_cons_succ, setIfInBounds_toArray, set_cons_zero, set_cons_succ]
              apply s_val
              case ho | hw => rfl
              case hv => intro w hw; go_simp; first | done | rfl
              simp only [Act.put, getElem_toArray, getElem_cons_zero, getElem_cons_succ, setIfInBounds_toArray, set_cons_zero, set_cons_succ]
              apply s_val
              case ho | hw => rfl
              case hv => intro w hw; go_simp; first | done | rfl
              simp only [Act.put, getElem_toArray, getElem_cons_zero, getElem_cons_succ, setIfInBounds_toArray, set_cons_zero, set_cons_succ]
              apply s_val
              case ho | hw => rfl
              case hv => intro w hw; go_simp; first | done | rfl
              simp only [Act.put, getElem_toArray, getElem_cons_zero, getElem_cons_succ, setIfInBounds_toArray, set_cons_zero, set_cons_succ]
              refine Mm.oput0 rtD H (dR rs2 0) (fun W h => h.tail) rfl rfl (.tmp 16) (.tmp 76) rfl rfl rfl rfl (dR_one _ _) rfl ?_
              intro _ H2 st
              replace HO := hidp (Sl.own_stp HO.out st H.out.at0 (by decide)); clear st H
              have H := H2
              clear H2
              simp only [Act.put, getElem_toArray, getElem_cons_zero, getElem_cons_succ, setIfInBounds_toArray, set_cons_zero, set_cons_succ]
              apply s_val
              case ho | hw => rfl
              case hv => intro w hw; go_simp; first | done | rfl
              simp only [Act.put, getElem_toArray, getElem_cons_zero, getElem_cons_succ, setIfInBounds_toArray, set_cons_zero, set_cons_succ]
              refine NoPanic.normal ?_
              go_upto_region 16 with fail
              refine Sl.regionS [⟨b16, 26, (dR rs2 0)⟩] (fun W h => h.sub (by simp)) H (.take 0 (.take 1 (.take 2 (.take 3 (.take 4 (.take 5 (.one 6 (.one 7 (.one 8 (.take 9 .done)))))))))) (by kernel_rfl) (by kernel_rfl) (by simp [Scr.depth]) (by kernel_rfl) ?_
              clear H
              intro _ H hb
              replace HO := hidp (Sl.own_to HO.out hb); clear hb
              refine Mm.sget0 rtD (fun w h => h) rfl rfl (.tmp 16) rfl rfl rfl ?_
              simp only [Act.put, getElem_toArray, getElem_cons_zero, getElem_cons_succ, setIfInBounds_toArray, set_cons_zero, set_cons_succ]
              apply s_val
              case ho | hw => rfl
              case hv => intro w hw; go_simp; first | done | rfl
              simp only [Act.put, getElem_toArray, getElem_cons_zero, getElem_cons_succ, setIfInBounds_toArray, set_cons_zero, set_cons_succ]
              apply s_val
              case ho | hw => rfl
              case hv => intro w hw; go_simp; first | done | rfl
              simp only [Act.put, getElem_toArray, getElem_cons_zero, getElem_cons_succ, setIfInBounds_toArray, set_cons_zero, set_cons_succ]
              apply s_val
              case ho | hw => rfl
              case hv => intro w hw; go_simp; first | done | rfl
              simp only [Act.put, getElem_toArray, getElem_cons_zero, getElem_cons_succ, setIfInBounds_toArray, set_cons_zero, set_cons_succ]
              refine Sl.s_idx1 Sl.tyS (by kernel_rfl) rfl rfl (.tmp 82) (.tmp 83) rfl g off n0 c0 i rfl rfl hA ?_
              simp only [Act.put, getElem_toArray, getElem_cons_zero, getElem_cons_succ, setIfInBounds_toArray, set_cons_zero, set_cons_succ]
              refine Mm.s_ldc naS rfl rfl (.tmp 84) ⟨g, off + i, none⟩ (.string t) rfl rfl (fun W h => (h.below.cell (p := ⟨g, off + i, none⟩) hg0.out).trans HCE.out) ?_
              simp only [Act.put, getElem_toArray, getElem_cons_zero, getElem_cons_succ, setIfInBounds_toArray, set_cons_zero, set_cons_succ]
              refine Sl.o_bsS1 H (fun W h => h.sub (by simp)) rfl rfl (.tmp 85) t rfl rfl ?_
              clear H
              intro bz _ H nw
              have hb := nw.below
              replace HO := hidp (Sl.own_to HO.out hb); clear hb nw
              simp only [Act.put, getElem_toArray, getElem_cons_zero, getElem_cons_succ, setIfInBounds_toArray, set_cons_zero, set_cons_succ]
              refine o_appS rfl rfl (.tmp 81) (.tmp 86) rfl w.heap.size bz tv (strV al) t rfl rfl HO.out H.out.at0 H.out.le (by rw [strV_length]; have := HAL.out; omega) ?_
              intro v13 W1 ho9 hg9 hb9
              have hM9 := grownM H.out.tail HO.out hg9 hb9 (by intro x hx; simp at hx; rcases hx with rfl | rfl <;> exact (show 26 ≠ 9 from by decide))
              refine ⟨hM9.sub (by simp), ?_⟩
              clear H HO
              have H := hidp hM9
              have HO := hidp (show OwnV W1 w.heap.size 9 v13 (strV (al ++ [t])) from by rw [strV_snoc]; exact ho9)
              clear ho9 hg9 hb9 hM9
              simp only [Act.put, getElem_toArray, getElem_cons_zero, getElem_cons_succ, setIfInBounds_toArray, set_cons_zero, set_cons_succ]
              refine Mm.oput1 rtD H (dR rs2 0) (fun W h => h.sub (by simp)) rfl rfl (.tmp 11) (.tmp 80) rfl rfl rfl rfl (dR_one _ _) rfl ?_
              intro _ H2 st
              replace HO := hidp (Sl.own_stp HO.out st H.out.at1 (by decide)); clear st H
              have H := H2
              clear H2
              simp only [Act.put, getElem_toArray, getElem_cons_zero, getElem_cons_succ, setIfInBounds_toArray, set_cons_zero, set_cons_succ]
              apply s_val
              case ho | hw => rfl
              case hv => intro w hw; go_simp; first | done | rfl
              simp only [Act.put, getElem_toArray, getElem_cons_zero, getElem_cons_succ, setIfInBounds_toArray, set_cons_zero, set_cons_succ]
              refine NoPanic.normal ?_
              go_upto_region 17 with fail
              go_wp2_with fail
              exact ⟨⟨i + 1, rs2, (al ++ [t]), mo, _, rfl, by go_num, rfl, by omega, HKE, HCE2, by have := HAL.out; (try simp only [List.length_append, List.length_singleton]); omega, HO.out, H.out.tail⟩, by simp [intOf]; omega⟩
        · have eE : (E == 0) = false := by rcases hp3 with rfl | rfl <;> rfl
          have HK2 := HK
          clear hp3 hp2 hp1
          by_cases hB : i < n1
          · have eB : decide ((i : Int) < (n1 : Int)) = true := by simp; omega
            obtain ⟨g1, off1, c1, ev1, hg1', hcz'⟩ := HCN.out (by omega)
            simp only [Value.slice.injEq] at ev1
            obtain ⟨rfl, -, rfl⟩ := ev1
            have hg1 := hidp hg1'
            obtain ⟨z, hz⟩ : ∃ z, ns.getD i 0 = z := ⟨_, rfl⟩
            have HCZ := hidp (show w.cell? ⟨g1, off1 + i, none⟩ = some (.int .i64 z) from by rw [← hz]; exact hcz' i hB)
            clear hz hcz' hg1' HCN
            obtain ⟨rs3, E2, cq', hq1, hq2, hq3⟩ := putc_any rs2 HR2.out 0 (Nat.zero_le _) z
            have cq := hidp cq'
            clear cq'
            rcases hq3 with ⟨rfl, m, rfl, hm, hr3⟩ | ⟨hq3, rfl⟩
            · have HKE := hidp (show Kp rs3 al (max mo m) from by rw [hr3]; exact HK2.out.cnt hm)
              have HCE2 := hidp hq1
              have hmx := fun (W : World) (ts : Array TypeId) => maxNN W ts mo m
              clear hr3 hq2
              go_upto_region 14 with fail
              refine Mm.region H (.take 0 (.take 1 (.take 2 (.take 3 (.take 4 (.two 5 (.take 6 (.take 7 (.take 8 (.one 9 (.one 10 (.take 11 .done)))))) 9 (.one 5 (.take 6 (.take 7 (.take 8 (.one 10 (.take 11 .done)))))))))))) (by kernel_rfl) (by kernel_rfl) (by simp [Scr.depth]) (by kernel_rfl) ?_
              clear H
              intro _ H hb
              replace HO := hidp (Sl.own_to HO.out hb); clear hb
              refine Mm.sget0 rtD (fun w h => h) rfl rfl (.tmp 11) rfl rfl rfl ?_
              simp only [Act.put, getElem_toArray, getElem_cons_zero, getElem_cons_succ, setIfInBounds_toArray, set_cons_zero, set_cons_succ]
              apply s_val
              case ho | hw => rfl
              case hv => intro w hw; go_simp; first | done | rfl
              simp only [Act.put, getElem_toArray, getElem_cons_zero, getElem_cons_succ, setIfInBounds_toArray, set_cons_zero, set_cons_succ]
              apply s_val
              case ho | hw => rfl
              case hv => intro w hw; go_simp; first | done | rfl
              simp only [Act.put, getElem_toArray, getElem_cons_zero, getElem_cons_succ, setIfInBounds_toArray, set_cons_zero, set_cons_succ]
              refine Sl.s_idx1 Sl.tyS (by kernel_rfl) rfl rfl (.tmp 71) (.tmp 72) rfl g off n0 c0 i rfl rfl hA ?_
              simp only [Act.put, getElem_toArray, getElem_cons_zero, getElem_cons_succ, setIfInBounds_toArray, set_cons_zero, set_cons_succ]
              refine Mm.s_ldc naS rfl rfl (.tmp 73) ⟨g, off + i, none⟩ (.string t) rfl rfl (fun W h => (h.below.cell (p := ⟨g, off + i, none⟩) hg0.out).trans HCE.out) ?_
              simp only [Act.put, getElem_toArray, getElem_cons_zero, getElem_cons_succ, setIfInBounds_toArray, set_cons_zero, set_cons_succ]
              refine ⟨?_, ?_⟩
              · refine Mm.o_callH (v := .tuple #[.agg (dR rs2 0).toArray, .int .i64 E]) H (fun W h => h) rfl rfl 6 (#[.agg (dR rs2 0).toArray, .string t]) (by go_simp; first | done | rfl) (cp.out _) ?_
                clear H
                intro _ H hb
                replace HO := hidp (Sl.own_to HO.out hb); clear hb
                simp only [Act.put, getElem_toArray, getElem_cons_zero, getElem_cons_succ, setIfInBounds_toArray, set_cons_zero, set_cons_succ]
                apply s_val
                case ho | hw => rfl
                case hv => intro w hw; go_simp; first | done | rfl
                simp only [Act.put, getElem_toArray, getElem_cons_zero, getElem_cons_succ, setIfInBounds_toArray, set_cons_zero, set_cons_succ]
                apply s_val
                case ho | hw => rfl
                case hv => intro w hw; go_simp; first | done | rfl
                simp only [Act.put, getElem_toArray, getElem_cons_zero, getElem_cons_succ, setIfInBounds_toArray, set_cons_zero, set_cons_succ]
                apply s_val
                case ho | hw => rfl
                case hv => intro w hw; go_simp; first | done | rfl
                simp only [Act.put, getElem_toArray, getElem_cons_zero, getElem_cons_succ, setIfInBounds_toArray, set_cons_zero, set_cons_succ]
                refine Mm.o_newH rtD H (fun W h => h) rfl rfl rfl ?_
                clear H
                intro b16 _ H nw
                have hb := nw.below

                replace HO := hidp (Sl.own_to HO.out hb); clear hb nw
                simp only [Act.put, getElem_toArray, getElem_cons_zero, getElem_cons_succ, setIfInBounds_toArray, set_cons_zero, set_cons_succ]
                refine Mm.oput0 rtD H (dR rs2 0) (fun W h => h.tail) rfl rfl (.tmp 16) (.tmp 76) rfl rfl rfl rfl (dR_one _ _) rfl ?_
                intro _ H2 st
                replace HO := hidp (Sl.own_stp HO.out st H.out.at0 (by decide)); clear st H
                have H := H2
                clear H2
                simp only [Act.put, getElem_toArray, getElem_cons_zero, getElem_cons_succ, setIfInBounds_toArray, set_cons_zero, set_cons_succ]
                apply s_val
                case ho | hw => rfl
                case hv => intro w hw; go_simp; first | done | rfl
                simp only [Act.put, getElem_toArray, getElem_cons_zero, getElem_cons_succ, setIfInBounds_toArray, set_cons_zero, set_cons_succ]
                refine NoPanic.normal ?_
                go_upto_region 17 with fail
                go_upto_region 18 with fail
                refine Mm.region H (.take 0 (.take 1 (.take 2 (.take 3 (.take 4 (.two 5 (.take 6 (.take 7 (.take 8 (.one 9 (.one 10 (.take 11 .done)))))) 9 (.one 5 (.take 6 (.take 7 (.take 8 (.one 10 (.take 11 .done)))))))))))) (by kernel_rfl) (by kernel_rfl) (by simp [Scr.depth]) (by kernel_rfl) ?_
                clear H
                intro _ H hb
                replace HO := hidp (Sl.own_to HO.out hb); clear hb
                refine Mm.sget1 rtD (fun w h => h) rfl rfl (.tmp 11) rfl rfl rfl ?_
                simp only [Act.put, getElem_toArray, getElem_cons_zero, getElem_cons_succ, setIfInBounds_toArray, set_cons_zero, set_cons_succ]
                apply s_val
                case ho | hw => rfl
                case hv => intro w hw; go_simp; first | done | rfl
                simp only [Act.put, getElem_toArray, getElem_cons_zero, getElem_cons_succ, setIfInBounds_toArray, set_cons_zero, set_cons_succ]
                apply s_val
                case ho | hw => rfl
                case hv => intro w hw; go_simp; first | done | rfl
                simp only [Act.put, getElem_toArray, getElem_cons_zero, getElem_cons_succ, setIfInBounds_toArray, set_cons_zero, set_cons_succ]
                refine Sl.s_idx1 Sl.tyI (by kernel_rfl) rfl rfl (.tmp 94) (.tmp 95) rfl g1 off1 n1 c1 i rfl rfl hB ?_
                simp only [Act.put, getElem_toArray, getElem_cons_zero, getElem_cons_succ, setIfInBounds_toArray, set_cons_zero, set_cons_succ]
                refine Mm.s_ldc naI rfl rfl (.tmp 96) ⟨g1, off1 + i, none⟩ (.int .i64 (m : Int)) rfl rfl (fun W h => (h.below.cell (p := ⟨g1, off1 + i, none⟩) hg1.out).trans HCZ.out) ?_
                simp only [Act.put, getElem_toArray, getElem_cons_zero, getElem_cons_succ, setIfInBounds_toArray, set_cons_zero, set_cons_succ]
                refine ⟨?_, ?_⟩
                · refine Mm.o_callH (v := .tuple #[.agg (dR rs3 0).toArray, .int .i64 0]) H (fun W h => h) rfl rfl 7 (#[.agg (dR rs2 0).toArray, .int .i64 (m : Int)]) (by go_simp; first | done | rfl) (cq.out _) ?_
                  clear H
                  intro _ H hb
                  replace HO := hidp (Sl.own_to HO.out hb); clear hb
                  simp only [Act.put, getElem_toArray, getElem_cons_zero, getElem_cons_succ, setIfInBounds_toArray, set_cons_zero, set_cons_succ]
                  apply s_val
                  case ho | hw => rfl
                  case hv => intro w hw; go_simp; first | done | rfl
                  simp only [Act.put, getElem_toArray, getElem_cons_zero, getElem_cons_succ, setIfInBounds_toArray, set_cons_zero, set_cons_succ]
                  apply s_val
                  case ho | hw => rfl
                  case hv => intro w hw; go_simp; first | done | rfl
                  simp only [Act.put, getElem_toArray, getElem_cons_zero, getElem_cons_succ, setIfInBounds_toArray, set_cons_zero, set_cons_succ]
                  apply s_val
                  case ho | hw => rfl
                  case hv => intro w hw; go_simp; first | done | rfl
                  simp only [Act.put, getElem_toArray, getElem_cons_zero, getElem_cons_succ, setIfInBounds_toArray, set_cons_zero, set_cons_succ]
                  refine Mm.o_newH rtD H (fun W h => h) rfl rfl rfl ?_
                  clear H
                  intro b18 _ H nw
                  have hb := nw.below
                
                  replace HO := hidp (Sl.own_to HO.out hb); clear hb nw
                  simp only [Act.put, getElem_toArray, getElem_cons_zero, getElem_cons_succ, setIfInBounds_toArray, set_cons_zero, set_cons_succ]
                  refine Mm.oput0 rtD H (dR rs3 0) (fun W h => h.tail) rfl rfl (.tmp 18) (.tmp 99) rfl rfl rfl rfl (dR_one _ _) rfl ?_
                  intro _ H2 st
                  replace HO := hidp (Sl.own_stp HO.out st H.out.at0 (by decide)); clear st H
                  have H := H2
                  clear H2
                  simp only [Act.put, getElem_toArray, getElem_cons_zero, getElem_cons_succ, setIfInBounds_toArray, set_cons_zero, set_cons_succ]
                  apply s_val
                  case ho | hw => rfl
                  case hv => intro w hw; go_simp; first | done | rfl
                  simp only [Act.put, getElem_toArray, getElem_cons_zero, getElem_cons_succ, setIfInBounds_toArray, set_cons_zero, set_cons_succ]
                  refine NoPanic.normal ?_
                  go_upto_region 20 with fail
                  refine Sl.regionS [⟨b18, 26, (dR rs3 0)⟩] (fun W h => h.sub (by simp)) H (.take 0 (.take 1 (.take 2 (.take 3 (.take 4 (.take 5 (.take 6 (.one 7 (.take 8 .done))))))))) (by kernel_rfl) (by kernel_rfl) (by simp [Scr.depth]) (by kernel_rfl) ?_
                  clear H
                  intro _ H hb
                  replace HO := hidp (Sl.own_to HO.out hb); clear hb
                  refine Mm.sget0 rtD (fun w h => h) rfl rfl (.tmp 18) rfl rfl rfl ?_
                  simp only [Act.put, getElem_toArray, getElem_cons_zero, getElem_cons_succ, setIfInBounds_toArray, set_cons_zero, set_cons_succ]
                  apply s_val
                  case ho | hw => rfl
                  case hv => intro w hw; go_simp; first | done | rfl
                  simp only [Act.put, getElem_toArray, getElem_cons_zero, getElem_cons_succ, setIfInBounds_toArray, set_cons_zero, set_cons_succ]
                  apply s_val
                  case ho | hw => rfl
                  case hv => intro w hw; go_simp; first | done | rfl
                  simp only [Act.put, getElem_toArray, getElem_cons_zero, getElem_cons_succ, setIfInBounds_toArray, set_cons_zero, set_cons_succ]
                  apply s_val
                  case ho | hw => rfl
                  case hv => intro w hw; go_simp; first | done | rfl
                  simp only [Act.put, getElem_toArray, getElem_cons_zero, getElem_cons_succ, setIfInBounds_toArray, set_cons_zero, set_cons_succ]
                  refine Sl.s_idx1 Sl.tyI (by kernel_rfl) rfl rfl (.tmp 105) (.tmp 106) rfl g1 off1 n1 c1 i rfl rfl hB ?_
                  simp only [Act.put, getElem_toArray, getElem_cons_zero, getElem_cons_succ, setIfInBounds_toArray, set_cons_zero, set_cons_succ]
                  refine Mm.s_ldc naI rfl rfl (.tmp 107) ⟨g1, off1 + i, none⟩ (.int .i64 (m : Int)) rfl rfl (fun W h => (h.below.cell (p := ⟨g1, off1 + i, none⟩) hg1.out).trans HCZ.out) ?_
                  simp only [Act.put, getElem_toArray, getElem_cons_zero, getElem_cons_succ, setIfInBounds_toArray, set_cons_zero, set_cons_succ]
                  apply s_val
                  case ho | hw => rfl
                  case hv => intro w hw; go_simp; first | done | rfl
                  simp only [Act.put, getElem_toArray, getElem_cons_zero, getElem_cons_succ, setIfInBounds_toArray, set_cons_zero, set_cons_succ]
                  refine Mm.oput2 rtD H (dR rs3 0) (fun W h => h.sub (by simp)) rfl rfl (.tmp 11) (.tmp 103) rfl rfl rfl rfl (dR_one _ _) rfl ?_
                  intro _ H2 st
                  replace HO := hidp (Sl.own_stp HO.out st H.out.at2 (by decide)); clear st H
                  have H := H2
                  clear H2
                  simp only [Act.put, getElem_toArray, getElem_cons_zero, getElem_cons_succ, setIfInBounds_toArray, set_cons_zero, set_cons_succ]
                  apply s_val
                  case ho | hw => rfl
                  case hv => intro w hw; go_simp; first | done | rfl
                  simp only [Act.put, getElem_toArray, getElem_cons_zero, getElem_cons_succ, setIfInBounds_toArray, set_cons_zero, set_cons_succ]
                  refine NoPanic.normal ?_
                  go_wp2_with fail
                  exact ⟨⟨i + 1, rs3, al, (max mo m), _, rfl, by go_num, rfl, by omega, HKE, HCE2, by have := HAL.out; (try simp only [List.length_append, List.length_singleton]); omega, HO.out, H.out.tail.tail⟩, by simp [intOf]; omega⟩
                · refine Mm.o_newH rtD H (fun W h => h) rfl rfl rfl ?_
                  clear H
                  intro b18 _ H nw
                  have hb := nw.below
                
                  replace HO := hidp (Sl.own_to HO.out hb); clear hb nw
                  simp only [Act.put, getElem_toArray, getElem_cons_zero, getElem_cons_succ, setIfInBounds_toArray, set_cons_zero, set_cons_succ]
                  refine Mm.o_callH (v := .tuple #[.agg (dR rs3 0).toArray, .int .i64 0]) H (fun W h => h.tail) rfl rfl 7 (#[.agg (dR rs2 0).toArray, .int .i64 (m : Int)]) (by go_simp; first | done | rfl) (cq.out _) ?_
                  clear H
                  intro _ H hb
                  replace HO := hidp (Sl.own_to HO.out hb); clear hb
                  simp only [Act.put, getElem_toArray, getElem_cons_zero, getElem_cons_succ, setIfInBounds_toArray, set_cons_zero, set_cons_succ]
                  apply s_val
                  case ho | hw => rfl
                  case hv => intro w hw; go_simp; first | done | rfl
                  simp only [Act.put, getElem_toArray, getElem_cons_zero, getElem_cons_succ, setIfInBounds_toArray, set_cons_zero, set_cons_succ]
                  apply s_val
                  case ho | hw => rfl
                  case hv => intro w hw; go_simp; first | done | rfl
                  simp only [Act.put, getElem_toArray, getElem_cons_zero, getElem_cons_succ, setIfInBounds_toArray, set_cons_zero, set_cons_succ]
                  apply s_val
                  case ho | hw => rfl
                  case hv => intro w hw; go_simp; first | done | rfl
                  simp only [Act.put, getElem_toArray, getElem_cons_zero, getElem_cons_succ, setIfInBounds_toArray, set_cons_zero, set_cons_succ]
                  refine Mm.oput0 rtD H (dR rs3 0) (fun W h => h.tail) rfl rfl (.tmp 18) (.tmp 99) rfl rfl rfl rfl (dR_one _ _) rfl ?_
                  intro _ H2 st
                  replace HO := hidp (Sl.own_stp HO.out st H.out.at0 (by decide)); clear st H
                  have H := H2
                  clear H2
                  simp only [Act.put, getElem_toArray, getElem_cons_zero, getElem_cons_succ, setIfInBounds_toArray, set_cons_zero, set_cons_succ]
                  apply s_val
                  case ho | hw => rfl
                  case hv => intro w hw; go_simp; first | done | rfl
                  simp only [Act.put, getElem_toArray, getElem_cons_zero, getElem_cons_succ, setIfInBounds_toArray, set_cons_zero, set_cons_succ]
                  refine NoPanic.normal ?_
                  go_upto_region 20 with fail
                  refine Sl.regionS [⟨b18, 26, (dR rs3 0)⟩] (fun W h => h.sub (by simp)) H (.take 0 (.take 1 (.take 2 (.take 3 (.take 4 (.take 5 (.take 6 (.one 7 (.take 8 .done))))))))) (by kernel_rfl) (by kernel_rfl) (by simp [Scr.depth]) (by kernel_rfl) ?_
                  clear H
                  intro _ H hb
                  replace HO := hidp (Sl.own_to HO.out hb); clear hb
                  refine Mm.sget0 rtD (fun w h => h) rfl rfl (.tmp 18) rfl rfl rfl ?_
                  simp only [Act.put, getElem_toArray, getElem_cons_zero, getElem_cons_succ, setIfInBounds_toArray, set_cons_zero, set_cons_succ]
                  apply s_val
                  case ho | hw => rfl
                  case hv => intro w hw; go_simp; first | done | rfl
                  simp only [Act.put, getElem_toArray, getElem_cons_zero, getElem_cons_succ, setIfInBounds_toArray, set_cons_zero, set_cons_succ]
                  apply s_val
                  case ho | hw => rfl
                  case hv => intro w hw; go_simp; first | done | rfl
                  simp only [Act.put, getElem_toArray, getElem_cons_zero, getElem_cons_succ, setIfInBounds_toArray, set_cons_zero, set_cons_succ]
                  apply s_val
                  case ho | hw => rfl
                  case hv => intro w hw; go_simp; first | done | rfl
                  simp only [Act.put, getElem_toArray, getElem_cons_zero, getElem_cons_succ, setIfInBounds_toArray, set_cons_zero, set_cons_succ]
                  refine Sl.s_idx1 Sl.tyI (by kernel_rfl) rfl rfl (.tmp 105) (.tmp 106) rfl g1 off1 n1 c1 i rfl rfl hB ?_
                  simp only [Act.put, getElem_toArray, getElem_cons_zero, getElem_cons_succ, setIfInBounds_toArray, set_cons_zero, set_cons_succ]
                  refine Mm.s_ldc naI rfl rfl (.tmp 107) ⟨g1, off1 + i, none⟩ (.int .i64 (m : Int)) rfl rfl (fun W h => (h.below.cell (p := ⟨g1, off1 + i, none⟩) hg1.out).trans HCZ.out) ?_
                  simp only [Act.put, getElem_toArray, getElem_cons_zero, getElem_cons_succ, setIfInBounds_toArray, set_cons_zero, set_cons_succ]
                  apply s_val
                  case ho | hw => rfl
                  case hv => intro w hw; go_simp; first | done | rfl
                  simp only [Act.put, getElem_toArray, getElem_cons_zero, getElem_cons_succ, setIfInBounds_toArray, set_cons_zero, set_cons_succ]
                  refine Mm.oput2 rtD H (dR rs3 0) (fun W h => h.sub (by simp)) rfl rfl (.tmp 11) (.tmp 103) rfl rfl rfl rfl (dR_one _ _) rfl ?_
                  intro _ H2 st
                  replace HO := hidp (Sl.own_stp HO.out st H.out.at2 (by decide)); clear st H
                  have H := H2
                  clear H2
                  simp only [Act.put, getElem_toArray, getElem_cons_zero, getElem_cons_succ, setIfInBounds_toArray, set_cons_zero, set_cons_succ]
                  apply s_val
                  case ho | hw => rfl
                  case hv => intro w hw; go_simp; first | done | rfl
                  simp only [Act.put, getElem_toArray, getElem_cons_zero, getElem_cons_succ, setIfInBounds_toArray, set_cons_zero, set_cons_succ]
                  refine NoPanic.normal ?_
                  go_wp2_with fail
                  exact ⟨⟨i + 1, rs3, al, (max mo m), _, rfl, by go_num, rfl, by omega, HKE, HCE2, by have := HAL.out; (try simp only [List.length_append, List.length_singleton]); omega, HO.out, H.out.tail.tail⟩, by simp [intOf]; omega⟩
              · refine Mm.o_newH rtD H (fun W h => h) rfl rfl rfl ?_
                clear H
                intro b16 _ H nw
                have hb := nw.below

                replace HO := hidp (Sl.own_to HO.out hb); clear hb nw
                simp only [Act.put, getElem_toArray, getElem_cons_zero, getElem_cons_succ, setIfInBounds_toArray, set_cons_zero, set_cons_succ]
                refine Mm.o_callH (v := .tuple #[.agg (dR rs2 0).toArray, .int .i64 E]) H (fun W h => h.tail) rfl rfl 6 (#[.agg (dR rs2 0).toArray, .string t]) (by go_simp; first | done | rfl) (cp.out _) ?_
                clear H
                intro _ H hb
                replace HO := hidp (Sl.own_to HO.out hb); clear hb
                simp only [Act.put, getElem_toArray, getElem_cons_zero, getElem_cons_succ, setIfInBounds_toArray, set_cons_zero, set_cons_succ]
                apply s_val
                case ho | hw => rfl
                case hv => intro w hw; go_simp; first | done | rfl
                simp only [Act.put, getElem_toArray, getElem_cons_zero, getElem_cons_succ, setIfInBounds_toArray, set_cons_zero, set_cons_succ]
                apply s_val
                case ho | hw => rfl
                case hv => intro w hw; go_simp; first | done | rfl
                simp only [Act.put, getElem_toArray, getElem_cons_zero, getElem_cons_succ, setIfInBounds_toArray, set_cons_zero, set_cons_succ]
                apply s_val
                case ho | hw => rfl
                case hv => intro w hw; go_simp; first | done | rfl
                simp only [Act.put, getElem_toArray, getElem_cons_zero, getElem_cons_succ, setIfInBounds_toArray, set_cons_zero, set_cons_succ]
                refine Mm.oput0 rtD H (dR rs2 0) (fun W h => h.tail) rfl rfl (.tmp 16) (.tmp 76) rfl rfl rfl rfl (dR_one _ _) rfl ?_
                intro _ H2 st
                replace HO := hidp (Sl.own_stp HO.out st H.out.at0 (by decide)); clear st H
                have H := H2
                clear H2
                simp only [Act.put, getElem_toArray, getElem_cons_zero, getElem_cons_succ, setIfInBounds_toArray, set_cons_zero, set_cons_succ]
                apply s_val
                case ho | hw => rfl
                case hv => intro w hw; go_simp; first | done | rfl
                simp only [Act.put, getElem_toArray, getElem_cons_zero, getElem_cons_succ, setIfInBounds_toArray, set_cons_zero, set_cons_succ]
                refine NoPanic.normal ?_
                go_upto_region 17 with fail
                go_upto_region 18 with fail
                refine Mm.region H (.take 0 (.take 1 (.take 2 (.take 3 (.take 4 (.two 5 (.take 6 (.take 7 (.take 8 (.one 9 (.one 10 (.take 11 .done)))))) 9 (.one 5 (.take 6 (.take 7 (.take 8 (.one 10 (.take 11 .done)))))))))))) (by kernel_rfl) (by kernel_rfl) (by simp [Scr.depth]) (by kernel_rfl) ?_
                clear H
                intro _ H hb
                replace HO := hidp (Sl.own_to HO.out hb); clear hb
                refine Mm.sget1 rtD (fun w h => h) rfl rfl (.tmp 11) rfl rfl rfl ?_
                simp only [Act.put, getElem_toArray, getElem_cons_zero, getElem_cons_succ, setIfInBounds_toArray, set_cons_zero, set_cons_succ]
                apply s_val
                case ho | hw => rfl
                case hv => intro w hw; go_simp; first | done | rfl
                simp only [Act.put, getElem_toArray, getElem_cons_zero, getElem_cons_succ, setIfInBounds_toArray, set_cons_zero, set_cons_succ]
                apply s_val
                case ho | hw => rfl
                case hv => intro w hw; go_simp; first | done | rfl
                simp only [Act.put, getElem_toArray, getElem_cons_zero, getElem_cons_succ, setIfInBounds_toArray, set_cons_zero, set_cons_succ]
                refine Sl.s_idx1 Sl.tyI (by kernel_rfl) rfl rfl (.tmp 94) (.tmp 95) rfl g1 off1 n1 c1 i rfl rfl hB ?_
                simp only [Act.put, getElem_toArray, getElem_cons_zero, getElem_cons_succ, setIfInBounds_toArray, set_cons_zero, set_cons_succ]
                refine Mm.s_ldc naI rfl rfl (.tmp 96) ⟨g1, off1 + i, none⟩ (.int .i64 (m : Int)) rfl rfl (fun W h => (h.below.cell (p := ⟨g1, off1 + i, none⟩) hg1.out).trans HCZ.out) ?_
                simp only [Act.put, getElem_toArray, getElem_cons_zero, getElem_cons_succ, setIfInBounds_toArray, set_cons_zero, set_cons_succ]
                refine ⟨?_, ?_⟩
                · refine Mm.o_callH (v := .tuple #[.agg (dR rs3 0).toArray, .int .i64 0]) H (fun W h => h) rfl rfl 7 (#[.agg (dR rs2 0).toArray, .int .i64 (m : Int)]) (by go_simp; first | done | rfl) (cq.out _) ?_
                  clear H
                  intro _ H hb
                  replace HO := hidp (Sl.own_to HO.out hb); clear hb
                  simp only [Act.put, getElem_toArray, getElem_cons_zero, getElem_cons_succ, setIfInBounds_toArray, set_cons_zero, set_cons_succ]
                  apply s_val
                  case ho | hw => rfl
                  case hv => intro w hw; go_simp; first | done | rfl
                  simp only [Act.put, getElem_toArray, getElem_cons_zero, getElem_cons_succ, setIfInBounds_toArray, set_cons_zero, set_cons_succ]
                  apply s_val
                  case ho | hw => rfl
                  case hv => intro w hw; go_simp; first | done | rfl
                  simp only [Act.put, getElem_toArray, getElem_cons_zero, getElem_cons_succ, setIfInBounds_toArray, set_cons_zero, set_cons_succ]
                  apply s_val
                  case ho | hw => rfl
                  case hv => intro w hw; go_simp; first | done | rfl
                  simp only [Act.put, getElem_toArray, getElem_cons_zero, getElem_cons_succ, setIfInBounds_toArray, set_cons_zero, set_cons_succ]
                  refine Mm.o_newH rtD H (fun W h => h) rfl rfl rfl ?_
                  clear H
                  intro b18 _ H nw
                  have hb := nw.below
                
                  replace HO := hidp (Sl.own_to HO.out hb); clear hb nw
                  simp only [Act.put, getElem_toArray, getElem_cons_zero, getElem_cons_succ, setIfInBounds_toArray, set_cons_zero, set_cons_succ]
                  refine Mm.oput0 rtD H (dR rs3 0) (fun W h => h.tail) rfl rfl (.tmp 18) (.tmp 99) rfl rfl rfl rfl (dR_one _ _) rfl ?_
                  intro _ H2 st
                  replace HO := hidp (Sl.own_stp HO.out st H.out.at0 (by decide)); clear st H
                  have H := H2
                  clear H2
                  simp only [Act.put, getElem_toArray, getElem_cons_zero, getElem_cons_succ, setIfInBounds_toArray, set_cons_zero, set_cons_succ]
                  apply s_val
                  case ho | hw => rfl
                  case hv => intro w hw; go_simp; first | done | rfl
                  simp only [Act.put, getElem_toArray, getElem_cons_zero, getElem_cons_succ, setIfInBounds_toArray, set_cons_zero, set_cons_succ]
                  refine NoPanic.normal ?_
                  go_upto_region 20 with fail
                  refine Sl.regionS [⟨b18, 26, (dR rs3 0)⟩] (fun W h => h.sub (by simp)) H (.take 0 (.take 1 (.take 2 (.take 3 (.take 4 (.take 5 (.take 6 (.one 7 (.take 8 .done))))))))) (by kernel_rfl) (by kernel_rfl) (by simp [Scr.depth]) (by kernel_rfl) ?_
                  clear H
                  intro _ H hb
                  replace HO := hidp (Sl.own_to HO.out hb); clear hb
                  refine Mm.sget0 rtD (fun w h => h) rfl rfl (.tmp 18) rfl rfl rfl ?_
                  simp only [Act.put, getElem_toArray, getElem_cons_zero, getElem_cons_succ, setIfInBounds_toArray, set_cons_zero, set_cons_succ]
                  apply s_val
                  case ho | hw => rfl
                  case hv => intro w hw; go_simp; first | done | rfl
                  simp only [Act.put, getElem_toArray, getElem_cons_zero, getElem_cons_succ, setIfInBounds_toArray, set_cons_zero, set_cons_succ]
                  apply s_val
                  case ho | hw => rfl
                  case hv => intro w hw; go_simp; first | done | rfl
                  simp only [Act.put, getElem_toArray, getElem_cons_zero, getElem_cons_succ, setIfInBounds_toArray, set_cons_zero, set_cons_succ]
                  apply s_val
                  case ho | hw => rfl
                  case hv => intro w hw; go_simp; first | done | rfl
                  simp only [Act.put, getElem_toArray, getElem_cons_zero, getElem_cons_succ, setIfInBounds_toArray, set_cons_zero, set_cons_succ]
                  refine Sl.s_idx1 Sl.tyI (by kernel_rfl) rfl rfl (.tmp 105) (.tmp 106) rfl g1 off1 n1 c1 i rfl rfl hB ?_
                  simp only [Act.put, getElem_toArray, getElem_cons_zero, getElem_cons_succ, setIfInBounds_toArray, set_cons_zero, set_cons_succ]
                  refine Mm.s_ldc naI rfl rfl (.tmp 107) ⟨g1, off1 + i, none⟩ (.int .i64 (m : Int)) rfl rfl (fun W h => (h.below.cell (p := ⟨g1, off1 + i, none⟩) hg1.out).trans HCZ.out) ?_
                  simp only [Act.put, getElem_toArray, getElem_cons_zero, getElem_cons_succ, setIfInBounds_toArray, set_cons_zero, set_cons_succ]
                  apply s_val
                  case ho | hw => rfl
                  case hv => intro w hw; go_simp; first | done | rfl
                  simp only [Act.put, getElem_toArray, getElem_cons_zero, getElem_cons_succ, setIfInBounds_toArray, set_cons_zero, set_cons_succ]
                  refine Mm.oput2 rtD H (dR rs3 0) (fun W h => h.sub (by simp)) rfl rfl (.tmp 11) (.tmp 103) rfl rfl rfl rfl (dR_one _ _) rfl ?_
                  intro _ H2 st
                  replace HO := hidp (Sl.own_stp HO.out st H.out.at2 (by decide)); clear st H
                  have H := H2
                  clear H2
                  simp only [Act.put, getElem_toArray, getElem_cons_zero, getElem_cons_succ, setIfInBounds_toArray, set_cons_zero, set_cons_succ]
                  apply s_val
                  case ho | hw => rfl
                  case hv => intro w hw; go_simp; first | done | rfl
                  simp only [Act.put, getElem_toArray, getElem_cons_zero, getElem_cons_succ, setIfInBounds_toArray, set_cons_zero, set_cons_succ]
                  refine NoPanic.normal ?_
                  go_wp2_with fail
                  exact ⟨⟨i + 1, rs3, al, (max mo m), _, rfl, by go_num, rfl, by omega, HKE, HCE2, by have := HAL.out; (try simp only [List.length_append, List.length_singleton]); omega, HO.out, H.out.tail.tail⟩, by simp [intOf]; omega⟩
                · refine Mm.o_newH rtD H (fun W h => h) rfl rfl rfl ?_
                  clear H
                  intro b18 _ H nw
                  have hb := nw.below
                
                  replace HO := hidp (Sl.own_to HO.out hb); clear hb nw
                  simp only [Act.put, getElem_toArray, getElem_cons_zero, getElem_cons_succ, setIfInBounds_toArray, set_cons_zero, set_cons_succ]
                  refine Mm.o_callH (v := .tuple #[.agg (dR rs3 0).toArray, .int .i64 0]) H (fun W h => h.tail) rfl rfl 7 (#[.agg (dR rs2 0).toArray, .int .i64 (m : Int)]) (by go_simp; first | done | rfl) (cq.out _) ?_
                  clear H
                  intro _ H hb
                  replace HO := hidp (Sl.own_to HO.out hb); clear hb
                  simp only [Act.put, getElem_toArray, getElem_cons_zero, getElem_cons_succ, setIfInBounds_toArray, set_cons_zero, set_cons_succ]
                  apply s_val
                  case ho | hw => rfl
                  case hv => intro w hw; go_simp; first | done | rfl
                  simp only [Act.put, getElem_toArray, getElem_cons_zero, getElem_cons_succ, setIfInBounds_toArray, set_cons_zero, set_cons_succ]
                  apply s_val
                  case ho | hw => rfl
                  case hv => intro w hw; go_simp; first | done | rfl
                  simp only [Act.put, getElem_toArray, getElem_cons_zero, getElem_cons_succ, setIfInBounds_toArray, set_cons_zero, set_cons_succ]
                  apply s_val
                  case ho | hw => rfl
                  case hv => intro w hw; go_simp; first | done | rfl
                  simp only [Act.put, getElem_toArray, getElem_cons_zero, getElem_cons_succ, setIfInBounds_toArray, set_cons_zero, set_cons_succ]
                  refine Mm.oput0 rtD H (dR rs3 0) (fun W h => h.tail) rfl rfl (.tmp 18) (.tmp 99) rfl rfl rfl rfl (dR_one _ _) rfl ?_
                  intro _ H2 st
                  replace HO := hidp (Sl.own_stp HO.out st H.out.at0 (by decide)); clear st H
                  have H := H2
                  clear H2
                  simp only [Act.put, getElem_toArray, getElem_cons_zero, getElem_cons_succ, setIfInBounds_toArray, set_cons_zero, set_cons_succ]
                  apply s_val
                  case ho | hw => rfl
                  case hv => intro w hw; go_simp; first | done | rfl
                  simp only [Act.put, getElem_toArray, getElem_cons_zero, getElem_cons_succ, setIfInBounds_toArray, set_cons_zero, set_cons_succ]
                  refine NoPanic.normal ?_
                  go_upto_region 20 with fail
                  refine Sl.regionS [⟨b18, 26, (dR rs3 0)⟩] (fun W h => h.sub (by simp)) H (.take 0 (.take 1 (.take 2 (.take 3 (.take 4 (.take 5 (.take 6 (.one 7 (.take 8 .done))))))))) (by kernel_rfl) (by kernel_rfl) (by simp [Scr.depth]) (by kernel_rfl) ?_
                  clear H
                  intro _ H hb
                  replace HO := hidp (Sl.own_to HO.out hb); clear hb
                  refine Mm.sget0 rtD (fun w h => h) rfl rfl (.tmp 18) rfl rfl rfl ?_
                  simp only [Act.put, getElem_toArray, getElem_cons_zero, getElem_cons_succ, setIfInBounds_toArray, set_cons_zero, set_cons_succ]
                  apply s_val
                  case ho | hw => rfl
                  case hv => intro w hw; go_simp; first | done | rfl
                  simp only [Act.put, getElem_toArray, getElem_cons_zero, getElem_cons_succ, setIfInBounds_toArray, set_cons_zero, set_cons_succ]
                  apply s_val
                  case ho | hw => rfl
                  case hv => intro w hw; go_simp; first | done | rfl
                  simp only [Act.put, getElem_toArray, getElem_cons_zero, getElem_cons_succ, setIfInBounds_toArray, set_cons_zero, set_cons_succ]
                  apply s_val
                  case ho | hw => rfl
                  case hv => intro w hw; go_simp; first | done | rfl
                  simp only [Act.put, getElem_toArray, getElem_cons_zero, getElem_cons_succ, setIfInBounds_toArray, set_cons_zero, set_cons_succ]
                  refine Sl.s_idx1 Sl.tyI (by kernel_rfl) rfl rfl (.tmp 105) (.tmp 106) rfl g1 off1 n1 c1 i rfl rfl hB ?_
                  simp only [Act.put, getElem_toArray, getElem_cons_zero, getElem_cons_succ, setIfInBounds_toArray, set_cons_zero, set_cons_succ]
                  refine Mm.s_ldc naI rfl rfl (.tmp 107) ⟨g1, off1 + i, none⟩ (.int .i64 (m : Int)) rfl rfl (fun W h => (h.below.cell (p := ⟨g1, off1 + i, none⟩) hg1.out).trans HCZ.out) ?_
                  simp only [Act.put, getElem_toArray, getElem_cons_zero, getElem_cons_succ, setIfInBounds_toArray, set_cons_zero, set_cons_succ]
                  apply s_val
                  case ho | hw => rfl
                  case hv => intro w hw; go_simp; first | done | rfl
                  simp only [Act.put, getElem_toArray, getElem_cons_zero, getElem_cons_succ, setIfInBounds_toArray, set_cons_zero, set_cons_succ]
                  refine Mm.oput2 rtD H (dR rs3 0) (fun W h => h.sub (by simp)) rfl rfl (.tmp 11) (.tmp 103) rfl rfl rfl rfl (dR_one _ _) rfl ?_
                  intro _ H2 st
                  replace HO := hidp (Sl.own_stp HO.out st H.out.at2 (by decide)); clear st H
                  have H := H2
                  clear H2
                  simp only [Act.put, getElem_toArray, getElem_cons_zero, getElem_cons_succ, setIfInBounds_toArray, set_cons_zero, set_cons_succ]
                  apply s_val
                  case ho | hw => rfl
                  case hv => intro w hw; go_simp; first | done | rfl
                  simp only [Act.put, getElem_toArray, getElem_cons_zero, getElem_cons_succ, setIfInBounds_toArray, set_cons_zero, set_cons_succ]
                  refine NoPanic.normal ?_
                  go_wp2_with fail
                  exact ⟨⟨i + 1, rs3, al, (max mo m), _, rfl, by go_num, rfl, by omega, HKE, HCE2, by have := HAL.out; (try simp only [List.length_append, List.length_singleton]); omega, HO.out, H.out.tail.tail⟩, by simp [intOf]; omega⟩
            · have eE2 : (E2 == 0) = false := by rcases hq3 with rfl | rfl <;> rfl
              have HKE := HK2
              have HCE2 := HR2
              clear hq3 hq2
              go_upto_region 14 with fail
              refine Mm.region H (.take 0 (.take 1 (.take 2 (.take 3 (.take 4 (.two 5 (.take 6 (.take 7 (.take 8 (.one 9 (.one 10 (.take 11 .done)))))) 9 (.one 5 (.take 6 (.take 7 (.take 8 (.one 10 (.take 11 .done)))))))))))) (by kernel_rfl) (by kernel_rfl) (by simp [Scr.depth]) (by kernel_rfl) ?_
              clear H
              intro _ H hb
              replace HO := hidp (Sl.own_to HO.out hb); clear hb
              refine Mm.sget0 rtD (fun w h => h) rfl rfl (.tmp 11) rfl rfl rfl ?_
              simp only [Act.put, getElem_toArray, getElem_cons_zero, getElem_cons_succ, setIfInBounds_toArray, set_cons_zero, set_cons_succ]
              apply s_val
              case ho | hw => rfl
              case hv => intro w hw; go_simp; first | done | rfl
              simp only [Act.put, getElem_toArray, getElem_cons_zero, getElem_cons_succ, setIfInBounds_toArray, set_cons_zero, set_cons_succ]
              apply s_val
              case ho | hw => rfl
              case hv => intro w hw; go_simp; first | done | rfl
              simp only [Act.put, getElem_toArray, getElem_cons_zero, getElem_cons_succ, setIfInBounds_toArray, set_cons_zero, set_cons_succ]
              refine Sl.s_idx1 Sl.tyS (by kernel_rfl) rfl rfl (.tmp 71) (.tmp 72) rfl g off n0 c0 i rfl rfl hA ?_
              simp only [Act.put, getElem_toArray, getElem_cons_zero, getElem_cons_succ, setIfInBounds_toArray, set_cons_zero, set_cons_succ]
              refine Mm.s_ldc naS rfl rfl (.tmp 73) ⟨g, off + i, none⟩ (.string t) rfl rfl (fun W h => (h.below.cell (p := ⟨g, off + i, none⟩) hg0.out).trans HCE.out) ?_
              simp only [Act.put, getElem_toArray, getElem_cons_zero, getElem_cons_succ, setIfInBounds_toArray, set_cons_zero, set_cons_succ]
              refine ⟨?_, ?_⟩
              · refine Mm.o_callH (v := .tuple #[.agg (dR rs3 0).toArray, .int .i64 E]) H (fun W h => h) rfl rfl 6 (#[.agg (dR rs3 0).toArray, .string t]) (by go_simp; first | done | rfl) (cp.out _) ?_
                clear H
                intro _ H hb
                replace HO := hidp (Sl.own_to HO.out hb); clear hb
                simp only [Act.put, getElem_toArray, getElem_cons_zero, getElem_cons_succ, setIfInBounds_toArray, set_cons_zero, set_cons_succ]
                apply s_val
                case ho | hw => rfl
                case hv => intro w hw; go_simp; first | done | rfl
                simp only [Act.put, getElem_toArray, getElem_cons_zero, getElem_cons_succ, setIfInBounds_toArray, set_cons_zero, set_cons_succ]
                apply s_val
                case ho | hw => rfl
                case hv => intro w hw; go_simp; first | done | rfl
                simp only [Act.put, getElem_toArray, getElem_cons_zero, getElem_cons_succ, setIfInBounds_toArray, set_cons_zero, set_cons_succ]
                apply s_val
                case ho | hw => rfl
                case hv => intro w hw; go_simp; first | done | rfl
                simp only [Act.put, getElem_toArray, getElem_cons_zero, getElem_cons_succ, setIfInBounds_toArray, set_cons_zero, set_cons_succ]
                refine Mm.o_newH rtD H (fun W h => h) rfl rfl rfl ?_
                clear H
                intro b16 _ H nw
                have hb := nw.below

                replace HO := hidp (Sl.own_to HO.out hb); clear hb nw
                simp only [Act.put, getElem_toArray, getElem_cons_zero, getElem_cons_succ, setIfInBounds_toArray, set_cons_zero, set_cons_succ]
                refine Mm.oput0 rtD H (dR rs3 0) (fun W h => h.tail) rfl rfl (.tmp 16) (.tmp 76) rfl rfl rfl rfl (dR_one _ _) rfl ?_
                intro _ H2 st
                replace HO := hidp (Sl.own_stp HO.out st H.out.at0 (by decide)); clear st H
                have H := H2
                clear H2
                simp only [Act.put, getElem_toArray, getElem_cons_zero, getElem_cons_succ, setIfInBounds_toArray, set_cons_zero, set_cons_succ]
                apply s_val
                case ho | hw => rfl
                case hv => intro w hw; go_simp; first | done | rfl
                simp only [Act.put, getElem_toArray, getElem_cons_zero, getElem_cons_succ, setIfInBounds_toArray, set_cons_zero, set_cons_succ]
                refine NoPanic.normal ?_
                go_upto_region 17 with fail
                go_upto_region 18 with fail
                refine Mm.region H (.take 0 (.take 1 (.take 2 (.take 3 (.take 4 (.two 5 (.take 6 (.take 7 (.take 8 (.one 9 (.one 10 (.take 11 .done)))))) 9 (.one 5 (.take 6 (.take 7 (.take 8 (.one 10 (.take 11 .done)))))))))))) (by kernel_rfl) (by kernel_rfl) (by simp [Scr.depth]) (by kernel_rfl) ?_
                clear H
                intro _ H hb
                replace HO := hidp (Sl.own_to HO.out hb); clear hb
                refine Mm.sget1 rtD (fun w h => h) rfl rfl (.tmp 11) rfl rfl rfl ?_
                simp only [Act.put, getElem_toArray, getElem_cons_zero, getElem_cons_succ, setIfInBounds_toArray, set_cons_zero, set_cons_succ]
                apply s_val
                case ho | hw => rfl
                case hv => intro w hw; go_simp; first | done | rfl
                simp only [Act.put, getElem_toArray, getElem_cons_zero, getElem_cons_succ, setIfInBounds_toArray, set_cons_zero, set_cons_succ]
                apply s_val
                case ho | hw => rfl
                case hv => intro w hw; go_simp; first | done | rfl
                simp only [Act.put, getElem_toArray, getElem_cons_zero, getElem_cons_succ, setIfInBounds_toArray, set_cons_zero, set_cons_succ]
                refine Sl.s_idx1 Sl.tyI (by kernel_rfl) rfl rfl (.tmp 94) (.tmp 95) rfl g1 off1 n1 c1 i rfl rfl hB ?_
                simp only [Act.put, getElem_toArray, getElem_cons_zero, getElem_cons_succ, setIfInBounds_toArray, set_cons_zero, set_cons_succ]
                refine Mm.s_ldc naI rfl rfl (.tmp 96) ⟨g1, off1 + i, none⟩ (.int .i64 z) rfl rfl (fun W h => (h.below.cell (p := ⟨g1, off1 + i, none⟩) hg1.out).trans HCZ.out) ?_
                simp only [Act.put, getElem_toArray, getElem_cons_zero, getElem_cons_succ, setIfInBounds_toArray, set_cons_zero, set_cons_succ]
                refine ⟨?_, ?_⟩
                · refine Mm.o_callH (v := .tuple #[.agg (dR rs3 0).toArray, .int .i64 E2]) H (fun W h => h) rfl rfl 7 (#[.agg (dR rs3 0).toArray, .int .i64 z]) (by go_simp; first | done | rfl) (cq.out _) ?_
                  clear H
                  intro _ H hb
                  replace HO := hidp (Sl.own_to HO.out hb); clear hb
                  simp only [Act.put, getElem_toArray, getElem_cons_zero, getElem_cons_succ, setIfInBounds_toArray, set_cons_zero, set_cons_succ]
                  apply s_val
                  case ho | hw => rfl
                  case hv => intro w hw; go_simp; first | done | rfl
                  simp only [Act.put, getElem_toArray, getElem_cons_zero, getElem_cons_succ, setIfInBounds_toArray, set_cons_zero, set_cons_succ]
                  apply s_val
                  case ho | hw => rfl
                  case hv => intro w hw; go_simp; first | done | rfl
                  simp only [Act.put, getElem_toArray, getElem_cons_zero, getElem_cons_succ, setIfInBounds_toArray, set_cons_zero, set_cons_succ]
                  apply s_val
                  case ho | hw => rfl
                  case hv => intro w hw; go_simp; first | done | rfl
                  simp only [Act.put, getElem_toArray, getElem_cons_zero, getElem_cons_succ, setIfInBounds_toArray, set_cons_zero, set_cons_succ]
                  refine Mm.o_newH rtD H (fun W h => h) rfl rfl rfl ?_
                  clear H
                  intro b18 _ H nw
                  have hb := nw.below
                
                  replace HO := hidp (Sl.own_to HO.out hb); clear hb nw
                  simp only [Act.put, getElem_toArray, getElem_cons_zero, getElem_cons_succ, setIfInBounds_toArray, set_cons_zero, set_cons_succ]
                  refine Mm.oput0 rtD H (dR rs3 0) (fun W h => h.tail) rfl rfl (.tmp 18) (.tmp 99) rfl rfl rfl rfl (dR_one _ _) rfl ?_
                  intro _ H2 st
                  replace HO := hidp (Sl.own_stp HO.out st H.out.at0 (by decide)); clear st H
                  have H := H2
                  clear H2
                  simp only [Act.put, getElem_toArray, getElem_cons_zero, getElem_cons_succ, setIfInBounds_toArray, set_cons_zero, set_cons_succ]
                  apply s_val
                  case ho | hw => rfl
                  case hv => intro w hw; go_simp; first | done | rfl
                  simp only [Act.put, getElem_toArray, getElem_cons_zero, getElem_cons_succ, setIfInBounds_toArray, set_cons_zero, set_cons_succ]
                  refine NoPanic.normal ?_
                  go_wp2_with fail
                  exact ⟨⟨i + 1, rs3, al, mo, _, rfl, by go_num, rfl, by omega, HKE, HCE2, by have := HAL.out; (try simp only [List.length_append, List.length_singleton]); omega, HO.out, H.out.tail.tail⟩, by simp [intOf]; omega⟩
                · refine Mm.o_newH rtD H (fun W h => h) rfl rfl rfl ?_
                  clear H
                  intro b18 _ H nw
                  have hb := nw.below
                
                  replace HO := hidp (Sl.own_to HO.out hb); clear hb nw
                  simp only [Act.put, getElem_toArray, getElem_cons_zero, getElem_cons_succ, setIfInBounds_toArray, set_cons_zero, set_cons_succ]
                  refine Mm.o_callH (v := .tuple #[.agg (dR rs3 0).toArray, .int .i64 E2]) H (fun W h => h.tail) rfl rfl 7 (#[.agg (dR rs3 0).toArray, .int .i64 z]) (by go_simp; first | done | rfl) (cq.out _) ?_
                  clear H
                  intro _ H hb
                  replace HO := hidp (Sl.own_to HO.out hb); clear hb
                  simp only [Act.put, getElem_toArray, getElem_cons_zero, getElem_cons_succ, setIfInBounds_toArray, set_cons_zero, set_cons_succ]
                  apply s_val
                  case ho | hw => rfl
                  case hv => intro w hw; go_simp; first | done | rfl
                  simp only [Act.put, getElem_toArray, getElem_cons_zero, getElem_cons_succ, setIfInBounds_toArray, set_cons_zero, set_cons_succ]
                  apply s_val
                  case ho | hw => rfl
                  case hv => intro w hw; go_simp; first | done | rfl
                  simp only [Act.put, getElem_toArray, getElem_cons_zero, getElem_cons_succ, setIfInBounds_toArray, set_cons_zero, set_cons_succ]
                  apply s_val
                  case ho | hw => rfl
                  case hv => intro w hw; go_simp; first | done | rfl
                  simp only [Act.put, getElem_toArray, getElem_cons_zero, getElem_cons_succ, setIfInBounds_toArray, set_cons_zero, set_cons_succ]
                  refine Mm.oput0 rtD H (dR rs3 0) (fun W h => h.tail) rfl rfl (.tmp 18) (.tmp 99) rfl rfl rfl rfl (dR_one _ _) rfl ?_
                  intro _ H2 st
                  replace HO := hidp (Sl.own_stp HO.out st H.out.at0 (by decide)); clear st H
                  have H := H2
                  clear H2
                  simp only [Act.put, getElem_toArray, getElem_cons_zero, getElem_cons_succ, setIfInBounds_toArray, set_cons_zero, set_cons_succ]
                  apply s_val
                  case ho | hw => rfl
                  case hv => intro w hw; go_simp; first | done | rfl
                  simp only [Act.put, getElem_toArray, getElem_cons_zero, getElem_cons_succ, setIfInBounds_toArray, set_cons_zero, set_cons_succ]
                  refine NoPanic.normal ?_
                  go_wp2_with fail
                  exact ⟨⟨i + 1, rs3, al, mo, _, rfl, by go_num, rfl, by omega, HKE, HCE2, by have := HAL.out; (try simp only [List.length_append, List.length_singleton]); omega, HO.out, H.out.tail.tail⟩, by simp [intOf]; omega⟩
              · refine Mm.o_newH rtD H (fun W h => h) rfl rfl rfl ?_
                clear H
                intro b16 _ H nw
                have hb := nw.below

                replace HO := hidp (Sl.own_to HO.out hb); clear hb nw
                simp only [Act.put, getElem_toArray, getElem_cons_zero, getElem_cons_succ, setIfInBounds_toArray, set_cons_zero, set_cons_succ]
                refine Mm.o_callH (v := .tuple #[.agg (dR rs3 0).toArray, .int .i64 E]) H (fun W h => h.tail) rfl rfl 6 (#[.agg (dR rs3 0).toArray, .string t]) (by go_simp; first | done | rfl) (cp.out _) ?_
                clear H
                intro _ H hb
                replace HO := hidp (Sl.own_to HO.out hb); clear hb
                simp only [Act.put, getElem_toArray, getElem_cons_zero, getElem_cons_succ, setIfInBounds_toArray, set_cons_zero, set_cons_succ]
                apply s_val
                case ho | hw => rfl
                case hv => intro w hw; go_simp; first | done | rfl
                simp only [Act.put, getElem_toArray, getElem_cons_zero, getElem_cons_succ, setIfInBounds_toArray, set_cons_zero, set_cons_succ]
                apply s_val
                case ho | hw => rfl
                case hv => intro w hw; go_simp; first | done | rfl
                simp only [Act.put, getElem_toArray, getElem_cons_zero, getElem_cons_succ, setIfInBounds_toArray, set_cons_zero, set_cons_succ]
                apply s_val
                case ho | hw => rfl
                case hv => intro w hw; go_simp; first | done | rfl
                simp only [Act.put, getElem_toArray, getElem_cons_zero, getElem_cons_succ, setIfInBounds_toArray, set_cons_zero, set_cons_succ]
                refine Mm.oput0 rtD H (dR rs3 0) (fun W h => h.tail) rfl rfl (.tmp 16) (.tmp 76) rfl rfl rfl rfl (dR_one _ _) rfl ?_
                intro _ H2 st
                replace HO := hidp (Sl.own_stp HO.out st H.out.at0 (by decide)); clear st H
                have H := H2
                clear H2
                simp only [Act.put, getElem_toArray, getElem_cons_zero, getElem_cons_succ, setIfInBounds_toArray, set_cons_zero, set_cons_succ]
                apply s_val
                case ho | hw => rfl
                case hv => intro w hw; go_simp; first | done | rfl
                simp only [Act.put, getElem_toArray, getElem_cons_zero, getElem_cons_succ, setIfInBounds_toArray, set_cons_zero, set_cons_succ]
                refine NoPanic.normal ?_
                go_upto_region 17 with fail
                go_upto_region 18 with fail
                refine Mm.region H (.take 0 (.take 1 (.take 2 (.take 3 (.take 4 (.two 5 (.take 6 (.take 7 (.take 8 (.one 9 (.one 10 (.take 11 .done)))))) 9 (.one 5 (.take 6 (.take 7 (.take 8 (.one 10 (.take 11 .done)))))))))))) (by kernel_rfl) (by kernel_rfl) (by simp [Scr.depth]) (by kernel_rfl) ?_
                clear H
                intro _ H hb
                replace HO := hidp (Sl.own_to HO.out hb); clear hb
                refine Mm.sget1 rtD (fun w h => h) rfl rfl (.tmp 11) rfl rfl rfl ?_
                simp only [Act.put, getElem_toArray, getElem_cons_zero, getElem_cons_succ, setIfInBounds_toArray, set_cons_zero, set_cons_succ]
                apply s_val
                case ho | hw => rfl
                case hv => intro w hw; go_simp; first | done | rfl
                simp only [Act.put, getElem_toArray, getElem_cons_zero, getElem_cons_succ, setIfInBounds_toArray, set_cons_zero, set_cons_succ]
                apply s_val
                case ho | hw => rfl
                case hv => intro w hw; go_simp; first | done | rfl
                simp only [Act.put, getElem_toArray, getElem_cons_zero, getElem_cons_succ, setIfInBounds_toArray, set_cons_zero, set_cons_succ]
                refine Sl.s_idx1 Sl.tyI (by kernel_rfl) rfl rfl (.tmp 94) (.tmp 95) rfl g1 off1 n1 c1 i rfl rfl hB ?_
                simp only [Act.put, getElem_toArray, getElem_cons_zero, getElem_cons_succ, setIfInBounds_toArray, set_cons_zero, set_cons_succ]
                refine Mm.s_ldc naI rfl rfl (.tmp 96) ⟨g1, off1 + i, none⟩ (.int .i64 z) rfl rfl (fun W h => (h.below.cell (p := ⟨g1, off1 + i, none⟩) hg1.out).trans HCZ.out) ?_
                simp only [Act.put, getElem_toArray, getElem_cons_zero, getElem_cons_succ, setIfInBounds_toArray, set_cons_zero, set_cons_succ]
                refine ⟨?_, ?_⟩
                · refine Mm.o_callH (v := .tuple #[.agg (dR rs3 0).toArray, .int .i64 E2]) H (fun W h => h) rfl rfl 7 (#[.agg (dR rs3 0).toArray, .int .i64 z]) (by go_simp; first | done | rfl) (cq.out _) ?_
                  clear H
                  intro _ H hb
                  replace HO := hidp (Sl.own_to HO.out hb); clear hb
                  simp only [Act.put, getElem_toArray, getElem_cons_zero, getElem_cons_succ, setIfInBounds_toArray, set_cons_zero, set_cons_succ]
                  apply s_val
                  case ho | hw => rfl
                  case hv => intro w hw; go_simp; first | done | rfl
                  simp only [Act.put, getElem_toArray, getElem_cons_zero, getElem_cons_succ, setIfInBounds_toArray, set_cons_zero, set_cons_succ]
                  apply s_val
                  case ho | hw => rfl
                  case hv => intro w hw; go_simp; first | done | rfl
                  simp only [Act.put, getElem_toArray, getElem_cons_zero, getElem_cons_succ, setIfInBounds_toArray, set_cons_zero, set_cons_succ]
                  apply s_val
                  case ho | hw => rfl
                  case hv => intro w hw; go_simp; first | done | rfl
                  simp only [Act.put, getElem_toArray, getElem_cons_zero, getElem_cons_succ, setIfInBounds_toArray, set_cons_zero, set_cons_succ]
                  refine Mm.o_newH rtD H (fun W h => h) rfl rfl rfl ?_
                  clear H
                  intro b18 _ H nw
                  have hb := nw.below
                
                  replace HO := hidp (Sl.own_to HO.out hb); clear hb nw
                  simp only [Act.put, getElem_toArray, getElem_cons_zero, getElem_cons_succ, setIfInBounds_toArray, set_cons_zero, set_cons_succ]
                  refine Mm.oput0 rtD H (dR rs3 0) (fun W h => h.tail) rfl rfl (.tmp 18) (.tmp 99) rfl rfl rfl rfl (dR_one _ _) rfl ?_
                  intro _ H2 st
                  replace HO := hidp (Sl.own_stp HO.out st H.out.at0 (by decide)); clear st H
                  have H := H2
                  clear H2
                  simp only [Act.put, getElem_toArray, getElem_cons_zero, getElem_cons_succ, setIfInBounds_toArray, set_cons_zero, set_cons_succ]
                  apply s_val
                  case ho | hw => rfl
                  case hv => intro w hw; go_simp; first | done | rfl
                  simp only [Act.put, getElem_toArray, getElem_cons_zero, getElem_cons_succ, setIfInBounds_toArray, set_cons_zero, set_cons_succ]
                  refine NoPanic.normal ?_
                  go_wp2_with fail
                  exact ⟨⟨i + 1, rs3, al, mo, _, rfl, by go_num, rfl, by omega, HKE, HCE2, by have := HAL.out; (try simp only [List.length_append, List.length_singleton]); omega, HO.out, H.out.tail.tail⟩, by simp [intOf]; omega⟩
                · refine Mm.o_newH rtD H (fun W h => h) rfl rfl rfl ?_
                  clear H
                  intro b18 _ H nw
                  have hb := nw.below
                
                  replace HO := hidp (Sl.own_to HO.out hb); clear hb nw
                  simp only [Act.put, getElem_toArray, getElem_cons_zero, getElem_cons_succ, setIfInBounds_toArray, set_cons_zero, set_cons_succ]
                  refine Mm.o_callH (v := .tuple #[.agg (dR rs3 0).toArray, .int .i64 E2]) H (fun W h => h.tail) rfl rfl 7 (#[.agg (dR rs3 0).toArray, .int .i64 z]) (by go_simp; first | done | rfl) (cq.out _) ?_
                  clear H
                  intro _ H hb
                  replace HO := hidp (Sl.own_to HO.out hb); clear hb
                  simp only [Act.put, getElem_toArray, getElem_cons_zero, getElem_cons_succ, setIfInBounds_toArray, set_cons_zero, set_cons_succ]
                  apply s_val
                  case ho | hw => rfl
                  case hv => intro w hw; go_simp; first | done | rfl
                  simp only [Act.put, getElem_toArray, getElem_cons_zero, getElem_cons_succ, setIfInBounds_toArray, set_cons_zero, set_cons_succ]
                  apply s_val
                  case ho | hw => rfl
                  case hv => intro w hw; go_simp; first | done | rfl
                  simp only [Act.put, getElem_toArray, getElem_cons_zero, getElem_cons_succ, setIfInBounds_toArray, set_cons_zero, set_cons_succ]
                  apply s_val
                  case ho | hw => rfl
                  case hv => intro w hw; go_simp; first | done | rfl
                  simp only [Act.put, getElem_toArray, getElem_cons_zero, getElem_cons_succ, setIfInBounds_toArray, set_cons_zero, set_cons_succ]
                  refine Mm.oput0 rtD H (dR rs3 0) (fun W h => h.tail) rfl rfl (.tmp 18) (.tmp 99) rfl rfl rfl rfl (dR_one _ _) rfl ?_
                  intro _ H2 st
                  replace HO := hidp (Sl.own_stp HO.out st H.out.at0 (by decide)); clear st H
                  have H := H2
                  clear H2
                  simp only [Act.put, getElem_toArray, getElem_cons_zero, getElem_cons_succ, setIfInBounds_toArray, set_cons_zero, set_cons_succ]
                  apply s_val
                  case ho | hw => rfl
                  case hv => intro w hw; go_simp; first | done | rfl
                  simp only [Act.put, getElem_toArray, getElem_cons_zero, getElem_cons_succ, setIfInBounds_toArray, set_cons_zero, set_cons_succ]
                  refine NoPanic.normal ?_
                  go_wp2_with fail
                  exact ⟨⟨i + 1, rs3, al, mo, _, rfl, by go_num, rfl, by omega, HKE, HCE2, by have := HAL.out; (try simp only [List.length_append, List.length_singleton]); omega, HO.out, H.out.tail.tail⟩, by simp [intOf]; omega⟩
          · have eB : decide ((i : Int) < (n1 : Int)) = false := by simp; omega
            have HKE := HK2
            have HCE2 := HR2
            go_upto_region 14 with fail
            refine Mm.region H (.take 0 (.take 1 (.take 2 (.take 3 (.take 4 (.two 5 (.take 6 (.take 7 (.take 8 (.one 9 (.one 10 (.take 11 .done)))))) 9 (.one 5 (.take 6 (.take 7 (.take 8 (.one 10 (.take 11 .done)))))))))))) (by kernel_rfl) (by kernel_rfl) (by simp [Scr.depth]) (by kernel_rfl) ?_
            clear H
            intro _ H hb
            replace HO := hidp (Sl.own_to HO.out hb); clear hb
            refine Mm.sget0 rtD (fun w h => h) rfl rfl (.tmp 11) rfl rfl rfl ?_
            simp only [Act.put, getElem_toArray, getElem_cons_zero, getElem_cons_succ, setIfInBounds_toArray, set_cons_zero, set_cons_succ]
            apply s_val
            case ho | hw => rfl
            case hv => intro w hw; go_simp; first | done | rfl
            simp only [Act.put, getElem_toArray, getElem_cons_zero, getElem_cons_succ, setIfInBounds_toArray, set_cons_zero, set_cons_succ]
            apply s_val
            case ho | hw => rfl
            case hv => intro w hw; go_simp; first | done | rfl
            simp only [Act.put, getElem_toArray, getElem_cons_zero, getElem_cons_succ, setIfInBounds_toArray, set_cons_zero, set_cons_succ]
            refine Sl.s_idx1 Sl.tyS (by kernel_rfl) rfl rfl (.tmp 71) (.tmp 72) rfl g off n0 c0 i rfl rfl hA ?_
            simp only [Act.put, getElem_toArray, getElem_cons_zero, getElem_cons_succ, setIfInBounds_toArray, set_cons_zero, set_cons_succ]
            refine Mm.s_ldc naS rfl rfl (.tmp 73) ⟨g, off + i, none⟩ (.string t) rfl rfl (fun W h => (h.below.cell (p := ⟨g, off + i, none⟩) hg0.out).trans HCE.out) ?_
            simp only [Act.put, getElem_toArray, getElem_cons_zero, getElem_cons_succ, setIfInBounds_toArray, set_cons_zero, set_cons_succ]
            refine ⟨?_, ?_⟩
            · refine Mm.o_callH (v := .tuple #[.agg (dR rs2 0).toArray, .int .i64 E]) H (fun W h => h) rfl rfl 6 (#[.agg (dR rs2 0).toArray, .string t]) (by go_simp; first | done | rfl) (cp.out _) ?_
              clear H
              intro _ H hb
              replace HO := hidp (Sl.own_to HO.out hb); clear hb
              simp only [Act.put, getElem_toArray, getElem_cons_zero, getElem_cons_succ, setIfInBounds_toArray, set_cons_zero, set_cons_succ]
              apply s_val
              case ho | hw => rfl
              case hv => intro w hw; go_simp; first | done | rfl
              simp only [Act.put, getElem_toArray, getElem_cons_zero, getElem_cons_succ, setIfInBounds_toArray, set_cons_zero, set_cons_succ]
              apply s_val
              case ho | hw => rfl
              case hv => intro w hw; go_simp; first | done | rfl
              simp only [Act.put, getElem_toArray, getElem_cons_zero, getElem_cons_succ, setIfInBounds_toArray, set_cons_zero, set_cons_succ]
              apply s_val
              case ho | hw => rfl
              case hv => intro w hw; go_simp; first | done | rfl
              simp only [Act.put, getElem_toArray, getElem_cons_zero, getElem_cons_succ, setIfInBounds_toArray, set_cons_zero, set_cons_succ]
              refine Mm.o_newH rtD H (fun W h => h) rfl rfl rfl ?_
              clear H
              intro b16 _ H nw
              have hb := nw.below

              replace HO := hidp (Sl.own_to HO.out hb); clear hb nw
              simp only [Act.put, getElem_toArray, getElem_cons_zero, getElem_cons_succ, setIfInBounds_toArray, set_cons_zero, set_cons_succ]
              refine Mm.oput0 rtD H (dR rs2 0) (fun W h => h.tail) rfl rfl (.tmp 16) (.tmp 76) rfl rfl rfl rfl (dR_one _ _) rfl ?_
              intro _ H2 st
              replace HO := hidp (Sl.own_stp HO.out st H.out.at0 (by decide)); clear st H
              have H := H2
              clear H2
              simp only [Act.put, getElem_toArray, getElem_cons_zero, getElem_cons_succ, setIfInBounds_toArray, set_cons_zero, set_cons_succ]
              apply s_val
              case ho | hw => rfl
              case hv => intro w hw; go_simp; first | done | rfl
              simp only [Act.put, getElem_toArray, getElem_cons_zero, getElem_cons_succ, setIfInBounds_toArray, set_cons_zero, set_cons_succ]
              refine NoPanic.normal ?_
              go_upto_region 17 with fail
              go_wp2_with fail
              exact ⟨⟨i + 1, rs2, al, mo, _, rfl, by go_num, rfl, by omega, HKE, HCE2, by have := HAL.out; (try simp only [List.length_append, List.length_singleton]); omega, HO.out, H.out.tail⟩, by simp [intOf]; omega⟩
            · refine Mm.o_newH rtD H (fun W h => h) rfl rfl rfl ?_
              clear H
              intro b16 _ H nw
              have hb := nw.below

              replace HO := hidp (Sl.own_to HO.out hb); clear hb nw
              simp only [Act.put, getElem_toArray, getElem_cons_zero, getElem_cons_succ, setIfInBounds_toArray, set_cons_zero, set_cons_succ]
              refine Mm.o_callH (v := .tuple #[.agg (dR rs2 0).toArray, .int .i64 E]) H (fun W h => h.tail) rfl rfl 6 (#[.agg (dR rs2 0).toArray, .string t]) (by go_simp; first | done | rfl) (cp.out _) ?_
              clear H
              intro _ H hb
              replace HO := hidp (Sl.own_to HO.out hb); clear hb
              simp only [Act.put, getElem_toArray, getElem_cons_zero, getElem_cons_succ, setIfInBounds_toArray, set_cons_zero, set_cons_succ]
              apply s_val
              case ho | hw => rfl
              case hv => intro w hw; go_simp; first | done | rfl
              simp only [Act.put, getElem_toArray, getElem_cons_zero, getElem_cons_succ, setIfInBounds_toArray, set_cons_zero, set_cons_succ]
              apply s_val
              case ho | hw => rfl
              case hv => intro w hw; go_simp; first | done | rfl
              simp only [Act.put, getElem_toArray, getElem_cons_zero, getElem_cons_succ, setIfInBounds_toArray, set_cons_zero, set_cons_succ]
              apply s_val
              case ho | hw => rfl
              case hv => intro w hw; go_simp; first | done | rfl
              simp only [Act.put, getElem_toArray, getElem_cons_zero, getElem_cons_succ, setIfInBounds_toArray, set_cons_zero, set_cons_succ]
              refine Mm.oput0 rtD H (dR rs2 0) (fun W h => h.tail) rfl rfl (.tmp 16) (.tmp 76) rfl rfl rfl rfl (dR_one _ _) rfl ?_
              intro _ H2 st
              replace HO := hidp (Sl.own_stp HO.out st H.out.at0 (by decide)); clear st H
              have H := H2
              clear H2
              simp only [Act.put, getElem_toArray, getElem_cons_zero, getElem_cons_succ, setIfInBounds_toArray, set_cons_zero, set_cons_succ]
              apply s_val
              case ho | hw => rfl
              case hv => intro w hw; go_simp; first | done | rfl
              simp only [Act.put, getElem_toArray, getElem_cons_zero, getElem_cons_succ, setIfInBounds_toArray, set_cons_zero, set_cons_succ]
              refine NoPanic.normal ?_
              go_upto_region 17 with fail
              go_wp2_with fail
              exact ⟨⟨i + 1, rs2, al, mo, _, rfl, by go_num, rfl, by omega, HKE, HCE2, by have := HAL.out; (try simp only [List.length_append, List.length_singleton]); omega, HO.out, H.out.tail⟩, by simp [intOf]; omega⟩
      · have eA : decide ((i : Int) < (n0 : Int)) = false := by simp; omega
        obtain ⟨rs2, hrs⟩ : ∃ x, rs = x := ⟨_, rfl⟩
        subst hrs
        have HK2 := HK
        have HR2 := HR
        by_cases hB : i < n1
        · have eB : decide ((i : Int) < (n1 : Int)) = true := by simp; omega
          obtain ⟨g1, off1, c1, ev1, hg1', hcz'⟩ := HCN.out (by omega)
          simp only [Value.slice.injEq] at ev1
          obtain ⟨rfl, -, rfl⟩ := ev1
          have hg1 := hidp hg1'
          obtain ⟨z, hz⟩ : ∃ z, ns.getD i 0 = z := ⟨_, rfl⟩
          have HCZ := hidp (show w.cell? ⟨g1, off1 + i, none⟩ = some (.int .i64 z) from by rw [← hz]; exact hcz' i hB)
          clear hz hcz' hg1' HCN
          obtain ⟨rs3, E2, cq', hq1, hq2, hq3⟩ := putc_any rs HR2.out 0 (Nat.zero_le _) z
          have cq := hidp cq'
          clear cq'
          rcases hq3 with ⟨rfl, m, rfl, hm, hr3⟩ | ⟨hq3, rfl⟩
          · have HKE := hidp (show Kp rs3 al (max mo m) from by rw [hr3]; exact HK2.out.cnt hm)
            have HCE2 := hidp hq1
            have hmx := fun (W : World) (ts : Array TypeId) => maxNN W ts mo m
            clear hr3 hq2
            go_upto_region 17 with fail
            go_upto_region 18 with fail
            refine Mm.region H (.take 0 (.take 1 (.take 2 (.take 3 (.take 4 (.two 5 (.take 6 (.take 7 (.take 8 (.one 9 (.one 10 (.take 11 .done)))))) 9 (.one 5 (.take 6 (.take 7 (.take 8 (.one 10 (.take 11 .done)))))))))))) (by kernel_rfl) (by kernel_rfl) (by simp [Scr.depth]) (by kernel_rfl) ?_
            clear H
            intro _ H hb
            replace HO := hidp (Sl.own_to HO.out hb); clear hb
            refine Mm.sget0 rtD (fun w h => h) rfl rfl (.tmp 11) rfl rfl rfl ?_
            simp only [Act.put, getElem_toArray, getElem_cons_zero, getElem_cons_succ, setIfInBounds_toArray, set_cons_zero, set_cons_succ]
            apply s_val
            case ho | hw => rfl
            case hv => intro w hw; go_simp; first | done | rfl
            simp only [Act.put, getElem_toArray, getElem_cons_zero, getElem_cons_succ, setIfInBounds_toArray, set_cons_zero, set_cons_succ]
            apply s_val
            case ho | hw => rfl
            case hv => intro w hw; go_simp; first | done | rfl
            simp only [Act.put, getElem_toArray, getElem_cons_zero, getElem_cons_succ, setIfInBounds_toArray, set_cons_zero, set_cons_succ]
            refine Sl.s_idx1 Sl.tyI (by kernel_rfl) rfl rfl (.tmp 94) (.tmp 95) rfl g1 off1 n1 c1 i rfl rfl hB ?_
            simp only [Act.put, getElem_toArray, getElem_cons_zero, getElem_cons_succ, setIfInBounds_toArray, set_cons_zero, set_cons_succ]
            refine Mm.s_ldc naI rfl rfl (.tmp 96) ⟨g1, off1 + i, none⟩ (.int .i64 (m : Int)) rfl rfl (fun W h => (h.below.cell (p := ⟨g1, off1 + i, none⟩) hg1.out).trans HCZ.out) ?_
            simp only [Act.put, getElem_toArray, getElem_cons_zero, getElem_cons_succ, setIfInBounds_toArray, set_cons_zero, set_cons_succ]
            refine ⟨?_, ?_⟩
            · refine Mm.o_callH (v := .tuple #[.agg (dR rs3 0).toArray, .int .i64 0]) H (fun W h => h) rfl rfl 7 (#[.agg (dR rs 0).toArray, .int .i64 (m : Int)]) (by go_simp; first | done | rfl) (cq.out _) ?_
              clear H
              intro _ H hb
              replace HO := hidp (Sl.own_to HO.out hb); clear hb
              simp only [Act.put, getElem_toArray, getElem_cons_zero, getElem_cons_succ, setIfInBounds_toArray, set_cons_zero, set_cons_succ]
              apply s_val
              case ho | hw => rfl
              case hv => intro w hw; go_simp; first | done | rfl
              simp only [Act.put, getElem_toArray, getElem_cons_zero, getElem_cons_succ, setIfInBounds_toArray, set_cons_zero, set_cons_succ]
              apply s_val
              case ho | hw => rfl
              case hv => intro w hw; go_simp; first | done | rfl
              simp only [Act.put, getElem_toArray, getElem_cons_zero, getElem_cons_succ, setIfInBounds_toArray, set_cons_zero, set_cons_succ]
              apply s_val
              case ho | hw => rfl
              case hv => intro w hw; go_simp; first | done | rfl
              simp only [Act.put, getElem_toArray, getElem_cons_zero, getElem_cons_succ, setIfInBounds_toArray, set_cons_zero, set_cons_succ]
              refine Mm.o_newH rtD H (fun W h => h) rfl rfl rfl ?_
              clear H
              intro b18 _ H nw
              have hb := nw.below

              replace HO := hidp (Sl.own_to HO.out hb); clear hb nw
              simp only [Act.put, getElem_toArray, getElem_cons_zero, getElem_cons_succ, setIfInBounds_toArray, set_cons_zero, set_cons_succ]
              refine Mm.oput0 rtD H (dR rs3 0) (fun W h => h.tail) rfl rfl (.tmp 18) (.tmp 99) rfl rfl rfl rfl (dR_one _ _) rfl ?_
              intro _ H2 st
              replace HO := hidp (Sl.own_stp HO.out st H.out.at0 (by decide)); clear st H
              have H := H2
              clear H2
              simp only [Act.put, getElem_toArray, getElem_cons_zero, getElem_cons_succ, setIfInBounds_toArray, set_cons_zero, set_cons_succ]
              apply s_val
              case ho | hw => rfl
              case hv => intro w hw; go_simp; first | done | rfl
              simp only [Act.put, getElem_toArray, getElem_cons_zero, getElem_cons_succ, setIfInBounds_toArray, set_cons_zero, set_cons_succ]
              refine NoPanic.normal ?_
              go_upto_region 20 with fail
              refine Sl.regionS [⟨b18, 26, (dR rs3 0)⟩] (fun W h => h.sub (by simp)) H (.take 0 (.take 1 (.take 2 (.take 3 (.take 4 (.take 5 (.take 6 (.one 7 (.take 8 .done))))))))) (by kernel_rfl) (by kernel_rfl) (by simp [Scr.depth]) (by kernel_rfl) ?_
              clear H
              intro _ H hb
              replace HO := hidp (Sl.own_to HO.out hb); clear hb
              refine Mm.sget0 rtD (fun w h => h) rfl rfl (.tmp 18) rfl rfl rfl ?_
              simp only [Act.put, getElem_toArray, getElem_cons_zero, getElem_cons_succ, setIfInBounds_toArray, set_cons_zero, set_cons_succ]
              apply s_val
              case ho | hw => rfl
              case hv => intro w hw; go_simp; first | done | rfl
              simp only [Act.put, getElem_toArray, getElem_cons_zero, getElem_cons_succ, setIfInBounds_toArray, set_cons_zero, set_cons_succ]
              apply s_val
              case ho | hw => rfl
              case hv => intro w hw; go_simp; first | done | rfl
              simp only [Act.put, getElem_toArray, getElem_cons_zero, getElem_cons_succ, setIfInBounds_toArray, set_cons_zero, set_cons_succ]
              apply s_val
              case ho | hw => rfl
              case hv => intro w hw; go_simp; first | done | rfl
              simp only [Act.put, getElem_toArray, getElem_cons_zero, getElem_cons_succ, setIfInBounds_toArray, set_cons_zero, set_cons_succ]
              refine Sl.s_idx1 Sl.tyI (by kernel_rfl) rfl rfl (.tmp 105) (.tmp 106) rfl g1 off1 n1 c1 i rfl rfl hB ?_
              simp only [Act.put, getElem_toArray, getElem_cons_zero, getElem_cons_succ, setIfInBounds_toArray, set_cons_zero, set_cons_succ]
              refine Mm.s_ldc naI rfl rfl (.tmp 107) ⟨g1, off1 + i, none⟩ (.int .i64 (m : Int)) rfl rfl (fun W h => (h.below.cell (p := ⟨g1, off1 + i, none⟩) hg1.out).trans HCZ.out) ?_
              simp only [Act.put, getElem_toArray, getElem_cons_zero, getElem_cons_succ, setIfInBounds_toArray, set_cons_zero, set_cons_succ]
              apply s_val
              case ho | hw => rfl
              case hv => intro w hw; go_simp; first | done | rfl
              simp only [Act.put, getElem_toArray, getElem_cons_zero, getElem_cons_succ, setIfInBounds_toArray, set_cons_zero, set_cons_succ]
              refine Mm.oput1 rtD H (dR rs3 0) (fun W h => h.sub (by simp)) rfl rfl (.tmp 11) (.tmp 103) rfl rfl rfl rfl (dR_one _ _) rfl ?_
              intro _ H2 st
              replace HO := hidp (Sl.own_stp HO.out st H.out.at1 (by decide)); clear st H
              have H := H2
              clear H2
              simp only [Act.put, getElem_toArray, getElem_cons_zero, getElem_cons_succ, setIfInBounds_toArray, set_cons_zero, set_cons_succ]
              apply s_val
              case ho | hw => rfl
              case hv => intro w hw; go_simp; first | done | rfl
              simp only [Act.put, getElem_toArray, getElem_cons_zero, getElem_cons_succ, setIfInBounds_toArray, set_cons_zero, set_cons_succ]
              refine NoPanic.normal ?_
              go_wp2_with fail
              exact ⟨⟨i + 1, rs3, al, (max mo m), _, rfl, by go_num, rfl, by omega, HKE, HCE2, by have := HAL.out; (try simp only [List.length_append, List.length_singleton]); omega, HO.out, H.out.tail⟩, by simp [intOf]; omega⟩
            · refine Mm.o_newH rtD H (fun W h => h) rfl rfl rfl ?_
              clear H
              intro b18 _ H nw
              have hb := nw.below

              replace HO := hidp (Sl.own_to HO.out hb); clear hb nw
              simp only [Act.put, getElem_toArray, getElem_cons_zero, getElem_cons_succ, setIfInBounds_toArray, set_cons_zero, set_cons_succ]
              refine Mm.o_callH (v := .tuple #[.agg (dR rs3 0).toArray, .int .i64 0]) H (fun W h => h.tail) rfl rfl 7 (#[.agg (dR rs 0).toArray, .int .i64 (m : Int)]) (by go_simp; first | done | rfl) (cq.out _) ?_
              clear H
              intro _ H hb
              replace HO := hidp (Sl.own_to HO.out hb); clear hb
              simp only [Act.put, getElem_toArray, getElem_cons_zero, getElem_cons_succ, setIfInBounds_toArray, set_cons_zero, set_cons_succ]
              apply s_val
              case ho | hw => rfl
              case hv => intro w hw; go_simp; first | done | rfl
              simp only [Act.put, getElem_toArray, getElem_cons_zero, getElem_cons_succ, setIfInBounds_toArray, set_cons_zero, set_cons_succ]
              apply s_val
              case ho | hw => rfl
              case hv => intro w hw; go_simp; first | done | rfl
              simp only [Act.put, getElem_toArray, getElem_cons_zero, getElem_cons_succ, setIfInBounds_toArray, set_cons_zero, set_cons_succ]
              apply s_val
              case ho | hw => rfl
              case hv => intro w hw; go_simp; first | done | rfl
              simp only [Act.put, getElem_toArray, getElem_cons_zero, getElem_cons_succ, setIfInBounds_toArray, set_cons_zero, set_cons_succ]
              refine Mm.oput0 rtD H (dR rs3 0) (fun W h => h.tail) rfl rfl (.tmp 18) (.tmp 99) rfl rfl rfl rfl (dR_one _ _) rfl ?_
              intro _ H2 st
              replace HO := hidp (Sl.own_stp HO.out st H.out.at0 (by decide)); clear st H
              have H := H2
              clear H2
              simp only [Act.put, getElem_toArray, getElem_cons_zero, getElem_cons_succ, setIfInBounds_toArray, set_cons_zero, set_cons_succ]
              apply s_val
              case ho | hw => rfl
              case hv => intro w hw; go_simp; first | done | rfl
              simp only [Act.put, getElem_toArray, getElem_cons_zero, getElem_cons_succ, setIfInBounds_toArray, set_cons_zero, set_cons_succ]
              refine NoPanic.normal ?_
              go_upto_region 20 with fail
              refine Sl.regionS [⟨b18, 26, (dR rs3 0)⟩] (fun W h => h.sub (by simp)) H (.take 0 (.take 1 (.take 2 (.take 3 (.take 4 (.take 5 (.take 6 (.one 7 (.take 8 .done))))))))) (by kernel_rfl) (by kernel_rfl) (by simp [Scr.depth]) (by kernel_rfl) ?_
              clear H
              intro _ H hb
              replace HO := hidp (Sl.own_to HO.out hb); clear hb
              refine Mm.sget0 rtD (fun w h => h) rfl rfl (.tmp 18) rfl rfl rfl ?_
              simp only [Act.put, getElem_toArray, getElem_cons_zero, getElem_cons_succ, setIfInBounds_toArray, set_cons_zero, set_cons_succ]
              apply s_val
              case ho | hw => rfl
              case hv => intro w hw; go_simp; first | done | rfl
              simp only [Act.put, getElem_toArray, getElem_cons_zero, getElem_cons_succ, setIfInBounds_toArray, set_cons_zero, set_cons_succ]
              apply s_val
              case ho | hw => rfl
              case hv => intro w hw; go_simp; first | done | rfl
              simp only [Act.put, getElem_toArray, getElem_cons_zero, getElem_cons_succ, setIfInBounds_toArray, set_cons_zero, set_cons_succ]
              apply s_val
              case ho | hw => rfl
              case hv => intro w hw; go_simp; first | done | rfl
              simp only [Act.put, getElem_toArray, getElem_cons_zero, getElem_cons_succ, setIfInBounds_toArray, set_cons_zero, set_cons_succ]
              refine Sl.s_idx1 Sl.tyI (by kernel_rfl) rfl rfl (.tmp 105) (.tmp 106) rfl g1 off1 n1 c1 i rfl rfl hB ?_
              simp only [Act.put, getElem_toArray, getElem_cons_zero, getElem_cons_succ, setIfInBounds_toArray, set_cons_zero, set_cons_succ]
              refine Mm.s_ldc naI rfl rfl (.tmp 107) ⟨g1, off1 + i, none⟩ (.int .i64 (m : Int)) rfl rfl (fun W h => (h.below.cell (p := ⟨g1, off1 + i, none⟩) hg1.out).trans HCZ.out) ?_
              simp only [Act.put, getElem_toArray, getElem_cons_zero, getElem_cons_succ, setIfInBounds_toArray, set_cons_zero, set_cons_succ]
              apply s_val
              case ho | hw => rfl
              case hv => intro w hw; go_simp; first | done | rfl
              simp only [Act.put, getElem_toArray, getElem_cons_zero, getElem_cons_succ, setIfInBounds_toArray, set_cons_zero, set_cons_succ]
              refine Mm.oput1 rtD H (dR rs3 0) (fun W h => h.sub (by simp)) rfl rfl (.tmp 11) (.tmp 103) rfl rfl rfl rfl (dR_one _ _) rfl ?_
              intro _ H2 st
              replace HO := hidp (Sl.own_stp HO.out st H.out.at1 (by decide)); clear st H
              have H := H2
              clear H2
              simp only [Act.put, getElem_toArray, getElem_cons_zero, getElem_cons_succ, setIfInBounds_toArray, set_cons_zero, set_cons_succ]
              apply s_val
              case ho | hw => rfl
              case hv => intro w hw; go_simp; first | done | rfl
              simp only [Act.put, getElem_toArray, getElem_cons_zero, getElem_cons_succ, setIfInBounds_toArray, set_cons_zero, set_cons_succ]
              refine NoPanic.normal ?_
              go_wp2_with fail
              exact ⟨⟨i + 1, rs3, al, (max mo m), _, rfl, by go_num, rfl, by omega, HKE, HCE2, by have := HAL.out; (try simp only [List.length_append, List.length_singleton]); omega, HO.out, H.out.tail⟩, by simp [intOf]; omega⟩
          · have eE2 : (E2 == 0) = false := by rcases hq3 with rfl | rfl <;> rfl
            have HKE := HK2
            have HCE2 := HR2
            clear hq3 hq2
            go_upto_region 17 with fail
            go_upto_region 18 with fail
            refine Mm.region H (.take 0 (.take 1 (.take 2 (.take 3 (.take 4 (.two 5 (.take 6 (.take 7 (.take 8 (.one 9 (.one 10 (.take 11 .done)))))) 9 (.one 5 (.take 6 (.take 7 (.take 8 (.one 10 (.take 11 .done)))))))))))) (by kernel_rfl) (by kernel_rfl) (by simp [Scr.depth]) (by kernel_rfl) ?_
            clear H
            intro _ H hb
            replace HO := hidp (Sl.own_to HO.out hb); clear hb
            refine Mm.sget0 rtD (fun w h => h) rfl rfl (.tmp 11) rfl rfl rfl ?_
            simp only [Act.put, getElem_toArray, getElem_cons_zero, getElem_cons_succ, setIfInBounds_toArray, set_cons_zero, set_cons_succ]
            apply s_val
            case ho | hw => rfl
            case hv => intro w hw; go_simp; first | done | rfl
            simp only [Act.put, getElem_toArray, getElem_cons_zero, getElem_cons_succ, setIfInBounds_toArray, set_cons_zero, set_cons_succ]
            apply s_val
            case ho | hw => rfl
            case hv => intro w hw; go_simp; first | done | rfl
            simp only [Act.put, getElem_toArray, getElem_cons_zero, getElem_cons_succ, setIfInBounds_toArray, set_cons_zero, set_cons_succ]
            refine Sl.s_idx1 Sl.tyI (by kernel_rfl) rfl rfl (.tmp 94) (.tmp 95) rfl g1 off1 n1 c1 i rfl rfl hB ?_
            simp only [Act.put, getElem_toArray, getElem_cons_zero, getElem_cons_succ, setIfInBounds_toArray, set_cons_zero, set_cons_succ]
            refine Mm.s_ldc naI rfl rfl (.tmp 96) ⟨g1, off1 + i, none⟩ (.int .i64 z) rfl rfl (fun W h => (h.below.cell (p := ⟨g1, off1 + i, none⟩) hg1.out).trans HCZ.out) ?_
            simp only [Act.put, getElem_toArray, getElem_cons_zero, getElem_cons_succ, setIfInBounds_toArray, set_cons_zero, set_cons_succ]
            refine ⟨?_, ?_⟩
            · refine Mm.o_callH (v := .tuple #[.agg (dR rs3 0).toArray, .int .i64 E2]) H (fun W h => h) rfl rfl 7 (#[.agg (dR rs3 0).toArray, .int .i64 z]) (by go_simp; first | done | rfl) (cq.out _) ?_
              clear H
              intro _ H hb
              replace HO := hidp (Sl.own_to HO.out hb); clear hb
              simp only [Act.put, getElem_toArray, getElem_cons_zero, getElem_cons_succ, setIfInBounds_toArray, set_cons_zero, set_cons_succ]
              apply s_val
              case ho | hw => rfl
              case hv => intro w hw; go_simp; first | done | rfl
              simp only [Act.put, getElem_toArray, getElem_cons_zero, getElem_cons_succ, setIfInBounds_toArray, set_cons_zero, set_cons_succ]
              apply s_val
              case ho | hw => rfl
              case hv => intro w hw; go_simp; first | done | rfl
              simp only [Act.put, getElem_toArray, getElem_cons_zero, getElem_cons_succ, setIfInBounds_toArray, set_cons_zero, set_cons_succ]
              apply s_val
              case ho | hw => rfl
              case hv => intro w hw; go_simp; first | done | rfl
              simp only [Act.put, getElem_toArray, getElem_cons_zero, getElem_cons_succ, setIfInBounds_toArray, set_cons_zero, set_cons_succ]
              refine Mm.o_newH rtD H (fun W h => h) rfl rfl rfl ?_
              clear H
              intro b18 _ H nw
              have hb := nw.below

              replace HO := hidp (Sl.own_to HO.out hb); clear hb nw
              simp only [Act.put, getElem_toArray, getElem_cons_zero, getElem_cons_succ, setIfInBounds_toArray, set_cons_zero, set_cons_succ]
              refine Mm.oput0 rtD H (dR rs3 0) (fun W h => h.tail) rfl rfl (.tmp 18) (.tmp 99) rfl rfl rfl rfl (dR_one _ _) rfl ?_
              intro _ H2 st
              replace HO := hidp (Sl.own_stp HO.out st H.out.at0 (by decide)); clear st H
              have H := H2
              clear H2
              simp only [Act.put, getElem_toArray, getElem_cons_zero, getElem_cons_succ, setIfInBounds_toArray, set_cons_zero, set_cons_succ]
              apply s_val
              case ho | hw => rfl
              case hv => intro w hw; go_simp; first | done | rfl
              simp only [Act.put, getElem_toArray, getElem_cons_zero, getElem_cons_succ, setIfInBounds_toArray, set_cons_zero, set_cons_succ]
              refine NoPanic.normal ?_
              go_wp2_with fail
              exact ⟨⟨i + 1, rs3, al, mo, _, rfl, by go_num, rfl, by omega, HKE, HCE2, by have := HAL.out; (try simp only [List.length_append, List.length_singleton]); omega, HO.out, H.out.tail⟩, by simp [intOf]; omega⟩
            · refine Mm.o_newH rtD H (fun W h => h) rfl rfl rfl ?_
              clear H
              intro b18 _ H nw
              have hb := nw.below

              replace HO := hidp (Sl.own_to HO.out hb); clear hb nw
              simp only [Act.put, getElem_toArray, getElem_cons_zero, getElem_cons_succ, setIfInBounds_toArray, set_cons_zero, set_cons_succ]
              refine Mm.o_callH (v := .tuple #[.agg (dR rs3 0).toArray, .int .i64 E2]) H (fun W h => h.tail) rfl rfl 7 (#[.agg (dR rs3 0).toArray, .int .i64 z]) (by go_simp; first | done | rfl) (cq.out _) ?_
              clear H
              intro _ H hb
              replace HO := hidp (Sl.own_to HO.out hb); clear hb
              simp only [Act.put, getElem_toArray, getElem_cons_zero, getElem_cons_succ, setIfInBounds_toArray, set_cons_zero, set_cons_succ]
              apply s_val
              case ho | hw => rfl
              case hv => intro w hw; go_simp; first | done | rfl
              simp only [Act.put, getElem_toArray, getElem_cons_zero, getElem_cons_succ, setIfInBounds_toArray, set_cons_zero, set_cons_succ]
              apply s_val
              case ho | hw => rfl
              case hv => intro w hw; go_simp; first | done | rfl
              simp only [Act.put, getElem_toArray, getElem_cons_zero, getElem_cons_succ, setIfInBounds_toArray, set_cons_zero, set_cons_succ]
              apply s_val
              case ho | hw => rfl
              case hv => intro w hw; go_simp; first | done | rfl
              simp only [Act.put, getElem_toArray, getElem_cons_zero, getElem_cons_succ, setIfInBounds_toArray, set_cons_zero, set_cons_succ]
              refine Mm.oput0 rtD H (dR rs3 0) (fun W h => h.tail) rfl rfl (.tmp 18) (.tmp 99) rfl rfl rfl rfl (dR_one _ _) rfl ?_
              intro _ H2 st
              replace HO := hidp (Sl.own_stp HO.out st H.out.at0 (by decide)); clear st H
              have H := H2
              clear H2
              simp only [Act.put, getElem_toArray, getElem_cons_zero, getElem_cons_succ, setIfInBounds_toArray, set_cons_zero, set_cons_succ]
              apply s_val
              case ho | hw => rfl
              case hv => intro w hw; go_simp; first | done | rfl
              simp only [Act.put, getElem_toArray, getElem_cons_zero, getElem_cons_succ, setIfInBounds_toArray, set_cons_zero, set_cons_succ]
              refine NoPanic.normal ?_
              go_wp2_with fail
              exact ⟨⟨i + 1, rs3, al, mo, _, rfl, by go_num, rfl, by omega, HKE, HCE2, by have := HAL.out; (try simp only [List.length_append, List.length_singleton]); omega, HO.out, H.out.tail⟩, by simp [intOf]; omega⟩
        · have eB : decide ((i : Int) < (n1 : Int)) = false := by simp; omega
          have HKE := HK2
          have HCE2 := HR2
          go_upto_region 17 with fail
          go_wp2_with fail
          exact ⟨⟨i + 1, rs, al, mo, _, rfl, by go_num, rfl, by omega, HKE, HCE2, by have := HAL.out; (try simp only [List.length_append, List.length_singleton]); omega, HO.out, H.out⟩, by simp [intOf]; omega⟩
    · have e1 : decide ((i : Int) < ((max n0 n1 : Nat) : Int)) = false := by rw [decide_eq_false_iff_not]; omega
      have e1n : decide (i < max n0 n1) = false := by rw [decide_eq_false_iff_not]; exact hlt
      have hk0 := HK.out
      have hal := HAL.out
      have cs' := fun W => sync_any rs HR.out W
      obtain ⟨rs2, E, cp', hp1, hp2, hp3⟩ := put_any rs HR.out (cat rs).length (Nat.le_refl _) tl
      have hE : E = 0 ∨ E = 7 ∨ E = 8 := by
        rcases hp3 with ⟨h, -⟩ | ⟨h | h, -⟩
        · exact .inl h
        · exact .inr (.inl h)
        · exact .inr (.inr h)
      have hp4 : rs2 = rs ∨ (rs2 = rs ++ [entR tl] ∧ tl.size ≤ 8192 ∧ (entR tl).size ≤ 8192) := by
        rcases hp3 with ⟨-, h, h2, h3⟩ | ⟨-, h⟩
        · exact .inr ⟨h, h2, h3⟩
        · exact .inl h
      obtain ⟨F, ks, es2, hF, hF1, cf', cr', hk, hkl, hes⟩ := fell_any hk0 hp4 hp1 hp2 kp bt
      obtain ⟨f0, f1, f2, rfl⟩ : ∃ a b c, F = [a, b, c] := by
        rcases F with _ | ⟨a, _ | ⟨b, _ | ⟨c, _ | _⟩⟩⟩ <;> simp at hF
        exact ⟨_, _, _, rfl⟩
      obtain ⟨cc', cl', cd'⟩ := anew_any hk hkl (by rw [← hk.again.2]; exact dat_le hk.small hk.says)
      have hnl := anew_len es2 mo
      have hel := es_len hes
      obtain ⟨nE, hnE⟩ : ∃ n, es2.length = n := ⟨_, rfl⟩
      obtain ⟨nA, hnA⟩ : ∃ n, al.length = n := ⟨_, rfl⟩
      obtain ⟨M, hM⟩ : ∃ n, min mo 1 = n := ⟨_, rfl⟩
      have hM1 : M ≤ 1 := by omega
      have HOL := hidp (fun i (h1 : i < al.length) (h2 : i < es2.length) => es_old hes h1 h2)
      have HNW := hidp (fun (h2 : al.length < es2.length) => es_new hes h2)
      obtain ⟨av, ct, ev⟩ := Sl.own_form HO.out
      rw [strV_length, hnA] at ev
      subst ev
      obtain ⟨S3, hS3⟩ : ∃ s, mkS (cat (anew es2 mo)) = s := ⟨_, rfl⟩
      obtain ⟨L3, hL3⟩ : ∃ s, (cat (anew es2 mo)).length = s := ⟨_, rfl⟩
      obtain ⟨L2, hL2⟩ : ∃ s, (cat ks).length = s := ⟨_, rfl⟩
      obtain ⟨nL, hnL⟩ : ∃ s, (anew es2 mo).length = s := ⟨_, rfl⟩
      obtain ⟨Y, hY⟩ : ∃ s, (cat rs).length = s := ⟨_, rfl⟩
      have hz3 : S3.size = L3 := by rw [← hS3, mkS_size, hL3]
      have hz4 : ((L3 : Int) == (S3.size : Int)) = true := by rw [hz3]; simp
      have hmn := fun (W : World) (ts : Array TypeId) => minNN W ts mo
      rw [hM] at hmn hnl
      rw [hnL, hnE] at hnl
      rw [hnA, hnE] at hel
      rw [hnA] at hal
      have cc := hidp (show ∀ W, Calls Try.prog 11 #[.agg (dR ks L2).toArray] W (fun e w' => e = .returned (.tuple #[.agg #[.string S3, .int .i64 (L3 : Int), .int .i64 1048576], .int .i64 0]) ∧ Below W.heap.size W w') from by subst hS3 hL3 hL2; exact cc')
      have cl := hidp (show ∀ W, Calls Try.prog 12 #[.string S3] W (fun e w' => ∃ a c, e = .returned (.tuple #[.agg #[.slice a nE c, .int .i64 (mo : Int)], .int .i64 0]) ∧ Below W.heap.size W w') from fun W => by
        have h0 := cl' W
        rw [hS3] at h0
        refine h0.mono ?_
        rintro e w' ⟨v, h1, h2, h3⟩
        obtain ⟨a, c, hv⟩ := Sl.own_form h2
        rw [strV_length, hnE] at hv
        exact ⟨a, c, by rw [h1, hv], h3⟩)
      have cd := hidp (show ∀ W, Calls Try.prog 13 #[.string S3] W (fun e w' => ∃ a c, e = .returned (.tuple #[.slice a nL c, .int .i64 (L3 : Int)]) ∧ Below W.heap.size W w') from fun W => by
        have h0 := cd' W
        rw [hS3] at h0
        refine h0.mono ?_
        rintro e w' ⟨v, h1, h2, h3⟩
        obtain ⟨a, c, hv⟩ := Sl.own_form h2
        rw [strV_length, hnL] at hv
        exact ⟨a, c, by rw [h1, hv, hL3], h3⟩)
      have cr := hidp (show ∀ W, Calls Try.prog 10 #[.agg [f0, f1, f2].toArray] W (fun e w' => ∃ a c, e = .returned (.tuple #[.agg (dR ks L2).toArray, .agg #[.slice a nE c, .int .i64 (mo : Int)], .int .i64 0]) ∧ OV w' (.slice a nE c) es2 ∧ Below W.heap.size W w') from fun W => (cr' W).mono fun e w' ⟨v, h1, h2, h3⟩ => by
        obtain ⟨a, c, hv⟩ := Sl.own_form h2
        rw [strV_length, hnE] at hv
        subst hv
        exact ⟨a, c, by rw [h1, hL2], ⟨_, h2⟩, h3⟩)
      rw [hY] at cs' cp' cf'
      have cs := hidp cs'
      have cp := hidp cp'
      have cf := hidp cf'
      have HE := hidp hnE
      have HA := hidp hnA
      have d3 : decide ((nE : Int) < (nA : Int)) = false := by simp; omega
      have d4 : decide (nE < nA) = false := by simp; omega
      have hw4 : IntKind.i64.wrap ((nA : Int) + 1) = (nA : Int) + 1 := by rw [IntKind.wrap_i64]; omega
      have d5 : decide ((nE : Int) > (nA : Int) + 1) = false := by simp; omega
      have d6 : decide ((nA : Int) + 1 < (nE : Int)) = false := by simp; omega
      have hw7 : IntKind.i64.wrap ((nE : Int) + (M : Int)) = (nE : Int) + (M : Int) := by rw [IntKind.wrap_i64]; omega
      have d7 : ((nL : Int) == (nE : Int) + (M : Int)) = true := by rw [beq_iff_eq]; omega
      have HD := hidp hel
      have HI2 := hidp (show nE ≤ 21 from by omega)
      clear cs' cp' cf' cr' cc' cl' cd' hp1 hp2 hp3 hp4 hF hk hkl hes hnl hel hnE hnA hM hM1 hS3 hL3 hL2 hnL hY hz3 hk0 HK HR HAL hal hi HS0 HC0 HL0 HL1 hn0 hn1
      rcases hE with rfl | rfl | rfl
      · have tk0 := hidp trivial
        go_wp2_with (first | (clear tk0; (refine Mm.get0 rtD H rfl (.tmp 11) rfl rfl rfl ?_); (try simp only [Act.put, setIfInBounds_toArray, set_cons_zero, set_cons_succ]); have tk1 := hidp trivial) | (clear tk1; (go_at_call 8; refine (cs.out _).mono ?_; rintro e _ ⟨rfl, hb⟩; replace H := hidp (H.out.call hb); clear cs; replace HO := hidp (Sl.own_to HO.out hb); clear hb); (try simp only [Act.put, setIfInBounds_toArray, set_cons_zero, set_cons_succ]); have tk2 := hidp trivial) | (clear tk2; (refine Mm.put0 rtD H rfl (.tmp 11) (.tmp 114) (dR rs Y) rfl rfl rfl rfl (dR_one _ _) rfl ?_; intro _ H2 st; replace HO := hidp (Sl.own_stp HO.out st H.out.at0 (by decide)); clear st H; have H := H2; clear H2); (try simp only [Act.put, setIfInBounds_toArray, set_cons_zero, set_cons_succ]); have tk3 := hidp trivial) | (clear tk3; (refine Mm.get0 rtD H rfl (.tmp 11) rfl rfl rfl ?_); (try simp only [Act.put, setIfInBounds_toArray, set_cons_zero, set_cons_succ]); have tk4 := hidp trivial) | (clear tk4; (go_at_call 6; refine (cp.out _).mono ?_; rintro e _ ⟨rfl, hb⟩; replace H := hidp (H.out.call hb); clear cp; replace HO := hidp (Sl.own_to HO.out hb); clear hb); (try simp only [Act.put, setIfInBounds_toArray, set_cons_zero, set_cons_succ]); have tk5 := hidp trivial) | (clear tk5; (refine Mm.new rtD H (some 21) rfl rfl rfl ?_; clear H; intro b21 _ H nw; have hb := nw.below; replace HO := hidp (Sl.own_to HO.out hb); clear hb nw); (try simp only [Act.put, setIfInBounds_toArray, set_cons_zero, set_cons_succ]); have tk6 := hidp trivial) | (clear tk6; (refine Mm.put0 rtD H rfl (.tmp 21) (.tmp 120) (dR rs2 Y) rfl rfl rfl rfl (dR_one _ _) rfl ?_; intro _ H2 st; replace HO := hidp (Sl.own_stp HO.out st H.out.at0 (by decide)); clear st H; have H := H2; clear H2); (try simp only [Act.put, setIfInBounds_toArray, set_cons_zero, set_cons_succ]); have tk7 := hidp trivial) | (clear tk7; (refine Mm.get0 rtD H rfl (.tmp 21) rfl rfl rfl ?_); (try simp only [Act.put, setIfInBounds_toArray, set_cons_zero, set_cons_succ]); have tk8 := hidp trivial) | (clear tk8; (go_at_call 9; refine (cf.out _).mono ?_; rintro e _ ⟨rfl, hb⟩; replace H := hidp (H.out.call hb); clear cf; replace HO := hidp (Sl.own_to HO.out hb); clear hb); (try simp only [Act.put, setIfInBounds_toArray, set_cons_zero, set_cons_succ]); have tk9 := hidp trivial) | (clear tk9; (refine Mm.new rtD H (some 23) rfl rfl rfl ?_; clear H; intro b23 _ H nw; have hb := nw.below; replace HO := hidp (Sl.own_to HO.out hb); clear hb nw); (try simp only [Act.put, setIfInBounds_toArray, set_cons_zero, set_cons_succ]); have tk10 := hidp trivial) | (clear tk10; (refine Mm.put0 rtD H rfl (.tmp 23) (.tmp 127) [f0, f1, f2] rfl rfl rfl rfl hF1 rfl ?_; intro _ H2 st; replace HO := hidp (Sl.own_stp HO.out st H.out.at0 (by decide)); clear st H; have H := H2; clear H2); (try simp only [Act.put, setIfInBounds_toArray, set_cons_zero, set_cons_succ]); have tk11 := hidp trivial) | (clear tk11; (refine Mm.get0 rtD H rfl (.tmp 23) rfl rfl rfl ?_); (try simp only [Act.put, setIfInBounds_toArray, set_cons_zero, set_cons_succ]); have tk12 := hidp trivial) | (clear tk12; (go_at_call 10; refine (cr.out _).mono ?_; rintro e _ ⟨ae, ce, rfl, hov, hb⟩; replace H := hidp (H.out.call hb); replace HO := hidp (Sl.own_to HO.out hb); have HV := hidp hov; clear cr hov hb); (try simp only [Act.put, setIfInBounds_toArray, set_cons_zero, set_cons_succ]); have tk13 := hidp trivial) | (clear tk13; (refine Mm.new rtD H (some 25) rfl rfl rfl ?_; clear H; intro b25 _ H nw; have hb := nw.below; replace HO := hidp (Sl.own_to HO.out hb); replace HV := hidp (ov_to HV.out hb); clear hb nw); (try simp only [Act.put, setIfInBounds_toArray, set_cons_zero, set_cons_succ]); have tk14 := hidp trivial) | (clear tk14; (refine Mm.new rtS H (some 26) rfl rfl rfl ?_; clear H; intro b26 _ H nw; have hb := nw.below; replace HO := hidp (Sl.own_to HO.out hb); replace HV := hidp (ov_to HV.out hb); clear hb nw); (try simp only [Act.put, setIfInBounds_toArray, set_cons_zero, set_cons_succ]); have tk15 := hidp trivial) | (clear tk15; (refine Mm.put1 rtD H rfl (.tmp 25) (.tmp 132) (dR ks L2) rfl rfl rfl rfl (dR_one _ _) rfl ?_; intro _ H2 st; replace HO := hidp (Sl.own_stp HO.out st H.out.at1 (by decide)); replace HV := hidp (ov_stp HV.out st H.out.at1 (by decide)); clear st H; have H := H2; clear H2); (try simp only [Act.put, setIfInBounds_toArray, set_cons_zero, set_cons_succ]); have tk16 := hidp trivial) | (clear tk16; (refine Mm.put0 rtS H rfl (.tmp 26) (.tmp 133) [.slice ae nE ce, .int .i64 (mo : Int)] rfl rfl rfl rfl (by simp [Value.oneCell']) rfl ?_; intro _ H2 st; replace HO := hidp (Sl.own_stp HO.out st H.out.at0 (by decide)); replace HV := hidp (ov_stp HV.out st H.out.at0 (by decide)); clear st H; have H := H2; clear H2); (try simp only [Act.put, setIfInBounds_toArray, set_cons_zero, set_cons_succ]); have tk17 := hidp trivial) | (clear tk17; (refine Mm.ld0 naSS H rfl (.tmp 158) 0 (.slice ae nE ce) rfl rfl rfl ?_); (try simp only [Act.put, setIfInBounds_toArray, set_cons_zero, set_cons_succ]); have tk18 := hidp trivial) | (clear tk18; (refine Mm.ld0 naSS H rfl (.tmp 166) 0 (.slice ae nE ce) rfl rfl rfl ?_); (try simp only [Act.put, setIfInBounds_toArray, set_cons_zero, set_cons_succ]); have tk19 := hidp trivial) | (clear tk19; (refine Mm.ld0 naI H rfl (.tmp 175) 1 (.int .i64 (mo : Int)) rfl rfl rfl ?_); (try simp only [Act.put, setIfInBounds_toArray, set_cons_zero, set_cons_succ]); have tk20 := hidp trivial) | (clear tk20; (refine Mm.ld0 naSS H rfl (.tmp 180) 0 (.slice ae nE ce) rfl rfl rfl ?_); (try simp only [Act.put, setIfInBounds_toArray, set_cons_zero, set_cons_succ]); have tk21 := hidp trivial))
        try clear tk21
        clear d3 d4 d5 d6 hw4
        have HB := hidp H.out
        have HO2 := hidp HO.out
        have HV2 := hidp HV.out
        go_loopw [28, 29, 183] (fun t28 t29 t183 wr => ∃ i : Nat, t183 = .int .i64 (i : Int) ∧ i ≤ nE ∧ Mm.M w.heap.size w wr [⟨b26, 35, [.slice ae nE ce, .int .i64 (mo : Int)]⟩, ⟨b25, 26, (dR ks L2)⟩, ⟨b23, 26, [f0, f1, f2]⟩, ⟨b21, 26, (dR rs2 Y)⟩, ⟨b11, 26, (dR rs Y)⟩] ∧ OwnV wr w.heap.size 9 (.slice av nA ct) (strV al) ∧ OV wr (.slice ae nE ce) es2) (fun _ _ t183 _ => nE - (intOf t183).toNat)
        case atStart => exact ⟨0, rfl, by omega, HB.out, HO2.out, HV2.out⟩
        case round =>
          obtain ⟨i, rfl, hi, hM, ho, hv⟩ := hrel
          clear H HO HV HB HO2 HV2
          have H := hidp hM
          have HO := hidp ho
          have HV := hidp hv
          clear hM ho hv
          by_cases hlt : i < nE
          · have hn21 := HI2.out
            have e1 : decide ((i : Int) < (nE : Int)) = true := by first | (rw [decide_eq_true_eq]; omega) | (rw [beq_iff_eq]; omega)
            obtain ⟨ge, cg, ev, hcx⟩ := ov_cells HV.out (by rw [HE.out]; omega)
            rw [HE.out] at ev
            simp only [Value.slice.injEq] at ev
            obtain ⟨rfl, -, rfl⟩ := ev
            obtain ⟨x, hx⟩ : ∃ x, Sl.sAt es2 i = x := ⟨_, rfl⟩
            have HX := hidp (show wr.cell? ⟨ge, i, none⟩ = some (Value.string x) from by rw [← hx]; exact hcx i (by rw [HE.out]; exact hlt))
            clear hcx
            by_cases hia : i < nA
            · have e2 : decide ((i : Int) < (nA : Int)) = true := by first | (rw [decide_eq_true_eq]; omega) | (rw [beq_iff_eq]; omega)
              have e3 : ((i : Int) == (nA : Int)) = false := by first | (rw [decide_eq_false_iff_not]; omega) | (rw [beq_eq_false_iff_ne]; omega)
              obtain ⟨ga, ca, ev, hcy⟩ := ov_cells ⟨_, HO.out⟩ (by rw [HA.out]; omega)
              rw [HA.out] at ev
              simp only [Value.slice.injEq] at ev
              obtain ⟨rfl, -, rfl⟩ := ev
              have HZ := hidp (show wr.cell? ⟨ga, i, none⟩ = some (Value.string x) from by
                rw [← hx, Sl.sAt_get (by rw [HE.out]; exact hlt), HOL.out i (by rw [HA.out]; exact hia) (by rw [HE.out]; exact hlt), ← Sl.sAt_get]; exact hcy i (by rw [HA.out]; exact hia))
              clear hcy hx
              have tk0 := hidp trivial
              go_wp2_with (first | (clear tk0; (refine Sl.wpL_idx1 Sl.tyS (by kernel_rfl) rfl (.tmp 181) (.tmp 183) rfl ge 0 nE ce i rfl rfl (by omega) ?_; rw [Nat.zero_add]); (try simp only [Act.put, setIfInBounds_toArray, set_cons_zero, set_cons_succ]); have tk1 := hidp trivial) | (clear tk1; (refine Mm.ldc naS rfl (.tmp 186) ⟨ge, i, none⟩ (.string x) rfl rfl HX.out ?_); (try simp only [Act.put, setIfInBounds_toArray, set_cons_zero, set_cons_succ]); have tk2 := hidp trivial) | (clear tk2; (refine Sl.wpL_idx1 Sl.tyS (by kernel_rfl) rfl (.tmp 194) (.tmp 195) rfl ga 0 nA ct i rfl rfl (by omega) ?_; rw [Nat.zero_add]); (try simp only [Act.put, setIfInBounds_toArray, set_cons_zero, set_cons_succ]); have tk3 := hidp trivial) | (clear tk3; (refine Mm.ldc naS rfl (.tmp 196) ⟨ga, i, none⟩ (.string x) rfl rfl HZ.out ?_); (try simp only [Act.put, setIfInBounds_toArray, set_cons_zero, set_cons_succ]); have tk4 := hidp trivial))
              try clear tk4
              exact ⟨⟨i + 1, by go_num, by omega, H.out, HO.out, HV.out⟩, by simp [intOf]; omega⟩
            · have e2 : decide ((i : Int) < (nA : Int)) = false := by first | (rw [decide_eq_false_iff_not]; omega) | (rw [beq_eq_false_iff_ne]; omega)
              have hin : nA = i := by have := HD.out; omega
              have e3 : ((i : Int) == (nA : Int)) = true := by first | (rw [decide_eq_true_eq]; omega) | (rw [beq_iff_eq]; omega)
              have hxt : x = tl := by
                rw [← hx, Sl.sAt_get (by rw [HE.out]; exact hlt)]
                have h5 := HNW.out (by rw [HA.out, HE.out]; omega)
                have h6 := HA.out
                rw [← h5]; congr 1; omega
              clear hx hin
              subst hxt
              have tk0 := hidp trivial
              go_wp2_with (first | (clear tk0; (refine Sl.wpL_idx1 Sl.tyS (by kernel_rfl) rfl (.tmp 181) (.tmp 183) rfl ge 0 nE ce i rfl rfl (by omega) ?_; rw [Nat.zero_add]); (try simp only [Act.put, setIfInBounds_toArray, set_cons_zero, set_cons_succ]); have tk1 := hidp trivial) | (clear tk1; (refine Mm.ldc naS rfl (.tmp 186) ⟨ge, i, none⟩ (.string x) rfl rfl HX.out ?_); (try simp only [Act.put, setIfInBounds_toArray, set_cons_zero, set_cons_succ]); have tk2 := hidp trivial))
              try clear tk2
              exact ⟨⟨i + 1, by go_num, by omega, H.out, HO.out, HV.out⟩, by simp [intOf]; omega⟩
          · have e1 : decide ((i : Int) < (nE : Int)) = false := by first | (rw [decide_eq_false_iff_not]; omega) | (rw [beq_eq_false_iff_ne]; omega)
            have e1n : decide (i < nE) = false := by rw [decide_eq_false_iff_not]; exact hlt
            clear hi
            have tk0 := hidp trivial
            go_wp2_with (first | (clear tk0; (refine Mm.get1 rtD H rfl (.tmp 25) rfl rfl rfl ?_); (try simp only [Act.put, setIfInBounds_toArray, set_cons_zero, set_cons_succ]); have tk1 := hidp trivial) | (clear tk1; (go_at_call 11; refine (cc.out _).mono ?_; rintro e _ ⟨rfl, hb⟩; replace H := hidp (H.out.call hb); clear cc; replace HO := hidp (Sl.own_to HO.out hb); replace HV := hidp (ov_to HV.out hb); clear hb); (try simp only [Act.put, setIfInBounds_toArray, set_cons_zero, set_cons_succ]); have tk2 := hidp trivial) | (clear tk2; (refine Mm.new rtD H (some 30) rfl rfl rfl ?_; clear H; intro b30 _ H nw; have hb := nw.below; replace HO := hidp (Sl.own_to HO.out hb); replace HV := hidp (ov_to HV.out hb); clear hb nw); (try simp only [Act.put, setIfInBounds_toArray, set_cons_zero, set_cons_succ]); have tk3 := hidp trivial) | (clear tk3; (refine Mm.put0 rtD H rfl (.tmp 30) (.tmp 215) [.string S3, .int .i64 (L3 : Int), .int .i64 1048576] rfl rfl rfl rfl (by simp [Value.oneCell']) rfl ?_; intro _ H2 st; replace HO := hidp (Sl.own_stp HO.out st H.out.at0 (by decide)); replace HV := hidp (ov_stp HV.out st H.out.at0 (by decide)); clear st H; have H := H2; clear H2); (try simp only [Act.put, setIfInBounds_toArray, set_cons_zero, set_cons_succ]); have tk4 := hidp trivial) | (clear tk4; (refine Mm.ld0 naS H rfl (.tmp 218) 0 (.string S3) rfl rfl rfl ?_); (try simp only [Act.put, setIfInBounds_toArray, set_cons_zero, set_cons_succ]); have tk5 := hidp trivial) | (clear tk5; (go_at_call 12; refine (cl.out _).mono ?_; rintro e _ ⟨a2, c2, rfl, hb⟩; replace H := hidp (H.out.call hb); replace HO := hidp (Sl.own_to HO.out hb); replace HV := hidp (ov_to HV.out hb); clear hb cl); (try simp only [Act.put, setIfInBounds_toArray, set_cons_zero, set_cons_succ]); have tk6 := hidp trivial) | (clear tk6; (refine Mm.new rtS H (some 32) rfl rfl rfl ?_; clear H; intro b32 _ H nw; have hb := nw.below; replace HO := hidp (Sl.own_to HO.out hb); replace HV := hidp (ov_to HV.out hb); clear hb nw); (try simp only [Act.put, setIfInBounds_toArray, set_cons_zero, set_cons_succ]); have tk7 := hidp trivial) | (clear tk7; (refine Mm.put0 rtS H rfl (.tmp 32) (.tmp 221) [.slice a2 nE c2, .int .i64 (mo : Int)] rfl rfl rfl rfl (by simp [Value.oneCell']) rfl ?_; intro _ H2 st; replace HO := hidp (Sl.own_stp HO.out st H.out.at0 (by decide)); replace HV := hidp (ov_stp HV.out st H.out.at0 (by decide)); clear st H; have H := H2; clear H2); (try simp only [Act.put, setIfInBounds_toArray, set_cons_zero, set_cons_succ]); have tk8 := hidp trivial) | (clear tk8; (refine Mm.ld1 naS H rfl (.tmp 224) 0 (.string S3) rfl rfl rfl ?_); (try simp only [Act.put, setIfInBounds_toArray, set_cons_zero, set_cons_succ]); have tk9 := hidp trivial) | (clear tk9; (go_at_call 13; refine (cd.out _).mono ?_; rintro e _ ⟨a3, c3, rfl, hb⟩; replace H := hidp (H.out.call hb); replace HO := hidp (Sl.own_to HO.out hb); replace HV := hidp (ov_to HV.out hb); clear hb cd); (try simp only [Act.put, setIfInBounds_toArray, set_cons_zero, set_cons_succ]); have tk10 := hidp trivial) | (clear tk10; (refine Mm.ld0 naSS H rfl (.tmp 236) 0 (.slice a2 nE c2) rfl rfl rfl ?_); (try simp only [Act.put, setIfInBounds_toArray, set_cons_zero, set_cons_succ]); have tk11 := hidp trivial) | (clear tk11; (refine Mm.ld2 naSS H rfl (.tmp 239) 0 (.slice ae nE ce) rfl rfl rfl ?_); (try simp only [Act.put, setIfInBounds_toArray, set_cons_zero, set_cons_succ]); have tk12 := hidp trivial) | (clear tk12; (refine Mm.ld0 naI H rfl (.tmp 245) 1 (.int .i64 (mo : Int)) rfl rfl rfl ?_); (try simp only [Act.put, setIfInBounds_toArray, set_cons_zero, set_cons_succ]); have tk13 := hidp trivial) | (clear tk13; (refine Mm.ld1 naS H rfl (.tmp 252) 0 (.string S3) rfl rfl rfl ?_); (try simp only [Act.put, setIfInBounds_toArray, set_cons_zero, set_cons_succ]); have tk14 := hidp trivial) | (clear tk14; (refine Mm.ld0 naSS H rfl (.tmp 260) 0 (.slice a2 nE c2) rfl rfl rfl ?_); (try simp only [Act.put, setIfInBounds_toArray, set_cons_zero, set_cons_succ]); have tk15 := hidp trivial))
            try clear tk15
            go_ret
            exact ⟨rfl, H.out.below⟩
      · have tk0 := hidp trivial
        go_wp2_with (first | (clear tk0; (refine Mm.get0 rtD H rfl (.tmp 11) rfl rfl rfl ?_); (try simp only [Act.put, setIfInBounds_toArray, set_cons_zero, set_cons_succ]); have tk1 := hidp trivial) | (clear tk1; (go_at_call 8; refine (cs.out _).mono ?_; rintro e _ ⟨rfl, hb⟩; replace H := hidp (H.out.call hb); clear cs; replace HO := hidp (Sl.own_to HO.out hb); clear hb); (try simp only [Act.put, setIfInBounds_toArray, set_cons_zero, set_cons_succ]); have tk2 := hidp trivial) | (clear tk2; (refine Mm.put0 rtD H rfl (.tmp 11) (.tmp 114) (dR rs Y) rfl rfl rfl rfl (dR_one _ _) rfl ?_; intro _ H2 st; replace HO := hidp (Sl.own_stp HO.out st H.out.at0 (by decide)); clear st H; have H := H2; clear H2); (try simp only [Act.put, setIfInBounds_toArray, set_cons_zero, set_cons_succ]); have tk3 := hidp trivial) | (clear tk3; (refine Mm.get0 rtD H rfl (.tmp 11) rfl rfl rfl ?_); (try simp only [Act.put, setIfInBounds_toArray, set_cons_zero, set_cons_succ]); have tk4 := hidp trivial) | (clear tk4; (go_at_call 6; refine (cp.out _).mono ?_; rintro e _ ⟨rfl, hb⟩; replace H := hidp (H.out.call hb); clear cp; replace HO := hidp (Sl.own_to HO.out hb); clear hb); (try simp only [Act.put, setIfInBounds_toArray, set_cons_zero, set_cons_succ]); have tk5 := hidp trivial) | (clear tk5; (refine Mm.new rtD H (some 21) rfl rfl rfl ?_; clear H; intro b21 _ H nw; have hb := nw.below; replace HO := hidp (Sl.own_to HO.out hb); clear hb nw); (try simp only [Act.put, setIfInBounds_toArray, set_cons_zero, set_cons_succ]); have tk6 := hidp trivial) | (clear tk6; (refine Mm.put0 rtD H rfl (.tmp 21) (.tmp 120) (dR rs2 Y) rfl rfl rfl rfl (dR_one _ _) rfl ?_; intro _ H2 st; replace HO := hidp (Sl.own_stp HO.out st H.out.at0 (by decide)); clear st H; have H := H2; clear H2); (try simp only [Act.put, setIfInBounds_toArray, set_cons_zero, set_cons_succ]); have tk7 := hidp trivial) | (clear tk7; (refine Mm.get0 rtD H rfl (.tmp 21) rfl rfl rfl ?_); (try simp only [Act.put, setIfInBounds_toArray, set_cons_zero, set_cons_succ]); have tk8 := hidp trivial) | (clear tk8; (go_at_call 9; refine (cf.out _).mono ?_; rintro e _ ⟨rfl, hb⟩; replace H := hidp (H.out.call hb); clear cf; replace HO := hidp (Sl.own_to HO.out hb); clear hb); (try simp only [Act.put, setIfInBounds_toArray, set_cons_zero, set_cons_succ]); have tk9 := hidp trivial) | (clear tk9; (refine Mm.new rtD H (some 23) rfl rfl rfl ?_; clear H; intro b23 _ H nw; have hb := nw.below; replace HO := hidp (Sl.own_to HO.out hb); clear hb nw); (try simp only [Act.put, setIfInBounds_toArray, set_cons_zero, set_cons_succ]); have tk10 := hidp trivial) | (clear tk10; (refine Mm.put0 rtD H rfl (.tmp 23) (.tmp 127) [f0, f1, f2] rfl rfl rfl rfl hF1 rfl ?_; intro _ H2 st; replace HO := hidp (Sl.own_stp HO.out st H.out.at0 (by decide)); clear st H; have H := H2; clear H2); (try simp only [Act.put, setIfInBounds_toArray, set_cons_zero, set_cons_succ]); have tk11 := hidp trivial) | (clear tk11; (refine Mm.get0 rtD H rfl (.tmp 23) rfl rfl rfl ?_); (try simp only [Act.put, setIfInBounds_toArray, set_cons_zero, set_cons_succ]); have tk12 := hidp trivial) | (clear tk12; (go_at_call 10; refine (cr.out _).mono ?_; rintro e _ ⟨ae, ce, rfl, hov, hb⟩; replace H := hidp (H.out.call hb); replace HO := hidp (Sl.own_to HO.out hb); have HV := hidp hov; clear cr hov hb); (try simp only [Act.put, setIfInBounds_toArray, set_cons_zero, set_cons_succ]); have tk13 := hidp trivial) | (clear tk13; (refine Mm.new rtD H (some 25) rfl rfl rfl ?_; clear H; intro b25 _ H nw; have hb := nw.below; replace HO := hidp (Sl.own_to HO.out hb); replace HV := hidp (ov_to HV.out hb); clear hb nw); (try simp only [Act.put, setIfInBounds_toArray, set_cons_zero, set_cons_succ]); have tk14 := hidp trivial) | (clear tk14; (refine Mm.new rtS H (some 26) rfl rfl rfl ?_; clear H; intro b26 _ H nw; have hb := nw.below; replace HO := hidp (Sl.own_to HO.out hb); replace HV := hidp (ov_to HV.out hb); clear hb nw); (try simp only [Act.put, setIfInBounds_toArray, set_cons_zero, set_cons_succ]); have tk15 := hidp trivial) | (clear tk15; (refine Mm.put1 rtD H rfl (.tmp 25) (.tmp 132) (dR ks L2) rfl rfl rfl rfl (dR_one _ _) rfl ?_; intro _ H2 st; replace HO := hidp (Sl.own_stp HO.out st H.out.at1 (by decide)); replace HV := hidp (ov_stp HV.out st H.out.at1 (by decide)); clear st H; have H := H2; clear H2); (try simp only [Act.put, setIfInBounds_toArray, set_cons_zero, set_cons_succ]); have tk16 := hidp trivial) | (clear tk16; (refine Mm.put0 rtS H rfl (.tmp 26) (.tmp 133) [.slice ae nE ce, .int .i64 (mo : Int)] rfl rfl rfl rfl (by simp [Value.oneCell']) rfl ?_; intro _ H2 st; replace HO := hidp (Sl.own_stp HO.out st H.out.at0 (by decide)); replace HV := hidp (ov_stp HV.out st H.out.at0 (by decide)); clear st H; have H := H2; clear H2); (try simp only [Act.put, setIfInBounds_toArray, set_cons_zero, set_cons_succ]); have tk17 := hidp trivial) | (clear tk17; (refine Mm.ld0 naSS H rfl (.tmp 158) 0 (.slice ae nE ce) rfl rfl rfl ?_); (try simp only [Act.put, setIfInBounds_toArray, set_cons_zero, set_cons_succ]); have tk18 := hidp trivial) | (clear tk18; (refine Mm.ld0 naSS H rfl (.tmp 166) 0 (.slice ae nE ce) rfl rfl rfl ?_); (try simp only [Act.put, setIfInBounds_toArray, set_cons_zero, set_cons_succ]); have tk19 := hidp trivial) | (clear tk19; (refine Mm.ld0 naI H rfl (.tmp 175) 1 (.int .i64 (mo : Int)) rfl rfl rfl ?_); (try simp only [Act.put, setIfInBounds_toArray, set_cons_zero, set_cons_succ]); have tk20 := hidp trivial) | (clear tk20; (refine Mm.ld0 naSS H rfl (.tmp 180) 0 (.slice ae nE ce) rfl rfl rfl ?_); (try simp only [Act.put, setIfInBounds_toArray, set_cons_zero, set_cons_succ]); have tk21 := hidp trivial))
        try clear tk21
        clear d3 d4 d5 d6 hw4
        have HB := hidp H.out
        have HO2 := hidp HO.out
        have HV2 := hidp HV.out
        go_loopw [28, 29, 183] (fun t28 t29 t183 wr => ∃ i : Nat, t183 = .int .i64 (i : Int) ∧ i ≤ nE ∧ Mm.M w.heap.size w wr [⟨b26, 35, [.slice ae nE ce, .int .i64 (mo : Int)]⟩, ⟨b25, 26, (dR ks L2)⟩, ⟨b23, 26, [f0, f1, f2]⟩, ⟨b21, 26, (dR rs2 Y)⟩, ⟨b11, 26, (dR rs Y)⟩] ∧ OwnV wr w.heap.size 9 (.slice av nA ct) (strV al) ∧ OV wr (.slice ae nE ce) es2) (fun _ _ t183 _ => nE - (intOf t183).toNat)
        case atStart => exact ⟨0, rfl, by omega, HB.out, HO2.out, HV2.out⟩
        case round =>
          obtain ⟨i, rfl, hi, hM, ho, hv⟩ := hrel
          clear H HO HV HB HO2 HV2
          have H := hidp hM
          have HO := hidp ho
          have HV := hidp hv
          clear hM ho hv
          by_cases hlt : i < nE
          · have hn21 := HI2.out
            have e1 : decide ((i : Int) < (nE : Int)) = true := by first | (rw [decide_eq_true_eq]; omega) | (rw [beq_iff_eq]; omega)
            obtain ⟨ge, cg, ev, hcx⟩ := ov_cells HV.out (by rw [HE.out]; omega)
            rw [HE.out] at ev
            simp only [Value.slice.injEq] at ev
            obtain ⟨rfl, -, rfl⟩ := ev
            obtain ⟨x, hx⟩ : ∃ x, Sl.sAt es2 i = x := ⟨_, rfl⟩
            have HX := hidp (show wr.cell? ⟨ge, i, none⟩ = some (Value.string x) from by rw [← hx]; exact hcx i (by rw [HE.out]; exact hlt))
            clear hcx
            by_cases hia : i < nA
            · have e2 : decide ((i : Int) < (nA : Int)) = true := by first | (rw [decide_eq_true_eq]; omega) | (rw [beq_iff_eq]; omega)
              have e3 : ((i : Int) == (nA : Int)) = false := by first | (rw [decide_eq_false_iff_not]; omega) | (rw [beq_eq_false_iff_ne]; omega)
              obtain ⟨ga, ca, ev, hcy⟩ := ov_cells ⟨_, HO.out⟩ (by rw [HA.out]; omega)
              rw [HA.out] at ev
              simp only [Value.slice.injEq] at ev
              obtain ⟨rfl, -, rfl⟩ := ev
              have HZ := hidp (show wr.cell? ⟨ga, i, none⟩ = some (Value.string x) from by
                rw [← hx, Sl.sAt_get (by rw [HE.out]; exact hlt), HOL.out i (by rw [HA.out]; exact hia) (by rw [HE.out]; exact hlt), ← Sl.sAt_get]; exact hcy i (by rw [HA.out]; exact hia))
              clear hcy hx
              have tk0 := hidp trivial
              go_wp2_with (first | (clear tk0; (refine Sl.wpL_idx1 Sl.tyS (by kernel_rfl) rfl (.tmp 181) (.tmp 183) rfl ge 0 nE ce i rfl rfl (by omega) ?_; rw [Nat.zero_add]); (try simp only [Act.put, setIfInBounds_toArray, set_cons_zero, set_cons_succ]); have tk1 := hidp trivial) | (clear tk1; (refine Mm.ldc naS rfl (.tmp 186) ⟨ge, i, none⟩ (.string x) rfl rfl HX.out ?_); (try simp only [Act.put, setIfInBounds_toArray, set_cons_zero, set_cons_succ]); have tk2 := hidp trivial) | (clear tk2; (refine Sl.wpL_idx1 Sl.tyS (by kernel_rfl) rfl (.tmp 194) (.tmp 195) rfl ga 0 nA ct i rfl rfl (by omega) ?_; rw [Nat.zero_add]); (try simp only [Act.put, setIfInBounds_toArray, set_cons_zero, set_cons_succ]); have tk3 := hidp trivial) | (clear tk3; (refine Mm.ldc naS rfl (.tmp 196) ⟨ga, i, none⟩ (.string x) rfl rfl HZ.out ?_); (try simp only [Act.put, setIfInBounds_toArray, set_cons_zero, set_cons_succ]); have tk4 := hidp trivial))
              try clear tk4
              exact ⟨⟨i + 1, by go_num, by omega, H.out, HO.out, HV.out⟩, by simp [intOf]; omega⟩
            · have e2 : decide ((i : Int) < (nA : Int)) = false := by first | (rw [decide_eq_false_iff_not]; omega) | (rw [beq_eq_false_iff_ne]; omega)
              have hin : nA = i := by have := HD.out; omega
              have e3 : ((i : Int) == (nA : Int)) = true := by first | (rw [decide_eq_true_eq]; omega) | (rw [beq_iff_eq]; omega)
              have hxt : x = tl := by
                rw [← hx, Sl.sAt_get (by rw [HE.out]; exact hlt)]
                have h5 := HNW.out (by rw [HA.out, HE.out]; omega)
                have h6 := HA.out
                rw [← h5]; congr 1; omega
              clear hx hin
              subst hxt
              have tk0 := hidp trivial
              go_wp2_with (first | (clear tk0; (refine Sl.wpL_idx1 Sl.tyS (by kernel_rfl) rfl (.tmp 181) (.tmp 183) rfl ge 0 nE ce i rfl rfl (by omega) ?_; rw [Nat.zero_add]); (try simp only [Act.put, setIfInBounds_toArray, set_cons_zero, set_cons_succ]); have tk1 := hidp trivial) | (clear tk1; (refine Mm.ldc naS rfl (.tmp 186) ⟨ge, i, none⟩ (.string x) rfl rfl HX.out ?_); (try simp only [Act.put, setIfInBounds_toArray, set_cons_zero, set_cons_succ]); have tk2 := hidp trivial))
              try clear tk2
              exact ⟨⟨i + 1, by go_num, by omega, H.out, HO.out, HV.out⟩, by simp [intOf]; omega⟩
          · have e1 : decide ((i : Int) < (nE : Int)) = false := by first | (rw [decide_eq_false_iff_not]; omega) | (rw [beq_eq_false_iff_ne]; omega)
            have e1n : decide (i < nE) = false := by rw [decide_eq_false_iff_not]; exact hlt
            clear hi
            have tk0 := hidp trivial
            go_wp2_with (first | (clear tk0; (refine Mm.get1 rtD H rfl (.tmp 25) rfl rfl rfl ?_); (try simp only [Act.put, setIfInBounds_toArray, set_cons_zero, set_cons_succ]); have tk1 := hidp trivial) | (clear tk1; (go_at_call 11; refine (cc.out _).mono ?_; rintro e _ ⟨rfl, hb⟩; replace H := hidp (H.out.call hb); clear cc; replace HO := hidp (Sl.own_to HO.out hb); replace HV := hidp (ov_to HV.out hb); clear hb); (try simp only [Act.put, setIfInBounds_toArray, set_cons_zero, set_cons_succ]); have tk2 := hidp trivial) | (clear tk2; (refine Mm.new rtD H (some 30) rfl rfl rfl ?_; clear H; intro b30 _ H nw; have hb := nw.below; replace HO := hidp (Sl.own_to HO.out hb); replace HV := hidp (ov_to HV.out hb); clear hb nw); (try simp only [Act.put, setIfInBounds_toArray, set_cons_zero, set_cons_succ]); have tk3 := hidp trivial) | (clear tk3; (refine Mm.put0 rtD H rfl (.tmp 30) (.tmp 215) [.string S3, .int .i64 (L3 : Int), .int .i64 1048576] rfl rfl rfl rfl (by simp [Value.oneCell']) rfl ?_; intro _ H2 st; replace HO := hidp (Sl.own_stp HO.out st H.out.at0 (by decide)); replace HV := hidp (ov_stp HV.out st H.out.at0 (by decide)); clear st H; have H := H2; clear H2); (try simp only [Act.put, setIfInBounds_toArray, set_cons_zero, set_cons_succ]); have tk4 := hidp trivial) | (clear tk4; (refine Mm.ld0 naS H rfl (.tmp 218) 0 (.string S3) rfl rfl rfl ?_); (try simp only [Act.put, setIfInBounds_toArray, set_cons_zero, set_cons_succ]); have tk5 := hidp trivial) | (clear tk5; (go_at_call 12; refine (cl.out _).mono ?_; rintro e _ ⟨a2, c2, rfl, hb⟩; replace H := hidp (H.out.call hb); replace HO := hidp (Sl.own_to HO.out hb); replace HV := hidp (ov_to HV.out hb); clear hb cl); (try simp only [Act.put, setIfInBounds_toArray, set_cons_zero, set_cons_succ]); have tk6 := hidp trivial) | (clear tk6; (refine Mm.new rtS H (some 32) rfl rfl rfl ?_; clear H; intro b32 _ H nw; have hb := nw.below; replace HO := hidp (Sl.own_to HO.out hb); replace HV := hidp (ov_to HV.out hb); clear hb nw); (try simp only [Act.put, setIfInBounds_toArray, set_cons_zero, set_cons_succ]); have tk7 := hidp trivial) | (clear tk7; (refine Mm.put0 rtS H rfl (.tmp 32) (.tmp 221) [.slice a2 nE c2, .int .i64 (mo : Int)] rfl rfl rfl rfl (by simp [Value.oneCell']) rfl ?_; intro _ H2 st; replace HO := hidp (Sl.own_stp HO.out st H.out.at0 (by decide)); replace HV := hidp (ov_stp HV.out st H.out.at0 (by decide)); clear st H; have H := H2; clear H2); (try simp only [Act.put, setIfInBounds_toArray, set_cons_zero, set_cons_succ]); have tk8 := hidp trivial) | (clear tk8; (refine Mm.ld1 naS H rfl (.tmp 224) 0 (.string S3) rfl rfl rfl ?_); (try simp only [Act.put, setIfInBounds_toArray, set_cons_zero, set_cons_succ]); have tk9 := hidp trivial) | (clear tk9; (go_at_call 13; refine (cd.out _).mono ?_; rintro e _ ⟨a3, c3, rfl, hb⟩; replace H := hidp (H.out.call hb); replace HO := hidp (Sl.own_to HO.out hb); replace HV := hidp (ov_to HV.out hb); clear hb cd); (try simp only [Act.put, setIfInBounds_toArray, set_cons_zero, set_cons_succ]); have tk10 := hidp trivial) | (clear tk10; (refine Mm.ld0 naSS H rfl (.tmp 236) 0 (.slice a2 nE c2) rfl rfl rfl ?_); (try simp only [Act.put, setIfInBounds_toArray, set_cons_zero, set_cons_succ]); have tk11 := hidp trivial) | (clear tk11; (refine Mm.ld2 naSS H rfl (.tmp 239) 0 (.slice ae nE ce) rfl rfl rfl ?_); (try simp only [Act.put, setIfInBounds_toArray, set_cons_zero, set_cons_succ]); have tk12 := hidp trivial) | (clear tk12; (refine Mm.ld0 naI H rfl (.tmp 245) 1 (.int .i64 (mo : Int)) rfl rfl rfl ?_); (try simp only [Act.put, setIfInBounds_toArray, set_cons_zero, set_cons_succ]); have tk13 := hidp trivial) | (clear tk13; (refine Mm.ld1 naS H rfl (.tmp 252) 0 (.string S3) rfl rfl rfl ?_); (try simp only [Act.put, setIfInBounds_toArray, set_cons_zero, set_cons_succ]); have tk14 := hidp trivial) | (clear tk14; (refine Mm.ld0 naSS H rfl (.tmp 260) 0 (.slice a2 nE c2) rfl rfl rfl ?_); (try simp only [Act.put, setIfInBounds_toArray, set_cons_zero, set_cons_succ]); have tk15 := hidp trivial))
            try clear tk15
            go_ret
            exact ⟨rfl, H.out.below⟩
      · have tk0 := hidp trivial
        go_wp2_with (first | (clear tk0; (refine Mm.get0 rtD H rfl (.tmp 11) rfl rfl rfl ?_); (try simp only [Act.put, setIfInBounds_toArray, set_cons_zero, set_cons_succ]); have tk1 := hidp trivial) | (clear tk1; (go_at_call 8; refine (cs.out _).mono ?_; rintro e _ ⟨rfl, hb⟩; replace H := hidp (H.out.call hb); clear cs; replace HO := hidp (Sl.own_to HO.out hb); clear hb); (try simp only [Act.put, setIfInBounds_toArray, set_cons_zero, set_cons_succ]); have tk2 := hidp trivial) | (clear tk2; (refine Mm.put0 rtD H rfl (.tmp 11) (.tmp 114) (dR rs Y) rfl rfl rfl rfl (dR_one _ _) rfl ?_; intro _ H2 st; replace HO := hidp (Sl.own_stp HO.out st H.out.at0 (by decide)); clear st H; have H := H2; clear H2); (try simp only [Act.put, setIfInBounds_toArray, set_cons_zero, set_cons_succ]); have tk3 := hidp trivial) | (clear tk3; (refine Mm.get0 rtD H rfl (.tmp 11) rfl rfl rfl ?_); (try simp only [Act.put, setIfInBounds_toArray, set_cons_zero, set_cons_succ]); have tk4 := hidp trivial) | (clear tk4; (go_at_call 6; refine (cp.out _).mono ?_; rintro e _ ⟨rfl, hb⟩; replace H := hidp (H.out.call hb); clear cp; replace HO := hidp (Sl.own_to HO.out hb); clear hb); (try simp only [Act.put, setIfInBounds_toArray, set_cons_zero, set_cons_succ]); have tk5 := hidp trivial) | (clear tk5; (refine Mm.new rtD H (some 21) rfl rfl rfl ?_; clear H; intro b21 _ H nw; have hb := nw.below; replace HO := hidp (Sl.own_to HO.out hb); clear hb nw); (try simp only [Act.put, setIfInBounds_toArray, set_cons_zero, set_cons_succ]); have tk6 := hidp trivial) | (clear tk6; (refine Mm.put0 rtD H rfl (.tmp 21) (.tmp 120) (dR rs2 Y) rfl rfl rfl rfl (dR_one _ _) rfl ?_; intro _ H2 st; replace HO := hidp (Sl.own_stp HO.out st H.out.at0 (by decide)); clear st H; have H := H2; clear H2); (try simp only [Act.put, setIfInBounds_toArray, set_cons_zero, set_cons_succ]); have tk7 := hidp trivial) | (clear tk7; (refine Mm.get0 rtD H rfl (.tmp 21) rfl rfl rfl ?_); (try simp only [Act.put, setIfInBounds_toArray, set_cons_zero, set_cons_succ]); have tk8 := hidp trivial) | (clear tk8; (go_at_call 9; refine (cf.out _).mono ?_; rintro e _ ⟨rfl, hb⟩; replace H := hidp (H.out.call hb); clear cf; replace HO := hidp (Sl.own_to HO.out hb); clear hb); (try simp only [Act.put, setIfInBounds_toArray, set_cons_zero, set_cons_succ]); have tk9 := hidp trivial) | (clear tk9; (refine Mm.new rtD H (some 23) rfl rfl rfl ?_; clear H; intro b23 _ H nw; have hb := nw.below; replace HO := hidp (Sl.own_to HO.out hb); clear hb nw); (try simp only [Act.put, setIfInBounds_toArray, set_cons_zero, set_cons_succ]); have tk10 := hidp trivial) | (clear tk10; (refine Mm.put0 rtD H rfl (.tmp 23) (.tmp 127) [f0, f1, f2] rfl rfl rfl rfl hF1 rfl ?_; intro _ H2 st; replace HO := hidp (Sl.own_stp HO.out st H.out.at0 (by decide)); clear st H; have H := H2; clear H2); (try simp only [Act.put, setIfInBounds_toArray, set_cons_zero, set_cons_succ]); have tk11 := hidp trivial) | (clear tk11; (refine Mm.get0 rtD H rfl (.tmp 23) rfl rfl rfl ?_); (try simp only [Act.put, setIfInBounds_toArray, set_cons_zero, set_cons_succ]); have tk12 := hidp trivial) | (clear tk12; (go_at_call 10; refine (cr.out _).mono ?_; rintro e _ ⟨ae, ce, rfl, hov, hb⟩; replace H := hidp (H.out.call hb); replace HO := hidp (Sl.own_to HO.out hb); have HV := hidp hov; clear cr hov hb); (try simp only [Act.put, setIfInBounds_toArray, set_cons_zero, set_cons_succ]); have tk13 := hidp trivial) | (clear tk13; (refine Mm.new rtD H (some 25) rfl rfl rfl ?_; clear H; intro b25 _ H nw; have hb := nw.below; replace HO := hidp (Sl.own_to HO.out hb); replace HV := hidp (ov_to HV.out hb); clear hb nw); (try simp only [Act.put, setIfInBounds_toArray, set_cons_zero, set_cons_succ]); have tk14 := hidp trivial) | (clear tk14; (refine Mm.new rtS H (some 26) rfl rfl rfl ?_; clear H; intro b26 _ H nw; have hb := nw.below; replace HO := hidp (Sl.own_to HO.out hb); replace HV := hidp (ov_to HV.out hb); clear hb nw); (try simp only [Act.put, setIfInBounds_toArray, set_cons_zero, set_cons_succ]); have tk15 := hidp trivial) | (clear tk15; (refine Mm.put1 rtD H rfl (.tmp 25) (.tmp 132) (dR ks L2) rfl rfl rfl rfl (dR_one _ _) rfl ?_; intro _ H2 st; replace HO := hidp (Sl.own_stp HO.out st H.out.at1 (by decide)); replace HV := hidp (ov_stp HV.out st H.out.at1 (by decide)); clear st H; have H := H2; clear H2); (try simp only [Act.put, setIfInBounds_toArray, set_cons_zero, set_cons_succ]); have tk16 := hidp trivial) | (clear tk16; (refine Mm.put0 rtS H rfl (.tmp 26) (.tmp 133) [.slice ae nE ce, .int .i64 (mo : Int)] rfl rfl rfl rfl (by simp [Value.oneCell']) rfl ?_; intro _ H2 st; replace HO := hidp (Sl.own_stp HO.out st H.out.at0 (by decide)); replace HV := hidp (ov_stp HV.out st H.out.at0 (by decide)); clear st H; have H := H2; clear H2); (try simp only [Act.put, setIfInBounds_toArray, set_cons_zero, set_cons_succ]); have tk17 := hidp trivial) | (clear tk17; (refine Mm.ld0 naSS H rfl (.tmp 158) 0 (.slice ae nE ce) rfl rfl rfl ?_); (try simp only [Act.put, setIfInBounds_toArray, set_cons_zero, set_cons_succ]); have tk18 := hidp trivial) | (clear tk18; (refine Mm.ld0 naSS H rfl (.tmp 166) 0 (.slice ae nE ce) rfl rfl rfl ?_); (try simp only [Act.put, setIfInBounds_toArray, set_cons_zero, set_cons_succ]); have tk19 := hidp trivial) | (clear tk19; (refine Mm.ld0 naI H rfl (.tmp 175) 1 (.int .i64 (mo : Int)) rfl rfl rfl ?_); (try simp only [Act.put, setIfInBounds_toArray, set_cons_zero, set_cons_succ]); have tk20 := hidp trivial) | (clear tk20; (refine Mm.ld0 naSS H rfl (.tmp 180) 0 (.slice ae nE ce) rfl rfl rfl ?_); (try simp only [Act.put, setIfInBounds_toArray, set_cons_zero, set_cons_succ]); have tk21 := hidp trivial))
        try clear tk21
        clear d3 d4 d5 d6 hw4
        have HB := hidp H.out
        have HO2 := hidp HO.out
        have HV2 := hidp HV.out
        go_loopw [28, 29, 183] (fun t28 t29 t183 wr => ∃ i : Nat, t183 = .int .i64 (i : Int) ∧ i ≤ nE ∧ Mm.M w.heap.size w wr [⟨b26, 35, [.slice ae nE ce, .int .i64 (mo : Int)]⟩, ⟨b25, 26, (dR ks L2)⟩, ⟨b23, 26, [f0, f1, f2]⟩, ⟨b21, 26, (dR rs2 Y)⟩, ⟨b11, 26, (dR rs Y)⟩] ∧ OwnV wr w.heap.size 9 (.slice av nA ct) (strV al) ∧ OV wr (.slice ae nE ce) es2) (fun _ _ t183 _ => nE - (intOf t183).toNat)
        case atStart => exact ⟨0, rfl, by omega, HB.out, HO2.out, HV2.out⟩
        case round =>
          obtain ⟨i, rfl, hi, hM, ho, hv⟩ := hrel
          clear H HO HV HB HO2 HV2
          have H := hidp hM
          have HO := hidp ho
          have HV := hidp hv
          clear hM ho hv
          by_cases hlt : i < nE
          · have hn21 := HI2.out
            have e1 : decide ((i : Int) < (nE : Int)) = true := by first | (rw [decide_eq_true_eq]; omega) | (rw [beq_iff_eq]; omega)
            obtain ⟨ge, cg, ev, hcx⟩ := ov_cells HV.out (by rw [HE.out]; omega)
            rw [HE.out] at ev
            simp only [Value.slice.injEq] at ev
            obtain ⟨rfl, -, rfl⟩ := ev
            obtain ⟨x, hx⟩ : ∃ x, Sl.sAt es2 i = x := ⟨_, rfl⟩
            have HX := hidp (show wr.cell? ⟨ge, i, none⟩ = some (Value.string x) from by rw [← hx]; exact hcx i (by rw [HE.out]; exact hlt))
            clear hcx
            by_cases hia : i < nA
            · have e2 : decide ((i : Int) < (nA : Int)) = true := by first | (rw [decide_eq_true_eq]; omega) | (rw [beq_iff_eq]; omega)
              have e3 : ((i : Int) == (nA : Int)) = false := by first | (rw [decide_eq_false_iff_not]; omega) | (rw [beq_eq_false_iff_ne]; omega)
              obtain ⟨ga, ca, ev, hcy⟩ := ov_cells ⟨_, HO.out⟩ (by rw [HA.out]; omega)
              rw [HA.out] at ev
              simp only [Value.slice.injEq] at ev
              obtain ⟨rfl, -, rfl⟩ := ev
              have HZ := hidp (show wr.cell? ⟨ga, i, none⟩ = some (Value.string x) from by
                rw [← hx, Sl.sAt_get (by rw [HE.out]; exact hlt), HOL.out i (by rw [HA.out]; exact hia) (by rw [HE.out]; exact hlt), ← Sl.sAt_get]; exact hcy i (by rw [HA.out]; exact hia))
              clear hcy hx
              have tk0 := hidp trivial
              go_wp2_with (first | (clear tk0; (refine Sl.wpL_idx1 Sl.tyS (by kernel_rfl) rfl (.tmp 181) (.tmp 183) rfl ge 0 nE ce i rfl rfl (by omega) ?_; rw [Nat.zero_add]); (try simp only [Act.put, setIfInBounds_toArray, set_cons_zero, set_cons_succ]); have tk1 := hidp trivial) | (clear tk1; (refine Mm.ldc naS rfl (.tmp 186) ⟨ge, i, none⟩ (.string x) rfl rfl HX.out ?_); (try simp only [Act.put, setIfInBounds_toArray, set_cons_zero, set_cons_succ]); have tk2 := hidp trivial) | (clear tk2; (refine Sl.wpL_idx1 Sl.tyS (by kernel_rfl) rfl (.tmp 194) (.tmp 195) rfl ga 0 nA ct i rfl rfl (by omega) ?_; rw [Nat.zero_add]); (try simp only [Act.put, setIfInBounds_toArray, set_cons_zero, set_cons_succ]); have tk3 := hidp trivial) | (clear tk3; (refine Mm.ldc naS rfl (.tmp 196) ⟨ga, i, none⟩ (.string x) rfl rfl HZ.out ?_); (try simp only [Act.put, setIfInBounds_toArray, set_cons_zero, set_cons_succ]); have tk4 := hidp trivial))
              try clear tk4
              exact ⟨⟨i + 1, by go_num, by omega, H.out, HO.out, HV.out⟩, by simp [intOf]; omega⟩
            · have e2 : decide ((i : Int) < (nA : Int)) = false := by first | (rw [decide_eq_false_iff_not]; omega) | (rw [beq_eq_false_iff_ne]; omega)
              have hin : nA = i := by have := HD.out; omega
              have e3 : ((i : Int) == (nA : Int)) = true := by first | (rw [decide_eq_true_eq]; omega) | (rw [beq_iff_eq]; omega)
              have hxt : x = tl := by
                rw [← hx, Sl.sAt_get (by rw [HE.out]; exact hlt)]
                have h5 := HNW.out (by rw [HA.out, HE.out]; omega)
                have h6 := HA.out
                rw [← h5]; congr 1; omega
              clear hx hin
              subst hxt
              have tk0 := hidp trivial
              go_wp2_with (first | (clear tk0; (refine Sl.wpL_idx1 Sl.tyS (by kernel_rfl) rfl (.tmp 181) (.tmp 183) rfl ge 0 nE ce i rfl rfl (by omega) ?_; rw [Nat.zero_add]); (try simp only [Act.put, setIfInBounds_toArray, set_cons_zero, set_cons_succ]); have tk1 := hidp trivial) | (clear tk1; (refine Mm.ldc naS rfl (.tmp 186) ⟨ge, i, none⟩ (.string x) rfl rfl HX.out ?_); (try simp only [Act.put, setIfInBounds_toArray, set_cons_zero, set_cons_succ]); have tk2 := hidp trivial))
              try clear tk2
              exact ⟨⟨i + 1, by go_num, by omega, H.out, HO.out, HV.out⟩, by simp [intOf]; omega⟩
          · have e1 : decide ((i : Int) < (nE : Int)) = false := by first | (rw [decide_eq_false_iff_not]; omega) | (rw [beq_eq_false_iff_ne]; omega)
            have e1n : decide (i < nE) = false := by rw [decide_eq_false_iff_not]; exact hlt
            clear hi
            have tk0 := hidp trivial
            go_wp2_with (first | (clear tk0; (refine Mm.get1 rtD H rfl (.tmp 25) rfl rfl rfl ?_); (try simp only [Act.put, setIfInBounds_toArray, set_cons_zero, set_cons_succ]); have tk1 := hidp trivial) | (clear tk1; (go_at_call 11; refine (cc.out _).mono ?_; rintro e _ ⟨rfl, hb⟩; replace H := hidp (H.out.call hb); clear cc; replace HO := hidp (Sl.own_to HO.out hb); replace HV := hidp (ov_to HV.out hb); clear hb); (try simp only [Act.put, setIfInBounds_toArray, set_cons_zero, set_cons_succ]); have tk2 := hidp trivial) | (clear tk2; (refine Mm.new rtD H (some 30) rfl rfl rfl ?_; clear H; intro b30 _ H nw; have hb := nw.below; replace HO := hidp (Sl.own_to HO.out hb); replace HV := hidp (ov_to HV.out hb); clear hb nw); (try simp only [Act.put, setIfInBounds_toArray, set_cons_zero, set_cons_succ]); have tk3 := hidp trivial) | (clear tk3; (refine Mm.put0 rtD H rfl (.tmp 30) (.tmp 215) [.string S3, .int .i64 (L3 : Int), .int .i64 1048576] rfl rfl rfl rfl (by simp [Value.oneCell']) rfl ?_; intro _ H2 st; replace HO := hidp (Sl.own_stp HO.out st H.out.at0 (by decide)); replace HV := hidp (ov_stp HV.out st H.out.at0 (by decide)); clear st H; have H := H2; clear H2); (try simp only [Act.put, setIfInBounds_toArray, set_cons_zero, set_cons_succ]); have tk4 := hidp trivial) | (clear tk4; (refine Mm.ld0 naS H rfl (.tmp 218) 0 (.string S3) rfl rfl rfl ?_); (try simp only [Act.put, setIfInBounds_toArray, set_cons_zero, set_cons_succ]); have tk5 := hidp trivial) | (clear tk5; (go_at_call 12; refine (cl.out _).mono ?_; rintro e _ ⟨a2, c2, rfl, hb⟩; replace H := hidp (H.out.call hb); replace HO := hidp (Sl.own_to HO.out hb); replace HV := hidp (ov_to HV.out hb); clear hb cl); (try simp only [Act.put, setIfInBounds_toArray, set_cons_zero, set_cons_succ]); have tk6 := hidp trivial) | (clear tk6; (refine Mm.new rtS H (some 32) rfl rfl rfl ?_; clear H; intro b32 _ H nw; have hb := nw.below; replace HO := hidp (Sl.own_to HO.out hb); replace HV := hidp (ov_to HV.out hb); clear hb nw); (try simp only [Act.put, setIfInBounds_toArray, set_cons_zero, set_cons_succ]); have tk7 := hidp trivial) | (clear tk7; (refine Mm.put0 rtS H rfl (.tmp 32) (.tmp 221) [.slice a2 nE c2, .int .i64 (mo : Int)] rfl rfl rfl rfl (by simp [Value.oneCell']) rfl ?_; intro _ H2 st; replace HO := hidp (Sl.own_stp HO.out st H.out.at0 (by decide)); replace HV := hidp (ov_stp HV.out st H.out.at0 (by decide)); clear st H; have H := H2; clear H2); (try simp only [Act.put, setIfInBounds_toArray, set_cons_zero, set_cons_succ]); have tk8 := hidp trivial) | (clear tk8; (refine Mm.ld1 naS H rfl (.tmp 224) 0 (.string S3) rfl rfl rfl ?_); (try simp only [Act.put, setIfInBounds_toArray, set_cons_zero, set_cons_succ]); have tk9 := hidp trivial) | (clear tk9; (go_at_call 13; refine (cd.out _).mono ?_; rintro e _ ⟨a3, c3, rfl, hb⟩; replace H := hidp (H.out.call hb); replace HO := hidp (Sl.own_to HO.out hb); replace HV := hidp (ov_to HV.out hb); clear hb cd); (try simp only [Act.put, setIfInBounds_toArray, set_cons_zero, set_cons_succ]); have tk10 := hidp trivial) | (clear tk10; (refine Mm.ld0 naSS H rfl (.tmp 236) 0 (.slice a2 nE c2) rfl rfl rfl ?_); (try simp only [Act.put, setIfInBounds_toArray, set_cons_zero, set_cons_succ]); have tk11 := hidp trivial) | (clear tk11; (refine Mm.ld2 naSS H rfl (.tmp 239) 0 (.slice ae nE ce) rfl rfl rfl ?_); (try simp only [Act.put, setIfInBounds_toArray, set_cons_zero, set_cons_succ]); have tk12 := hidp trivial) | (clear tk12; (refine Mm.ld0 naI H rfl (.tmp 245) 1 (.int .i64 (mo : Int)) rfl rfl rfl ?_); (try simp only [Act.put, setIfInBounds_toArray, set_cons_zero, set_cons_succ]); have tk13 := hidp trivial) | (clear tk13; (refine Mm.ld1 naS H rfl (.tmp 252) 0 (.string S3) rfl rfl rfl ?_); (try simp only [Act.put, setIfInBounds_toArray, set_cons_zero, set_cons_succ]); have tk14 := hidp trivial) | (clear tk14; (refine Mm.ld0 naSS H rfl (.tmp 260) 0 (.slice a2 nE c2) rfl rfl rfl ?_); (try simp only [Act.put, setIfInBounds_toArray, set_cons_zero, set_cons_succ]); have tk15 := hidp trivial))
            try clear tk15
            go_ret
            exact ⟨rfl, H.out.below⟩
end Go.Proofs.Ytbgooppmhgaicab.Tk
