/-
  Joined: Sl SvA.
-/
import Derived.Test.YtbgooppmhgaicaaDoorUA
import Derived.Test.YtbgooppmhgaicaaDoorUB
import Derived.Test.YtbgooppmhgaicaaDoorUM
namespace Go.Proofs.YtbgooppmhgaicaaDoor.Sl
set_option maxRecDepth 100000
set_option linter.unusedVariables false
set_option linter.unusedSimpArgs false
open Go.RowKit
open List (getElem_toArray getElem_cons_zero getElem_cons_succ setIfInBounds_toArray set_cons_zero set_cons_succ)

theorem infoI : (Tryd.prog.info? 3).map (fun i => (i.zero, i.size, i.bytes)) = some (some (.int .i64 0), 1, 8) := by kernel_rfl
theorem tyI : Tryd.prog.underlying 37 = some (.slice 3) := Tryd.underlying37
theorem own_arr {B b T : Nat} {W : World} {row : List Value} (ha : Arr W b T row) (hB : B ≤ b) (hl : row.length ≤ 1000000) : OwnV W B T (.slice (some ⟨b, 0, none⟩) row.length row.length) row :=
  ⟨by simp, .inr ⟨b, row.length, row.toArray, rfl, hB, ha, Nat.le_refl _, by unfold maxLen; omega, by simp, by simp⟩⟩
theorem own_stp {w W : World} {B T b t : Nat} {v : Value} {l xs : List Value} (h : OwnV w B T v l) (st : Rt.Stp b w W) (ha : Arr w b t xs) (hne : t ≠ T) : OwnV W B T v l := by
  refine ⟨h.1, ?_⟩
  rcases h.2 with h0 | ⟨g, cap, cur, e, hB, hg, r⟩
  · exact .inl h0
  · refine .inr ⟨g, cap, cur, e, hB, (st.other g ?_).trans hg, r⟩
    rintro rfl
    have h1 : (Obj.cells cur T) = Obj.cells xs.toArray t := Option.some.inj (hg.symm.trans ha)
    injection h1 with _ h2
    exact hne h2.symm
theorem own_to {w w' : World} {B e : Nat} {v : Value} {l : List Value} (h : OwnV w B e v l) (hb : Below w.heap.size w w') : OwnV w' B e v l := h.kept hb (Nat.le_refl _)
theorem own_form {w : World} {B T : Nat} {v : Value} {l : List Value} (h : OwnV w B T v l) : ∃ a c, v = .slice a l.length c := by
  rcases h.2 with ⟨rfl, h0⟩ | ⟨g, cap, cur, e, r⟩
  · obtain rfl : l = [] := List.eq_nil_of_length_eq_zero (by simpa using h0)
    exact ⟨none, 0, rfl⟩
  · exact ⟨_, _, e⟩
theorem own_cells {w : World} {B T : Nat} {v : Value} {l : List Value} (h : OwnV w B T v l) (hp : 0 < l.length) : ∃ g c, v = .slice (some ⟨g, 0, none⟩) l.length c ∧ B ≤ g ∧ g < w.heap.size ∧ ∀ i (hi : i < l.length), w.cell? ⟨g, i, none⟩ = some l[i] := by
  have h' := h
  rcases h'.2 with ⟨rfl, hn⟩ | ⟨g, cap, cur, rfl, hB, hg, _⟩
  · omega
  · refine ⟨g, cap, rfl, hB, (Array.getElem?_eq_some_iff.1 hg).1, fun i hi => ?_⟩
    have := World.ownsRow.cells h (g := g) rfl i l[i] (by simp [hi])
    have e : (⟨g, 0, none⟩ : Addr).add i = ⟨g, 0 + i, none⟩ := by unfold Addr.add; split <;> simp_all
    rw [e, Nat.zero_add] at this; exact this
section
variable {P : Program} {ops : Array Oper} {rest : List Oper} {o : Oper} {a : Act} {w w0 : World} {N : Nat} {L : List Mm.Bx} {Q : Exit → Act → World → Prop} {S : World → Prop} {j : Nat} {s : Scr} {K : Act → World → Prop}
/-- An index within a slice of one-cell values. -/
theorem run_idx1 {ST T : Nat} (hu : P.underlying ST = some (.slice T)) (hs : (P.info? T).map (·.size) = some 1) (B off n c i : Nat) (hi : i < n) (w : World) : (Instr.indexAt ST (.slice (some ⟨B, off, none⟩) n c) (.int .i64 (i : Int))).run P w = .ok (.pointer (some ⟨B, off + i, none⟩)) w := by
  obtain ⟨i0, hi0, hz⟩ := Option.map_eq_some_iff.1 hs
  have e : (⟨B, off, none⟩ : Addr).add i = ⟨B, off + i, none⟩ := by unfold Addr.add; split <;> simp_all
  have h1 : (0 : Int) ≤ (i : Int) ∧ (i : Int) < ((n : Nat) : Int) := by omega
  simp [Instr.indexAt, run_underlying hu, sizeOf, typeInfo, hi0, hz, asIntOf, hi, e, go_sem]
theorem s_idx1 {ST T : Nat} (hu : P.underlying ST = some (.slice T)) (hs : (P.info? T).map (·.size) = some 1) (ho : ops[j]? = some o) (hw : Region.wanted o (yielded ops a.tmps) = true) (x y : Operand) (hop : o.op = .indexAddr ST x y) (B off n c i : Nat) (hx : a.eval x = .slice (some ⟨B, off, none⟩) n c) (hy : a.eval y = .int .i64 (i : Int)) (hi : i < n)
    (h : wpScr P ops Q s S (a.put o.dst (.pointer (some ⟨B, off + i, none⟩))) w) : wpScr P ops Q (.take j s) S a w :=
  s_val ho hw (fun w hS => by
    unfold execOp
    simp only [hop, hx, hy, Sem.run_bind, run_idx1 hu hs B off n c i hi w, Result.andThen_ok]
    rfl) h
end
section
variable {ops : Array Oper} {rest : List Oper} {o : Oper} {a : Act} {w w0 : World} {N : Nat} {L : List Mm.Bx} {Q : Exit → Act → World → Prop} {S : World → Prop} {j : Nat} {s : Scr} {K : Act → World → Prop}

theorem run_bsI1 (z0 : Int) (w : World) : (Instr.buildSlice 37 1 #[(0, .int .i64 z0)]).run Tryd.prog w = .ok (.slice (some ⟨w.heap.size, 0, none⟩) 1 1) (w.alloc (.cells #[.int .i64 z0] 3)) := by
  obtain ⟨i0, hi, hz0, hz1, hz2⟩ := info_parts infoI
  refine run_buildSlice w 37 3 1 _ _ i0 _ tyI hi hz0 (by rw [hz1]; omega) (by rw [hz1]; omega) ?_
  have hr : Array.range 1 = #[0] := by decide
  rw [hz1]; simp [Instr.fill, Value.cells, hr]
theorem wpL_bsI1 (H : Hid (Mm.M N w0 w L)) (hw : Region.wanted o (yielded ops a.tmps) = true) (x0 : Operand) (z0 : Int) (ho : o.op = .buildSlice 37 1 #[(0, x0)]) (hx0 : a.eval x0 = .int .i64 z0)
    (h : ∀ b W, Hid (Mm.M N w0 W (⟨b, 3, [.int .i64 z0]⟩ :: L)) → Rt.NewAt w W b 3 [.int .i64 z0] → wpList Tryd.prog ops Q rest (a.put o.dst (.slice (some ⟨b, 0, none⟩) 1 1)) W) : wpList Tryd.prog ops Q (o :: rest) a w := by
  refine wpList_step fun K hK => ?_
  rw [if_pos hw]
  have n := Rt.NewAt.mk' w 3 [.int .i64 z0]
  have := hK _ _ (h _ _ (hidp (H.out.new n)) n)
  unfold Oper.wp execOp
  simp only [ho, List.map_toArray, List.map_cons, List.map_nil, hx0, Sem.run_bind, run_bsI1 z0 w, Result.andThen_ok]
  exact this
theorem run_bsI2 (z0 z1 : Int) (w : World) : (Instr.buildSlice 37 2 #[(0, .int .i64 z0), (1, .int .i64 z1)]).run Tryd.prog w = .ok (.slice (some ⟨w.heap.size, 0, none⟩) 2 2) (w.alloc (.cells #[.int .i64 z0, .int .i64 z1] 3)) := by
  obtain ⟨i0, hi, hz0, hz1, hz2⟩ := info_parts infoI
  refine run_buildSlice w 37 3 2 _ _ i0 _ tyI hi hz0 (by rw [hz1]; omega) (by rw [hz1]; omega) ?_
  have hr : Array.range 2 = #[0, 1] := by decide
  rw [hz1]; simp [Instr.fill, Value.cells, hr]
theorem wpL_bsI2 (H : Hid (Mm.M N w0 w L)) (hw : Region.wanted o (yielded ops a.tmps) = true) (x0 x1 : Operand) (z0 z1 : Int) (ho : o.op = .buildSlice 37 2 #[(0, x0), (1, x1)]) (hx0 : a.eval x0 = .int .i64 z0) (hx1 : a.eval x1 = .int .i64 z1)
    (h : ∀ b W, Hid (Mm.M N w0 W (⟨b, 3, [.int .i64 z0, .int .i64 z1]⟩ :: L)) → Rt.NewAt w W b 3 [.int .i64 z0, .int .i64 z1] → wpList Tryd.prog ops Q rest (a.put o.dst (.slice (some ⟨b, 0, none⟩) 2 2)) W) : wpList Tryd.prog ops Q (o :: rest) a w := by
  refine wpList_step fun K hK => ?_
  rw [if_pos hw]
  have n := Rt.NewAt.mk' w 3 [.int .i64 z0, .int .i64 z1]
  have := hK _ _ (h _ _ (hidp (H.out.new n)) n)
  unfold Oper.wp execOp
  simp only [ho, List.map_toArray, List.map_cons, List.map_nil, hx0, hx1, Sem.run_bind, run_bsI2 z0 z1 w, Result.andThen_ok]
  exact this
end
end Go.Proofs.YtbgooppmhgaicaaDoor.Sl

namespace Go.Proofs.YtbgooppmhgaicaaDoor.Bk
set_option maxRecDepth 100000
set_option linter.unusedVariables false
set_option linter.unusedSimpArgs false
open Go.RowKit
open List (getElem_toArray getElem_cons_zero getElem_cons_succ setIfInBounds_toArray set_cons_zero set_cons_succ)

theorem rtG : Rt.RT Tryd.prog 27 36 zG := ⟨by decide, .inl ⟨_, Tryd.underlying27⟩, by kernel_rfl⟩
theorem naI : Mm.NA Tryd.prog 3 := ⟨_, Tryd.underlying3, rfl⟩
/-- The servers of the first grants, without those that come again right away. -/
def svT (gs : List Gr) : Nat → List Int
  | 0 => []
  | i + 1 => if i = 0 ∨ (gs.getD i gz).s ≠ (gs.getD (i - 1) gz).s then svT gs i ++ [(gs.getD i gz).s] else svT gs i
def encI (l : List Int) : List Value := l.map (.int .i64 ·)
theorem svT_len (gs : List Gr) : ∀ i, (svT gs i).length ≤ i
  | 0 => Nat.le_refl _
  | i + 1 => by
    have := svT_len gs i
    unfold svT; split
    · simp; omega
    · omega
section
variable {ops : Array Oper} {rest : List Oper} {o : Oper} {a : Act} {w w0 : World} {N : Nat} {L : List Mm.Bx} {Q : Exit → Act → World → Prop}
theorem wpL_bs0I (hgd : o.guard = none) (ho : o.op = .buildSlice 37 0 #[])
    (h : ∀ b W, Rt.NewAt w W b 3 [] → wpList Tryd.prog ops Q rest (a.put o.dst (.slice (some ⟨b, 0, none⟩) 0 0)) W) : wpList Tryd.prog ops Q (o :: rest) a w := by
  obtain ⟨i0, hi, hz0, hz1, hz2⟩ := info_parts Sl.infoI
  refine wpList_plain hgd fun K hK => ?_
  have := hK _ _ (h w.heap.size (w.alloc (.cells #[] 3)) (Rt.NewAt.mk' w 3 []))
  unfold Oper.wp execOp
  simp only [ho, List.map_toArray, List.map_nil, Sem.run_bind]
  simp [Instr.buildSlice, run_underlying Sl.tyI, sizeOf, typeInfo, zeroValue, hi, hz0, hz1, newRow, Instr.fill, show Array.range 0 = #[] from rfl]
  exact this
theorem wpL_appIb (hgd : o.guard = none) (s x : Operand) (ho : o.op = .call { callee := .builtin .append, args := #[s, x], argTypes := #[37, 37] }) (B : Nat) (v : Value) (l : List Value) (b t : Nat) (u : Value) (hs : a.eval s = v) (hx : a.eval x = .slice (some ⟨b, 0, none⟩) 1 1)
    (hown : OwnV w B 3 v l) (hc : Arr w b t [u]) (hu : u.oneCell' = true) (hlen : l.length ≤ 8796093022208) (hB : B ≤ w.heap.size)
    (h : ∀ v' w', OwnV w' B 3 v' (l ++ [u]) → Below B w w' → wpList Tryd.prog ops Q rest (a.put o.dst v') w') : wpList Tryd.prog ops Q (o :: rest) a w := by
  obtain ⟨i0, hi, hz0, hz1, hz2⟩ := info_parts Sl.infoI
  exact wpList_appV hgd s x 37 ho B 3 i0 (.int .i64 0) 8 Sl.tyI hi hz0 hz1 hz2 rfl v l hs hown ⟨b, 0, none⟩ 1 u hx (hc.cell 0 (by simp)) hu (by simp [maxLen]; omega) (by omega) hB h
end

set_option maxHeartbeats 16000000 in
theorem servers_any (w : World) (v : Value) (gs : List Gr) (hv : GsAt w v gs) (hn : gs.length ≤ 8796093022208) :
    Calls Tryd.prog 12 #[v] w fun e w' => ∃ v', e = .returned v' ∧ OwnV w' w.heap.size 3 v' (encI (svT gs gs.length)) ∧ Below w.heap.size w w' := by
  have HV := hidp hv
  have HOKS := hidp hv.2
  clear hv
  obtain ⟨av, cv0, rfl⟩ := HV.out.form
  obtain ⟨n, hnn⟩ : ∃ n, gs.length = n := ⟨_, rfl⟩
  have HN := hidp hnn
  rw [hnn] at HV hn ⊢
  clear hnn
  have H := hidp (Mm.M.nil w)
  go_enter Tryd.func12, Tryd.ntmps12
  have tk0 := hidp trivial
  go_wp2_with (first | (clear tk0; (refine wpL_bs0I rfl rfl ?_; intro bv _ nw; replace H := hidp (H.out.call nw.below); have HO := hidp (show OwnV _ w.heap.size 3 (.slice (some ⟨bv, 0, none⟩) 0 0) [] from Sl.own_arr (row := []) nw.arr nw.le (by simp)); clear nw); (try simp only [Act.put, setIfInBounds_toArray, set_cons_zero, set_cons_succ]); have tk1 := hidp trivial))
  try clear tk1
  have HB0 := hidp H.out.below
  go_loopw [3, 9] (fun t3 t9 wr => ∃ (i : Nat) (v : Value), t9 = .int .i64 (i : Int) ∧ t3 = v ∧ i ≤ n ∧ OwnV wr w.heap.size 3 v (encI (svT gs i)) ∧ Below w.heap.size w wr) (fun _ t9 _ => n - (intOf t9).toNat)
  case atStart => exact ⟨0, _, rfl, rfl, by omega, HO.out, HB0.out⟩
  case round =>
    clear H HB0 HO
    obtain ⟨i, v, rfl, rfl, hi, hown, hM⟩ := hrel
    have HO := hidp hown
    have H := hidp (show Mm.M w.heap.size w wr [] from ⟨hM, hM.size, fun x h => (by cases h), .nil, fun x h => (by cases h)⟩)
    clear hown
    by_cases hlt : i < n
    · have e1 : decide ((i : Int) < (n : Int)) = true := by simp; omega
      have e1n : (i : Int) < (n : Int) := by omega
      have hgl : i < gs.length := by rw [HN.out]; exact hlt
      obtain ⟨BK, off, c, e2, hc, hBK0, hR0⟩ := HV.out.get (by rw [HN.out]; omega)
      rw [HN.out] at e2
      simp only [Value.slice.injEq] at e2
      obtain ⟨rfl, -, rfl⟩ := e2
      obtain ⟨x, hxe⟩ : ∃ x, gs[i] = x := ⟨_, rfl⟩
      have HRI := hidp (show wr.rangeAt BK (off + 36 * i) x.row from by rw [← hxe]; exact rangeAt_below (hR0 i hgl) hM hBK0)
      have hxok := hidp (show x.ok from by rw [← hxe]; exact HOKS.out _ (List.getElem_mem hgl))
      have hx : gs.getD i gz = x := by rw [List.getD_eq_getElem?_getD, List.getElem?_eq_getElem hgl]; exact hxe
      obtain ⟨y, hy⟩ : ∃ y, gs.getD (i - 1) gz = y := ⟨_, rfl⟩
      have HLN := hidp (show (encI (svT gs i)).length ≤ 8796093022208 from by unfold encI; rw [List.length_map]; have := svT_len gs i; omega)
      have hS : encI (svT gs (i + 1)) = if i = 0 ∨ x.s ≠ y.s then encI (svT gs i) ++ [.int .i64 x.s] else encI (svT gs i) := by
        show encI (if i = 0 ∨ (gs.getD i gz).s ≠ (gs.getD (i - 1) gz).s then svT gs i ++ [(gs.getD i gz).s] else svT gs i) = _
        rw [hx, hy]
        split
        · simp [encI]
        · rfl
      have HY := hidp (show ¬ i = 0 → ∀ W, Below w.heap.size w W → W.cell? ⟨BK, off + 36 * (i - 1), none⟩ = some (.int .i64 y.s) from fun h0 W hW => by
        have hg1 : i - 1 < gs.length := by omega
        have hy' : gs[i - 1] = y := by rw [← hy, List.getD_eq_getElem?_getD, List.getElem?_eq_getElem hg1]; rfl
        have := rangeAt_below (hR0 (i - 1) hg1) hW hBK0
        rw [hy'] at this
        exact this 0 _ rfl)
      clear hR0 hc hxe hx hy hM
      by_cases h0 : i = 0
      · have e0 : ((i : Int) == 0) = true := by rw [h0]; rfl
        have HS := hidp (show encI (svT gs (i + 1)) = encI (svT gs i) ++ [.int .i64 x.s] from by rw [hS, if_pos (.inl h0)])
        clear hS HY h0
        have tk0 := hidp trivial
        go_wp2_with (first | (clear tk0; (refine Rw.wpL_idxR tyG rfl (.tmp 7) (.tmp 9) rfl BK off n _ i rfl rfl hlt ?_); (try simp only [Act.put, setIfInBounds_toArray, set_cons_zero, set_cons_succ]); have tk1 := hidp trivial) | (clear tk1; (refine Rw.wpL_atR tyG rfl (.tmp 12) rfl BK (off + 36 * i) x.row rfl (Gr.len hxok.out) HRI.out ?_); (try simp only [Act.put, setIfInBounds_toArray, set_cons_zero, set_cons_succ]); have tk2 := hidp trivial) | (clear tk2; (refine Mm.new rtG H (some 5) rfl rfl rfl ?_; clear H; intro b5 _ H nw; have hb := nw.below; replace HO := hidp (Sl.own_to HO.out hb); clear hb nw); (try simp only [Act.put, setIfInBounds_toArray, set_cons_zero, set_cons_succ]); have tk3 := hidp trivial) | (clear tk3; (refine Mm.put0 rtG H rfl (.tmp 5) (.tmp 13) x.row rfl rfl rfl (Gr.len hxok.out) (Gr.one x) rfl ?_; intro _ H2 st; replace HO := hidp (Sl.own_stp HO.out st H.out.at0 (by decide)); clear st H; have H := H2; clear H2); (try simp only [Act.put, setIfInBounds_toArray, set_cons_zero, set_cons_succ]); have tk4 := hidp trivial))
        try clear tk4
        refine Mm.region H (.take 0 (.take 1 (.take 2 (.take 3 (.take 4 (.take 5 (.take 6 (.take 7 (.take 8 (.take 9 (.take 10 (.take 11 (.take 12 .done))))))))))))) (by kernel_rfl) (by kernel_rfl) (by simp [Scr.depth]) (by kernel_rfl) ?_
        clear H
        intro _ H hb
        replace HO := hidp (Sl.own_to HO.out hb); clear hb
        apply s_val
        case ho | hw => rfl
        case hv => intro w hw; go_simp; first | done | rfl
        simp only [Act.put, getElem_toArray, getElem_cons_zero, getElem_cons_succ, setIfInBounds_toArray, set_cons_zero, set_cons_succ]
        apply s_val
        case ho | hw => rfl
        case hv => intro w hw; go_simp; first | done | rfl
        simp only [Act.put, getElem_toArray, getElem_cons_zero, getElem_cons_succ, setIfInBounds_toArray, set_cons_zero, set_cons_succ]
        apply s_val
        case ho | hw => rfl
        case hv => intro w hw; go_simp; first | done | rfl
        simp only [Act.put, getElem_toArray, getElem_cons_zero, getElem_cons_succ, setIfInBounds_toArray, set_cons_zero, set_cons_succ]
        refine Rt.s_skip rfl rfl ?_
        simp only [Act.put, getElem_toArray, getElem_cons_zero, getElem_cons_succ, setIfInBounds_toArray, set_cons_zero, set_cons_succ]
        refine Rt.s_skip rfl rfl ?_
        simp only [Act.put, getElem_toArray, getElem_cons_zero, getElem_cons_succ, setIfInBounds_toArray, set_cons_zero, set_cons_succ]
        refine Rt.s_skip rfl rfl ?_
        simp only [Act.put, getElem_toArray, getElem_cons_zero, getElem_cons_succ, setIfInBounds_toArray, set_cons_zero, set_cons_succ]
        refine Rt.s_skip rfl rfl ?_
        simp only [Act.put, getElem_toArray, getElem_cons_zero, getElem_cons_succ, setIfInBounds_toArray, set_cons_zero, set_cons_succ]
        refine Rt.s_skip rfl rfl ?_
        simp only [Act.put, getElem_toArray, getElem_cons_zero, getElem_cons_succ, setIfInBounds_toArray, set_cons_zero, set_cons_succ]
        refine Rt.s_skip rfl rfl ?_
        simp only [Act.put, getElem_toArray, getElem_cons_zero, getElem_cons_succ, setIfInBounds_toArray, set_cons_zero, set_cons_succ]
        refine Rt.s_skip rfl rfl ?_
        simp only [Act.put, getElem_toArray, getElem_cons_zero, getElem_cons_succ, setIfInBounds_toArray, set_cons_zero, set_cons_succ]
        refine Rt.s_skip rfl rfl ?_
        simp only [Act.put, getElem_toArray, getElem_cons_zero, getElem_cons_succ, setIfInBounds_toArray, set_cons_zero, set_cons_succ]
        refine Rt.s_skip rfl rfl ?_
        simp only [Act.put, getElem_toArray, getElem_cons_zero, getElem_cons_succ, setIfInBounds_toArray, set_cons_zero, set_cons_succ]
        apply s_val
        case ho | hw => rfl
        case hv => intro w hw; go_simp; first | done | rfl
        simp only [Act.put, getElem_toArray, getElem_cons_zero, getElem_cons_succ, setIfInBounds_toArray, set_cons_zero, set_cons_succ]
        refine NoPanic.normal ?_
        have tk0 := hidp trivial
        go_wp2_with (first | (clear tk0; (refine Mm.ld0 naI H rfl (.tmp 28) 0 (.int .i64 x.s) rfl rfl rfl ?_); (try simp only [Act.put, setIfInBounds_toArray, set_cons_zero, set_cons_succ]); have tk1 := hidp trivial) | (clear tk1; (refine Sl.wpL_bsI1 H rfl (.tmp 29) x.s rfl rfl ?_; clear H; intro b8 _ H nw; have hb := nw.below; replace HO := hidp (Sl.own_to HO.out hb); clear hb nw); (try simp only [Act.put, setIfInBounds_toArray, set_cons_zero, set_cons_succ]); have tk2 := hidp trivial) | (clear tk2; (refine wpL_appIb rfl (.tmp 27) (.tmp 30) rfl w.heap.size _ _ b8 _ _ rfl rfl HO.out H.out.at0 rfl HLN.out H.out.le ?_; intro v2 W5 ho2 hb2; have HB := hidp (H.out.below.trans hb2); have HO2 := hidp ho2; clear ho2 hb2); (try simp only [Act.put, setIfInBounds_toArray, set_cons_zero, set_cons_succ]); have tk3 := hidp trivial))
        try clear tk3
        exact ⟨⟨i + 1, v2, by go_num, rfl, by omega, by rw [HS.out]; exact HO2.out, HB.out⟩, by simp [intOf]; omega⟩
      · have e0 : ((i : Int) == 0) = false := by rw [beq_eq_false_iff_ne]; omega
        have n0 : ¬ (i : Int) = 0 := by omega
        have hwi : IntKind.i64.wrap ((i : Int) - 1) = ((i - 1 : Nat) : Int) := by rw [IntKind.wrap_i64]; omega
        replace HY := hidp (HY.out h0)
        by_cases hs : x.s = y.s
        · have es : (x.s != y.s) = false := by rw [hs]; simp
          have HS := hidp (show encI (svT gs (i + 1)) = encI (svT gs i) from by rw [hS, if_neg (fun g => g.elim h0 (fun k => k hs))])
          have hs2 := hidp hs
          clear hS hs h0
          have tk0 := hidp trivial
          go_wp2_with (first | (clear tk0; (refine Rw.wpL_idxR tyG rfl (.tmp 7) (.tmp 9) rfl BK off n _ i rfl rfl hlt ?_); (try simp only [Act.put, setIfInBounds_toArray, set_cons_zero, set_cons_succ]); have tk1 := hidp trivial) | (clear tk1; (refine Rw.wpL_atR tyG rfl (.tmp 12) rfl BK (off + 36 * i) x.row rfl (Gr.len hxok.out) HRI.out ?_); (try simp only [Act.put, setIfInBounds_toArray, set_cons_zero, set_cons_succ]); have tk2 := hidp trivial) | (clear tk2; (refine Mm.new rtG H (some 5) rfl rfl rfl ?_; clear H; intro b5 _ H nw; have hb := nw.below; replace HO := hidp (Sl.own_to HO.out hb); clear hb nw); (try simp only [Act.put, setIfInBounds_toArray, set_cons_zero, set_cons_succ]); have tk3 := hidp trivial) | (clear tk3; (refine Mm.put0 rtG H rfl (.tmp 5) (.tmp 13) x.row rfl rfl rfl (Gr.len hxok.out) (Gr.one x) rfl ?_; intro _ H2 st; replace HO := hidp (Sl.own_stp HO.out st H.out.at0 (by decide)); clear st H; have H := H2; clear H2); (try simp only [Act.put, setIfInBounds_toArray, set_cons_zero, set_cons_succ]); have tk4 := hidp trivial))
          try clear tk4
          refine Mm.region H (.take 0 (.take 1 (.take 2 (.take 3 (.take 4 (.take 5 (.take 6 (.take 7 (.take 8 (.take 9 (.take 10 (.take 11 (.take 12 .done))))))))))))) (by kernel_rfl) (by kernel_rfl) (by simp [Scr.depth]) (by kernel_rfl) ?_
          clear H
          intro _ H hb
          replace HO := hidp (Sl.own_to HO.out hb); clear hb
          apply s_val
          case ho | hw => rfl
          case hv => intro w hw; go_simp; first | done | rfl
          simp only [Act.put, getElem_toArray, getElem_cons_zero, getElem_cons_succ, setIfInBounds_toArray, set_cons_zero, set_cons_succ]
          apply s_val
          case ho | hw => rfl
          case hv => intro w hw; go_simp; first | done | rfl
          simp only [Act.put, getElem_toArray, getElem_cons_zero, getElem_cons_succ, setIfInBounds_toArray, set_cons_zero, set_cons_succ]
          apply s_val
          case ho | hw => rfl
          case hv => intro w hw; go_simp; first | done | rfl
          simp only [Act.put, getElem_toArray, getElem_cons_zero, getElem_cons_succ, setIfInBounds_toArray, set_cons_zero, set_cons_succ]
          apply s_val
          case ho | hw => rfl
          case hv => intro w hw; go_simp; first | done | rfl
          simp only [Act.put, getElem_toArray, getElem_cons_zero, getElem_cons_succ, setIfInBounds_toArray, set_cons_zero, set_cons_succ]
          refine Mm.sld0 naI (fun w h => h) rfl rfl (.tmp 17) 0 (.int .i64 x.s) rfl rfl rfl ?_
          simp only [Act.put, getElem_toArray, getElem_cons_zero, getElem_cons_succ, setIfInBounds_toArray, set_cons_zero, set_cons_succ]
          apply s_val
          case ho | hw => rfl
          case hv => intro w hw; go_simp; first | done | rfl
          simp only [Act.put, getElem_toArray, getElem_cons_zero, getElem_cons_succ, setIfInBounds_toArray, set_cons_zero, set_cons_succ]
          apply s_val
          case ho | hw => rfl
          case hv => intro w hw; go_simp; first | done | rfl
          simp only [Act.put, getElem_toArray, getElem_cons_zero, getElem_cons_succ, setIfInBounds_toArray, set_cons_zero, set_cons_succ]
          apply s_val
          case ho | hw => rfl
          case hv => intro w hw; go_simp; first | done | rfl
          simp only [Act.put, getElem_toArray, getElem_cons_zero, getElem_cons_succ, setIfInBounds_toArray, set_cons_zero, set_cons_succ]
          refine Rw.s_idxR tyG rfl rfl (.tmp 19) (.tmp 21) rfl BK off n _ (i - 1) rfl rfl (by omega) ?_
          simp only [Act.put, getElem_toArray, getElem_cons_zero, getElem_cons_succ, setIfInBounds_toArray, set_cons_zero, set_cons_succ]
          apply s_val
          case ho | hw => rfl
          case hv => intro w hw; go_simp; first | done | rfl
          simp only [Act.put, getElem_toArray, getElem_cons_zero, getElem_cons_succ, setIfInBounds_toArray, set_cons_zero, set_cons_succ]
          refine Mm.s_ldc naI rfl rfl (.tmp 23) ⟨BK, off + 36 * (i - 1), none⟩ (.int .i64 y.s) rfl rfl (fun w hw => HY.out w hw.below) ?_
          simp only [Act.put, getElem_toArray, getElem_cons_zero, getElem_cons_succ, setIfInBounds_toArray, set_cons_zero, set_cons_succ]
          apply s_val
          case ho | hw => rfl
          case hv => intro w hw; go_simp; first | done | rfl
          simp only [Act.put, getElem_toArray, getElem_cons_zero, getElem_cons_succ, setIfInBounds_toArray, set_cons_zero, set_cons_succ]
          apply s_val
          case ho | hw => rfl
          case hv => intro w hw; go_simp; first | done | rfl
          simp only [Act.put, getElem_toArray, getElem_cons_zero, getElem_cons_succ, setIfInBounds_toArray, set_cons_zero, set_cons_succ]
          refine NoPanic.normal ?_
          go_wp2
          exact ⟨⟨i + 1, _, by go_num, rfl, by omega, by rw [HS.out]; exact HO.out, H.out.below⟩, by simp [intOf]; omega⟩
        · have es : (x.s != y.s) = true := by simpa using hs
          have HS := hidp (show encI (svT gs (i + 1)) = encI (svT gs i) ++ [.int .i64 x.s] from by rw [hS, if_pos (.inr hs)])
          clear hS h0
          have tk0 := hidp trivial
          go_wp2_with (first | (clear tk0; (refine Rw.wpL_idxR tyG rfl (.tmp 7) (.tmp 9) rfl BK off n _ i rfl rfl hlt ?_); (try simp only [Act.put, setIfInBounds_toArray, set_cons_zero, set_cons_succ]); have tk1 := hidp trivial) | (clear tk1; (refine Rw.wpL_atR tyG rfl (.tmp 12) rfl BK (off + 36 * i) x.row rfl (Gr.len hxok.out) HRI.out ?_); (try simp only [Act.put, setIfInBounds_toArray, set_cons_zero, set_cons_succ]); have tk2 := hidp trivial) | (clear tk2; (refine Mm.new rtG H (some 5) rfl rfl rfl ?_; clear H; intro b5 _ H nw; have hb := nw.below; replace HO := hidp (Sl.own_to HO.out hb); clear hb nw); (try simp only [Act.put, setIfInBounds_toArray, set_cons_zero, set_cons_succ]); have tk3 := hidp trivial) | (clear tk3; (refine Mm.put0 rtG H rfl (.tmp 5) (.tmp 13) x.row rfl rfl rfl (Gr.len hxok.out) (Gr.one x) rfl ?_; intro _ H2 st; replace HO := hidp (Sl.own_stp HO.out st H.out.at0 (by decide)); clear st H; have H := H2; clear H2); (try simp only [Act.put, setIfInBounds_toArray, set_cons_zero, set_cons_succ]); have tk4 := hidp trivial))
          try clear tk4
          refine Mm.region H (.take 0 (.take 1 (.take 2 (.take 3 (.take 4 (.take 5 (.take 6 (.take 7 (.take 8 (.take 9 (.take 10 (.take 11 (.take 12 .done))))))))))))) (by kernel_rfl) (by kernel_rfl) (by simp [Scr.depth]) (by kernel_rfl) ?_
          clear H
          intro _ H hb
          replace HO := hidp (Sl.own_to HO.out hb); clear hb
          apply s_val
          case ho | hw => rfl
          case hv => intro w hw; go_simp; first | done | rfl
          simp only [Act.put, getElem_toArray, getElem_cons_zero, getElem_cons_succ, setIfInBounds_toArray, set_cons_zero, set_cons_succ]
          apply s_val
          case ho | hw => rfl
          case hv => intro w hw; go_simp; first | done | rfl
          simp only [Act.put, getElem_toArray, getElem_cons_zero, getElem_cons_succ, setIfInBounds_toArray, set_cons_zero, set_cons_succ]
          apply s_val
          case ho | hw => rfl
          case hv => intro w hw; go_simp; first | done | rfl
          simp only [Act.put, getElem_toArray, getElem_cons_zero, getElem_cons_succ, setIfInBounds_toArray, set_cons_zero, set_cons_succ]
          apply s_val
          case ho | hw => rfl
          case hv => intro w hw; go_simp; first | done | rfl
          simp only [Act.put, getElem_toArray, getElem_cons_zero, getElem_cons_succ, setIfInBounds_toArray, set_cons_zero, set_cons_succ]
          refine Mm.sld0 naI (fun w h => h) rfl rfl (.tmp 17) 0 (.int .i64 x.s) rfl rfl rfl ?_
          simp only [Act.put, getElem_toArray, getElem_cons_zero, getElem_cons_succ, setIfInBounds_toArray, set_cons_zero, set_cons_succ]
          apply s_val
          case ho | hw => rfl
          case hv => intro w hw; go_simp; first | done | rfl
          simp only [Act.put, getElem_toArray, getElem_cons_zero, getElem_cons_succ, setIfInBounds_toArray, set_cons_zero, set_cons_succ]
          apply s_val
          case ho | hw => rfl
          case hv => intro w hw; go_simp; first | done | rfl
          simp only [Act.put, getElem_toArray, getElem_cons_zero, getElem_cons_succ, setIfInBounds_toArray, set_cons_zero, set_cons_succ]
          apply s_val
          case ho | hw => rfl
          case hv => intro w hw; go_simp; first | done | rfl
          simp only [Act.put, getElem_toArray, getElem_cons_zero, getElem_cons_succ, setIfInBounds_toArray, set_cons_zero, set_cons_succ]
          refine Rw.s_idxR tyG rfl rfl (.tmp 19) (.tmp 21) rfl BK off n _ (i - 1) rfl rfl (by omega) ?_
          simp only [Act.put, getElem_toArray, getElem_cons_zero, getElem_cons_succ, setIfInBounds_toArray, set_cons_zero, set_cons_succ]
          apply s_val
          case ho | hw => rfl
          case hv => intro w hw; go_simp; first | done | rfl
          simp only [Act.put, getElem_toArray, getElem_cons_zero, getElem_cons_succ, setIfInBounds_toArray, set_cons_zero, set_cons_succ]
          refine Mm.s_ldc naI rfl rfl (.tmp 23) ⟨BK, off + 36 * (i - 1), none⟩ (.int .i64 y.s) rfl rfl (fun w hw => HY.out w hw.below) ?_
          simp only [Act.put, getElem_toArray, getElem_cons_zero, getElem_cons_succ, setIfInBounds_toArray, set_cons_zero, set_cons_succ]
          apply s_val
          case ho | hw => rfl
          case hv => intro w hw; go_simp; first | done | rfl
          simp only [Act.put, getElem_toArray, getElem_cons_zero, getElem_cons_succ, setIfInBounds_toArray, set_cons_zero, set_cons_succ]
          apply s_val
          case ho | hw => rfl
          case hv => intro w hw; go_simp; first | done | rfl
          simp only [Act.put, getElem_toArray, getElem_cons_zero, getElem_cons_succ, setIfInBounds_toArray, set_cons_zero, set_cons_succ]
          refine NoPanic.normal ?_
          have tk0 := hidp trivial
          go_wp2_with (first | (clear tk0; (refine Mm.ld0 naI H rfl (.tmp 28) 0 (.int .i64 x.s) rfl rfl rfl ?_); (try simp only [Act.put, setIfInBounds_toArray, set_cons_zero, set_cons_succ]); have tk1 := hidp trivial) | (clear tk1; (refine Sl.wpL_bsI1 H rfl (.tmp 29) x.s rfl rfl ?_; clear H; intro b8 _ H nw; have hb := nw.below; replace HO := hidp (Sl.own_to HO.out hb); clear hb nw); (try simp only [Act.put, setIfInBounds_toArray, set_cons_zero, set_cons_succ]); have tk2 := hidp trivial) | (clear tk2; (refine wpL_appIb rfl (.tmp 27) (.tmp 30) rfl w.heap.size _ _ b8 _ _ rfl rfl HO.out H.out.at0 rfl HLN.out H.out.le ?_; intro v2 W5 ho2 hb2; have HB := hidp (H.out.below.trans hb2); have HO2 := hidp ho2; clear ho2 hb2); (try simp only [Act.put, setIfInBounds_toArray, set_cons_zero, set_cons_succ]); have tk3 := hidp trivial))
          try clear tk3
          exact ⟨⟨i + 1, v2, by go_num, rfl, by omega, by rw [HS.out]; exact HO2.out, HB.out⟩, by simp [intOf]; omega⟩
    · have e1 : decide ((i : Int) < (n : Int)) = false := by simp; omega
      have e1n : ¬ (i : Int) < (n : Int) := by omega
      obtain rfl : i = n := by omega
      go_wp2
      go_ret
      exact ⟨_, rfl, HO.out, H.out.below⟩

set_option maxHeartbeats 16000000 in
theorem isame_any (w : World) (v u : Value) (l : List Int) (hv : ∃ B, OwnV w B 3 v (encI l)) (hu : ∃ B, OwnV w B 3 u (encI l)) (hn : l.length ≤ 4611686018427387904) :
    Calls Tryd.prog 11 #[v, u] w fun e w' => e = .returned (.bool true) ∧ Below w.heap.size w w' := by
  obtain ⟨B1, hv⟩ := hv
  obtain ⟨B2, hu⟩ := hu
  obtain ⟨a1, c1, rfl⟩ := Sl.own_form hv
  obtain ⟨a2, c2, rfl⟩ := Sl.own_form hu
  have HV := hidp hv; have HU := hidp hu
  have hln : (encI l).length = l.length := by unfold encI; simp
  obtain ⟨n, hnn⟩ : ∃ n, l.length = n := ⟨_, rfl⟩
  rw [hln, hnn] at HV HU ⊢
  have HN := hidp hnn
  have HLN := hidp hln
  rw [hnn] at hn
  clear hnn hln hv hu
  have en : ((n : Int) != (n : Int)) = false := by simp
  have H := hidp (Mm.M.nil w)
  go_enter Tryd.func11, Tryd.ntmps11
  go_wp2
  have HB0 := hidp H.out.below
  go_loopw [13] (fun t13 wr => ∃ i : Nat, t13 = .int .i64 (i : Int) ∧ i ≤ n ∧ Below w.heap.size w wr) (fun t13 _ => n - (intOf t13).toNat)
  case atStart => exact ⟨0, rfl, by omega, HB0.out⟩
  case round =>
    clear H HB0
    obtain ⟨i, rfl, hi, hM⟩ := hrel
    have H := hidp (show Mm.M w.heap.size w wr [] from ⟨hM, hM.size, fun x h => (by cases h), .nil, fun x h => (by cases h)⟩)
    clear hM
    by_cases hlt : i < n
    · have e1 : decide ((i : Int) < (n : Int)) = true := by simp; omega
      have e1n : (i : Int) < (n : Int) := by omega
      have hil : i < (encI l).length := by rw [HLN.out, HN.out]; exact hlt
      obtain ⟨g1, d1, q1, -, k1, m1⟩ := Sl.own_cells HV.out (by omega)
      obtain ⟨g2, d2, q2, -, k2, m2⟩ := Sl.own_cells HU.out (by omega)
      rw [HLN.out, HN.out] at q1 q2
      simp only [Value.slice.injEq] at q1 q2
      obtain ⟨rfl, -, rfl⟩ := q1
      obtain ⟨rfl, -, rfl⟩ := q2
      obtain ⟨X, hX⟩ : ∃ X, (encI l)[i] = .int .i64 X := ⟨l[i]'(by rw [HN.out]; exact hlt), by simp [encI]⟩
      have HA := hidp (show ∀ W, Below w.heap.size w W → W.cell? ⟨g1, i, none⟩ = some (.int .i64 X) from fun W hW => (hW.cell (p := ⟨g1, i, none⟩) k1).trans (by rw [m1 i hil, hX]))
      have HB := hidp (show ∀ W, Below w.heap.size w W → W.cell? ⟨g2, i, none⟩ = some (.int .i64 X) from fun W hW => (hW.cell (p := ⟨g2, i, none⟩) k2).trans (by rw [m2 i hil, hX]))
      clear k1 m1 k2 m2 hX
      go_wp2
      refine Mm.region H (.take 0 (.take 1 (.take 2 (.take 3 (.take 4 (.take 5 (.take 6 (.take 7 (.take 8 .done))))))))) (by kernel_rfl) (by kernel_rfl) (by simp [Scr.depth]) (by kernel_rfl) ?_
      clear H
      intro _ H hb
      clear hb
      apply s_val
      case ho | hw => rfl
      case hv => intro w hw; go_simp; first | done | rfl
      simp only [Act.put, getElem_toArray, getElem_cons_zero, getElem_cons_succ, setIfInBounds_toArray, set_cons_zero, set_cons_succ]
      apply s_val
      case ho | hw => rfl
      case hv => intro w hw; go_simp; first | done | rfl
      simp only [Act.put, getElem_toArray, getElem_cons_zero, getElem_cons_succ, setIfInBounds_toArray, set_cons_zero, set_cons_succ]
      refine Sl.s_idx1 Sl.tyI (by kernel_rfl) rfl rfl (.tmp 16) (.tmp 17) rfl g1 0 n _ i rfl rfl hlt ?_
      simp only [Act.put, getElem_toArray, getElem_cons_zero, getElem_cons_succ, setIfInBounds_toArray, set_cons_zero, set_cons_succ]
      refine Mm.s_ldc naI rfl rfl (.tmp 18) ⟨g1, 0 + i, none⟩ (.int .i64 X) rfl rfl (fun w hw => by rw [Nat.zero_add]; exact HA.out w hw.below) ?_
      simp only [Act.put, getElem_toArray, getElem_cons_zero, getElem_cons_succ, setIfInBounds_toArray, set_cons_zero, set_cons_succ]
      apply s_val
      case ho | hw => rfl
      case hv => intro w hw; go_simp; first | done | rfl
      simp only [Act.put, getElem_toArray, getElem_cons_zero, getElem_cons_succ, setIfInBounds_toArray, set_cons_zero, set_cons_succ]
      apply s_val
      case ho | hw => rfl
      case hv => intro w hw; go_simp; first | done | rfl
      simp only [Act.put, getElem_toArray, getElem_cons_zero, getElem_cons_succ, setIfInBounds_toArray, set_cons_zero, set_cons_succ]
      refine Sl.s_idx1 Sl.tyI (by kernel_rfl) rfl rfl (.tmp 20) (.tmp 21) rfl g2 0 n _ i rfl rfl hlt ?_
      simp only [Act.put, getElem_toArray, getElem_cons_zero, getElem_cons_succ, setIfInBounds_toArray, set_cons_zero, set_cons_succ]
      refine Mm.s_ldc naI rfl rfl (.tmp 22) ⟨g2, 0 + i, none⟩ (.int .i64 X) rfl rfl (fun w hw => by rw [Nat.zero_add]; exact HB.out w hw.below) ?_
      simp only [Act.put, getElem_toArray, getElem_cons_zero, getElem_cons_succ, setIfInBounds_toArray, set_cons_zero, set_cons_succ]
      apply s_val
      case ho | hw => rfl
      case hv => intro w hw; go_simp; first | done | rfl
      simp only [Act.put, getElem_toArray, getElem_cons_zero, getElem_cons_succ, setIfInBounds_toArray, set_cons_zero, set_cons_succ]
      refine NoPanic.normal ?_
      go_wp2
      exact ⟨⟨i + 1, by go_num, by omega, H.out.below⟩, by simp [intOf]; omega⟩
    · have e1 : decide ((i : Int) < (n : Int)) = false := by simp; omega
      have e1n : ¬ (i : Int) < (n : Int) := by omega
      go_wp2
      go_ret
      exact ⟨rfl, H.out.below⟩
end Go.Proofs.YtbgooppmhgaicaaDoor.Bk
