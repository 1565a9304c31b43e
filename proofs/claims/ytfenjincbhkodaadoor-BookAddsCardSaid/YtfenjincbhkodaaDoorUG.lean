/-
  Joined: GrF GrP.
-/
import Derived.Test.YtfenjincbhkodaaDoorUF
namespace Go.Proofs.YtfenjincbhkodaaDoor
set_option maxRecDepth 100000
set_option linter.unusedVariables false
set_option linter.unusedSimpArgs false
open Go.RowKit Rw


theorem eqin_hd (d : Nat) (W : World) (a b : List UInt8) (ha : a.length = 32) (hb : b.length = 32) :
    (Op.equalIn (d + 2) 24 (.agg (u8s a).toArray) (.agg (u8s b).toArray)).run Tryd.prog W = .ok (decide (a = b)) W := by
  obtain ⟨i0, hi, hz0, hz1, hz2⟩ := info_parts info5
  have hu : Tryd.prog.underlying 24 = some (.array 32 5) := by kernel_rfl
  have hu8 : Tryd.prog.underlying 5 = some (.int .u8) := Tryd.underlying5
  have hsz : ∀ W, (sizeOf 5).run Tryd.prog W = .ok 1 W := by intro W; simp [sizeOf, typeInfo, hi, hz1]
  have hpart : ∀ (l : List UInt8) (i : Nat) (W : World), l.length = 32 → i < 32 → (part 5 (u8s l).toArray (i * 1)).run Tryd.prog W = .ok (.int .u8 ((l.getD i 0).toNat : Int)) W := by
    intro l i W hl hlt
    simp [part, sizeOf, typeInfo, hi, hz0, hz1, hz2, hl, hlt, u8s, List.getD_eq_getElem?_getD]
  have hdec : decide (a = b) = (List.range' 0 32).all (fun i => a.getD i 0 == b.getD i 0) := by
    rw [Bool.eq_iff_iff, decide_eq_true_iff, List.all_eq_true]
    constructor
    · rintro rfl i _; simp
    · intro h
      apply List.ext_getElem (by omega)
      intro i h1 h2
      have := h i (by simp [List.mem_range']; omega)
      simpa [List.getD_eq_getElem?_getD, h1, h2] using this
  rw [hdec]
  unfold Op.equalIn
  simp only [Sem.run_bind, run_underlying hu, Result.andThen_ok, hsz]
  rw [Std.Legacy.Range.forIn_eq_forIn_range']
  have hall : ∀ i ∈ List.range' 0 32, i < 32 := by intro i h; simp [List.mem_range'] at h; omega
  show ((Sem.run Tryd.prog (forIn (List.range' 0 32) _ _) W).andThen _) = _
  generalize List.range' 0 32 = is at hall ⊢
  induction is generalizing W with
  | nil => simp
  | cons i is ih =>
    have hi32 := hall i (by simp)
    have ih := ih W (fun j hj => hall j (by simp [hj]))
    simp only [List.forIn_cons, Sem.run_bind, hpart a i _ ha hi32, hpart b i _ hb hi32, Result.andThen_ok, run_equalIn_int _ _ _ _ _ _ _ hu8, Sem.run_ite, List.all_cons]
    have hbeq : (((a.getD i 0).toNat : Int) == ((b.getD i 0).toNat : Int)) = (a.getD i 0 == b.getD i 0) := by
      rw [Bool.eq_iff_iff, beq_iff_eq, beq_iff_eq, ← UInt8.toNat_inj]; omega
    rw [hbeq]
    cases a.getD i 0 == b.getD i 0
    · simp
    · simpa using ih
theorem eqin_gr (W : World) (g : Gr) (hg : g.ok) : (Op.equalIn 10000 26 (.agg g.row.toArray) (.agg g.row.toArray)).run Tryd.prog W = .ok true W := by
  have ht : Tryd.prog.underlying 26 = some (.struct (Tryd.prog.fieldsOf 26)) := by kernel_rfl
  have hp : Tryd.prog.stoodInHeld 26 = false := by kernel_rfl
  have hu := Tryd.underlying26
  have hui := Tryd.underlying2
  have hui2 := Tryd.underlying3
  have hl := Gr.len hg
  have r0 : g.row[0]'(by omega) = .int .i64 g.s := rfl
  have r1 : g.row[1]'(by omega) = .int .i64 g.f := rfl
  have r2 : g.row[2]'(by omega) = .int .i64 g.t := rfl
  have r3 : g.row[3]'(by omega) = .int .i64 g.h := rfl
  have r4 : List.take 32 (List.drop 4 g.row) = u8s g.r := by
    unfold Gr.row
    rw [List.drop_left' (by rfl)]
    exact List.take_of_length_le (by rw [u8s_length, hg]; exact Nat.le_refl _)
  have qh := fun W => eqin_hd 9997 W g.r g.r hg hg
  simp only [decide_true] at qh
  rw [run_equalIn_agg W 9999 _ _ _ ht hp]
  unfold Program.fieldsOf
  rw [hu]
  go_simp
theorem guard_gr : Tryd.prog.eqGuardType Tryd.prog.depth 26 = false := by kernel_rfl
theorem s_neG {ops : Array Oper} {Q : Exit → Act → World → Prop} {S : World → Prop} {k : Nat} {o : Oper} {s : Scr} {a : Act} {w : World} (ho : ops[k]? = some o) (hw : Region.wanted o (yielded ops a.tmps) = true) (x y : Operand) (u : TypeId) (hop : o.op = .binOp .neq 26 x y u)
    (g : Gr) (hg : g.ok) (hx : a.eval x = .agg g.row.toArray) (hy : a.eval y = .agg g.row.toArray) (h : wpScr Tryd.prog ops Q s S (a.put o.dst (.bool false)) w) : wpScr Tryd.prog ops Q (.take k s) S a w :=
  s_val ho hw (fun w _ => by
    unfold execOp
    simp only [hop, hx, hy, Sem.run_bind, run_eqGuard_agg (P := Tryd.prog) _ _ _ _ _ _ _ guard_gr, run_neq_struct, eqin_gr w g hg, Bool.not_true, Result.andThen_ok, Sem.run_pure]) h
set_option maxHeartbeats 16000000 in
theorem same_any (w : World) (v u : Value) (gs : List Gr) (hv : GsAt w v gs) (hu : GsAt w u gs) (hn : gs.length ≤ 4611686018427387904) :
    Calls Tryd.prog 12 #[v, u] w fun e w' => e = .returned (.bool true) ∧ Below w.heap.size w w' := by
  have HV := hidp hv; have HU := hidp hu; clear hv hu
  obtain ⟨av, cv, rfl⟩ := HV.out.form
  obtain ⟨au, cu, rfl⟩ := HU.out.form
  obtain ⟨n, hnn⟩ : ∃ n, gs.length = n := ⟨_, rfl⟩
  have HN := hidp hnn
  rw [hnn] at HV HU hn ⊢
  clear hnn
  have e0 : ((n : Int) != (n : Int)) = false := by simp
  go_enter Tryd.func12, Tryd.ntmps12
  go_wp2_with fail
  go_loopw [13] (fun t13 wr => ∃ i : Nat, t13 = .int .i64 (i : Int) ∧ i ≤ n ∧ Below w.heap.size w wr) (fun t13 _ => n - (intOf t13).toNat)
  case atStart => exact ⟨0, rfl, by omega, Below.refl _ _⟩
  case round =>
    obtain ⟨i, rfl, hi, hb⟩ := hrel
    have HB := hidp hb
    clear hb
    by_cases hlt : i < n
    · have e1 : decide ((i : Int) < (n : Int)) = true := by simp; omega
      have hgl : i < gs.length := by rw [HN.out]; exact hlt
      obtain ⟨B1, o1, c1, e2, -, hB1, hR1⟩ := HV.out.get (by rw [HN.out]; omega)
      rw [HN.out] at e2
      simp only [Value.slice.injEq] at e2
      obtain ⟨rfl, -, rfl⟩ := e2
      obtain ⟨B2, o2, c2, e2, -, hB2, hR2⟩ := HU.out.get (by rw [HN.out]; omega)
      rw [HN.out] at e2
      simp only [Value.slice.injEq] at e2
      obtain ⟨rfl, -, rfl⟩ := e2
      obtain ⟨g, hge⟩ : ∃ g, gs[i] = g := ⟨_, rfl⟩
      have hgok := hidp (show g.ok from by rw [← hge]; exact HV.out.2 _ (List.getElem_mem hgl))
      go_wp2_with fail
      obtain ⟨U, hU⟩ : ∃ U, ({ wr with drawn := wr.drawn + 1 } : World) = U := ⟨_, rfl⟩
      have bU : Below wr.heap.size wr U := by rw [← hU]; exact (Below.refl _ _).drew
      have HBU := hidp (HB.out.trans (bU.mono HB.out.size))
      have HS := hidp (show U.rangeAt B1 (o1 + 36 * i) g.row ∧ U.rangeAt B2 (o2 + 36 * i) g.row from by rw [← hge]; exact ⟨rangeAt_below (hR1 i hgl) HBU.out hB1, rangeAt_below (hR2 i hgl) HBU.out hB2⟩)
      clear bU hR1 hR2 hge
      refine wp_region_noPanic ?_
      refine wp_region_scr (S := fun W => W.rangeAt B1 (o1 + 36 * i) g.row ∧ W.rangeAt B2 (o2 + 36 * i) g.row) (.take 0 (.take 1 (.take 2 (.take 3 (.take 4 (.take 5 (.take 6 (.take 7 (.take 8 .done))))))))) (by kernel_rfl) (by kernel_rfl) (fun _ _ _ _ _ h => h) (by simp [Scr.depth]) (by kernel_rfl) (by rw [hU]; exact HS.out) ?_
      simp only [hU]
      clear hU
      apply s_val
      case ho => rfl
      case hw => rfl
      case hv => intro w hw; go_simp; first | done | with_reducible rfl | rfl
      simp only [Act.put, List.getElem_toArray, List.getElem_cons_zero, List.getElem_cons_succ, List.setIfInBounds_toArray, List.set_cons_zero, List.set_cons_succ]
      apply s_val
      case ho => rfl
      case hw => rfl
      case hv => intro w hw; go_simp; first | done | with_reducible rfl | rfl
      simp only [Act.put, List.getElem_toArray, List.getElem_cons_zero, List.getElem_cons_succ, List.setIfInBounds_toArray, List.set_cons_zero, List.set_cons_succ]
      refine s_idxR tyG rfl rfl (.tmp 16) (.tmp 17) rfl B1 o1 n _ i rfl rfl hlt ?_
      simp only [Act.put, List.getElem_toArray, List.getElem_cons_zero, List.getElem_cons_succ, List.setIfInBounds_toArray, List.set_cons_zero, List.set_cons_succ]
      refine s_atG rfl rfl (.tmp 18) rfl B1 (o1 + 36 * i) g rfl hgok.out (fun w h => h.1) ?_
      simp only [Act.put, List.getElem_toArray, List.getElem_cons_zero, List.getElem_cons_succ, List.setIfInBounds_toArray, List.set_cons_zero, List.set_cons_succ]
      apply s_val
      case ho => rfl
      case hw => rfl
      case hv => intro w hw; go_simp; first | done | with_reducible rfl | rfl
      simp only [Act.put, List.getElem_toArray, List.getElem_cons_zero, List.getElem_cons_succ, List.setIfInBounds_toArray, List.set_cons_zero, List.set_cons_succ]
      apply s_val
      case ho => rfl
      case hw => rfl
      case hv => intro w hw; go_simp; first | done | with_reducible rfl | rfl
      simp only [Act.put, List.getElem_toArray, List.getElem_cons_zero, List.getElem_cons_succ, List.setIfInBounds_toArray, List.set_cons_zero, List.set_cons_succ]
      refine s_idxR tyG rfl rfl (.tmp 20) (.tmp 21) rfl B2 o2 n _ i rfl rfl hlt ?_
      simp only [Act.put, List.getElem_toArray, List.getElem_cons_zero, List.getElem_cons_succ, List.setIfInBounds_toArray, List.set_cons_zero, List.set_cons_succ]
      refine s_atG rfl rfl (.tmp 22) rfl B2 (o2 + 36 * i) g rfl hgok.out (fun w h => h.2) ?_
      simp only [Act.put, List.getElem_toArray, List.getElem_cons_zero, List.getElem_cons_succ, List.setIfInBounds_toArray, List.set_cons_zero, List.set_cons_succ]
      refine s_neG rfl rfl (.tmp 19) (.tmp 23) _ rfl g hgok.out rfl rfl ?_
      simp only [Act.put, List.getElem_toArray, List.getElem_cons_zero, List.getElem_cons_succ, List.setIfInBounds_toArray, List.set_cons_zero, List.set_cons_succ]
      refine NoPanic.normal ?_
      go_wp2_with fail
      exact ⟨⟨i + 1, by go_num, by omega, HBU.out⟩, by simp [intOf]; omega⟩
    · have e1 : decide ((i : Int) < (n : Int)) = false := by simp; omega
      go_wp2_with fail
      go_ret
      exact ⟨rfl, HB.out⟩
end Go.Proofs.YtfenjincbhkodaaDoor

namespace Go.Proofs.YtfenjincbhkodaaDoor
set_option maxRecDepth 100000
set_option linter.unusedVariables false
set_option linter.unusedSimpArgs false
open Go.RowKit Rw

def tst (x g : Gr) : Bool := decide (x.s < g.s) || (decide (x.s = g.s) && decide (x.f < g.f))
theorem vG_ft {g : Gr} (h : vG g = true) : g.f ≤ g.t := by unfold vG at h; simp at h; omega
theorem fol_trans {y x g : Gr} (h1 : fol y x = true) (h2 : fol x g = true) (hx : x.f ≤ x.t) : fol y g = true := by
  unfold fol at *
  split at h1 <;> split at h2 <;> split <;> simp at * <;> omega
theorem tst_fol {x g : Gr} (hx : x.f ≤ x.t) (hg : g.f ≤ g.t) (hm : mt x g = false) : tst x g = !fol x g := by
  have hm2 : ¬ (x.s = g.s ∧ x.f ≤ g.t ∧ g.f ≤ x.t) := fun ⟨a, b, c⟩ => by unfold mt at hm; simp [a, b, c] at hm
  have hm3 : x.s = g.s → x.f ≤ g.t → g.f ≤ x.t → False := fun a b c => hm2 ⟨a, b, c⟩
  clear hm hm2
  unfold tst fol
  by_cases h1 : x.s = g.s
  · rw [if_pos h1, Bool.eq_iff_iff]
    have hm4 : ¬ (x.f ≤ g.t ∧ g.f ≤ x.t) := fun ⟨b, c⟩ => hm3 h1 b c
    simp
    omega
  · rw [if_neg h1, Bool.eq_iff_iff]
    simp
    omega
theorem okB_at {gs : List Gr} (h : okB gs = true) {j : Nat} (hj : j < gs.length) : vG gs[j] = true := by
  unfold okB okTo at h
  rw [Bool.and_eq_true, List.all_eq_true] at h
  have := h.2 j (by simp; exact hj)
  unfold okAt at this
  rw [Bool.and_eq_true, getD_at hj] at this
  exact this.1
theorem okB_fol {gs : List Gr} (h : okB gs = true) {j : Nat} (hj : j + 1 < gs.length) : fol gs[j + 1] (gs[j]'(by omega)) = true := by
  unfold okB okTo at h
  rw [Bool.and_eq_true, List.all_eq_true] at h
  have := h.2 (j + 1) (by simp; exact hj)
  unfold okAt at this
  rw [Bool.and_eq_true, getD_at hj, Nat.add_sub_cancel, getD_at (show j < gs.length by omega)] at this
  simpa using this.2
theorem fol_mono {gs : List Gr} (h : okB gs = true) (g : Gr) : ∀ (i : Nat) (hi : i < gs.length), (gs.findIdx fun x => fol x g) ≤ i → fol gs[i] g = true
  | 0, hi, hf => by
    have h0 : (gs.findIdx fun x => fol x g) = 0 := by omega
    have := List.findIdx_getElem (p := fun x => fol x g) (xs := gs) (w := by omega)
    simpa only [h0] using this
  | i + 1, hi, hf => by
    by_cases e : (gs.findIdx fun x => fol x g) = i + 1
    · have := List.findIdx_getElem (p := fun x => fol x g) (xs := gs) (w := by omega)
      simpa only [e] using this
    · exact fol_trans (okB_fol h hi) (fol_mono h g i (by omega) (by omega)) (vG_ft (okB_at h (by omega)))
/-- The place that counting finds. -/
theorem place_step {gs : List Gr} (h : okB gs = true) {g : Gr} (hg : vG g = true) {i : Nat} (hi : i < gs.length) (hm : mt gs[i] g = false) :
    min (i + 1) (gs.findIdx fun x => fol x g) = min i (gs.findIdx fun x => fol x g) + (if tst gs[i] g = true then 1 else 0) := by
  rw [tst_fol (vG_ft (okB_at h hi)) (vG_ft hg) hm]
  by_cases hf : (gs.findIdx fun x => fol x g) ≤ i
  · rw [fol_mono h g i hi hf]; simp; omega
  · have := List.not_of_lt_findIdx (p := fun x => fol x g) (xs := gs) (i := i) (by omega)
    rw [this]; simp; omega
namespace Rw
section
variable {P : Program} {ST T k by_ : Nat} {z : List Value} {ops : Array Oper} {rest : List Oper} {o : Oper} {a : Act} {w : World} {Q : Exit → Act → World → Prop}
theorem run_app00 (R : RowTy P ST T k by_ z) (t : TypeId) (v : Value) (b : Option Addr) (n c : Nat) (hv : v = .slice b n c) (hn : n ≤ c) (h63 : n ≤ 1048576) : (Builtin.append_ #[ST, ST] t #[v, .slice none 0 0]).run P w = .ok v w := by
  obtain ⟨i0, hi, hz0, hz1, hz2⟩ := info_parts R.info
  subst hv
  have h1 : ¬ (9223372036854775807 < (n : Int)) := by omega
  cases b <;> simp [Builtin.append_, run_underlying R.us, sizeOf, typeInfo, zeroValue, hi, hz0, Builtin.lenOf, hn, h1, run_firstCells_none, storeCells]
theorem RsAt.len {v : Value} {fs : List (List Value)} (h : RsAt k w v fs) : ∃ b c, v = .slice b fs.length c ∧ fs.length ≤ c := by
  rcases h.2 with ⟨rfl, rfl⟩ | ⟨B, o, c, rfl, hc, _⟩
  · exact ⟨none, 0, rfl, Nat.le_refl _⟩
  · exact ⟨_, c, rfl, hc⟩
theorem RsAt.one {b : Nat} {l : List Value} (ha : Arr w b T l) (hl : l.length = k) : RsAt k w (.slice (some ⟨b, 0, none⟩) 1 1) [l] :=
  ⟨AllK.one hl, .inr ⟨b, 0, 1, rfl, Nat.le_refl _, ha.lt, by rw [List.flatten_cons, List.flatten_nil, List.append_nil]; exact ha.range⟩⟩
/-- 'append(s, x...)' of a row that lies anywhere. -/
theorem wpL_appRs (R : RowTy P ST T k by_ z) (hgd : o.guard = none) (s x : Operand) (ho : o.op = .call { callee := .builtin .append, args := #[s, x], argTypes := #[ST, ST] }) (B : Nat) (v u : Value) (es fs : List (List Value))
    (hv : a.eval s = v) (hx : a.eval x = u) (hown : OwnR T k w B v es) (hu : RsAt k w u fs) (h1 : One1 fs) (hB : B ≤ w.heap.size) (hn : es.length + fs.length ≤ 1048576)
    (h : ∀ v' W, OwnR T k W B v' (es ++ fs) → Below B w W → wpList P ops Q rest (a.put o.dst v') W) : wpList P ops Q (o :: rest) a w := by
  rcases hu.2 with ⟨rfl, rfl⟩ | ⟨g, off, c, rfl, hc, hg, hr⟩
  · obtain ⟨b, c, e, hc⟩ := hown.rs.len
    refine wpL_appRun hgd s x ST ST ho v _ hv hx (run_app00 R o.type v b es.length c e hc (by simp at hn; omega)) (h v w (by rw [List.append_nil]; exact hown) (Below.refl _ _))
  · exact wpL_appR R hgd s x ho B g off c v es fs fs.length hv hx rfl hown hr hu.1 h1 hB hn fun v' W h2 _ h3 => h v' W h2 h3
theorem wpL_toRs (R : RowTy P ST T k by_ z) (hgd : o.guard = none) (x y : Operand) (ho : o.op = .slice ST x none (some y) none) (u : Value) (fs : List (List Value)) (i : Nat) (hx : a.eval x = u) (hy : a.eval y = .int .i64 (i : Int)) (hu : RsAt k w u fs) (hi : i ≤ fs.length)
    (h : ∀ u', RsAt k w u' (fs.take i) → wpList P ops Q rest (a.put o.dst u') w) : wpList P ops Q (o :: rest) a w := by
  rcases hu.2 with ⟨rfl, rfl⟩ | ⟨g, off, c, rfl, hc, hg, hr⟩
  · have h0 : i = 0 := by simpa using hi
    subst h0
    refine wpList_plain hgd fun K hK => ?_
    have := hK _ _ (h (.slice none 0 0) (RsAt.nil w))
    have e : (Instr.sliceAt ST (.slice none 0 0) none (some (.int .i64 ((0 : Nat) : Int))) none).run P w = .ok (.slice none 0 0) w := by
      rw [run_sliceAt_slice (P := P) (w := w) ST _ _ _ _ (by rw [R.el]; exact R.us)]
      rw [run_slice_h (P := P) (w := w) ST none 0 0 (by rw [R.el]; exact R.us) .i64 ((0 : Nat) : Int) (by omega) (by omega), R.el, R.sz]
      simp [Result.andThen, sliced]
    unfold Oper.wp execOp
    simp only [ho, hx, hy, Option.map_none, Option.map_some, Sem.run_bind, e, Result.andThen_ok]
    exact this
  · have hl : (fs.take i).length = i := by rw [List.length_take]; omega
    refine wpL_toR R hgd x y ho g off fs.length c i hx hy (by omega) (h _ ⟨hu.1.take i, .inr ⟨g, off, c, by rw [hl], by omega, hg, rAt_take hr i⟩⟩)
theorem wpL_fromRs (R : RowTy P ST T k by_ z) (hgd : o.guard = none) (x y : Operand) (ho : o.op = .slice ST x (some y) none none) (u : Value) (fs : List (List Value)) (i : Nat) (hx : a.eval x = u) (hy : a.eval y = .int .i64 (i : Int)) (hu : RsAt k w u fs) (hi : i ≤ fs.length)
    (h : ∀ u', RsAt k w u' (fs.drop i) → wpList P ops Q rest (a.put o.dst u') w) : wpList P ops Q (o :: rest) a w := by
  rcases hu.2 with ⟨rfl, rfl⟩ | ⟨g, off, c, rfl, hc, hg, hr⟩
  · have h0 : i = 0 := by simpa using hi
    subst h0
    refine wpList_plain hgd fun K hK => ?_
    have := hK _ _ (h (.slice none 0 0) (RsAt.nil w))
    have e : (Instr.sliceAt ST (.slice none 0 0) (some (.int .i64 ((0 : Nat) : Int))) none none).run P w = .ok (.slice none 0 0) w := by
      rw [run_sliceAt_slice (P := P) (w := w) ST _ _ _ _ (by rw [R.el]; exact R.us)]
      rw [run_slice_l (P := P) (w := w) ST none 0 0 (by rw [R.el]; exact R.us) .i64 ((0 : Nat) : Int) (by omega) (by omega), R.el, R.sz]
      simp [Result.andThen, sliced]
    unfold Oper.wp execOp
    simp only [ho, hx, hy, Option.map_none, Option.map_some, Sem.run_bind, e, Result.andThen_ok]
    exact this
  · have hl : (fs.drop i).length = fs.length - i := List.length_drop
    refine wpL_fromR R hgd x y ho g off fs.length c i hx hy hi (h _ ⟨hu.1.drop i, .inr ⟨g, _, c - i, by rw [hl], by omega, hg, ?_⟩⟩)
    split
    · rw [List.drop_of_length_le (by omega)]; exact fun j v hj => by simp at hj
    · exact rAt_drop hr hu.1 i hi
end
end Rw
end Go.Proofs.YtfenjincbhkodaaDoor
