/-
  Joined: GrF GrP OnM.
-/
import Derived.Test.YtfenjincbhkodaaDoorYF
namespace Go.Proofs.YtfenjincbhkodaaDoor
set_option maxRecDepth 100000
set_option linter.unusedVariables false
set_option linter.unusedSimpArgs false
open Go.RowKit Rw


theorem eqin_hd (d : Nat) (W : World) (a b : List UInt8) (ha : a.length = 32) (hb : b.length = 32) :
    (Op.equalIn (d + 2) 24 (.agg (u8s a).toArray) (.agg (u8s b).toArray)).run Tryd.prog W = .ok (decide (a = b)) W := by
  obtain ⟨i0, hi, hz0, hz1, hz2⟩ := info_parts info5
  have hu : Tryd.prog.underlying 24 = some (.array 32 5) := by kernel_rfl
  have hu8 : Tryd.prog.underlying 5 = some (.int .u8) := Tryd.underlying5
  have hsz : ∀ W, (sizeOf 5).run Tryd.prog W = .ok 1 W := by intro W; simp [sizeOf, typeInfo, hi, hz1]
  have hpart : ∀ (l : List UInt8) (i : Nat) (W : World), l.length = 32 → i < 32 → (part 5 (u8s l).toArray (i * 1)).run Tryd.prog W = .ok (.int .u8 ((l.getD i 0).toNat : Int)) W := by
    intro l i W hl hlt
    simp [part, sizeOf, typeInfo, hi, hz0, hz1, hz2, hl, hlt, u8s, List.getD_eq_getElem?_getD]
  have hdec : decide (a = b) = (List.range' 0 32).all (fun i => a.getD i 0 == b.getD i 0) := by
    rw [Bool.eq_iff_iff, decide_eq_true_iff, List.all_eq_true]
    constructor
    · rintro rfl i _; simp
    · intro h
      apply List.ext_getElem (by omega)
      intro i h1 h2
      have := h i (by simp [List.mem_range']; omega)
      simpa [List.getD_eq_getElem?_getD, h1, h2] using this
  rw [hdec]
  unfold Op.equalIn
  simp only [Sem.run_bind, run_underlying hu, Result.andThen_ok, hsz]
  rw [Std.Legacy.Range.forIn_eq_forIn_range']
  have hall : ∀ i ∈ List.range' 0 32, i < 32 := by intro i h; simp [List.mem_range'] at h; omega
  show ((Sem.run Tryd.prog (forIn (List.range' 0 32) _ _) W).andThen _) = _
  generalize List.range' 0 32 = is at hall ⊢
  induction is generalizing W with
  | nil => simp
  | cons i is ih =>
    have hi32 := hall i (by simp)
    have ih := ih W (fun j hj => hall j (by simp [hj]))
    simp only [List.forIn_cons, Sem.run_bind, hpart a i _ ha hi32, hpart b i _ hb hi32, Result.andThen_ok, run_equalIn_int _ _ _ _ _ _ _ hu8, Sem.run_ite, List.all_cons]
    have hbeq : (((a.getD i 0).toNat : Int) == ((b.getD i 0).toNat : Int)) = (a.getD i 0 == b.getD i 0) := by
      rw [Bool.eq_iff_iff, beq_iff_eq, beq_iff_eq, ← UInt8.toNat_inj]; omega
    rw [hbeq]
    cases a.getD i 0 == b.getD i 0
    · simp
    · simpa using ih
theorem eqin_gr (W : World) (g : Gr) (hg : g.ok) : (Op.equalIn 10000 26 (.agg g.row.toArray) (.agg g.row.toArray)).run Tryd.prog W = .ok true W := by
  have ht : Tryd.prog.underlying 26 = some (.struct (Tryd.prog.fieldsOf 26)) := by kernel_rfl
  have hp : Tryd.prog.stoodInHeld 26 = false := by kernel_rfl
  have hu := Tryd.underlying26
  have hui := Tryd.underlying2
  have hui2 := Tryd.underlying3
  have hl := Gr.len hg
  have r0 : g.row[0]'(by omega) = .int .i64 g.s := rfl
  have r1 : g.row[1]'(by omega) = .int .i64 g.f := rfl
  have r2 : g.row[2]'(by omega) = .int .i64 g.t := rfl
  have r3 : g.row[3]'(by omega) = .int .i64 g.h := rfl
  have r4 : List.take 32 (List.drop 4 g.row) = u8s g.r := by
    unfold Gr.row
    rw [List.drop_left' (by rfl)]
    exact List.take_of_length_le (by rw [u8s_length, hg]; exact Nat.le_refl _)
  have qh := fun W => eqin_hd 9997 W g.r g.r hg hg
  simp only [decide_true] at qh
  rw [run_equalIn_agg W 9999 _ _ _ ht hp]
  unfold Program.fieldsOf
  rw [hu]
  go_simp
theorem guard_gr : Tryd.prog.eqGuardType Tryd.prog.depth 26 = false := by kernel_rfl
theorem s_neG {ops : Array Oper} {Q : Exit → Act → World → Prop} {S : World → Prop} {k : Nat} {o : Oper} {s : Scr} {a : Act} {w : World} (ho : ops[k]? = some o) (hw : Region.wanted o (yielded ops a.tmps) = true) (x y : Operand) (u : TypeId) (hop : o.op = .binOp .neq 26 x y u)
    (g : Gr) (hg : g.ok) (hx : a.eval x = .agg g.row.toArray) (hy : a.eval y = .agg g.row.toArray) (h : wpScr Tryd.prog ops Q s S (a.put o.dst (.bool false)) w) : wpScr Tryd.prog ops Q (.take k s) S a w :=
  s_val ho hw (fun w _ => by
    unfold execOp
    simp only [hop, hx, hy, Sem.run_bind, run_eqGuard_agg (P := Tryd.prog) _ _ _ _ _ _ _ guard_gr, run_neq_struct, eqin_gr w g hg, Bool.not_true, Result.andThen_ok, Sem.run_pure]) h
set_option maxHeartbeats 16000000 in
theorem same_any (w : World) (v u : Value) (gs : List Gr) (hv : GsAt w v gs) (hu : GsAt w u gs) (hn : gs.length ≤ 4611686018427387904) :
    Calls Tryd.prog 12 #[v, u] w fun e w' => e = .returned (.bool true) ∧ Below w.heap.size w w' := by
  have HV := hidp hv; have HU := hidp hu; clear hv hu
  obtain ⟨av, cv, rfl⟩ := HV.out.form
  obtain ⟨au, cu, rfl⟩ := HU.out.form
  obtain ⟨n, hnn⟩ : ∃ n, gs.length = n := ⟨_, rfl⟩
  have HN := hidp hnn
  rw [hnn] at HV HU hn ⊢
  clear hnn
  have e0 : ((n : Int) != (n : Int)) = false := by simp
  go_enter Tryd.func12, Tryd.ntmps12
  go_wp2_with fail
  go_loopw [13] (fun t13 wr => ∃ i : Nat, t13 = .int .i64 (i : Int) ∧ i ≤ n ∧ Below w.heap.size w wr) (fun t13 _ => n - (intOf t13).toNat)
  case atStart => exact ⟨0, rfl, by omega, Below.refl _ _⟩
  case round =>
    obtain ⟨i, rfl, hi, hb⟩ := hrel
    have HB := hidp hb
    clear hb
    by_cases hlt : i < n
    · have e1 : decide ((i : Int) < (n : Int)) = true := by simp; omega
      have hgl : i < gs.length := by rw [HN.out]; exact hlt
      obtain ⟨B1, o1, c1, e2, -, hB1, hR1⟩ := HV.out.get (by rw [HN.out]; omega)
      rw [HN.out] at e2
      simp only [Value.slice.injEq] at e2
      obtain ⟨rfl, -, rfl⟩ := e2
      obtain ⟨B2, o2, c2, e2, -, hB2, hR2⟩ := HU.out.get (by rw [HN.out]; omega)
      rw [HN.out] at e2
      simp only [Value.slice.injEq] at e2
      obtain ⟨rfl, -, rfl⟩ := e2
      obtain ⟨g, hge⟩ : ∃ g, gs[i] = g := ⟨_, rfl⟩
      have hgok := hidp (show g.ok from by rw [← hge]; exact HV.out.2 _ (List.getElem_mem hgl))
      go_wp2_with fail
      obtain ⟨U, hU⟩ : ∃ U, ({ wr with drawn := wr.drawn + 1 } : World) = U := ⟨_, rfl⟩
      have bU : Below wr.heap.size wr U := by rw [← hU]; exact (Below.refl _ _).drew
      have HBU := hidp (HB.out.trans (bU.mono HB.out.size))
      have HS := hidp (show U.rangeAt B1 (o1 + 36 * i) g.row ∧ U.rangeAt B2 (o2 + 36 * i) g.row from by rw [← hge]; exact ⟨rangeAt_below (hR1 i hgl) HBU.out hB1, rangeAt_below (hR2 i hgl) HBU.out hB2⟩)
      clear bU hR1 hR2 hge
      refine wp_region_noPanic ?_
      refine wp_region_scr (S := fun W => W.rangeAt B1 (o1 + 36 * i) g.row ∧ W.rangeAt B2 (o2 + 36 * i) g.row) (.take 0 (.take 1 (.take 2 (.take 3 (.take 4 (.take 5 (.take 6 (.take 7 (.take 8 .done))))))))) (by kernel_rfl) (by kernel_rfl) (fun _ _ _ _ _ h => h) (by simp [Scr.depth]) (by kernel_rfl) (by rw [hU]; exact HS.out) ?_
      simp only [hU]
      clear hU
      apply s_val
      case ho => rfl
      case hw => rfl
      case hv => intro w hw; go_simp; first | done | with_reducible rfl | rfl
      simp only [Act.put, List.getElem_toArray, List.getElem_cons_zero, List.getElem_cons_succ, List.setIfInBounds_toArray, List.set_cons_zero, List.set_cons_succ]
      apply s_val
      case ho => rfl
      case hw => rfl
      case hv => intro w hw; go_simp; first | done | with_reducible rfl | rfl
      simp only [Act.put, List.getElem_toArray, List.getElem_cons_zero, List.getElem_cons_succ, List.setIfInBounds_toArray, List.set_cons_zero, List.set_cons_succ]
      refine s_idxR tyG rfl rfl (.tmp 16) (.tmp 17) rfl B1 o1 n _ i rfl rfl hlt ?_
      simp only [Act.put, List.getElem_toArray, List.getElem_cons_zero, List.getElem_cons_succ, List.setIfInBounds_toArray, List.set_cons_zero, List.set_cons_succ]
      refine s_atG rfl rfl (.tmp 18) rfl B1 (o1 + 36 * i) g rfl hgok.out (fun w h => h.1) ?_
      simp only [Act.put, List.getElem_toArray, List.getElem_cons_zero, List.getElem_cons_succ, List.setIfInBounds_toArray, List.set_cons_zero, List.set_cons_succ]
      apply s_val
      case ho => rfl
      case hw => rfl
      case hv => intro w hw; go_simp; first | done | with_reducible rfl | rfl
      simp only [Act.put, List.getElem_toArray, List.getElem_cons_zero, List.getElem_cons_succ, List.setIfInBounds_toArray, List.set_cons_zero, List.set_cons_succ]
      apply s_val
      case ho => rfl
      case hw => rfl
      case hv => intro w hw; go_simp; first | done | with_reducible rfl | rfl
      simp only [Act.put, List.getElem_toArray, List.getElem_cons_zero, List.getElem_cons_succ, List.setIfInBounds_toArray, List.set_cons_zero, List.set_cons_succ]
      refine s_idxR tyG rfl rfl (.tmp 20) (.tmp 21) rfl B2 o2 n _ i rfl rfl hlt ?_
      simp only [Act.put, List.getElem_toArray, List.getElem_cons_zero, List.getElem_cons_succ, List.setIfInBounds_toArray, List.set_cons_zero, List.set_cons_succ]
      refine s_atG rfl rfl (.tmp 22) rfl B2 (o2 + 36 * i) g rfl hgok.out (fun w h => h.2) ?_
      simp only [Act.put, List.getElem_toArray, List.getElem_cons_zero, List.getElem_cons_succ, List.setIfInBounds_toArray, List.set_cons_zero, List.set_cons_succ]
      refine s_neG rfl rfl (.tmp 19) (.tmp 23) _ rfl g hgok.out rfl rfl ?_
      simp only [Act.put, List.getElem_toArray, List.getElem_cons_zero, List.getElem_cons_succ, List.setIfInBounds_toArray, List.set_cons_zero, List.set_cons_succ]
      refine NoPanic.normal ?_
      go_wp2_with fail
      exact ⟨⟨i + 1, by go_num, by omega, HBU.out⟩, by simp [intOf]; omega⟩
    · have e1 : decide ((i : Int) < (n : Int)) = false := by simp; omega
      go_wp2_with fail
      go_ret
      exact ⟨rfl, HB.out⟩
end Go.Proofs.YtfenjincbhkodaaDoor

namespace Go.Proofs.YtfenjincbhkodaaDoor
set_option maxRecDepth 100000
set_option linter.unusedVariables false
set_option linter.unusedSimpArgs false
open Go.RowKit Rw

theorem vG_ft {g : Gr} (h : vG g = true) : g.f ≤ g.t := by unfold vG at h; simp at h; omega
theorem fol_trans {y x g : Gr} (h1 : fol y x = true) (h2 : fol x g = true) (hx : x.f ≤ x.t) : fol y g = true := by
  unfold fol at *
  split at h1 <;> split at h2 <;> split <;> simp at * <;> omega
theorem okB_at {gs : List Gr} (h : okB gs = true) {j : Nat} (hj : j < gs.length) : vG gs[j] = true := by
  unfold okB okTo at h
  rw [Bool.and_eq_true, List.all_eq_true] at h
  have := h.2 j (by simp; exact hj)
  unfold okAt at this
  rw [Bool.and_eq_true, getD_at hj] at this
  exact this.1
theorem okB_fol {gs : List Gr} (h : okB gs = true) {j : Nat} (hj : j + 1 < gs.length) : fol gs[j + 1] (gs[j]'(by omega)) = true := by
  unfold okB okTo at h
  rw [Bool.and_eq_true, List.all_eq_true] at h
  have := h.2 (j + 1) (by simp; exact hj)
  unfold okAt at this
  rw [Bool.and_eq_true, getD_at hj, Nat.add_sub_cancel, getD_at (show j < gs.length by omega)] at this
  simpa using this.2
theorem fol_mono {gs : List Gr} (h : okB gs = true) (g : Gr) : ∀ (i : Nat) (hi : i < gs.length), (gs.findIdx fun x => fol x g) ≤ i → fol gs[i] g = true
  | 0, hi, hf => by
    have h0 : (gs.findIdx fun x => fol x g) = 0 := by omega
    have := List.findIdx_getElem (p := fun x => fol x g) (xs := gs) (w := by omega)
    simpa only [h0] using this
  | i + 1, hi, hf => by
    by_cases e : (gs.findIdx fun x => fol x g) = i + 1
    · have := List.findIdx_getElem (p := fun x => fol x g) (xs := gs) (w := by omega)
      simpa only [e] using this
    · exact fol_trans (okB_fol h hi) (fol_mono h g i (by omega) (by omega)) (vG_ft (okB_at h (by omega)))
namespace Rw
section
variable {P : Program} {ST T k by_ : Nat} {z : List Value} {ops : Array Oper} {rest : List Oper} {o : Oper} {a : Act} {w : World} {Q : Exit → Act → World → Prop}
theorem RsAt.len {v : Value} {fs : List (List Value)} (h : RsAt k w v fs) : ∃ b c, v = .slice b fs.length c ∧ fs.length ≤ c := by
  rcases h.2 with ⟨rfl, rfl⟩ | ⟨B, o, c, rfl, hc, _⟩
  · exact ⟨none, 0, rfl, Nat.le_refl _⟩
  · exact ⟨_, c, rfl, hc⟩
theorem RsAt.one {b : Nat} {l : List Value} (ha : Arr w b T l) (hl : l.length = k) : RsAt k w (.slice (some ⟨b, 0, none⟩) 1 1) [l] :=
  ⟨AllK.one hl, .inr ⟨b, 0, 1, rfl, Nat.le_refl _, ha.lt, by rw [List.flatten_cons, List.flatten_nil, List.append_nil]; exact ha.range⟩⟩
end
end Rw
end Go.Proofs.YtfenjincbhkodaaDoor

namespace Go.Proofs.YtfenjincbhkodaaDoor.Bk
set_option maxRecDepth 100000
set_option linter.unusedVariables false
set_option linter.unusedSimpArgs false

theorem okB_of {C : List Gr} (hl : C.length ≤ 256) (h1 : ∀ j, (hj : j < C.length) → vG C[j] = true) (h2 : ∀ j, (hj : j + 1 < C.length) → fol C[j + 1] (C[j]'(by omega)) = true) : okB C = true := by
  unfold okB okTo
  rw [Bool.and_eq_true, List.all_eq_true]
  refine ⟨decide_eq_true hl, fun j hj => ?_⟩
  have hj : j < C.length := by simpa using hj
  unfold okAt
  rw [Bool.and_eq_true, getD_at hj]
  refine ⟨h1 j hj, ?_⟩
  cases j with
  | zero => rfl
  | succ j =>
    rw [Nat.add_sub_cancel, getD_at (show j < C.length by omega), h2 j hj]
    simp
theorem fol_all {C : List Gr} (h : okB C = true) : ∀ (j : Nat) (hj : j < C.length) (i : Nat) (hi : i < j), fol C[j] (C[i]'(by omega)) = true := by
  intro j
  induction j with
  | zero => intro hj i hi; omega
  | succ j ih =>
    intro hj i hi
    rcases (by omega : i < j ∨ i = j) with h1 | rfl
    · exact fol_trans (okB_fol h hj) (ih (by omega) i h1) (vG_ft (okB_at h (by omega)))
    · exact okB_fol h hj
theorem fd_lt {C : List Gr} (h : okB C = true) (s t : Int) (a b : Nat) (hb : b < C.length) (hab : a < b) (h1 : fdG s t (C[a]'(by omega)) = true) (h2 : fdG s t C[b] = true) : False := by
  have f := fol_all h b hb a hab
  unfold fol at f
  unfold fdG at h1 h2
  simp only [Bool.and_eq_true, decide_eq_true_eq] at h1 h2
  rw [if_pos (by omega)] at f
  simp only [decide_eq_true_eq] at f
  omega
theorem fd_one {C : List Gr} (h : okB C = true) {i j : Nat} (hi : i < C.length) (hj : j < C.length) (s t : Int) (h1 : fdG s t C[i] = true) (h2 : fdG s t C[j] = true) : i = j := by
  rcases Nat.lt_trichotomy i j with l | e | l
  · exact (fd_lt h s t i j hj l h1 h2).elim
  · exact e
  · exact (fd_lt h s t j i hi l h2 h1).elim
theorem fi_of {C : List Gr} (h : okB C = true) {j : Nat} (hj : j < C.length) (s t : Int) (hf : fdG s t C[j] = true) : C.findIdx (fdG s t) = j := by
  have hlt : C.findIdx (fdG s t) < C.length := List.findIdx_lt_length_of_exists ⟨C[j], List.getElem_mem hj, hf⟩
  exact fd_one h hlt hj s t List.findIdx_getElem hf
theorem fi_hit {C : List Gr} (h : okB C = true) {x : Gr} (hx : x ∈ C) (s t : Int) (hf : fdG s t x = true) : fiE C s t = 0 ∧ fiV C s t = x := by
  obtain ⟨j, hj, rfl⟩ := List.getElem_of_mem hx
  unfold fiE fiV
  rw [fi_of h hj s t hf, if_pos h, if_pos hj, if_pos h, if_pos hj, getD_at hj]
  exact ⟨rfl, rfl⟩
theorem fi_at {C : List Gr} {s t : Int} (he : fiE C s t = 0) : okB C = true ∧ fiV C s t ∈ C ∧ fdG s t (fiV C s t) = true := by
  unfold fiE at he
  by_cases h : okB C = true
  · rw [if_pos h] at he
    by_cases h2 : C.findIdx (fdG s t) < C.length
    · unfold fiV
      rw [if_pos h, if_pos h2, getD_at h2]
      exact ⟨h, List.getElem_mem h2, List.findIdx_getElem⟩
    · rw [if_neg h2] at he; cases he
  · rw [if_neg h] at he; cases he
def cnG (C : List Gr) (s t : Int) : Nat → Nat
  | 0 => 0
  | i + 1 => cnG C s t i + (if fdG s t (C.getD i gz) = true then 1 else 0)
theorem cn_hit {C : List Gr} (h : okB C = true) {j : Nat} (hj : j < C.length) (s t : Int) (hf : fdG s t C[j] = true) : ∀ i, i ≤ C.length → cnG C s t i = if j < i then 1 else 0
  | 0, _ => rfl
  | i + 1, hi => by
    have ih := cn_hit h hj s t hf i (by omega)
    unfold cnG
    rw [ih, getD_at (show i < C.length by omega)]
    by_cases e : fdG s t (C[i]'(by omega)) = true
    · obtain rfl := fd_one h hj (show i < C.length by omega) s t hf e
      rw [if_pos e, if_neg (by omega), if_pos (by omega)]
    · rw [if_neg e]
      have : j ≠ i := fun q => e (by subst q; exact hf)
      by_cases l : j < i
      · rw [if_pos l, if_pos (by omega)]
      · rw [if_neg l, if_neg (by omega)]
theorem cn_miss {C : List Gr} (s t : Int) (hf : ¬ C.findIdx (fdG s t) < C.length) : ∀ i, i ≤ C.length → cnG C s t i = 0
  | 0, _ => rfl
  | i + 1, hi => by
    unfold cnG
    rw [cn_miss s t hf i (by omega), getD_at (show i < C.length by omega), if_neg fun q => hf (List.findIdx_lt_length_of_exists ⟨_, List.getElem_mem (show i < C.length by omega), q⟩)]
theorem one_end {C : List Gr} (h : okB C = true) (s t : Int) : (fiE C s t = 0 ∧ cnG C s t C.length = 1) ∨ (fiE C s t = 3 ∧ cnG C s t C.length = 0) := by
  by_cases h2 : C.findIdx (fdG s t) < C.length
  · left
    refine ⟨by unfold fiE; rw [if_pos h, if_pos h2], ?_⟩
    rw [cn_hit h h2 s t List.findIdx_getElem _ (Nat.le_refl _), if_pos h2]
  · right
    exact ⟨by unfold fiE; rw [if_pos h, if_neg h2], cn_miss s t h2 _ (Nat.le_refl _)⟩
theorem fol_flip {a g : Gr} (h1 : fol a g = false) (h2 : mt a g = false) (ha : a.f ≤ a.t) (hg : g.f ≤ g.t) : fol g a = true := by
  have hm : a.s = g.s → a.f ≤ g.t → g.f ≤ a.t → False := fun x y z => by unfold mt at h2; simp [x, y, z] at h2
  clear h2
  unfold fol at *
  by_cases e : a.s = g.s
  · rw [if_pos e] at h1
    rw [if_pos e.symm]
    simp only [decide_eq_false_iff_not] at h1
    simp only [decide_eq_true_eq]
    have hn : ¬ g.f ≤ a.t := fun q => hm e (by omega) q
    omega
  · rw [if_neg e] at h1
    rw [if_neg (fun q => e q.symm)]
    simp only [decide_eq_false_iff_not] at h1
    simp only [decide_eq_true_eq]
    omega
theorem ins_lt {gs : List Gr} {g : Gr} {k j : Nat} (hk : k ≤ gs.length) (h : j < k) : (gs.take k ++ [g] ++ gs.drop k)[j]? = gs[j]? := by
  rw [List.append_assoc, List.getElem?_append_left (by simp; omega), List.getElem?_take_of_lt h]
theorem ins_eq {gs : List Gr} {g : Gr} {k : Nat} (hk : k ≤ gs.length) : (gs.take k ++ [g] ++ gs.drop k)[k]? = some g := by
  rw [List.append_assoc, List.getElem?_append_right (by simp; omega), List.length_take, Nat.min_eq_left hk, Nat.sub_self]
  rfl
theorem ins_gt {gs : List Gr} {g : Gr} {k j : Nat} (hk : k ≤ gs.length) (h : k ≤ j) : (gs.take k ++ [g] ++ gs.drop k)[j + 1]? = gs[j]? := by
  rw [List.getElem?_append_right (by simp; omega), List.getElem?_drop]
  congr 1
  simp; omega
theorem ad_ok {gs : List Gr} {g : Gr} (h : adE gs g = 0) : okB gs = true ∧ okB (adL gs g) = true ∧ (adL gs g).length = gs.length + 1 ∧ gs.length < 256 ∧ vG g = true ∧ g ∈ adL gs g ∧ ∀ x ∈ gs, x ∈ adL gs g := by
  unfold adE at h
  by_cases h1 : okB gs = true
  case neg => rw [if_neg h1] at h; cases h
  rw [if_pos h1] at h
  by_cases h2 : vG g = true
  case neg => rw [if_neg h2] at h; cases h
  rw [if_pos h2] at h
  by_cases h3 : gs.length = 256
  case pos => rw [if_pos h3] at h; cases h
  rw [if_neg h3] at h
  by_cases h4 : 0 ≤ posP (fun x => mt x g) gs
  case pos => rw [if_pos h4] at h; cases h
  clear h
  have hl : gs.length ≤ 256 := by have := h1; unfold okB at this; rw [Bool.and_eq_true, decide_eq_true_eq] at this; exact this.1
  have hm : ∀ j, (hj : j < gs.length) → mt gs[j] g = false := by
    intro j hj
    cases e : mt gs[j] g with
    | false => rfl
    | true =>
      refine (h4 ?_).elim
      unfold posP
      rw [if_pos (List.findIdx_lt_length_of_exists ⟨gs[j], List.getElem_mem hj, e⟩)]
      omega
  obtain ⟨k, hk⟩ : ∃ k, (gs.findIdx fun x => fol x g) = k := ⟨_, rfl⟩
  have hkl : k ≤ gs.length := hk ▸ List.findIdx_le_length
  have hC : adL gs g = gs.take k ++ [g] ++ gs.drop k := by unfold adL; rw [if_pos h1, if_pos h2, if_neg h3, if_neg h4, hk]
  have hlen : (adL gs g).length = gs.length + 1 := by rw [hC]; simp only [List.length_append, List.length_take, List.length_drop, List.length_cons, List.length_nil]; omega
  have flt : ∀ j, (hj : j < gs.length) → j < k → fol g gs[j] = true := fun j hj hjk => by
    have := List.not_of_lt_findIdx (p := fun x => fol x g) (xs := gs) (i := j) (by omega)
    exact fol_flip (by simpa using this) (hm j hj) (vG_ft (okB_at h1 hj)) (vG_ft h2)
  have fge : ∀ j, (hj : j < gs.length) → k ≤ j → fol gs[j] g = true := fun j hj hjk => fol_mono h1 g j hj (by omega)
  have gl : ∀ j, (hj : j < (adL gs g).length) → (h : j < k) → (adL gs g)[j] = gs[j]'(by omega) := fun j hj h => by
    have := ins_lt (g := g) hkl h
    rw [← hC, List.getElem?_eq_getElem hj, List.getElem?_eq_getElem (by omega)] at this
    exact Option.some.inj this
  have ge : ∀ (hj : k < (adL gs g).length), (adL gs g)[k] = g := fun hj => by
    have := ins_eq (g := g) hkl
    rw [← hC, List.getElem?_eq_getElem hj] at this
    exact Option.some.inj this
  have gg : ∀ j, (hj : j + 1 < (adL gs g).length) → (h : k ≤ j) → (adL gs g)[j + 1] = gs[j]'(by omega) := fun j hj h => by
    have := ins_gt (g := g) hkl h
    rw [← hC, List.getElem?_eq_getElem hj, List.getElem?_eq_getElem (by omega)] at this
    exact Option.some.inj this
  refine ⟨h1, okB_of (by omega) (fun j hj => ?_) (fun j hj => ?_), hlen, by omega, h2, by rw [hC]; simp, fun x hx => ?_⟩
  · rcases Nat.lt_trichotomy j k with l | rfl | l
    · rw [gl j hj l]; exact okB_at h1 _
    · rw [ge hj]; exact h2
    · cases j with
      | zero => omega
      | succ j => rw [gg j hj (by omega)]; exact okB_at h1 _
  · rcases (by omega : j + 1 < k ∨ j + 1 = k ∨ j = k ∨ k < j) with l | l | l | l
    · rw [gl (j + 1) hj l, gl j (by omega) (by omega)]; exact okB_fol h1 (by omega)
    · subst l
      rw [ge hj, gl j (by omega) (by omega)]
      exact flt j (by omega) (by omega)
    · subst l
      rw [gg j hj (Nat.le_refl _), ge (by omega)]
      exact fge j (by omega) (Nat.le_refl _)
    · cases j with
      | zero => omega
      | succ j => rw [gg (j + 1) hj (by omega), gg j (by omega) (by omega)]; exact okB_fol h1 (by omega)
  · rw [hC]
    rw [← List.take_append_drop k gs] at hx
    simp only [List.mem_append, List.mem_singleton] at hx ⊢
    rcases hx with hx | hx
    · exact .inl (.inl hx)
    · exact .inr hx
theorem vG_bounds {g : Gr} (h : vG g = true) : fdG g.s g.f g = true ∧ fdG g.s g.t g = true := by
  have h := vG_ft h
  unfold fdG
  constructor <;> simp [h]
theorem adL_ways (gs : List Gr) (g : Gr) : (adL gs g = gs ∨ adL gs g = []) ∨ ∃ i, adL gs g = gs.take i ++ [g] ++ gs.drop i := by
  unfold adL
  by_cases h1 : okB gs = true
  · rw [if_pos h1]
    by_cases h2 : vG g = true
    · rw [if_pos h2]
      by_cases h3 : gs.length = 256
      · rw [if_pos h3]; first | exact .inl (.inl rfl) | exact .inl (.inr rfl)
      · rw [if_neg h3]
        split
        · first | exact .inl (.inl rfl) | exact .inl (.inr rfl)
        · exact .inr ⟨_, rfl⟩
    · rw [if_neg h2]; first | exact .inl (.inl rfl) | exact .inl (.inr rfl)
  · rw [if_neg h1]; first | exact .inl (.inl rfl) | exact .inl (.inr rfl)
end Go.Proofs.YtfenjincbhkodaaDoor.Bk
