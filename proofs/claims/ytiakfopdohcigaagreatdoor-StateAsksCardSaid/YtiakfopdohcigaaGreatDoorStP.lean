
/-
  state: Keys.
-/
import Derived.Test.YtiakfopdohcigaaGreatDoorStO
import Derived.Test.YtiakfopdohcigaaGreatDoorOctAll
import Derived.Maps.AppendAt
import Derived.Shelf.RegionOpenPlain
import Derived.Deep.QuietTactic
namespace Go.Proofs.YtiakfopdohcigaaGreatDoor
set_option maxRecDepth 100000
set_option linter.unusedVariables false
set_option linter.unusedSimpArgs false
open Go.RowKit Rw
open List (getElem_toArray getElem_cons_zero getElem_cons_succ setIfInBounds_toArray set_cons_zero set_cons_succ)
attribute [local go_sem] Oper.semAt_some
open Go.Shelf
theorem naSS : Mm.NA Tryz.prog 31 := ⟨_, Tryz.underlying31, rfl⟩
theorem OwnV.empty {B b T : Nat} {W : World} (ha : Arr W b T []) (hB : B ≤ b) : OwnV W B T (.slice (some ⟨b, 0, none⟩) 0 0) [] :=
  ⟨rfl, .inr ⟨b, 0, #[], rfl, hB, ha, Nat.le_refl _, Nat.zero_le _, rfl, rfl⟩⟩
theorem OwnV.stp {w W : World} {B T b t : Nat} {v : Value} {l xs : List Value} (h : OwnV w B T v l) (st : Rt.Stp b w W) (ha : Arr w b t xs) (hne : t ≠ T) : OwnV W B T v l := by
  refine ⟨h.1, ?_⟩
  rcases h.2 with h0 | ⟨g, cap, cur, e, hB, hg, r⟩
  · exact .inl h0
  · refine .inr ⟨g, cap, cur, e, hB, (st.other g ?_).trans hg, r⟩
    rintro rfl
    have h1 : (Obj.cells cur T) = Obj.cells xs.toArray t := Option.some.inj (hg.symm.trans ha)
    injection h1 with _ h2
    exact hne h2.symm
/-- Other rows stay where a row of one's own grows. -/
theorem OwnV.keeps {w W : World} {B T b t : Nat} {v : Value} {l xs : List Value} (h : OwnV w B T v l) (hg : w.grownBy W v.ownBlock) (ha : Arr w b t xs) (hne : t ≠ T) : Arr W b t xs := by
  refine (hg.block b ha.lt fun e => ?_).trans ha
  rcases h.2 with ⟨rfl, _⟩ | ⟨g, cap, cur, rfl, hB, hgb, r⟩
  · cases e
  · obtain rfl : b = g := by simpa [Value.ownBlock] using e
    have h1 : (Obj.cells cur T) = Obj.cells xs.toArray t := Option.some.inj (hgb.symm.trans ha)
    injection h1 with _ h2
    exact hne h2.symm
theorem OwnV.others {w W : World} {B T : Nat} {v : Value} {l : List Value} (h : OwnV w B T v l) (hg : w.grownBy W v.ownBlock) : KeepsOthers w W := by
  refine KeepsOthers.of_grownBy hg fun j o e ho => ?_
  rcases h.2 with ⟨rfl, _⟩ | ⟨g, cap, cur, rfl, _, hgb, _⟩
  · cases e
  · obtain rfl : g = j := by simpa [Value.ownBlock] using e
    rw [hgb] at ho; cases ho; rfl
theorem OwnV.oneC {w : World} {B T : Nat} {v : Value} {l : List Value} (h : OwnV w B T v l) : v.oneCell' = true := by
  rcases h.2 with ⟨rfl, _⟩ | ⟨g, cap, cur, rfl, _⟩ <;> rfl
theorem OwnV.row {w w' : World} {B T : Nat} {v : Value} {l : List Value} {row : Option Nat} (h : OwnV w B T v l) (hg : w.grownBy w' row) (hr : ∀ r, row = some r → ∃ o : Obj, w.heap[r]? = some o ∧ o.isCells = false) : OwnV w' B T v l := by
  refine World.ownsRow.kept h hg ?_
  rcases h.2 with ⟨rfl, _⟩ | ⟨g, cap, cur, rfl, _, hgb, _⟩
  · exact .inl rfl
  · refine .inr fun e' => ?_
    obtain ⟨o, ho, hc⟩ := hr g (by simpa [Value.ownBlock] using e'.symm)
    rw [hgb] at ho; cases ho; cases hc
theorem run_oneS (s : ByteArray) (w : World) : (Instr.buildSlice 31 1 #[(0, .string s)]).run Tryz.prog w = .ok (.slice (some ⟨w.heap.size, 0, none⟩) 1 1) (w.alloc (.cells #[.string s] 9)) := by
  obtain ⟨i0, hi, hz0, hz1, hz2⟩ := info_parts info9
  refine run_buildSlice w 31 9 1 _ _ i0 _ Tryz.underlying31 hi hz0 (by rw [hz1]; omega) (by rw [hz1]; omega) ?_
  have hr : Array.range 1 = #[0] := by decide
  rw [hz1]; simp [Instr.fill, Value.cells, hr]
section
variable {ops : Array Oper} {rest : List Oper} {o : Oper} {a : Act} {w : World} {Q : Exit → Act → World → Prop} {S : World → Prop} {j : Nat} {K : Act → World → Prop}
theorem wpL_noneS (hgd : o.guard = none) (ho : o.op = .buildSlice 31 0 #[])
    (h : ∀ b W, Rt.NewAt w W b 9 [] → wpList Tryz.prog ops Q rest (a.put o.dst (.slice (some ⟨b, 0, none⟩) 0 0)) W) : wpList Tryz.prog ops Q (o :: rest) a w := by
  obtain ⟨i0, hi, hz0, hz1, hz2⟩ := info_parts info9
  refine wpList_plain hgd fun K hK => ?_
  have := hK _ _ (h w.heap.size (w.alloc (.cells #[] 9)) (Rt.NewAt.mk' w 9 []))
  unfold Oper.wp execOp
  simp only [ho, List.map_toArray, List.map_nil, Sem.run_bind]
  simp [Instr.buildSlice, run_underlying Tryz.underlying31, sizeOf, typeInfo, zeroValue, hi, hz0, hz1, newRow, Instr.fill, show Array.range 0 = #[] from rfl]
  exact this
theorem o_oneS (ho : ops[j]? = some o) (hw : Region.wanted o (yielded ops a.tmps) = true) (x : Operand) (hop : o.op = .buildSlice 31 1 #[(0, x)]) (s : ByteArray) (hx : a.eval x = .string s)
    (h : ∀ b W, Rt.NewAt w W b 9 [.string s] → S W ∧ K (a.put o.dst (.slice (some ⟨b, 0, none⟩) 1 1)) W) : opW Tryz.prog ops Q S j K a w := by
  refine ⟨o, ho, hw, ?_⟩
  have := h w.heap.size (w.alloc (.cells [.string s].toArray 9)) (Rt.NewAt.mk' _ _ _)
  unfold Oper.wp execOp
  simp only [hop, List.map_toArray, List.map_cons, List.map_nil, hx, Sem.run_bind, run_oneS s, Result.andThen_ok]
  exact this
theorem o_appS (ho : ops[j]? = some o) (hw : Region.wanted o (yielded ops a.tmps) = true) (s x : Operand)
    (hop : o.op = .call { callee := .builtin .append, args := #[s, x], argTypes := #[31, 31] }) (B g : Nat) (v : Value) (l : List Value) (u : ByteArray)
    (hv : a.eval s = v) (hx : a.eval x = .slice (some ⟨g, 0, none⟩) 1 1) (hown : OwnV w B 9 v l) (hg : Arr w g 9 [.string u]) (hB : B ≤ w.heap.size) (hn : l.length ≤ 4398046511104)
    (h : ∀ v' W, OwnV W B 9 v' (l ++ [.string u]) → w.grownBy W v.ownBlock → Below B w W → S W ∧ K (a.put o.dst v') W) : opW Tryz.prog ops Q S j K a w := by
  obtain ⟨i0, hi, hz0, hz1, hz2⟩ := info_parts info9
  obtain ⟨v', w', hrun, r1, r2, -⟩ := run_append_own_at (P := Tryz.prog) (w := w) B 31 o.type 9 i0 _ 1 16 Tryz.underlying31 hi hz0 hz1 hz2 rfl (by decide) v l.length l hown ⟨g, 0, none⟩ 1 1 [.string u] rfl
    (fun j y hj => by
      match j, hj with
      | 0, hj => simp at hj; subst hj; simpa [Addr.add] using hg.cell 0 (by simp)) (fun y hy => by simp at hy; subst hy; rfl) (by unfold maxLen; omega) (by omega) hB
  refine ⟨o, ho, hw, ?_⟩
  unfold Oper.wp
  simp [execOp, hop, resolve, invoke, builtin, hv, hx, hrun, Result.andThen]
  refine h v' w' ?_ r2 ((Below.refl B w).grown r2 hB fun k hk => (World.ownsRow.lt hown k hk).1)
  unfold OwnV
  rw [List.length_append]
  simpa using r1
theorem o_putV (ho : ops[j]? = some o) (hw : Region.wanted o (yielded ops a.tmps) = true) (T : TypeId) (ty : TypeId) (x y : Operand) (hop : o.op = .store ty x y) (b i : Nat) (v : Value) (hx : a.eval x = .pointer (some ⟨b, i, none⟩)) (hy : a.eval y = v) (hs : (Tryz.prog.info? ty).map (·.size) = some 1) (h1 : v.oneCell' = true)
    (xs : List Value) (hg : Arr w b T xs) (hi : i < xs.length)
    (h : ∀ W, Arr W b T (xs.set i v) → Rt.Stp b w W → S W ∧ K (a.put o.dst undef) W) : opW Tryz.prog ops Q S j K a w := by
  subst hy
  refine ⟨o, ho, hw, ?_⟩
  have := h _ (Arr.row hg _) (Rt.Stp.setRow _ _ _)
  unfold Oper.wp execOp
  simp only [hop, hx, Instr.storeAt, Instr.sureAddr, Sem.run_bind, Sem.run_pure, Result.andThen_ok, Rt.run_storeVar_cell w b i T ty xs _ hg hi hs h1]
  exact this
end
/-- A range over a function whose loop variable lies in memory, and whose body writes above a place. -/
theorem range_HK {α : Type} {P : Program} {g : Operand} {ps : Array Tmp} {assign body : Code} {Q : Exit → Act → World → Prop} {a : Act} {w : World} (n T M s k : Nat) (row : α → List Value) (f : Act → α → Nat → Act)
    (h1 : 1 ≤ n) (hM : M ≤ w.heap.size) (hs : s < w.heap.size) (hk : k < w.heap.size) {gf : Nat} {lb : Array Value} (hg : a.eval g = .func (.func gf) #[] lb) (eg : ∀ args w, (callFunc gf args).run P w = .ok (.enter gf args) w)
    {encs : α → Array Value} {S Sp : List α → Prop} {N : Nat} (hseq : SeqStopsK Fence.wide (n - 1) P gf lb encs (Kb M s k) S Sp N w) (hps : ∀ x, (encs x).size = ps.size)
    (I : List α → World → Prop) (Ix : Code → List α → World → Prop) (hI : OwnFrom w.heap.size I) (hIx : ∀ c, OwnFrom w.heap.size (Ix c)) (hsz : ∀ pre W, I pre W → w.heap.size ≤ W.heap.size) (h0 : I [] w)
    (hassign : ∀ (l : Nat) (x : α) (W : World) (K : Act → World → Prop), (∀ B W', Below W.heap.size W W' → W.heap.size ≤ B → Arr W' B T (row x) → K (f a x B) W') →
      assign.wpIn (Fence.wide.inRound l) (n - 1 - 1) P (Exit.then K (fun _ _ _ => False)) { tmps := (ps.zip (encs x)).foldl (fun t (p, v) => t.setIfInBounds p v) a.tmps, defers := [] } W)
    (hbody : ∀ (l : Nat) (pre : List α) (x : α) (B : Nat) (W : World), I pre W → w.heap.size ≤ B → Arr W B T (row x) → pre.length < N → body.wpIn (Fence.wide.inRound l) (n - 1 - 1) P (ownPostG w.heap.size (Kb M s k) I Ix (pre ++ [x]) W) (f a x B) W)
    (hdone : ∀ (D : Nat) (xs : List α) (W : World), w.heap.size ≤ D → S xs → I xs W → W.heap[D]? = some (.deferred (some [])) → Q .normal { a with defers := { target := .collected D, args := #[] } :: a.defers } W)
    (hstop : ∀ (D : Nat) (c : Code) (pre : List α) (W : World), w.heap.size ≤ D → Sp pre → Ix c pre W → W.heap[D]? = some (.deferred (some [])) → c.wp P Q { a with defers := { target := .collected D, args := #[] } :: a.defers } W) :
    (Code.rangeFunc g ps assign body).wp P Q a w :=
  (wpIn_wide (n := n)).1 (wpIn_rangeFunc_ownH (F := Fence.wide) rfl h1 hg trivial eg hseq (fun h k => h.trans k) (fun W l o o' hl h _ _ => Kb.put W l o o' hl h hM hs hk) (Below.refl _ _) hps I Ix hI hIx h0
    (fun x a' W => ∃ B, w.heap.size ≤ B ∧ Arr W B T (row x) ∧ a' = f a x B)
    (fun x a' s X Y rw_ hs hg' hr => by
      obtain ⟨B, hB, h2, h3⟩ := hs
      exact ⟨B, hB, (hg'.block B h2.lt (fun e => by obtain ⟨_, o, ho, hc⟩ := hr B e.symm; rw [show X.heap[B]? = _ from h2] at ho; cases ho; cases hc)).trans h2, h3⟩)
    (fun l pre x W K hi hK => hassign l x W K fun B W' hb hB ha => hK _ _ ((KeepsOthers.of_grownBy (row := none) (grown_of_below hb) (fun j o e => by cases e)).from _) (Kb.bel hb (Nat.le_trans hM (hsz _ _ hi)) (Nat.lt_of_lt_of_le hs (hsz _ _ hi)) (Nat.lt_of_lt_of_le hk (hsz _ _ hi))) (hI pre W W' none hi (grown_of_below hb) (fun r e => by cases e)) ⟨B, Nat.le_trans (hsz _ _ hi) hB, ha, rfl⟩)
    (fun l pre x a' W _ _ hi ⟨B, hB, ha, he⟩ hlt => he ▸ hbody l pre x B W hi hB ha hlt)
    hdone (fun D c pre W h1 h2 h3 h4 => wpIn_wide.2 (hstop D c pre W h1 h2 h3 h4)))
/-- Between two rounds. -/
def IKy {cs : List Ce} (N b s k : Nat) (w0 : World) (pre : List (CM cs)) (W : World) : Prop := (∃ v, Arr W b 31 [v] ∧ OwnV W N 9 v (strV (pre.map (·.1.y)))) ∧ Kb N s k w0 W
theorem IKy_own {cs : List Ce} (N b s k : Nat) (w0 : World) (hN : N ≤ w0.heap.size) (hs : s < w0.heap.size) (hk : k < w0.heap.size) : OwnFrom w0.heap.size (IKy (cs := cs) N b s k w0) := by
  intro pre W W' row h hg hr
  obtain ⟨⟨v, ha, ho⟩, he⟩ := h
  refine ⟨⟨v, ?_, ho.row hg (fun r e => (hr r e).2)⟩, he.below.grown hg (Nat.le_trans hN he.size) (fun k e => Nat.le_trans hN (hr k e).1), (hg.block s (Nat.lt_of_lt_of_le hs he.size) (fun e => ?_)).trans he.s1, (hg.block k (Nat.lt_of_lt_of_le hk he.size) (fun e => ?_)).trans he.s2⟩
  · refine (hg.block b ha.lt (fun e => ?_)).trans ha
    obtain ⟨-, o, ho, hc⟩ := hr b e.symm
    rw [show W.heap[b]? = _ from ha] at ho; cases ho; cases hc
  · have := (hr s e.symm).1; omega
  · have := (hr k e.symm).1; omega
theorem CsAt.low {w : World} {v : Value} {cs : List Ce} (h : CsAt w v cs) : lowC v w.heap.size := by
  intro B o n c hv
  rcases h.rs.2 with ⟨h0, _⟩ | ⟨B', o', c', e, hc, hB, hr⟩
  · rw [h0] at hv; cases hv
  · rw [e] at hv
    simp only [Value.slice.injEq, Option.some.injEq, Addr.mk.injEq] at hv
    obtain ⟨⟨rfl, -, -⟩, -, -⟩ := hv
    exact hB
theorem arr_neT {w : World} {b c T U : Nat} {xs ys : List Value} (h : Arr w b T xs) (k : Arr w c U ys) (hn : T ≠ U) : b ≠ c := by
  rintro rfl
  have h1 : w.heap[b]? = _ := h
  rw [show w.heap[b]? = _ from k] at h1
  cases h1; exact hn rfl
theorem rnd_end {N b s k : Nat} {w0 W X Y Z : World} {cs : List Ce} {pre : List (CM cs)} {x : CM cs} {v v2 : Value} {l : List Value} (hN : N ≤ w0.heap.size) (hNb : N ≤ b) (hbs : b ≠ s) (hbk : b ≠ k) (hs : s < w0.heap.size) (hk : k < w0.heap.size) (hE : Kb N s k w0 W) (hX : Below W.heap.size W X) (hg : X.grownBy Y v.ownBlock) (hbY : Below N X Y)
    (hO : OwnV X N 9 v l) (hO2 : OwnV Y N 9 v2 (strV ((pre ++ [x]).map (·.1.y)))) (hp : Rt.Stp b Y Z) (hb : Arr Y b 31 [v]) (hbx : Arr Z b 31 [v2]) (h1 : ∃ t xs, Arr X s t xs ∧ t ≠ 9) (h2 : ∃ t xs, Arr X k t xs ∧ t ≠ 9) :
    KeepsOthers W Z ∧ Kb N s k W Z ∧ IKy N b s k w0 (pre ++ [x]) Z := by
  obtain ⟨t1, x1, a1, n1⟩ := h1
  obtain ⟨t2, x2, a2, n2⟩ := h2
  have hsz := hE.size
  have e1 : Kb N s k W X := Kb.bel hX (by omega) (by omega) (by omega)
  have e2 : Kb N s k X Y := ⟨hbY, (show Y.heap[s]? = _ from hO.keeps hg a1 n1).trans (show X.heap[s]? = _ from a1).symm, (show Y.heap[k]? = _ from hO.keeps hg a2 n2).trans (show X.heap[k]? = _ from a2).symm⟩
  have e3 : Kb N s k W Z := (e1.trans e2).trans (Kb.stp hp hNb hbs hbk)
  have k1 : KeepsOthers W X := KeepsOthers.of_grownBy (row := none) (grown_of_below hX) (fun j o e => by cases e)
  exact ⟨(k1.trans (hO.others hg)).trans (Rnd.others_stp hp hb), e3, ⟨v2, hbx, hO2.stp hp hb (by decide)⟩, hE.trans e3⟩

theorem kbArr {s t : Nat} {w0 W X : World} {xs : List Value} (h : W.heap[s]? = w0.heap[s]?) (ha : Arr w0 s t xs) (hb : Below W.heap.size W X) : Arr X s t xs := by
  have h1 : Arr W s t xs := h.trans ha
  exact h1.below hb h1.lt
set_option maxHeartbeats 16000000 in
theorem keys_any (w : World) (v : Value) (cs : List Ce) (hv : CsAt w v cs) (k : Nat) (hcl : cs.length ≤ 1400000000000) :
    Calls Tryz.prog 13 #[v, .int .u8 (k : Int)] w fun e w' => ∃ v', e = .returned v' ∧ StrsAt w' v' (kyL cs k) ∧ Below w.heap.size w w' := by
  have HV := hidp hv
  have cO := hidp (fun W h => ofKind_any W v cs h k)
  have HLW := hidp hv.low
  have H := hidp (Mm.M.nil w)
  clear hv
  refine (callsIn_wide (n := 8)).1 ?_
  refine callsIn_of_wp_marks Tryz.func13 rfl trivial ?_ rfl
  refine wpIn_wide.2 ?_
  simp only [Tryz.ntmps13, List.size_toArray, List.length_cons, List.length_nil, Nat.reduceAdd, Nat.reduceSub, Array.replicate_succ, Array.replicate_zero, List.push_toArray, List.append_toArray, List.nil_append, List.cons_append]
  go_wp2_with (first | (refine wpL_noneS rfl rfl ?_; intro b7 _ nw; have HO := hidp (OwnV.empty nw.arr (Nat.le_trans H.out.le nw.le)); replace H := hidp (H.out.call nw.below); clear nw) | (refine Mm.new1 31 (.slice none 0 0) (by kernel_rfl) rfl H (some 5) rfl rfl rfl ?_; clear H; intro b5 _ H nw; have hb := nw.below; replace HO := hidp (HO.out.kept hb (Nat.le_refl _)); clear hb nw) | (refine Mm.putF0 H rfl 31 (.tmp 5) (.tmp 7) 0 (.slice (some ⟨b7, 0, none⟩) 0 0) rfl rfl rfl (by kernel_rfl) rfl (of_decide_eq_true rfl) ?_; intro _ H2 st; replace HO := hidp (HO.out.stp st H.out.at0 (by decide)); clear st H; have H : Hid (Mm.M w.heap.size w _ ([⟨b5, 31, [.slice (some ⟨b7, 0, none⟩) 0 0]⟩])) := H2; clear H2) | (go_at_call 58; refine (cO.out _ (HV.out.to H.out.below)).mono ?_; rintro e wz ⟨bs, bk, rfl, h1, h2, hb⟩; replace H := hidp (H.out.call hb); have HS1 := hidp h1; have HS2 := hidp h2; clear h1 h2; replace HO := hidp (HO.out.kept hb (Nat.le_refl _)); clear hb))
  have hg := H.out.below.size
  have hg5 := hidp (H.out.ge ⟨b5, 31, [.slice (some ⟨b7, 0, none⟩) 0 0]⟩ (by simp))
  have hns := hidp (arr_neT H.out.at0 HS1.out (by decide)); have hnk := hidp (arr_neT H.out.at0 HS2.out (by decide))
  refine range_HK (α := CM cs) 8 75 w.heap.size bs bk (fun x => x.1.row) (fun a x B => { tmps := (a.tmps.setIfInBounds 11 (.agg x.1.row.toArray)).setIfInBounds 6 (.pointer (some ⟨B, 0, none⟩)), defers := [] }) (by omega) hg HS1.out.lt HS2.out.lt (gf := 109) (lb := #[.pointer (some ⟨bs, 0, none⟩), .pointer (some ⟨bk, 0, none⟩)]) rfl (enters_of Tryz.func109 (by kernel_rfl) rfl)
    (encs := encM) (S := fun ys => ys = kmL cs k) (Sp := fun pre => pre <+: kmL cs k) (N := (kmL cs k).length)
    (ofKindX_stops (8 - 1) (by omega) bs bk k cs v w.heap.size wz HS1.out HS2.out (HV.out.to H.out.below) hg HLW.out) (fun _ => rfl)
    (IKy w.heap.size b5 bs bk wz) (fun _ _ _ => False) (IKy_own _ _ _ _ _ hg HS1.out.lt HS2.out.lt) (fun c => fun _ _ _ _ h => h.elim) (fun pre W h => h.2.size) ⟨⟨_, H.out.at0, HO.out⟩, Kb.refl _ _ _ _⟩ ?assign ?body ?done ?stop
  case assign =>
    intro l x W K hK
    have HK := hidp hK
    clear hK
    simp only [encM, encCe]
    rw [show ∀ (t : Array Value) (v : Value), Array.foldl (fun (t : Array Value) (x : Tmp × Value) => t.setIfInBounds x.1 x.2) t ((#[11] : Array Tmp).zip #[v]) = t.setIfInBounds 11 v from fun t v => by simp]
    simp only [List.setIfInBounds_toArray, List.set_cons_zero, List.set_cons_succ]
    gi_wp2_with (first | (refine Rnd.to_in (Rnd.roundF l) rfl ?_; refine Rt.wpL_new rtC (some 6) rfl rfl rfl ?_; intro b8 W1 n1; refine ⟨rfl, ?_⟩) | (refine Rnd.to_in (Rnd.roundF l) rfl ?_; refine Rt.wpL_put rtC rfl (.tmp 6) (.tmp 11) rfl b8 x.1.row rfl rfl rfl (Ce.one x.1) zC rfl n1.arr ?_; intro W2 ha st; refine ⟨rfl, ?_⟩))
    exact HK.out b8 W2 (n1.put st) n1.le ha
  case body =>
    rintro l pre x B W hI hBB hA hlt
    obtain ⟨⟨v, ha, ho⟩, he⟩ := hI
    have HEW := hidp he; have H5W := hidp ha; have HOW := hidp ho; have HAW := hidp hA
    have hpl := hidp (show (strV (pre.map (·.1.y))).length ≤ 4398046511104 from by have h1 := kiT_len cs k cs.length; have h2 : (kmL cs k).length ≤ cs.length := (by rw [← List.length_map (f := fun c : CM cs => c.1), kmL_map]; exact h1); rw [strV_length, List.length_map]; omega)
    have hsnoc := hidp (show strV ((pre ++ [x]).map (·.1.y)) = strV (pre.map (·.1.y)) ++ [.string x.1.y] from by simp [strV])
    obtain ⟨l0, hl0⟩ : ∃ z, strV (pre.map (·.1.y)) = z := ⟨_, rfl⟩
    rw [hl0] at HOW hpl hsnoc
    have hyz : x.1.y.size ≤ 281474976710656 := (HV.out.ok _ x.2).y
    have cc := hidp (fun W => strClone_any x.1.y W hyz)
    clear ha ho he hA hl0 hyz
    simp only [List.setIfInBounds_toArray, List.set_cons_zero, List.set_cons_succ]
    gi_wp2_with fail
    obtain ⟨X0, hU⟩ : ∃ U, ({ W with drawn := W.drawn + 1 } : World) = U := ⟨_, rfl⟩
    have bU : Below W.heap.size W X0 := by rw [← hU]; exact (Below.refl _ _).drew
    have HX0 := hidp bU
    have HS0 := hidp (show Arr X0 B 75 x.1.row from (HAW.out.below bU HAW.out.lt))
    clear bU
    refine Rnd.in_region_scr0 (S := fun W => Arr W B 75 x.1.row) (.take 1 (.take 2 (.two 0 (.one 3 (.one 4 (.one 5 (.one 6 .done)))) 3 (.two 0 (.one 4 (.one 5 (.one 6 .done))) 4 (.one 0 (.one 5 (.one 6 .done))))))) (Rnd.roundF l) (by kernel_rfl) (by kernel_rfl) (by kernel_rfl) (by simp [Scr.depth]) (by kernel_rfl) (by rw [hU]; exact HS0.out) ?_
    simp only [hU]
    clear hU
    apply s_val
    case ho => rfl
    case hw => rfl
    case hv => intro w hw; go_simp; first | done | with_reducible rfl | rfl
    simp only [Act.put, List.getElem_toArray, List.getElem_cons_zero, List.getElem_cons_succ, List.setIfInBounds_toArray, List.set_cons_zero, List.set_cons_succ]
    refine Mm.s_ldc naS rfl rfl (.tmp 13) ⟨B, 1, none⟩ (.string x.1.y) rfl rfl (fun w h => h.cell 1 (by simp [Ce.row])) ?_
    simp only [Act.put, List.getElem_toArray, List.getElem_cons_zero, List.getElem_cons_succ, List.setIfInBounds_toArray, List.set_cons_zero, List.set_cons_succ]
    refine ⟨?_, ?_⟩
    · apply o_make (v := v) (W := X0)
      case ho => rfl
      case hw => rfl
      case hop => have z5 := (H5W.out.below HX0.out H5W.out.lt).cell 0 (by simp); simp only [List.getElem_cons_zero] at z5; go_simp; first | done | rfl
      case hS => exact (HAW.out.below HX0.out HAW.out.lt)
      simp only [Act.put, List.getElem_toArray, List.getElem_cons_zero, List.getElem_cons_succ, List.setIfInBounds_toArray, List.set_cons_zero, List.set_cons_succ]
      apply o_call (f := 59) (args := #[.string x.1.y]) (v := .string x.1.y) (hc := cc.out X0)
      case ho => rfl
      case hw => rfl
      case hop => go_simp; first | done | rfl
      rintro X1 hb
      have HX1 := hidp (HX0.out.trans (hb.mono HX0.out.size))
      refine ⟨(HAW.out.below HX1.out HAW.out.lt), ?_⟩
      clear hb
      simp only [Act.put, List.getElem_toArray, List.getElem_cons_zero, List.getElem_cons_succ, List.setIfInBounds_toArray, List.set_cons_zero, List.set_cons_succ]
      refine o_oneS rfl rfl (.tmp 15) rfl x.1.y rfl ?_
      intro nb X2 n1
      have HX2 := hidp (HX1.out.trans (n1.below.mono HX1.out.size))
      have HNB := hidp n1.arr
      refine ⟨(HAW.out.below HX2.out HAW.out.lt), ?_⟩
      clear n1
      simp only [Act.put, List.getElem_toArray, List.getElem_cons_zero, List.getElem_cons_succ, List.setIfInBounds_toArray, List.set_cons_zero, List.set_cons_succ]
      refine o_appS rfl rfl (.tmp 12) (.tmp 16) rfl w.heap.size nb v l0 x.1.y rfl rfl (HOW.out.kept HX2.out (Nat.le_refl _)) HNB.out (by have h1 := HEW.out.size; have h2 := HX2.out.size; have h3 := hg; omega) hpl.out ?_
      intro v2 Y h1 h2 h3
      have HOY := hidp h1; have HGY := hidp h2; have HBY := hidp h3
      clear h1 h2 h3
      have HOX := hidp (HOW.out.kept HX2.out (Nat.le_refl _))
      have H5Y := hidp (HOX.out.keeps HGY.out (H5W.out.below HX2.out H5W.out.lt) (by decide))
      refine ⟨HOX.out.keeps HGY.out (HAW.out.below HX2.out HAW.out.lt) (by decide), ?_⟩
      simp only [Act.put, List.getElem_toArray, List.getElem_cons_zero, List.getElem_cons_succ, List.setIfInBounds_toArray, List.set_cons_zero, List.set_cons_succ]
      refine o_putV rfl rfl 31 31 (.tmp 5) (.tmp 17) rfl b5 0 v2 rfl rfl (by kernel_rfl) HOY.out.oneC [v] H5Y.out (by simp) ?_
      intro Z ha hp
      have HAZ := hidp (show Arr Z b5 31 [v2] from ha); have HPZ := hidp hp
      clear ha hp
      refine ⟨HPZ.out.arr (arr_neT H5W.out HAW.out (by decide)).symm (HOX.out.keeps HGY.out (HAW.out.below HX2.out HAW.out.lt) (by decide)), ?_⟩
      simp only [Act.put, List.getElem_toArray, List.getElem_cons_zero, List.getElem_cons_succ, List.setIfInBounds_toArray, List.set_cons_zero, List.set_cons_succ]
      refine Rnd.scr_done0 ?_
      have hq := rnd_end hg hg5.out hns.out hnk.out HS1.out.lt HS2.out.lt HEW.out HX2.out HGY.out HBY.out HOX.out (by rw [hsnoc.out]; exact HOY.out) HPZ.out H5Y.out HAZ.out ⟨_, _, kbArr HEW.out.s1 HS1.out HX2.out, by decide⟩ ⟨_, _, kbArr HEW.out.s2 HS2.out HX2.out, by decide⟩
      gi_wp2_with fail
      exact ⟨hq.1.from _, hq.2.1, hq.2.2⟩
    · apply o_call (f := 59) (args := #[.string x.1.y]) (v := .string x.1.y) (hc := cc.out X0)
      case ho => rfl
      case hw => rfl
      case hop => go_simp; first | done | rfl
      rintro X1 hb
      have HX1 := hidp (HX0.out.trans (hb.mono HX0.out.size))
      refine ⟨(HAW.out.below HX1.out HAW.out.lt), ?_⟩
      clear hb
      simp only [Act.put, List.getElem_toArray, List.getElem_cons_zero, List.getElem_cons_succ, List.setIfInBounds_toArray, List.set_cons_zero, List.set_cons_succ]
      refine ⟨?_, ?_⟩
      · apply o_make (v := v) (W := X1)
        case ho => rfl
        case hw => rfl
        case hop => have z5 := (H5W.out.below HX1.out H5W.out.lt).cell 0 (by simp); simp only [List.getElem_cons_zero] at z5; go_simp; first | done | rfl
        case hS => exact (HAW.out.below HX1.out HAW.out.lt)
        simp only [Act.put, List.getElem_toArray, List.getElem_cons_zero, List.getElem_cons_succ, List.setIfInBounds_toArray, List.set_cons_zero, List.set_cons_succ]
        refine o_oneS rfl rfl (.tmp 15) rfl x.1.y rfl ?_
        intro nb X2 n1
        have HX2 := hidp (HX1.out.trans (n1.below.mono HX1.out.size))
        have HNB := hidp n1.arr
        refine ⟨(HAW.out.below HX2.out HAW.out.lt), ?_⟩
        clear n1
        simp only [Act.put, List.getElem_toArray, List.getElem_cons_zero, List.getElem_cons_succ, List.setIfInBounds_toArray, List.set_cons_zero, List.set_cons_succ]
        refine o_appS rfl rfl (.tmp 12) (.tmp 16) rfl w.heap.size nb v l0 x.1.y rfl rfl (HOW.out.kept HX2.out (Nat.le_refl _)) HNB.out (by have h1 := HEW.out.size; have h2 := HX2.out.size; have h3 := hg; omega) hpl.out ?_
        intro v2 Y h1 h2 h3
        have HOY := hidp h1; have HGY := hidp h2; have HBY := hidp h3
        clear h1 h2 h3
        have HOX := hidp (HOW.out.kept HX2.out (Nat.le_refl _))
        have H5Y := hidp (HOX.out.keeps HGY.out (H5W.out.below HX2.out H5W.out.lt) (by decide))
        refine ⟨HOX.out.keeps HGY.out (HAW.out.below HX2.out HAW.out.lt) (by decide), ?_⟩
        simp only [Act.put, List.getElem_toArray, List.getElem_cons_zero, List.getElem_cons_succ, List.setIfInBounds_toArray, List.set_cons_zero, List.set_cons_succ]
        refine o_putV rfl rfl 31 31 (.tmp 5) (.tmp 17) rfl b5 0 v2 rfl rfl (by kernel_rfl) HOY.out.oneC [v] H5Y.out (by simp) ?_
        intro Z ha hp
        have HAZ := hidp (show Arr Z b5 31 [v2] from ha); have HPZ := hidp hp
        clear ha hp
        refine ⟨HPZ.out.arr (arr_neT H5W.out HAW.out (by decide)).symm (HOX.out.keeps HGY.out (HAW.out.below HX2.out HAW.out.lt) (by decide)), ?_⟩
        simp only [Act.put, List.getElem_toArray, List.getElem_cons_zero, List.getElem_cons_succ, List.setIfInBounds_toArray, List.set_cons_zero, List.set_cons_succ]
        refine Rnd.scr_done0 ?_
        have hq := rnd_end hg hg5.out hns.out hnk.out HS1.out.lt HS2.out.lt HEW.out HX2.out HGY.out HBY.out HOX.out (by rw [hsnoc.out]; exact HOY.out) HPZ.out H5Y.out HAZ.out ⟨_, _, kbArr HEW.out.s1 HS1.out HX2.out, by decide⟩ ⟨_, _, kbArr HEW.out.s2 HS2.out HX2.out, by decide⟩
        gi_wp2_with fail
        exact ⟨hq.1.from _, hq.2.1, hq.2.2⟩
      · refine o_oneS rfl rfl (.tmp 15) rfl x.1.y rfl ?_
        intro nb X2 n1
        have HX2 := hidp (HX1.out.trans (n1.below.mono HX1.out.size))
        have HNB := hidp n1.arr
        refine ⟨(HAW.out.below HX2.out HAW.out.lt), ?_⟩
        clear n1
        simp only [Act.put, List.getElem_toArray, List.getElem_cons_zero, List.getElem_cons_succ, List.setIfInBounds_toArray, List.set_cons_zero, List.set_cons_succ]
        apply o_make (v := v) (W := X2)
        case ho => rfl
        case hw => rfl
        case hop => have z5 := (H5W.out.below HX2.out H5W.out.lt).cell 0 (by simp); simp only [List.getElem_cons_zero] at z5; go_simp; first | done | rfl
        case hS => exact (HAW.out.below HX2.out HAW.out.lt)
        simp only [Act.put, List.getElem_toArray, List.getElem_cons_zero, List.getElem_cons_succ, List.setIfInBounds_toArray, List.set_cons_zero, List.set_cons_succ]
        refine o_appS rfl rfl (.tmp 12) (.tmp 16) rfl w.heap.size nb v l0 x.1.y rfl rfl (HOW.out.kept HX2.out (Nat.le_refl _)) HNB.out (by have h1 := HEW.out.size; have h2 := HX2.out.size; have h3 := hg; omega) hpl.out ?_
        intro v2 Y h1 h2 h3
        have HOY := hidp h1; have HGY := hidp h2; have HBY := hidp h3
        clear h1 h2 h3
        have HOX := hidp (HOW.out.kept HX2.out (Nat.le_refl _))
        have H5Y := hidp (HOX.out.keeps HGY.out (H5W.out.below HX2.out H5W.out.lt) (by decide))
        refine ⟨HOX.out.keeps HGY.out (HAW.out.below HX2.out HAW.out.lt) (by decide), ?_⟩
        simp only [Act.put, List.getElem_toArray, List.getElem_cons_zero, List.getElem_cons_succ, List.setIfInBounds_toArray, List.set_cons_zero, List.set_cons_succ]
        refine o_putV rfl rfl 31 31 (.tmp 5) (.tmp 17) rfl b5 0 v2 rfl rfl (by kernel_rfl) HOY.out.oneC [v] H5Y.out (by simp) ?_
        intro Z ha hp
        have HAZ := hidp (show Arr Z b5 31 [v2] from ha); have HPZ := hidp hp
        clear ha hp
        refine ⟨HPZ.out.arr (arr_neT H5W.out HAW.out (by decide)).symm (HOX.out.keeps HGY.out (HAW.out.below HX2.out HAW.out.lt) (by decide)), ?_⟩
        simp only [Act.put, List.getElem_toArray, List.getElem_cons_zero, List.getElem_cons_succ, List.setIfInBounds_toArray, List.set_cons_zero, List.set_cons_succ]
        refine Rnd.scr_done0 ?_
        have hq := rnd_end hg hg5.out hns.out hnk.out HS1.out.lt HS2.out.lt HEW.out HX2.out HGY.out HBY.out HOX.out (by rw [hsnoc.out]; exact HOY.out) HPZ.out H5Y.out HAZ.out ⟨_, _, kbArr HEW.out.s1 HS1.out HX2.out, by decide⟩ ⟨_, _, kbArr HEW.out.s2 HS2.out HX2.out, by decide⟩
        gi_wp2_with fail
        exact ⟨hq.1.from _, hq.2.1, hq.2.2⟩
  case done =>
    rintro D xs W hD rfl ⟨⟨v2, ha, ho⟩, he⟩ hK
    have H5 := hidp ha; have HO2 := hidp ho; have HEZ := hidp he; have HK := hidp hK
    clear ha ho he hK
    go_wp2_with (refine Mm.ldc naSS rfl (.tmp 5) ⟨b5, 0, none⟩ v2 rfl rfl (H5.out.cell 0 (by simp)) ?_)
    have hss := hidp (show StrsAt (W.putObj D (.deferred none)) v2 (kyL cs k) from by
      have h1 : OwnV (W.putObj D (.deferred none)) w.heap.size 9 v2 (strV ((kmL cs k).map (·.1.y))) := HO2.out.row (grownBy_putObj' W D (.deferred none)) (fun r e => by cases e; exact ⟨_, HK.out, rfl⟩)
      have h2 := h1.strs
      rw [show (kmL cs k).map (·.1.y) = kyL cs k from by unfold kyL; rw [← kmL_map, List.map_map]; rfl] at h2
      exact h2)
    refine ⟨by simp [Act.put], .inl ⟨_, _, rfl, run_takeDeferred HK.out, ?_⟩⟩
    refine ⟨_, results_tmp Tryz.results13 _ _ _, ⟨_, rfl, hss.out, (H.out.below.trans HEZ.out.below).grown (grownBy_putObj' W D (.deferred none)) (by have := H.out.below.size; have := HEZ.out.size; omega) (fun k e => by cases e; have := H.out.below.size; omega)⟩⟩
  case stop => exact fun _ _ _ _ _ _ h => h.elim
end Go.Proofs.YtiakfopdohcigaaGreatDoor
