
/-
  state: the first event of a kind and a key.
-/
import Derived.Test.YtiakfopdohcigaaGreatDoorStH
namespace Go.Proofs.YtiakfopdohcigaaGreatDoor
set_option maxRecDepth 100000
set_option linter.unusedVariables false
set_option linter.unusedSimpArgs false
open Go.RowKit Rw
attribute [local go_sem] Oper.semAt_some
open Go.Shelf
/-- A range over a function whose loop variable lies in memory. -/
theorem range_H {α : Type} {P : Program} {g : Operand} {ps : Array Tmp} {assign body : Code} {Q : Exit → Act → World → Prop} {a : Act} {w : World} (n T : Nat) (row : α → List Value) (f : Act → α → Nat → Act)
    (h1 : 1 ≤ n) {gf : Nat} {lb : Array Value} (hg : a.eval g = .func (.func gf) #[] lb) (eg : ∀ args w, (callFunc gf args).run P w = .ok (.enter gf args) w)
    {encs : α → Array Value} {S Sp : List α → Prop} {N : Nat} (hseq : SeqStopsK Fence.wide (n - 1) P gf lb encs (Below w.heap.size) S Sp N w) (hps : ∀ x, (encs x).size = ps.size)
    (I : List α → World → Prop) (Ix : Code → List α → World → Prop) (hI : OwnFrom w.heap.size I) (hIx : ∀ c, OwnFrom w.heap.size (Ix c)) (hsz : ∀ pre W, I pre W → w.heap.size ≤ W.heap.size) (h0 : I [] w)
    (hassign : ∀ (l : Nat) (x : α) (W : World) (K : Act → World → Prop), (∀ B W', Below W.heap.size W W' → W.heap.size ≤ B → Arr W' B T (row x) → K (f a x B) W') →
      assign.wpIn (Fence.wide.inRound l) (n - 1 - 1) P (Exit.then K (fun _ _ _ => False)) { tmps := (ps.zip (encs x)).foldl (fun t (p, v) => t.setIfInBounds p v) a.tmps, defers := [] } W)
    (hbody : ∀ (l : Nat) (pre : List α) (x : α) (B : Nat) (W : World), I pre W → w.heap.size ≤ B → Arr W B T (row x) → pre.length < N → body.wpIn (Fence.wide.inRound l) (n - 1 - 1) P (ownPostG w.heap.size (Below w.heap.size) I Ix (pre ++ [x]) W) (f a x B) W)
    (hdone : ∀ (D : Nat) (xs : List α) (W : World), w.heap.size ≤ D → S xs → I xs W → W.heap[D]? = some (.deferred (some [])) → Q .normal { a with defers := { target := .collected D, args := #[] } :: a.defers } W)
    (hstop : ∀ (D : Nat) (c : Code) (pre : List α) (W : World), w.heap.size ≤ D → Sp pre → Ix c pre W → W.heap[D]? = some (.deferred (some [])) → c.wp P Q { a with defers := { target := .collected D, args := #[] } :: a.defers } W) :
    (Code.rangeFunc g ps assign body).wp P Q a w :=
  (wpIn_wide (n := n)).1 (wpIn_rangeFunc_ownH (F := Fence.wide) rfl h1 hg trivial eg hseq (fun h k => h.trans k) (fun W l o o' hl h _ _ => belowK_b (Nat.le_refl _) W l o o' hl h ‹_› ‹_›) (Below.refl _ _) hps I Ix hI hIx h0
    (fun x a' W => ∃ B, w.heap.size ≤ B ∧ Arr W B T (row x) ∧ a' = f a x B)
    (fun x a' s X Y rw_ hs hg' hr => by
      obtain ⟨B, hB, h2, h3⟩ := hs
      exact ⟨B, hB, (hg'.block B h2.lt (fun e => by obtain ⟨_, o, ho, hc⟩ := hr B e.symm; rw [show X.heap[B]? = _ from h2] at ho; cases ho; cases hc)).trans h2, h3⟩)
    (fun l pre x W K hi hK => hassign l x W K fun B W' hb hB ha => hK _ _ ((KeepsOthers.of_grownBy (row := none) (grown_of_below hb) (fun j o e => by cases e)).from _) (hb.mono (hsz _ _ hi)) (hI pre W W' none hi (grown_of_below hb) (fun r e => by cases e)) ⟨B, Nat.le_trans (hsz _ _ hi) hB, ha, rfl⟩)
    (fun l pre x a' W _ _ hi ⟨B, hB, ha, he⟩ hlt => he ▸ hbody l pre x B W hi hB ha hlt)
    hdone (fun D c pre W h1 h2 h3 h4 => wpIn_wide.2 (hstop D c pre W h1 h2 h3 h4)))

set_option maxHeartbeats 4000000 in
theorem ofKind_any (w : World) (v : Value) (cs : List Ce) (hv : CsAt w v cs) (k : Nat) : Calls Tryz.prog 58 #[v, .int .u8 (k : Int)] w fun e w' => ∃ bs bk, e = .returned (.func (.func 109) #[] #[.pointer (some ⟨bs, 0, none⟩), .pointer (some ⟨bk, 0, none⟩)]) ∧ Arr w' bs 22 [v] ∧ Arr w' bk 23 [.int .u8 (k : Int)] ∧ Below w.heap.size w w' := by
  obtain ⟨a0, c0, rfl⟩ := hv.form
  have H := hidp (Mm.M.nil w)
  go_enter Tryz.func58, Tryz.ntmps58
  go_wp2_with (first | (refine Mm.box1 22 H rfl (.tmp 0) rfl (.slice a0 cs.length c0) rfl rfl ?_; clear H; intro b2 _ H nw; clear nw) | (refine Mm.box1 23 H rfl (.tmp 1) rfl (.int .u8 (k : Int)) rfl rfl ?_; clear H; intro b3 _ H nw; clear nw))
  go_ret
  exact ⟨b2, b3, rfl, H.out.at1, H.out.at0, H.out.below⟩
/-- What is found among the cells of a kind. -/
def firK (cs : List Ce) (y : ByteArray) : Option Ev := (cs.find? fun c => decide (c.y = y)).map (·.e)
theorem firK_kiL (cs : List Ce) (k : Nat) (y : ByteArray) : firK (kiL cs k) y = firS cs k y := by
  unfold firK kiL kiT firS
  rw [List.take_length, List.find?_filter]
  congr 2
  funext a
  unfold isC
  simp
theorem firK_no {l : List Ce} {y : ByteArray} (h : l.all (fun c => !decide (c.y = y)) = true) : firK l y = none := by
  unfold firK
  rw [List.find?_eq_none.2 (fun c hc => ?_)]
  · rfl
  · have := List.all_eq_true.1 h c hc
    simpa using this
theorem firK_hit {p l : List Ce} {x : Ce} {y : ByteArray} (h : p.all (fun c => !decide (c.y = y)) = true) (hx : x.y = y) (hp : p ++ [x] <+: l) : firK l y = some x.e := by
  obtain ⟨t, rfl⟩ := hp
  unfold firK
  rw [List.append_assoc, List.find?_append, List.find?_eq_none.2 (fun c hc => by have := List.all_eq_true.1 h c hc; simpa using this)]
  simp [hx]
def zEv : Ev := ⟨⟨#[]⟩, ⟨#[]⟩, 0, ⟨#[]⟩, ⟨#[]⟩, 0⟩
def lastE (pre : List Ce) : Ev := (pre.getLast?.map (·.e)).getD zEv
theorem lastE_app (p : List Ce) (x : Ce) : lastE (p ++ [x]) = x.e := by unfold lastE; rw [List.getLast?_append]; rfl
theorem arr_own {β : Type} (B t : Nat) (f : β → List Value) : Go.Own (fun s W => Arr W B t (f s)) := fun s X Y row hs hg hr =>
  (hg.block B hs.lt (fun e => by obtain ⟨o, ho, hc⟩ := hr B e.symm; rw [show X.heap[B]? = _ from hs] at ho; cases ho; cases hc)).trans hs
theorem OwnAndF {β : Type} {I I' : β → World → Prop} (h : Go.Own I) (h' : Go.Own I') : Go.Own (fun s W => I s W ∧ I' s W) := fun s W W' row hs hg hr => ⟨h s W W' row hs.1 hg hr, h' s W W' row hs.2 hg hr⟩
def IFi (y : ByteArray) (w0 : World) (pre : List Ce) (W : World) : Prop := pre.all (fun c => !decide (c.y = y)) = true ∧ Below w0.heap.size w0 W
def IxFi (y : ByteArray) (w : World) (b6 b7 : Nat) (c : Code) (pre : List Ce) (W : World) : Prop := ((c = .ret ∧ ∃ p x, pre = p ++ [x] ∧ p.all (fun c => !decide (c.y = y)) = true ∧ x.y = y) ∧ (Arr W b6 25 (lastE pre).row ∧ Arr W b7 4 [.bool true])) ∧ Below w.heap.size w W
theorem IFi_own (y : ByteArray) (w0 : World) : OwnFrom w0.heap.size (IFi y w0) := OwnFrom.and (Go.Own.from (fun _ _ _ _ hs _ _ => hs) _) (ownFrom_below (Nat.le_refl _) (Nat.le_refl _))
theorem IxFi_own (y : ByteArray) (w : World) (b6 b7 : Nat) (c : Code) (B : Nat) (hB : w.heap.size ≤ B) : OwnFrom B (IxFi y w b6 b7 c) :=
  OwnFrom.and (Go.Own.from (OwnAndF (fun _ _ _ _ hs _ _ => hs) (OwnAndF (arr_own b6 25 (fun pre => (lastE pre).row)) (arr_own b7 4 (fun _ => [.bool true])))) _) (ownFrom_below (Nat.le_refl _) hB)
def foV : Option Ev → Value
  | some e => .tuple #[.agg e.row.toArray, .bool true]
  | none => .tuple #[.agg zEv.row.toArray, .bool false]

theorem naB : Mm.NA Tryz.prog 4 := ⟨_, Tryz.underlying4, rfl⟩
set_option maxHeartbeats 16000000 in
theorem sfirst_any (w : World) (v : Value) (cs : List Ce) (hv : CsAt w v cs) (k : Nat) (y : ByteArray) :
    Calls Tryz.prog 54 #[v, .int .u8 (k : Int), .string y] w fun e w' => e = .returned (foV (firS cs k y)) ∧ Below w.heap.size w w' := by
  have HV := hidp hv
  have cO := hidp (fun W h => ofKind_any W v cs h k)
  have HFK := hidp (firK_kiL cs k y)
  have H := hidp (Mm.M.nil w)
  clear hv
  refine (callsIn_wide (n := 8)).1 ?_
  refine callsIn_of_wp_marks Tryz.func54 rfl trivial ?_ rfl
  refine wpIn_wide.2 ?_
  simp only [Tryz.ntmps54, List.size_toArray, List.length_cons, List.length_nil, Nat.reduceAdd, Nat.reduceSub, Array.replicate_succ, Array.replicate_zero, List.push_toArray, List.append_toArray, List.nil_append, List.cons_append]
  go_wp2_with (first | (refine Mm.box1 9 H rfl (.tmp 2) rfl (.string y) rfl rfl ?_; clear H; intro b5 _ H nw; have hb := nw.below; clear hb nw) | (refine Mm.new rtE H (some 6) rfl rfl rfl ?_; clear H; intro b6 _ H nw; have hb := nw.below; clear hb nw) | (refine Mm.new1 4 (.bool false) (by kernel_rfl) rfl H (some 7) rfl rfl rfl ?_; clear H; intro b7 _ H nw; have hb := nw.below; clear hb nw) | (go_at_call 58; refine (cO.out _ (HV.out.to H.out.below)).mono ?_; rintro e wz ⟨bs, bk, rfl, h1, h2, hb⟩; replace H := hidp (H.out.call hb); have HS1 := hidp h1; have HS2 := hidp h2; clear h1 h2; clear hb))
  have hg := H.out.below.size
  refine range_H (α := Ce) 8 75 Ce.row (fun a x B => { tmps := (a.tmps.setIfInBounds 12 (.agg x.row.toArray)).setIfInBounds 8 (.pointer (some ⟨B, 0, none⟩)), defers := [] }) (by omega) (gf := 109) (lb := #[.pointer (some ⟨bs, 0, none⟩), .pointer (some ⟨bk, 0, none⟩)]) rfl (enters_of Tryz.func109 (by kernel_rfl) rfl)
    (encs := encCe) (S := fun ys => ys = kiL cs k) (Sp := fun pre => pre <+: kiL cs k) (N := (kiL cs k).length)
    (ofKind_stops (8 - 1) (by omega) bs bk k cs v wz HS1.out HS2.out (HV.out.to H.out.below)) (fun _ => rfl)
    (IFi y wz) (IxFi y w b6 b7) (IFi_own _ _) (fun c => IxFi_own _ _ _ _ _ _ hg) (fun pre W h => h.2.size) ⟨rfl, Below.refl _ _⟩ ?assign ?body ?done ?stop
  case assign =>
    intro l x W K hK
    have HK := hidp hK
    clear hK
    simp only [encCe]
    rw [show ∀ (t : Array Value) (v : Value), Array.foldl (fun (t : Array Value) (x : Tmp × Value) => t.setIfInBounds x.1 x.2) t ((#[12] : Array Tmp).zip #[v]) = t.setIfInBounds 12 v from fun t v => by simp]
    simp only [List.setIfInBounds_toArray, List.set_cons_zero, List.set_cons_succ]
    gi_wp2_with (first | (refine Rnd.to_in (Rnd.roundF l) rfl ?_; refine Rt.wpL_new rtC (some 8) rfl rfl rfl ?_; intro b8 W1 n1; refine ⟨rfl, ?_⟩) | (refine Rnd.to_in (Rnd.roundF l) rfl ?_; refine Rt.wpL_put rtC rfl (.tmp 8) (.tmp 12) rfl b8 x.row rfl rfl rfl (Ce.one x) zC rfl n1.arr ?_; intro W2 ha st; refine ⟨rfl, ?_⟩))
    exact HK.out b8 W2 (n1.put st) n1.le ha
  case body =>
    rintro l pre x B W ⟨hpre, hB⟩ hBB hA hlt
    have HPRE := hidp hpre; have HBW := hidp hB; have HA := hidp hA
    have x1 := hA.cell 1 (by simp [Ce.row])
    have H5 := hidp (H.out.at2.below hB H.out.at2.lt); have H6 := hidp (H.out.at1.below hB H.out.at1.lt); have H7 := hidp (H.out.at0.below hB H.out.at0.lt)
    have x5 := H5.out.cell 0 (by simp)
    have h67 := hidp (show b6 ≠ b7 from by have := (List.pairwise_cons.1 H.out.inc).1 ⟨b6, 25, zE⟩ (by simp); show b6 ≠ b7; simp only at this; omega)
    have hg6 := hidp (H.out.ge ⟨b6, 25, zE⟩ (by simp)); have hg7 := hidp (H.out.ge ⟨b7, 4, [.bool false]⟩ (by simp))
    simp only [Ce.row, List.getElem_cons_zero, List.getElem_cons_succ] at x1 x5
    clear hpre hB hA hlt
    simp only [List.setIfInBounds_toArray, List.set_cons_zero, List.set_cons_succ]
    by_cases he : x.y = y
    · have e1 : (x.y.toList == y.toList) = true := by rw [he]; simp
      have HIX := hidp (show ∃ p z, pre ++ [x] = p ++ [z] ∧ p.all (fun c => !decide (c.y = y)) = true ∧ z.y = y from ⟨pre, x, rfl, HPRE.out, he⟩)
      have HLE := hidp (lastE_app pre x)
      clear he
      gi_wp2_with (first | (refine Rnd.to_in (Rnd.roundF l) rfl ?_; refine wpL_mid rtE rfl (.tmp 17) B 2 x.e.row rfl rfl rfl (ce_evA HA.out) ?_; refine ⟨rfl, ?_⟩) | (refine Rnd.to_in (Rnd.roundF l) rfl ?_; refine Rt.wpL_put rtE rfl (.tmp 6) (.tmp 18) rfl b6 x.e.row rfl rfl rfl (Ev.one x.e) zE rfl H6.out ?_; intro W2 ha st; refine ⟨rfl, ?_⟩; have HR6 := hidp ha; have HR7 := hidp (st.arr h67.out.symm H7.out); have HKO := hidp (Rnd.others_stp st H6.out); have HBZ := hidp (st.below' (H.out.below.trans (HBW.out.mono H.out.below.size)) hg6.out); clear ha st x1 x5) | (refine Rnd.to_in (Rnd.roundF l) rfl ?_; refine Rt.wpL_putF rfl 4 (.tmp 7) (.const (.bool true)) rfl b7 0 (.bool true) rfl rfl (by kernel_rfl) rfl [.bool false] HR7.out (by simp) ?_; intro W3 ha st; refine ⟨rfl, ?_⟩; have HQ6 := hidp (st.arr h67.out HR6.out); have HQ7 := hidp (show Arr W3 b7 4 [.bool true] from ha); have HKP := hidp (HKO.out.trans (Rnd.others_stp st HR7.out)); have HBY := hidp (st.below' HBZ.out hg7.out); clear ha st))
      exact ⟨HKP.out.from _, ⟨⟨rfl, HIX.out⟩, by rw [HLE.out]; exact HQ6.out, HQ7.out⟩, HBY.out⟩
    · have e1 : (x.y.toList == y.toList) = false := by rw [beq_eq_false_iff_ne]; exact fun g => he (ba_inj' g)
      have HAL := hidp (show (pre ++ [x]).all (fun c => !decide (c.y = y)) = true from by rw [List.all_append, HPRE.out]; simp [he])
      clear he
      gi_wp2_with fail
      exact ⟨(KeepsOthers.refl _).from _, Below.refl _ _, HAL.out, HBW.out⟩
  case done =>
    rintro D xs W hD rfl ⟨hpre, hB⟩ hK
    have HF := hidp (show firS cs k y = none from by rw [← HFK.out]; exact firK_no hpre)
    have HBW := hidp hB; have HK := hidp hK
    have H6a := hidp (H.out.at1.below hB H.out.at1.lt); have H7a := hidp (H.out.at0.below hB H.out.at0.lt)
    have h67 := hidp (show b6 ≠ b7 from by have := (List.pairwise_cons.1 H.out.inc).1 ⟨b6, 25, zE⟩ (by simp); simp only at this; omega)
    have hg6 := hidp (H.out.ge ⟨b6, 25, zE⟩ (by simp)); have hg7 := hidp (H.out.ge ⟨b7, 4, [.bool false]⟩ (by simp))
    have hbD := hidp (show b6 < D ∧ b7 < D from ⟨by have := H.out.at1.lt; omega, by have := H.out.at0.lt; omega⟩)
    clear hpre hB hK
    go_wp2_with (first | (refine Rt.wpL_build rfl 25 _ rfl zE (by kernel_rfl) ?_) | (refine Rt.wpL_put rtE rfl (.tmp 6) (.tmp 19) rfl b6 zE rfl rfl rfl (by simp [zE, Value.oneCell']) zE rfl H6a.out ?_; intro W2 ha st; have H6b := hidp ha; have H7b := hidp (st.arr h67.out.symm H7a.out); have HD2 := hidp ((st.other D (by have := hbD.out; omega)).trans HK.out); have HB2 := hidp (st.below' (H.out.below.trans (HBW.out.mono H.out.below.size)) hg6.out); clear ha st) | (refine Rt.wpL_putF rfl 4 (.tmp 7) (.const (.bool false)) rfl b7 0 (.bool false) rfl rfl (by kernel_rfl) rfl [.bool false] H7b.out (by simp) ?_; intro W3 ha st; have H6 := hidp (st.arr h67.out H6b.out); have H7 := hidp (show Arr W3 b7 4 [.bool false] from ha); have HDZ := hidp ((st.other D (by have := hbD.out; omega)).trans HD2.out); have HBZ := hidp (st.below' HB2.out hg7.out); clear ha st))
    have h6 := hidp (show Arr (W3.putObj D (.deferred none)) b6 25 _ from ((grownBy_putObj' W3 D (.deferred none)).block b6 H6.out.lt (fun e => by cases e; have := hbD.out; omega)).trans H6.out)
    have h7 := hidp (show Arr (W3.putObj D (.deferred none)) b7 4 _ from ((grownBy_putObj' W3 D (.deferred none)).block b7 H7.out.lt (fun e => by cases e; have := hbD.out; omega)).trans H7.out)
    refine ⟨by simp [Act.put], .inl ⟨_, _, rfl, run_takeDeferred HDZ.out, ?_⟩⟩
    refine ⟨_, Mm.ret_rowc rtE naB Tryz.results54 _ b6 b7 _ _ rfl rfl h6.out rfl (h7.out.cell 0 (by simp)), by rw [HF.out]; rfl, HBZ.out.grown (grownBy_putObj' W3 D (.deferred none)) HBZ.out.size (fun k e => by cases e; have := hD; have := H.out.below.size; omega)⟩
  case stop =>
    rintro D c pre W hD hsp ⟨⟨⟨rfl, p, x, rfl, hp, hx⟩, h6, h7⟩, hB⟩ hK
    have HF := hidp (show firS cs k y = some x.e from by rw [← HFK.out]; exact firK_hit hp hx hsp)
    rw [lastE_app] at h6
    have hbD := hidp (show b6 < D ∧ b7 < D from ⟨by have := H.out.at1.lt; omega, by have := H.out.at0.lt; omega⟩)
    have H6 := hidp h6; have H7 := hidp h7; have HBZ := hidp hB; have HDZ := hidp hK
    clear h6 h7 hB hK hp hx hsp
    refine wp_ret ?_
    have h6 := hidp (show Arr (W.putObj D (.deferred none)) b6 25 _ from ((grownBy_putObj' W D (.deferred none)).block b6 H6.out.lt (fun e => by cases e; have := hbD.out; omega)).trans H6.out)
    have h7 := hidp (show Arr (W.putObj D (.deferred none)) b7 4 _ from ((grownBy_putObj' W D (.deferred none)).block b7 H7.out.lt (fun e => by cases e; have := hbD.out; omega)).trans H7.out)
    refine ⟨by simp [Act.put], .inl ⟨_, _, rfl, run_takeDeferred HDZ.out, ?_⟩⟩
    refine ⟨_, Mm.ret_rowc rtE naB Tryz.results54 _ b6 b7 _ _ rfl rfl h6.out rfl (h7.out.cell 0 (by simp)), by rw [HF.out]; rfl, HBZ.out.grown (grownBy_putObj' W D (.deferred none)) HBZ.out.size (fun k e => by cases e; have := hD; have := H.out.below.size; omega)⟩
end Go.Proofs.YtiakfopdohcigaaGreatDoor
