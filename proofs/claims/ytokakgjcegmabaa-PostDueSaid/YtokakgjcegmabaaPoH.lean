/-
  post: all mails of a box.
-/
import Derived.Test.YtokakgjcegmabaaPoG
import Derived.Test.YtokakgjcegmabaaRw
import Derived.Laws.OwnMore
namespace Go.Proofs.Ytokakgjcegmabaa.Po
set_option maxRecDepth 100000
set_option linter.unusedVariables false
set_option linter.unusedSimpArgs false
open Go.RowKit
open List (getElem_toArray getElem_cons_zero getElem_cons_succ setIfInBounds_toArray set_cons_zero set_cons_succ)

open Go.Conc Go.Shelf Rw
attribute [local go_sem] Oper.semAt_some
theorem naMS : Mm.NA Try.prog 63 := ⟨_, Try.underlying63, rfl⟩
theorem tyM : RowTy Try.prog 63 75 3 32 zM := by
  refine ⟨by omega, by omega, by omega, rfl, Try.underlying63, by kernel_rfl, ⟨_, Try.underlying75⟩, by kernel_rfl⟩
def mls (L : List Lt) : List (List Value) := L.map Lt.mail
theorem OwnR.oneC {T k : Nat} {w : World} {B : Nat} {v : Value} {es : List (List Value)} (h : OwnR T k w B v es) : v.oneCell' = true := by
  rcases h.2.2 with ⟨rfl, _⟩ | ⟨g, cap, cur, rfl, _⟩ <;> rfl
theorem keepsR {T k b t : Nat} {w W : World} {B : Nat} {v : Value} {es : List (List Value)} {xs : List Value} (h : OwnR T k w B v es) (hg : w.grownBy W v.ownBlock) (ha : Arr w b t xs) (hne : t ≠ T) : Arr W b t xs := by
  refine (hg.block b ha.lt fun e => ?_).trans ha
  rcases h.2.2 with ⟨rfl, _⟩ | ⟨g, cap, cur, rfl, hB, hgb, r⟩
  · cases e
  · obtain rfl : b = g := by simpa [Value.ownBlock] using e
    have h1 : (Obj.cells cur T) = Obj.cells xs.toArray t := Option.some.inj (hgb.symm.trans ha)
    injection h1 with _ h2
    exact hne h2.symm
theorem OwnR.stpR {T k b t : Nat} {w W : World} {B : Nat} {v : Value} {es : List (List Value)} {xs : List Value} (h : OwnR T k w B v es) (st : Rt.Stp b w W) (ha : Arr w b t xs) (hne : t ≠ T) : OwnR T k W B v es := by
  refine ⟨h.1, h.2.1, ?_⟩
  rcases h.2.2 with h0 | ⟨g, cap, cur, e, hB, hg, r⟩
  · exact .inl h0
  · refine .inr ⟨g, cap, cur, e, hB, (st.other g ?_).trans hg, r⟩
    rintro rfl
    have h1 : (Obj.cells cur T) = Obj.cells xs.toArray t := Option.some.inj (hg.symm.trans ha)
    injection h1 with _ h2
    exact hne h2.symm
theorem ownR_im {T k m c : Nat} {w W : World} {B : Nat} {v : Value} {es : List (List Value)} (h : OwnR T k w B v es) (hi : Im (lowP m) c (lvP m) w W) (hc : c < B) (h1 : T ≠ 4) (h2 : T ≠ 104) : OwnR T k W B v es := by
  refine ⟨h.1, h.2.1, ?_⟩
  rcases h.2.2 with h0 | ⟨g, cap, cur, e, hB, hg, r⟩
  · exact .inl h0
  · exact .inr ⟨g, cap, cur, e, hB, hi.same g _ hg (by omega) (fun h => h.2.elim h1 h2) (.inr rfl), r⟩
theorem lvM_no {m b t : Nat} {w : World} {xs : List Value} (ha : Arr w b t xs) (h1 : t ≠ 4) (h2 : t ≠ 104) : ¬ lvP m b t := fun h => h.2.elim h1 h2
/-- What was there stands, but for the queue and a variable. -/
structure Ex (c b : Nat) (w W : World) : Prop where
  os : W.os = w.os
  tape : W.tape = w.tape
  output : W.output = w.output
  size : w.heap.size ≤ W.heap.size
  same : ∀ k, k < w.heap.size → k ≠ c → k ≠ b → W.heap[k]? = w.heap[k]?
theorem Ex.refl (c b : Nat) (w : World) : Ex c b w w := ⟨rfl, rfl, rfl, Nat.le_refl _, fun _ _ _ _ => rfl⟩
theorem Ex.im {c b : Nat} {w W W' : World} (h : Ex c b w W) (k : Im (lowP w.heap.size) c (lvP w.heap.size) W W') : Ex c b w W' :=
  ⟨k.os.trans h.os, k.tape.trans h.tape, k.output.trans h.output, Nat.le_trans h.size k.size, fun j hj hc hb => by
    rw [← h.same j hj hc hb]
    obtain ⟨o, ho⟩ : ∃ o, W.heap[j]? = some o := ⟨_, Array.getElem?_eq_getElem (Nat.lt_of_lt_of_le hj h.size)⟩
    rw [ho]
    exact k.same j o ho hc (fun h => by cases o <;> first | exact absurd h.1 (by omega) | exact h) (.inl hj)⟩
theorem rnd_end {c b3 : Nat} {w1 W X Y Z : World} {v : Value} {es : List (List Value)} (hI : Ex c b3 w1 W) (hc : c < w1.heap.size) (hcb : c ≠ b3) (hX : Below W.heap.size W X) (hG : X.grownBy Y v.ownBlock) (hP : Rt.Stp b3 Y Z) (hO : OwnR 75 3 X w1.heap.size v es) (h5 : Arr Y b3 63 [v]) :
    KeepsFrom w1.heap.size W Z ∧ Kp c (lvP w1.heap.size) W Z ∧ Ex c b3 w1 Z := by
  have hg : ∀ g, v.ownBlock = some g → w1.heap.size ≤ g ∧ ∃ cur, X.heap[g]? = some (.cells cur 75) := by
    intro g e
    rcases hO.2.2 with ⟨rfl, _⟩ | ⟨g', cap, cur, rfl, hB, hgb, r⟩
    · cases e
    · obtain rfl : g' = g := by simpa [Value.ownBlock] using e
      exact ⟨hB, cur, hgb⟩
  have hK : KeepsOthers W Z := by
    refine ((KeepsOthers.of_grownBy (row := none) (grown_of_below hX) (fun j o e => by cases e)).trans (KeepsOthers.of_grownBy hG fun j o e ho => ?_)).trans (Rnd.others_stp hP h5)
    obtain ⟨-, cur, h⟩ := hg j e
    rw [h] at ho; cases ho; rfl
  have hcW := Nat.lt_of_lt_of_le hc hI.size
  have hs1 := hX.size
  have hs2 := hG.size
  have hs3 := hP.size
  have st : ∀ k, k < W.heap.size → k ≠ b3 → some k ≠ v.ownBlock → Z.heap[k]? = W.heap[k]? := fun k hk h1 h2 =>
    (hP.other k h1).trans ((hG.block k (by omega) h2).trans (hX.block k hk))
  have b0 := hP.below 0 (Nat.zero_le _)
  refine ⟨hK.from _, ⟨by omega, st c hcW hcb (fun e => by have := (hg c e.symm).1; omega), fun k o hk hl => ?_⟩, ⟨(b0.os.trans hG.os).trans (hX.os.trans hI.os), (b0.tape.trans hG.tape).trans (hX.tape.trans hI.tape), (b0.output.trans hG.output).trans (hX.output.trans hI.output), by have := hI.size; omega, fun k hk h1 h2 => (st k (Nat.lt_of_lt_of_le hk hI.size) h2 (fun e => by have := (hg k e.symm).1; omega)).trans (hI.same k hk h1 h2)⟩⟩
  have hkW := (Array.getElem?_eq_some_iff.1 hk).1
  have hkX := (hX.block k hkW).trans hk
  cases o <;> first | exact hl.elim | skip
  rename_i cs t fz
  have n1 : some k ≠ v.ownBlock := fun e => by
    obtain ⟨-, cur, h⟩ := hg k e.symm
    rw [hkX] at h; cases h
    exact hl.2.elim (by decide) (by decide)
  have n2 : k ≠ b3 := by
    rintro rfl
    have h := (hG.block k (by omega) n1).trans hkX
    rw [show Y.heap[k]? = _ from h5] at h; cases h
    exact hl.2.elim (by decide) (by decide)
  exact (st k hkW n2 n1).trans hk
theorem fin_facts {b c cap b3 D : Nat} {L L2 : List Lt} {gap last lost : Int} {w w1 W : World} {v : Value} {es : List (List Value)} (hD : w1.heap.size ≤ D) (_ : b ≤ b) (hb : Below w.heap.size w w1) (h3 : w.heap.size ≤ b3) (hp : PostAt w1 b c cap L gap last lost) (hn : b ≠ b3) (he : Ex c b3 w1 W) (ho : OwnR 75 3 W w1.heap.size v es)
    (hch : ChAt W c cap (L2.map fun x => .agg x.row.toArray)) (hk : W.heap[D]? = some (.deferred (some []))) :
    OwnR 75 3 (W.putObj D (.deferred none)) w.heap.size v es ∧ PostAt (W.putObj D (.deferred none)) b c cap L2 gap last lost ∧ Pk b c w (W.putObj D (.deferred none)) := by
  have hs := hb.size
  refine ⟨OwnR.base (C := w.heap.size) (B := w1.heap.size) ⟨ho.1, ho.2.1, ?_⟩ hs, ⟨(World.putObj_heap_other (by have := hp.arr.lt; omega)).trans ((he.same b hp.arr.lt (hp.ch.ne hp.arr) hn).trans hp.arr), hch.to (World.putObj_heap_other (by have := hp.ch.lt; omega))⟩, ⟨he.os.trans hb.os, he.tape.trans hb.tape, he.output.trans hb.output, by have := he.size; simp; omega, fun k hk1 h1 h2 => ?_⟩⟩
  · rcases ho.2.2 with h0 | ⟨g, cap, cur, e, hB, hg, r⟩
    · exact .inl h0
    · exact .inr ⟨g, cap, cur, e, hB, (World.putObj_heap_other (by rintro rfl; rw [hk] at hg; cases hg)).trans hg, r⟩
  · exact (World.putObj_heap_other (by omega)).trans ((he.same k (by omega) h2 (by omega)).trans (hb.block k hk1))
theorem range_C {α : Type} {P : Program} {g : Operand} {ps : Array Tmp} {assign body : Code} {Q : Exit → Act → World → Prop} {a : Act} {w : World} (n : Nat) (f : Act → Nat → Act)
    (h1 : 1 ≤ n) {gf : Nat} {lb : Array Value} (hg : a.eval g = .func (.func gf) #[] lb) (eg : ∀ args w, (callFunc gf args).run P w = .ok (.enter gf args) w)
    {c cap : Nat} {lv : Nat → Nat → Prop} {TL : Nat} {row : α → List Value} {fx : α → α} {L : List α} (hseq : SeqC Fence.wide (n - 1) P gf lb c cap lv TL row fx L w) (hps : ps.size = 1)
    (hch : ChAt w c cap (L.map fun x => .agg (row x).toArray))
    (I : List α → World → Prop) (hI : ∀ pre W W', I pre W → Im (lowP w.heap.size) c lv W W' → I pre W') (h0 : I [] w)
    (hassign : ∀ (l B : Nat) (W : World) (K : Act → World → Prop), K (f a B) W →
      assign.wpIn (Fence.wide.inRound l) (n - 1 - 1) P (Exit.then K (fun _ _ _ => False)) { tmps := (ps.zip #[.pointer (some ⟨B, 0, none⟩)]).foldl (fun t (p, v) => t.setIfInBounds p v) a.tmps, defers := [] } W)
    (hbody : ∀ (l : Nat) (pre : List α) (x : α) (B : Nat) (W : World), I pre W → pre ++ [x] <+: L → w.heap.size ≤ B → c < W.heap.size → Arr W B TL (row x) →
      body.wpIn (Fence.wide.inRound l) (n - 1 - 1) P (goesOn fun W' => KeepsFrom w.heap.size W W' ∧ Kp c lv W W' ∧ Arr W' B TL (row (fx x)) ∧ I (pre ++ [x]) W') (f a B) W)
    (hdone : ∀ (D : Nat) (W : World), w.heap.size ≤ D → I L W → ChAt W c cap (L.map fun x => .agg (row (fx x)).toArray) → W.heap[D]? = some (.deferred (some [])) → Q .normal { a with defers := { target := .collected D, args := #[] } :: a.defers } W) :
    (Code.rangeFunc g ps assign body).wp P Q a w :=
  (wpIn_wide (n := n)).1 (wpIn_rangeFunc_C (F := Fence.wide) rfl h1 hg trivial eg hseq hps hch I hI h0 (f a) hassign hbody hdone)
section
variable {P : Program} {ST T k by_ : Nat} {z : List Value} {ops : Array Oper} {o : Oper} {a : Act} {w : World} {Q : Exit → Act → World → Prop} {S : World → Prop} {j : Nat} {K : Act → World → Prop}
theorem o_bs1R (R : RowTy P ST T k by_ z) (ho : ops[j]? = some o) (hw : Region.wanted o (yielded ops a.tmps) = true) (x : Operand) (hop : o.op = .buildSlice ST 1 #[(0, x)]) (l : List Value) (hx : a.eval x = .agg l.toArray) (hl : l.length = k)
    (h : ∀ b W, Rt.NewAt w W b T l → S W ∧ K (a.put o.dst (.slice (some ⟨b, 0, none⟩) 1 1)) W) : opW P ops Q S j K a w := by
  refine ⟨o, ho, hw, ?_⟩
  have := h w.heap.size (w.alloc (.cells l.toArray T)) (Rt.NewAt.mk' _ _ _)
  unfold Oper.wp execOp
  simp only [hop, List.map_toArray, List.map_cons, List.map_nil, hx, Sem.run_bind, run_bs1R R l hl, Result.andThen_ok]
  exact this
theorem run_app1 (R : RowTy P ST T k by_ z) (ty : TypeId) (B g : Nat) (v : Value) (es : List (List Value)) (x : List Value) (hown : OwnR T k w B v es) (hg : Arr w g T x) (h1 : ∀ y ∈ x, y.oneCell' = true) (hl : x.length = k) (hB : B ≤ w.heap.size) (hn : es.length + 1 ≤ 1048576) :
    ∃ v' W, (Builtin.append_ #[ST, ST] ty #[v, .slice (some ⟨g, 0, none⟩) 1 1]).run P w = .ok v' W ∧ OwnR T k W B v' (es ++ [x]) ∧ w.grownBy W v.ownBlock := by
  obtain ⟨i0, hi, hz0, hz1, hz2⟩ := info_parts R.info
  have hb := R.bm
  have h2 : (es.length + 1) * by_ ≤ 1048576 * 65536 := Nat.mul_le_mul hn hb
  obtain ⟨v', w', hrun, r1, r2, r3, -⟩ := run_append_own_at (P := P) (w := w) B ST ty T i0 _ k by_ R.us hi hz0 hz1 hz2 (by simp [Value.cells, R.zl]) R.kp v es.length es.flatten hown.2 ⟨g, 0, none⟩ 1 1 x (by rw [hl, Nat.one_mul])
    (fun j u hj => by rw [addr_addR]; exact hg.range j u hj) h1 (by unfold maxLen; omega) (by omega) hB
  refine ⟨v', w', hrun, ⟨hown.1.app (AllK.one hl), ?_⟩, r2⟩
  rw [List.length_append, List.flatten_append]; simpa using r1
theorem o_app1R (R : RowTy P ST T k by_ z) (ho : ops[j]? = some o) (hw : Region.wanted o (yielded ops a.tmps) = true) (s x : Operand) (hop : o.op = .call { callee := .builtin .append, args := #[s, x], argTypes := #[ST, ST] }) (B g : Nat) (v : Value) (es : List (List Value)) (f : List Value)
    (hv : a.eval s = v) (hx : a.eval x = .slice (some ⟨g, 0, none⟩) 1 1) (hown : OwnR T k w B v es) (hg : Arr w g T f) (h1 : ∀ y ∈ f, y.oneCell' = true) (hl : f.length = k) (hB : B ≤ w.heap.size) (hn : es.length + 1 ≤ 1048576)
    (h : ∀ v' W, OwnR T k W B v' (es ++ [f]) → w.grownBy W v.ownBlock → S W ∧ K (a.put o.dst v') W) : opW P ops Q S j K a w := by
  obtain ⟨v', W, hrun, r1, r2⟩ := run_app1 R o.type B g v es f hown hg h1 hl hB hn
  refine ⟨o, ho, hw, ?_⟩
  unfold Oper.wp
  simp [execOp, hop, resolve, invoke, builtin, hv, hx, hrun, Result.andThen]
  exact h v' W r1 r2
theorem o_putV (ho : ops[j]? = some o) (hw : Region.wanted o (yielded ops a.tmps) = true) (T : TypeId) (ty : TypeId) (x y : Operand) (hop : o.op = .store ty x y) (b i : Nat) (v : Value) (hx : a.eval x = .pointer (some ⟨b, i, none⟩)) (hy : a.eval y = v) (hs : (P.info? ty).map (·.size) = some 1) (h1 : v.oneCell' = true)
    (xs : List Value) (hg : Arr w b T xs) (hi : i < xs.length)
    (h : ∀ W, Arr W b T (xs.set i v) → Rt.Stp b w W → S W ∧ K (a.put o.dst undef) W) : opW P ops Q S j K a w := by
  subst hy
  refine ⟨o, ho, hw, ?_⟩
  have := h _ (Arr.row hg _) (Rt.Stp.setRow _ _ _)
  unfold Oper.wp execOp
  simp only [hop, hx, Instr.storeAt, Instr.sureAddr, Sem.run_bind, Sem.run_pure, Result.andThen_ok, Rt.run_storeVar_cell w b i T ty xs _ hg hi hs h1]
  exact this
theorem o_ldc {ty : Nat} (hn : Mm.NA P ty) (ho : ops[j]? = some o) (hw : Region.wanted o (yielded ops a.tmps) = true) (x : Operand) (p : Addr) (v : Value) (hop : o.op = .load ty x) (hx : a.eval x = .pointer (some p)) (hc : w.cell? p = some v) (hS : S w) (h : K (a.put o.dst v) w) : opW P ops Q S j K a w := by
  refine o_make ho hw ?_ hS h
  unfold execOp
  simp only [hop, hx, Instr.loadAt, Instr.sureAddr, Sem.run_bind, Sem.run_pure, Result.andThen_ok, Mm.run_loadVar_one hn w p v hc]
end
set_option maxHeartbeats 16000000 in
theorem all_any (w : World) (b c cap : Nat) (L : List Lt) (gap last lost : Int) (hp : PostAt w b c cap L gap last lost) (hcap : L.length ≤ cap) (hL : L.length ≤ 1048575) (hx : ∀ x ∈ L, x.tx.size ≤ 140737488351232) :
    Calls Try.prog 33 #[(.pointer (some ⟨b, 0, none⟩))] w fun e w' => ∃ v, e = .returned v ∧ OwnR 75 3 w' w.heap.size v (mls L) ∧ PostAt w' b c cap L gap last lost ∧ Pk b c w w' := by
  have HP := hidp hp
  have H := hidp (Mm.M.nil w)
  clear hp
  refine (callsIn_wide (n := 8)).1 ?_
  refine callsIn_of_wp_marks Try.func33 rfl trivial ?_ rfl
  refine wpIn_wide.2 ?_
  simp only [Try.ntmps33, List.size_toArray, List.length_cons, List.length_nil, Nat.reduceAdd, Nat.reduceSub, Array.replicate_succ, Array.replicate_zero, List.push_toArray, List.append_toArray, List.nil_append, List.cons_append]
  have tk0 := hidp trivial
  go_wp2_with (first | (clear tk0; (refine Mm.new1 63 (.slice none 0 0) (by kernel_rfl) rfl H (some 3) rfl rfl rfl ?_; clear H; intro b3 _ H nw; have hb := nw.below; clear hb nw); (try simp only [Act.put, setIfInBounds_toArray, set_cons_zero, set_cons_succ]); have tk1 := hidp trivial) | (clear tk1; (go_at_call 44; refine (known_any _ b).mono ?_; rintro e _ ⟨rfl, rfl⟩); (try simp only [Act.put, setIfInBounds_toArray, set_cons_zero, set_cons_succ]); have tk2 := hidp trivial) | (clear tk2; (refine Mm.ldc naQ rfl (.tmp 8) ⟨b, 0, none⟩ (.chan (some c)) rfl rfl ((HP.out.to H.out.below).arr.cell 0 (by simp [pR])) ?_); (try simp only [Act.put, setIfInBounds_toArray, set_cons_zero, set_cons_succ]); have tk3 := hidp trivial) | (clear tk3; (go_at_call 46; refine (each_any _ c).mono ?_; rintro e w1 ⟨bq, rfl, hq, hbq, hb⟩; replace H := hidp (H.out.call hb); have HQ := hidp hq; clear hq; clear hb); (try simp only [Act.put, setIfInBounds_toArray, set_cons_zero, set_cons_succ]); have tk4 := hidp trivial))
  try clear tk4
  have HC1 := hidp (HP.out.to H.out.below).ch
  have hcb := hidp (HC1.out.ne H.out.at0).symm
  have hcl := hidp HC1.out.lt
  refine range_C 8 (fun a B => { tmps := (a.tmps.setIfInBounds 11 (.pointer (some ⟨B, 0, none⟩))).setIfInBounds 4 (.pointer (some ⟨B, 0, none⟩)), defers := [] }) (by omega) rfl (enters_of Try.func54 (by kernel_rfl) rfl) (each1_seq (8 - 1) (by omega) w1 c cap bq (fun x => x) L HQ.out hcap (by omega)) rfl HC1.out
    (fun pre W => (∃ v, Arr W b3 63 [v] ∧ OwnR 75 3 W w1.heap.size v (mls pre)) ∧ Ex c b3 w1 W) ?stab ⟨⟨_, H.out.at0, OwnR.nil _ _⟩, Ex.refl _ _ _⟩ ?assign ?body ?done
  case stab =>
    rintro pre W W' ⟨⟨v, ha, ho⟩, him⟩ h
    exact ⟨⟨v, h.arr ha hcb.out.symm (lvM_no ha (by decide) (by decide)) (.inr rfl), ownR_im ho h hcl.out (by decide) (by decide)⟩, him.im h⟩
  case assign =>
    intro l B W K hK
    rw [show ∀ (t : Array Value) (v : Value), Array.foldl (fun (t : Array Value) (x : Tmp × Value) => t.setIfInBounds x.1 x.2) t ((#[11] : Array Tmp).zip #[v]) = t.setIfInBounds 11 v from fun t v => by simp]
    have HK := hidp hK
    clear hK
    simp only [List.setIfInBounds_toArray, List.set_cons_zero, List.set_cons_succ] at HK ⊢
    gi_wp2_with fail
    exact HK.out
  case body =>
    rintro l pre x B W ⟨⟨v, ha, ho⟩, him⟩ hpx hBB hcW hA
    have HIM := hidp him; have H5W := hidp ha; have HOW := hidp ho; have HAW := hidp hA
    have hxm := hx x (hpx.subset (by simp))
    have hpl := hidp (show (mls pre).length + 1 ≤ 1048576 from by have := hpx.length_le; simp [mls] at this ⊢; omega)
    have hsnoc := hidp (show mls (pre ++ [x]) = mls pre ++ [x.mail] from by simp [mls])
    have cc := hidp (fun W => copied_any W x hxm)
    clear ha ho him hA hxm
    simp only [List.setIfInBounds_toArray, List.set_cons_zero, List.set_cons_succ]
    gi_wp2_with fail
    obtain ⟨X0, hU⟩ : ∃ U, ({ W with drawn := W.drawn + 1 } : World) = U := ⟨_, rfl⟩
    have bU : Below W.heap.size W X0 := by rw [← hU]; exact (Below.refl _ _).drew
    have HX0 := hidp bU
    have HS0 := hidp (show Arr X0 B 96 (x).row from HAW.out.below bU HAW.out.lt)
    clear bU
    refine Rnd.in_region_scr0 (S := fun W => Arr W B 96 (x).row) (.take 1 (.take 2 (.take 3 (.two 0 (.one 4 (.one 5 (.one 6 (.one 7 .done)))) 4 (.two 0 (.one 5 (.one 6 (.one 7 .done))) 5 (.one 0 (.one 6 (.one 7 .done)))))))) (Rnd.roundF l) (by kernel_rfl) (by kernel_rfl) (by kernel_rfl) (by simp [Scr.depth]) (by kernel_rfl) (by rw [hU]; exact HS0.out) ?_
    simp only [hU]
    clear hU
    apply s_val
    case ho => rfl
    case hw => rfl
    case hv => intro w hw; go_simp; first | done | with_reducible rfl | rfl
    simp only [Act.put, List.getElem_toArray, List.getElem_cons_zero, List.getElem_cons_succ, List.setIfInBounds_toArray, List.set_cons_zero, List.set_cons_succ]
    apply s_val
    case ho => rfl
    case hw => rfl
    case hv => intro w hw; go_simp; first | done | with_reducible rfl | rfl
    simp only [Act.put, List.getElem_toArray, List.getElem_cons_zero, List.getElem_cons_succ, List.setIfInBounds_toArray, List.set_cons_zero, List.set_cons_succ]
    refine Rt.s_get rtL rfl rfl (.tmp 14) rfl B (x).row rfl rfl (fun w h => h) ?_
    simp only [Act.put, List.getElem_toArray, List.getElem_cons_zero, List.getElem_cons_succ, List.setIfInBounds_toArray, List.set_cons_zero, List.set_cons_succ]
    refine ⟨?_, ?_⟩
    · refine o_ldc naMS rfl rfl (.tmp 3) ⟨b3, 0, none⟩ v rfl rfl ((H5W.out.below HX0.out H5W.out.lt).cell 0 (by simp)) (HAW.out.below HX0.out HAW.out.lt) ?_
      simp only [Act.put, List.getElem_toArray, List.getElem_cons_zero, List.getElem_cons_succ, List.setIfInBounds_toArray, List.set_cons_zero, List.set_cons_succ]
      refine o_callG rfl rfl 48 #[.agg (x).row.toArray] (by go_simp; first | done | rfl) (cc.out X0) ?_
      rintro e X1 ⟨rfl, hb⟩
      have HX1 := hidp (HX0.out.trans (hb.mono HX0.out.size))
      refine ⟨.agg x.mail.toArray, rfl, (HAW.out.below HX1.out HAW.out.lt), ?_⟩
      clear hb
      simp only [Act.put, List.getElem_toArray, List.getElem_cons_zero, List.getElem_cons_succ, List.setIfInBounds_toArray, List.set_cons_zero, List.set_cons_succ]
      refine o_bs1R tyM rfl rfl (.tmp 16) rfl x.mail rfl rfl ?_
      intro nb X2 n1
      have HX2 := hidp (HX1.out.trans (n1.below.mono HX1.out.size))
      have HNB := hidp n1.arr
      refine ⟨(HAW.out.below HX2.out HAW.out.lt), ?_⟩
      clear n1
      simp only [Act.put, List.getElem_toArray, List.getElem_cons_zero, List.getElem_cons_succ, List.setIfInBounds_toArray, List.set_cons_zero, List.set_cons_succ]
      refine o_app1R tyM rfl rfl (.tmp 12) (.tmp 17) rfl w1.heap.size nb v (mls pre) x.mail rfl rfl (HOW.out.to HX2.out (Nat.le_refl _)) HNB.out (Lt.mone x) rfl (Nat.le_trans HIM.out.size HX2.out.size) hpl.out ?_
      intro v2 Y h1 h2
      have HOY := hidp h1; have HGY := hidp h2
      clear h1 h2
      have HOX := hidp (HOW.out.to HX2.out (Nat.le_refl _))
      have H5Y := hidp (keepsR HOX.out HGY.out (H5W.out.below HX2.out H5W.out.lt) (by decide))
      have HRY := hidp (keepsR HOX.out HGY.out (HAW.out.below HX2.out HAW.out.lt) (by decide))
      refine ⟨HRY.out, ?_⟩
      simp only [Act.put, List.getElem_toArray, List.getElem_cons_zero, List.getElem_cons_succ, List.setIfInBounds_toArray, List.set_cons_zero, List.set_cons_succ]
      refine o_putV rfl rfl 63 63 (.tmp 3) (.tmp 18) rfl b3 0 v2 rfl rfl (by kernel_rfl) (OwnR.oneC HOY.out) [v] H5Y.out (by simp) ?_
      intro Z ha hp
      have HAZ := hidp (show Arr Z b3 63 [v2] from ha); have HPZ := hidp hp
      clear ha hp
      refine ⟨HPZ.out.arr (arr_ne HRY.out H5Y.out (by decide)) HRY.out, ?_⟩
      simp only [Act.put, List.getElem_toArray, List.getElem_cons_zero, List.getElem_cons_succ, List.setIfInBounds_toArray, List.set_cons_zero, List.set_cons_succ]
      refine Rnd.scr_done0 ?_
      gi_wp2_with fail
      have hq := rnd_end HIM.out hcl.out hcb.out HX2.out HGY.out HPZ.out HOX.out H5Y.out
      exact ⟨hq.1, hq.2.1 , HPZ.out.arr (arr_ne HRY.out H5Y.out (by decide)) HRY.out, ⟨v2, HAZ.out, by rw [hsnoc.out]; exact OwnR.stpR HOY.out HPZ.out H5Y.out (by decide)⟩, hq.2.2⟩
    · refine o_callG rfl rfl 48 #[.agg (x).row.toArray] (by go_simp; first | done | rfl) (cc.out X0) ?_
      rintro e X1 ⟨rfl, hb⟩
      have HX1 := hidp (HX0.out.trans (hb.mono HX0.out.size))
      refine ⟨.agg x.mail.toArray, rfl, (HAW.out.below HX1.out HAW.out.lt), ?_⟩
      clear hb
      simp only [Act.put, List.getElem_toArray, List.getElem_cons_zero, List.getElem_cons_succ, List.setIfInBounds_toArray, List.set_cons_zero, List.set_cons_succ]
      refine ⟨?_, ?_⟩
      · refine o_ldc naMS rfl rfl (.tmp 3) ⟨b3, 0, none⟩ v rfl rfl ((H5W.out.below HX1.out H5W.out.lt).cell 0 (by simp)) (HAW.out.below HX1.out HAW.out.lt) ?_
        simp only [Act.put, List.getElem_toArray, List.getElem_cons_zero, List.getElem_cons_succ, List.setIfInBounds_toArray, List.set_cons_zero, List.set_cons_succ]
        refine o_bs1R tyM rfl rfl (.tmp 16) rfl x.mail rfl rfl ?_
        intro nb X2 n1
        have HX2 := hidp (HX1.out.trans (n1.below.mono HX1.out.size))
        have HNB := hidp n1.arr
        refine ⟨(HAW.out.below HX2.out HAW.out.lt), ?_⟩
        clear n1
        simp only [Act.put, List.getElem_toArray, List.getElem_cons_zero, List.getElem_cons_succ, List.setIfInBounds_toArray, List.set_cons_zero, List.set_cons_succ]
        refine o_app1R tyM rfl rfl (.tmp 12) (.tmp 17) rfl w1.heap.size nb v (mls pre) x.mail rfl rfl (HOW.out.to HX2.out (Nat.le_refl _)) HNB.out (Lt.mone x) rfl (Nat.le_trans HIM.out.size HX2.out.size) hpl.out ?_
        intro v2 Y h1 h2
        have HOY := hidp h1; have HGY := hidp h2
        clear h1 h2
        have HOX := hidp (HOW.out.to HX2.out (Nat.le_refl _))
        have H5Y := hidp (keepsR HOX.out HGY.out (H5W.out.below HX2.out H5W.out.lt) (by decide))
        have HRY := hidp (keepsR HOX.out HGY.out (HAW.out.below HX2.out HAW.out.lt) (by decide))
        refine ⟨HRY.out, ?_⟩
        simp only [Act.put, List.getElem_toArray, List.getElem_cons_zero, List.getElem_cons_succ, List.setIfInBounds_toArray, List.set_cons_zero, List.set_cons_succ]
        refine o_putV rfl rfl 63 63 (.tmp 3) (.tmp 18) rfl b3 0 v2 rfl rfl (by kernel_rfl) (OwnR.oneC HOY.out) [v] H5Y.out (by simp) ?_
        intro Z ha hp
        have HAZ := hidp (show Arr Z b3 63 [v2] from ha); have HPZ := hidp hp
        clear ha hp
        refine ⟨HPZ.out.arr (arr_ne HRY.out H5Y.out (by decide)) HRY.out, ?_⟩
        simp only [Act.put, List.getElem_toArray, List.getElem_cons_zero, List.getElem_cons_succ, List.setIfInBounds_toArray, List.set_cons_zero, List.set_cons_succ]
        refine Rnd.scr_done0 ?_
        gi_wp2_with fail
        have hq := rnd_end HIM.out hcl.out hcb.out HX2.out HGY.out HPZ.out HOX.out H5Y.out
        exact ⟨hq.1, hq.2.1 , HPZ.out.arr (arr_ne HRY.out H5Y.out (by decide)) HRY.out, ⟨v2, HAZ.out, by rw [hsnoc.out]; exact OwnR.stpR HOY.out HPZ.out H5Y.out (by decide)⟩, hq.2.2⟩
      · refine o_bs1R tyM rfl rfl (.tmp 16) rfl x.mail rfl rfl ?_
        intro nb X2 n1
        have HX2 := hidp (HX1.out.trans (n1.below.mono HX1.out.size))
        have HNB := hidp n1.arr
        refine ⟨(HAW.out.below HX2.out HAW.out.lt), ?_⟩
        clear n1
        simp only [Act.put, List.getElem_toArray, List.getElem_cons_zero, List.getElem_cons_succ, List.setIfInBounds_toArray, List.set_cons_zero, List.set_cons_succ]
        refine o_ldc naMS rfl rfl (.tmp 3) ⟨b3, 0, none⟩ v rfl rfl ((H5W.out.below HX2.out H5W.out.lt).cell 0 (by simp)) (HAW.out.below HX2.out HAW.out.lt) ?_
        simp only [Act.put, List.getElem_toArray, List.getElem_cons_zero, List.getElem_cons_succ, List.setIfInBounds_toArray, List.set_cons_zero, List.set_cons_succ]
        refine o_app1R tyM rfl rfl (.tmp 12) (.tmp 17) rfl w1.heap.size nb v (mls pre) x.mail rfl rfl (HOW.out.to HX2.out (Nat.le_refl _)) HNB.out (Lt.mone x) rfl (Nat.le_trans HIM.out.size HX2.out.size) hpl.out ?_
        intro v2 Y h1 h2
        have HOY := hidp h1; have HGY := hidp h2
        clear h1 h2
        have HOX := hidp (HOW.out.to HX2.out (Nat.le_refl _))
        have H5Y := hidp (keepsR HOX.out HGY.out (H5W.out.below HX2.out H5W.out.lt) (by decide))
        have HRY := hidp (keepsR HOX.out HGY.out (HAW.out.below HX2.out HAW.out.lt) (by decide))
        refine ⟨HRY.out, ?_⟩
        simp only [Act.put, List.getElem_toArray, List.getElem_cons_zero, List.getElem_cons_succ, List.setIfInBounds_toArray, List.set_cons_zero, List.set_cons_succ]
        refine o_putV rfl rfl 63 63 (.tmp 3) (.tmp 18) rfl b3 0 v2 rfl rfl (by kernel_rfl) (OwnR.oneC HOY.out) [v] H5Y.out (by simp) ?_
        intro Z ha hp
        have HAZ := hidp (show Arr Z b3 63 [v2] from ha); have HPZ := hidp hp
        clear ha hp
        refine ⟨HPZ.out.arr (arr_ne HRY.out H5Y.out (by decide)) HRY.out, ?_⟩
        simp only [Act.put, List.getElem_toArray, List.getElem_cons_zero, List.getElem_cons_succ, List.setIfInBounds_toArray, List.set_cons_zero, List.set_cons_succ]
        refine Rnd.scr_done0 ?_
        gi_wp2_with fail
        have hq := rnd_end HIM.out hcl.out hcb.out HX2.out HGY.out HPZ.out HOX.out H5Y.out
        exact ⟨hq.1, hq.2.1 , HPZ.out.arr (arr_ne HRY.out H5Y.out (by decide)) HRY.out, ⟨v2, HAZ.out, by rw [hsnoc.out]; exact OwnR.stpR HOY.out HPZ.out H5Y.out (by decide)⟩, hq.2.2⟩
  case done =>
    rintro D W hD ⟨⟨v, ha, ho⟩, him⟩ hch hK
    have HA := hidp ha; have HO := hidp ho; have HIM := hidp him; have HCH := hidp hch; have HK := hidp hK
    have hb3 := hidp (H.out.ge ⟨b3, 63, [.slice none 0 0]⟩ (by simp))
    have HPW := HP.out.to H.out.below
    have hfin := hidp (fin_facts hD (Nat.le_refl _) H.out.below hb3.out HPW (arr_ne HPW.arr H.out.at0 (by decide)) HIM.out HO.out hch hK)
    clear ha ho him hch hK HPW
    go_wp2_with (refine Mm.ldc naMS rfl (.tmp 3) ⟨b3, 0, none⟩ v rfl rfl (HA.out.cell 0 (by simp)) ?_)
    refine ⟨by simp [Act.put], .inl ⟨_, _, rfl, run_takeDeferred HK.out, ?_⟩⟩
    refine ⟨_, results_tmp Try.results33 _ _ _, ⟨_, rfl, hfin.out⟩⟩
end Go.Proofs.Ytokakgjcegmabaa.Po
