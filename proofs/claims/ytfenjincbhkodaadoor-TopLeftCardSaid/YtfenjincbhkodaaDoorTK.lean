/-
  Joined: Rnd StH StI StJ.
-/
import Derived.Test.YtfenjincbhkodaaDoorTB
import Derived.RangeFuncFrom
import Derived.RangeFuncCalls
import Derived.OwnWalkIn
import Derived.OrdersIn
import Derived.TacticsIn
import Derived.Test.YtfenjincbhkodaaDoorTJ
import Derived.Test.YtfenjincbhkodaaDoorTA
namespace Go.Proofs.YtfenjincbhkodaaDoor.Rnd
set_option linter.unusedVariables false
set_option linter.unusedSimpArgs false
open Go.RowKit

/-- No defer statement, no call of a row. -/
def noDefer : Op → Bool
  | .defer _ => false
  | _ => true
theorem noDefer_op {o : Op} (h : noDefer o = true) (c : Call) : o ≠ .defer c := by
  rintro rfl; cases h
/-- Wide, in a round or not. -/
structure WideF (F : Fence) : Prop where
  fn : ∀ f, F.fn f
  depth : F.depth = none
  calls : ∀ {n : Nat} {P : Program} {f : FuncId} {args : Array Value} {w : World} {R : Ending → World → Prop}, Calls P f args w R → CallsIn F n P f args w R
  rows : ∀ {n : Nat} {P : Program} {r : String} {args : Array Value} {w : World} {R : Value → World → Prop}, Rows P r args w R → RowsIn F n P r args w R
variable {F : Fence} {n : Nat} {P : Program} {ops : Array Oper} {Q : Exit → Act → World → Prop} {a : Act} {w : World} {rest : List Oper} {o : Oper} {md : Region.Mode}
theorem op_in (hF : WideF F) (hd : noDefer o.op = true) {K : Act → World → Prop} {Q' : Exit → Act → World → Prop} (hp : ∀ c a w, Q' (.panic c) a w → Q (.panic c) a w) (hl : ∀ a w, ¬ Q' .outgrown a w) (h : o.wp P a w K Q') : o.wpIn F n P a w K Q := by
  unfold Oper.wpIn
  rw [Oper.semAt_plain _ _ _ (noDefer_op hd)]
  refine ⟨fun f _ => hF.fn f, ?_⟩
  unfold Oper.wp at h
  generalize (execOp a.eval o).run P w = r at h ⊢
  have hdep : F.depth.isSome = true → 1 ≤ n := by rw [hF.depth]; intro h; cases h
  cases r with
  | ok x w' =>
    cases x with
    | value v => exact h
    | skip => exact h
    | defer d => exact h
    | enter f args =>
      refine ⟨hdep, hF.calls (Calls.mono h ?_)⟩
      intro e w'' he
      cases e with
      | returned v => exact he
      | panicked c => exact hp _ _ _ he
      | outgrown => obtain ⟨a, w, hh⟩ := he; exact absurd hh (hl _ _)
    | row r args => exact ⟨hdep, hF.rows h⟩
    | _ => exact h.elim
  | halt x w' =>
    cases x <;> first | exact hp _ _ _ h | exact h.elim
/-- A plain law at one operation, inside a fence. -/
theorem to_in (hF : WideF F) (hd : noDefer o.op = true) (h : wpList P ops (fun e a w => e = .normal ∧ wpListIn F n P ops Q rest a w) [o] a w) : wpListIn F n P ops Q (o :: rest) a w := by
  unfold wpListIn
  unfold wpList at h
  split
  · rename_i hw
    rw [if_pos hw] at h
    rcases h with h | ⟨_, a', w', hh⟩
    · refine op_in hF hd (Q' := fun e a w => e = .normal ∧ wpListIn F n P ops Q rest a w) (fun c a w hh => by cases hh.1) (fun a w hh => by cases hh.1) ?_
      exact Oper.wp_mono (fun a w hh => hh.2) h
    · cases hh.1
  · rename_i hw
    rw [if_neg hw] at h
    exact ⟨fun f _ => hF.fn f, h.2⟩
theorem wideF : WideF Fence.wide := ⟨fun _ => trivial, rfl, fun h => callsIn_wide.2 h, fun {n P r args w R} h => fun c cs hr => by
  obtain ⟨v, w', hr, hs⟩ := h c cs
  exact ⟨v, w', hr, stepsIn_wide.2 hs⟩⟩
theorem roundF (l : Nat) : WideF (Fence.wide.inRound l) := ⟨fun _ => trivial, rfl, fun h => CallsIn.inRound l (callsIn_wide.2 h), fun {n P r args w R} h => fun c cs hr => by
  obtain ⟨v, w', hr, hs⟩ := h c cs
  refine ⟨v, w', hr, ?_⟩
  rw [fenced_inRound]
  exact stepsIn_wide.2 hs⟩
/-- A store into a block of cells keeps all that is no cells. -/
theorem others_stp {b t : Nat} {w W : World} {xs : List Value} (h : Rt.Stp b w W) (ha : Arr w b t xs) : KeepsOthers w W :=
  ⟨by rw [h.size]; exact Nat.le_refl _, fun k o hk ho => by
    refine (h.other k ?_).trans hk
    rintro rfl
    rw [show w.heap[k]? = _ from ha] at hk
    cases hk; cases ho⟩
/-- All blocks below m but one are as they were. -/
structure Exc (b m : Nat) (X Y : World) : Prop where
  size : X.heap.size ≤ Y.heap.size
  same : ∀ k, k < m → k ≠ b → Y.heap[k]? = X.heap[k]?
theorem Exc.trans {b m : Nat} {X Y Z : World} (h : Exc b m X Y) (k : Exc b m Y Z) : Exc b m X Z := ⟨Nat.le_trans h.size k.size, fun i hi hb => (k.same i hi hb).trans (h.same i hi hb)⟩
theorem Exc.refl (b m : Nat) (X : World) : Exc b m X X := ⟨Nat.le_refl _, fun _ _ _ => rfl⟩
theorem Exc.arr {b m c t : Nat} {X Y : World} {xs : List Value} (h : Exc b m X Y) (hc : c < m) (hb : c ≠ b) (ha : Arr X c t xs) : Arr Y c t xs := (h.same c hc hb).trans ha
theorem Exc.put {b : Nat} {w : World} (W : World) (l : Nat) (o o' : Obj) (hl : w.heap.size ≤ l) (h : W.heap[l]? = some o) : Exc b w.heap.size W (W.putObj l o') :=
  ⟨(grownBy_putObj' W l o').size, fun k hk _ => (grownBy_putObj' W l o').block k (by have := (Array.getElem?_eq_some_iff.1 h).1; omega) (fun e => by cases e; omega)⟩
end Go.Proofs.YtfenjincbhkodaaDoor.Rnd

namespace Go.Proofs.YtfenjincbhkodaaDoor
set_option maxRecDepth 100000
set_option linter.unusedVariables false
set_option linter.unusedSimpArgs false
open Go.RowKit Rw
attribute [local go_sem] Oper.semAt_some
open Go.Shelf
/-- The cells of a kind, of the first i. -/
def kiT (cs : List Ce) (k i : Nat) : List Ce := (cs.take i).filter fun c => decide (c.k = k)
def kiL (cs : List Ce) (k : Nat) : List Ce := kiT cs k cs.length
theorem kiT_succ {cs : List Ce} {k i : Nat} {c : Ce} (h : i < cs.length) (hc : cs[i] = c) : kiT cs k (i + 1) = kiT cs k i ++ (if c.k = k then [c] else []) := by
  unfold kiT
  rw [List.take_add_one, List.getElem?_eq_getElem h, hc, List.filter_append]
  congr 1
  by_cases hk : c.k = k <;> simp [hk]
theorem kiT_pre (cs : List Ce) (k i : Nat) : kiT cs k i <+: kiL cs k := by
  unfold kiL kiT
  obtain ⟨t, ht⟩ : cs.take i <+: cs.take cs.length := by rw [List.take_length]; exact List.take_prefix _ _
  rw [← ht, List.filter_append]; exact List.prefix_append _ _
def encCe (c : Ce) : Array Value := #[.agg c.row.toArray]
theorem lt_of_preC {l m : List Ce} {x : Ce} (h : l ++ [x] <+: m) : l.length < m.length := by
  have := h.length_le; simp at this; omega

set_option maxHeartbeats 16000000 in
theorem ofKind1_in (n0 : Nat) (hn0 : 2 ≤ n0) (l : Nat) (bs bk k : Nat) (cs : List Ce) (v : Value) (w0 : World) (hs : Arr w0 bs 56 [v]) (hk0 : Arr w0 bk 57 [.int .u8 (k : Int)]) (hv : CsAt w0 v cs)
    (J Jx : List Ce → World → Prop) (W : World) (hW : Below w0.heap.size w0 W) (hJ : AbidesFrom W.heap.size J)
    (hY : ∀ pre x W1, J pre W1 → pre.length < (kiL cs k).length → YieldAt Fence.wide (n0 - 1) Tryd.prog l (encCe x) W1 fun e W' =>
      (e = .returned (.bool true) ∧ J (pre ++ [x]) W' ∧ Below w0.heap.size W1 W') ∨ (e = .returned (.bool false) ∧ Jx (pre ++ [x]) W'))
    (h0 : J [] W) :
    CallsIn Fence.wide n0 Tryd.prog 112 #[.func (.yield l) #[] #[], .pointer (some ⟨bs, 0, none⟩), .pointer (some ⟨bk, 0, none⟩)] W fun e W' => (∃ v, e = .returned v) ∧
      ((∃ ys, ys = kiL cs k ∧ J ys W') ∨ (∃ pre, pre <+: kiL cs k ∧ Jx pre W')) := by
  have HY := hidp hY; have HV := hidp hv; have HWB := hidp hW
  have HK0 := hidp (hk0.cell 0 (by simp)); have HKL := hidp hk0.lt
  have x1 := (hW.cell (p := ⟨bs, 0, none⟩) hs.lt).trans (hs.cell 0 (by simp))
  clear hY hv hW hk0 hs
  simp only [List.getElem_cons_zero] at HK0 x1
  obtain ⟨av, cv0, rfl⟩ := HV.out.form
  obtain ⟨n, hn⟩ : ∃ n, cs.length = n := ⟨_, rfl⟩
  have HN := hidp hn
  have h47 := HV.out.len
  rw [hn] at HV h47 x1
  clear hn
  refine callsIn_of_wp Tryd.func112 rfl trivial ?_ rfl
  simp only [Tryd.ntmps112, List.size_toArray, List.length_cons, List.length_nil, Nat.reduceAdd, Nat.reduceSub, Array.replicate_succ, Array.replicate_zero, List.push_toArray, List.append_toArray, List.nil_append, List.cons_append]
  gi_wp2
  clear x1
  gi_loopw [8] (fun t8 wr => ∃ i : Nat, t8 = .int .i64 (i : Int) ∧ i ≤ n ∧ J (kiT cs k i) wr ∧ Below w0.heap.size w0 wr) (fun t8 _ => n - (intOf t8).toNat)
  case atStart => exact ⟨0, rfl, by omega, h0, HWB.out⟩
  case round =>
    obtain ⟨i, rfl, hi, hJs, hb⟩ := hrel
    have HJ := hidp hJs; have HB := hidp hb
    clear hJs hb
    by_cases hlt : i < n
    · have e1 : decide ((i : Int) < (n : Int)) = true := by simp; omega
      have hgl : i < cs.length := by rw [HN.out]; exact hlt
      obtain ⟨BK, off, c0, e2, hc, hBK0, hR0⟩ := HV.out.get (by rw [HN.out]; omega)
      rw [HN.out] at e2
      simp only [Value.slice.injEq] at e2
      obtain ⟨rfl, -, rfl⟩ := e2
      obtain ⟨c, hge⟩ : ∃ c, cs[i] = c := ⟨_, rfl⟩
      have HRI := hidp (show wr.rangeAt BK (off + 8 * i) c.row from by rw [← hge]; exact rangeAt_below (hR0 i hgl) HB.out hBK0)
      clear hR0 hBK0 hc
      by_cases hk : c.k = k
      · have H := hidp (Mm.M.nil wr)
        have hst := kiT_succ (cs := cs) (k := k) hgl hge
        have HS := hidp (show kiT cs k (i + 1) = kiT cs k i ++ [c] from by rw [hst, if_pos hk])
        have ek : ((c.k : Int) == (k : Int)) = true := by rw [hk]; simp
        have hpx := hidp (show kiT cs k i ++ [c] <+: kiL cs k from by rw [← HS.out]; exact kiT_pre _ _ _)
        clear hst hk hge
        gi_wp2_with (first | (refine Rnd.to_in Rnd.wideF rfl ?_; refine wpL_idxR tyC rfl (.tmp 6) (.tmp 8) rfl BK off n _ i rfl rfl hlt ?_; refine ⟨rfl, ?_⟩) | (refine Rnd.to_in Rnd.wideF rfl ?_; refine wpL_atR tyC rfl (.tmp 10) rfl BK (off + 8 * i) c.row rfl rfl HRI.out ?_; refine ⟨rfl, ?_⟩) | (refine Rnd.to_in Rnd.wideF rfl ?_; refine Mm.new rtC H (some 5) rfl rfl rfl ?_; clear H; intro b5 _ H nw; clear nw; refine ⟨rfl, ?_⟩) | (refine Rnd.to_in Rnd.wideF rfl ?_; refine Mm.put0 rtC H rfl (.tmp 5) (.tmp 11) c.row rfl rfl rfl rfl (Ce.one c) rfl ?_; intro w2 H2 st; refine ⟨rfl, ?_⟩; clear H st; have H := H2; clear H2; have HBX := hidp (HB.out.trans (H.out.below.mono HB.out.size)); have x0 := H.out.at0.cell 0 (by simp [Ce.row]); simp only [Ce.row, List.getElem_cons_zero] at x0; have x9 := (HBX.out.cell (p := ⟨bk, 0, none⟩) HKL.out).trans HK0.out; have hJ2 := hJ _ wr w2 none HJ.out (grown_of_below H.out.below) (fun r e => by cases e); obtain ⟨fn, tmps, assign, body, hy, hR⟩ := HY.out _ c w2 hJ2 (lt_of_preC hpx.out); simp only [encCe] at hy hR; have HR := hidp hR; clear hR hJ2; skip) | (refine Rnd.to_in Rnd.wideF rfl ?_; refine Mm.get0 rtC H rfl (.tmp 5) rfl rfl rfl ?_; refine ⟨rfl, ?_⟩))
        refine ⟨fun _ => by omega, HR.out.mono ?_⟩
        rintro e1 W3 (⟨rfl, hJ3, hk3⟩ | ⟨rfl, hJx3⟩)
        · have HB3 := hidp (HBX.out.trans hk3)
          have HJ3 := hidp (show J (kiT cs k (i + 1)) W3 from by rw [HS.out]; exact hJ3)
          clear hk3 hJ3 x0 x9
          gi_wp2
          exact ⟨⟨i + 1, by go_num, by omega, HJ3.out, HB3.out⟩, by simp [intOf]; omega⟩
        · clear x0 x9
          gi_wp2
          refine bodyPost_ret (results_none rfl _ _ _) rfl ?_
          exact ⟨⟨_, rfl⟩, .inr ⟨_, hpx.out, hJx3⟩⟩
      · have H := hidp (Mm.M.nil wr)
        have hst := kiT_succ (cs := cs) (k := k) hgl hge
        have HS := hidp (show kiT cs k (i + 1) = kiT cs k i from by rw [hst, if_neg hk, List.append_nil])
        have ek : ((c.k : Int) == (k : Int)) = false := by rw [beq_eq_false_iff_ne]; omega
        clear hst hk hge
        gi_wp2_with (first | (refine Rnd.to_in Rnd.wideF rfl ?_; refine wpL_idxR tyC rfl (.tmp 6) (.tmp 8) rfl BK off n _ i rfl rfl hlt ?_; refine ⟨rfl, ?_⟩) | (refine Rnd.to_in Rnd.wideF rfl ?_; refine wpL_atR tyC rfl (.tmp 10) rfl BK (off + 8 * i) c.row rfl rfl HRI.out ?_; refine ⟨rfl, ?_⟩) | (refine Rnd.to_in Rnd.wideF rfl ?_; refine Mm.new rtC H (some 5) rfl rfl rfl ?_; clear H; intro b5 _ H nw; clear nw; refine ⟨rfl, ?_⟩) | (refine Rnd.to_in Rnd.wideF rfl ?_; refine Mm.put0 rtC H rfl (.tmp 5) (.tmp 11) c.row rfl rfl rfl rfl (Ce.one c) rfl ?_; intro w2 H2 st; refine ⟨rfl, ?_⟩; clear H st; have H := H2; clear H2; have HBX := hidp (HB.out.trans (H.out.below.mono HB.out.size)); have x0 := H.out.at0.cell 0 (by simp [Ce.row]); simp only [Ce.row, List.getElem_cons_zero] at x0; have x9 := (HBX.out.cell (p := ⟨bk, 0, none⟩) HKL.out).trans HK0.out; skip) | (refine Rnd.to_in Rnd.wideF rfl ?_; refine Mm.get0 rtC H rfl (.tmp 5) rfl rfl rfl ?_; refine ⟨rfl, ?_⟩))
        have HJ3 := hidp (show J (kiT cs k (i + 1)) w2 from by rw [HS.out]; exact hJ _ wr w2 none HJ.out (grown_of_below H.out.below) (fun r e => by cases e))
        clear x0 x9
        refine ⟨fun _ _ => trivial, ?_⟩
        gi_wp2
        exact ⟨⟨i + 1, by go_num, by omega, HJ3.out, HBX.out⟩, by simp [intOf]; omega⟩
    · have e1 : decide ((i : Int) < (n : Int)) = false := by simp; omega
      have HJ1 := hidp (show J (kiL cs k) wr from by
        unfold kiL
        rw [show cs.length = i from by rw [HN.out]; omega]
        exact HJ.out)
      gi_wp2
      go_end0
      exact ⟨⟨_, rfl⟩, .inl ⟨_, rfl, HJ1.out⟩⟩
/-- ofKind hands back a value that supplies the cells. -/
theorem ofKind_stops (n : Nat) (hn : 2 ≤ n) (bs bk k : Nat) (cs : List Ce) (v : Value) (w0 : World) (hs : Arr w0 bs 56 [v]) (hk0 : Arr w0 bk 57 [.int .u8 (k : Int)]) (hv : CsAt w0 v cs) :
    SeqStopsK Fence.wide n Tryd.prog 112 #[.pointer (some ⟨bs, 0, none⟩), .pointer (some ⟨bk, 0, none⟩)] encCe (Below w0.heap.size) (fun ys => ys = kiL cs k) (fun pre => pre <+: kiL cs k) (kiL cs k).length w0 :=
  fun l J Jx W hW hJ _ hY h0 => ofKind1_in n hn l bs bk k cs v w0 hs hk0 hv J Jx W hW hJ hY h0
end Go.Proofs.YtfenjincbhkodaaDoor

namespace Go.Proofs.YtfenjincbhkodaaDoor
set_option maxRecDepth 100000
set_option linter.unusedVariables false
set_option linter.unusedSimpArgs false
open Go.RowKit Rw
attribute [local go_sem] Oper.semAt_some
open Go.Shelf
/-- A range over a function whose loop variable lies in memory. -/
theorem range_H {α : Type} {P : Program} {g : Operand} {ps : Array Tmp} {assign body : Code} {Q : Exit → Act → World → Prop} {a : Act} {w : World} (n T : Nat) (row : α → List Value) (f : Act → α → Nat → Act)
    (h1 : 1 ≤ n) {gf : Nat} {lb : Array Value} (hg : a.eval g = .func (.func gf) #[] lb) (eg : ∀ args w, (callFunc gf args).run P w = .ok (.enter gf args) w)
    {encs : α → Array Value} {S Sp : List α → Prop} {N : Nat} (hseq : SeqStopsK Fence.wide (n - 1) P gf lb encs (Below w.heap.size) S Sp N w) (hps : ∀ x, (encs x).size = ps.size)
    (I : List α → World → Prop) (Ix : Code → List α → World → Prop) (hI : OwnFrom w.heap.size I) (hIx : ∀ c, OwnFrom w.heap.size (Ix c)) (hsz : ∀ pre W, I pre W → w.heap.size ≤ W.heap.size) (h0 : I [] w)
    (hassign : ∀ (l : Nat) (x : α) (W : World) (K : Act → World → Prop), (∀ B W', Below W.heap.size W W' → W.heap.size ≤ B → Arr W' B T (row x) → K (f a x B) W') →
      assign.wpIn (Fence.wide.inRound l) (n - 1 - 1) P (Exit.then K (fun _ _ _ => False)) { tmps := (ps.zip (encs x)).foldl (fun t (p, v) => t.setIfInBounds p v) a.tmps, defers := [] } W)
    (hbody : ∀ (l : Nat) (pre : List α) (x : α) (B : Nat) (W : World), I pre W → w.heap.size ≤ B → Arr W B T (row x) → pre.length < N → body.wpIn (Fence.wide.inRound l) (n - 1 - 1) P (ownPostG w.heap.size (Below w.heap.size) I Ix (pre ++ [x]) W) (f a x B) W)
    (hdone : ∀ (D : Nat) (xs : List α) (W : World), w.heap.size ≤ D → S xs → I xs W → W.heap[D]? = some (.deferred (some [])) → Q .normal { a with defers := { target := .collected D, args := #[] } :: a.defers } W)
    (hstop : ∀ (D : Nat) (c : Code) (pre : List α) (W : World), w.heap.size ≤ D → Sp pre → Ix c pre W → W.heap[D]? = some (.deferred (some [])) → c.wp P Q { a with defers := { target := .collected D, args := #[] } :: a.defers } W) :
    (Code.rangeFunc g ps assign body).wp P Q a w :=
  (wpIn_wide (n := n)).1 (wpIn_rangeFunc_ownH (F := Fence.wide) rfl h1 hg trivial eg hseq (fun h k => h.trans k) (fun W l o o' hl h _ _ => belowK_b (Nat.le_refl _) W l o o' hl h ‹_› ‹_›) (Below.refl _ _) hps I Ix hI hIx h0
    (fun x a' W => ∃ B, w.heap.size ≤ B ∧ Arr W B T (row x) ∧ a' = f a x B)
    (fun x a' s X Y rw_ hs hg' hr => by
      obtain ⟨B, hB, h2, h3⟩ := hs
      exact ⟨B, hB, (hg'.block B h2.lt (fun e => by obtain ⟨_, o, ho, hc⟩ := hr B e.symm; rw [show X.heap[B]? = _ from h2] at ho; cases ho; cases hc)).trans h2, h3⟩)
    (fun l pre x W K hi hK => hassign l x W K fun B W' hb hB ha => hK _ _ ((KeepsOthers.of_grownBy (row := none) (grown_of_below hb) (fun j o e => by cases e)).from _) (hb.mono (hsz _ _ hi)) (hI pre W W' none hi (grown_of_below hb) (fun r e => by cases e)) ⟨B, Nat.le_trans (hsz _ _ hi) hB, ha, rfl⟩)
    (fun l pre x a' W _ _ hi ⟨B, hB, ha, he⟩ hlt => he ▸ hbody l pre x B W hi hB ha hlt)
    hdone (fun D c pre W h1 h2 h3 h4 => wpIn_wide.2 (hstop D c pre W h1 h2 h3 h4)))

set_option maxHeartbeats 4000000 in
theorem ofKind_any (w : World) (v : Value) (cs : List Ce) (hv : CsAt w v cs) (k : Nat) : Calls Tryd.prog 92 #[v, .int .u8 (k : Int)] w fun e w' => ∃ bs bk, e = .returned (.func (.func 112) #[] #[.pointer (some ⟨bs, 0, none⟩), .pointer (some ⟨bk, 0, none⟩)]) ∧ Arr w' bs 56 [v] ∧ Arr w' bk 57 [.int .u8 (k : Int)] ∧ Below w.heap.size w w' := by
  obtain ⟨a0, c0, rfl⟩ := hv.form
  have H := hidp (Mm.M.nil w)
  go_enter Tryd.func92, Tryd.ntmps92
  go_wp2_with (first | (refine Mm.box1 56 H rfl (.tmp 0) rfl (.slice a0 cs.length c0) rfl rfl ?_; clear H; intro b2 _ H nw; clear nw) | (refine Mm.box1 57 H rfl (.tmp 1) rfl (.int .u8 (k : Int)) rfl rfl ?_; clear H; intro b3 _ H nw; clear nw))
  go_ret
  exact ⟨b2, b3, rfl, H.out.at1, H.out.at0, H.out.below⟩
/-- What is found among the cells of a kind. -/
def firK (cs : List Ce) (y : ByteArray) : Option Ev := (cs.find? fun c => decide (c.y = y)).map (·.e)
theorem firK_kiL (cs : List Ce) (k : Nat) (y : ByteArray) : firK (kiL cs k) y = firS cs k y := by
  unfold firK kiL kiT firS
  rw [List.take_length, List.find?_filter]
  congr 2
  funext a
  unfold isC
  simp
theorem firK_no {l : List Ce} {y : ByteArray} (h : l.all (fun c => !decide (c.y = y)) = true) : firK l y = none := by
  unfold firK
  rw [List.find?_eq_none.2 (fun c hc => ?_)]
  · rfl
  · have := List.all_eq_true.1 h c hc
    simpa using this
theorem firK_hit {p l : List Ce} {x : Ce} {y : ByteArray} (h : p.all (fun c => !decide (c.y = y)) = true) (hx : x.y = y) (hp : p ++ [x] <+: l) : firK l y = some x.e := by
  obtain ⟨t, rfl⟩ := hp
  unfold firK
  rw [List.append_assoc, List.find?_append, List.find?_eq_none.2 (fun c hc => by have := List.all_eq_true.1 h c hc; simpa using this)]
  simp [hx]
def zEv : Ev := ⟨⟨#[]⟩, ⟨#[]⟩, 0, ⟨#[]⟩, ⟨#[]⟩, 0⟩
def lastE (pre : List Ce) : Ev := (pre.getLast?.map (·.e)).getD zEv
theorem lastE_app (p : List Ce) (x : Ce) : lastE (p ++ [x]) = x.e := by unfold lastE; rw [List.getLast?_append]; rfl
theorem arr_own {β : Type} (B t : Nat) (f : β → List Value) : Go.Own (fun s W => Arr W B t (f s)) := fun s X Y row hs hg hr =>
  (hg.block B hs.lt (fun e => by obtain ⟨o, ho, hc⟩ := hr B e.symm; rw [show X.heap[B]? = _ from hs] at ho; cases ho; cases hc)).trans hs
theorem OwnAndF {β : Type} {I I' : β → World → Prop} (h : Go.Own I) (h' : Go.Own I') : Go.Own (fun s W => I s W ∧ I' s W) := fun s W W' row hs hg hr => ⟨h s W W' row hs.1 hg hr, h' s W W' row hs.2 hg hr⟩
def IFi (y : ByteArray) (w0 : World) (pre : List Ce) (W : World) : Prop := pre.all (fun c => !decide (c.y = y)) = true ∧ Below w0.heap.size w0 W
def IxFi (y : ByteArray) (w : World) (b6 b7 : Nat) (c : Code) (pre : List Ce) (W : World) : Prop := ((c = .ret ∧ ∃ p x, pre = p ++ [x] ∧ p.all (fun c => !decide (c.y = y)) = true ∧ x.y = y) ∧ (Arr W b6 59 (lastE pre).row ∧ Arr W b7 4 [.bool true])) ∧ Below w.heap.size w W
theorem IFi_own (y : ByteArray) (w0 : World) : OwnFrom w0.heap.size (IFi y w0) := OwnFrom.and (Go.Own.from (fun _ _ _ _ hs _ _ => hs) _) (ownFrom_below (Nat.le_refl _) (Nat.le_refl _))
theorem IxFi_own (y : ByteArray) (w : World) (b6 b7 : Nat) (c : Code) (B : Nat) (hB : w.heap.size ≤ B) : OwnFrom B (IxFi y w b6 b7 c) :=
  OwnFrom.and (Go.Own.from (OwnAndF (fun _ _ _ _ hs _ _ => hs) (OwnAndF (arr_own b6 59 (fun pre => (lastE pre).row)) (arr_own b7 4 (fun _ => [.bool true])))) _) (ownFrom_below (Nat.le_refl _) hB)
def foV : Option Ev → Value
  | some e => .tuple #[.agg e.row.toArray, .bool true]
  | none => .tuple #[.agg zEv.row.toArray, .bool false]

theorem naB : Mm.NA Tryd.prog 4 := ⟨_, Tryd.underlying4, rfl⟩
set_option maxHeartbeats 16000000 in
theorem sfirst_any (w : World) (v : Value) (cs : List Ce) (hv : CsAt w v cs) (k : Nat) (y : ByteArray) :
    Calls Tryd.prog 68 #[v, .int .u8 (k : Int), .string y] w fun e w' => e = .returned (foV (firS cs k y)) ∧ Below w.heap.size w w' := by
  have HV := hidp hv
  have cO := hidp (fun W h => ofKind_any W v cs h k)
  have HFK := hidp (firK_kiL cs k y)
  have H := hidp (Mm.M.nil w)
  clear hv
  refine (callsIn_wide (n := 8)).1 ?_
  refine callsIn_of_wp_marks Tryd.func68 rfl trivial ?_ rfl
  refine wpIn_wide.2 ?_
  simp only [Tryd.ntmps68, List.size_toArray, List.length_cons, List.length_nil, Nat.reduceAdd, Nat.reduceSub, Array.replicate_succ, Array.replicate_zero, List.push_toArray, List.append_toArray, List.nil_append, List.cons_append]
  go_wp2_with (first | (refine Mm.box1 9 H rfl (.tmp 2) rfl (.string y) rfl rfl ?_; clear H; intro b5 _ H nw; have hb := nw.below; clear hb nw) | (refine Mm.new rtE H (some 6) rfl rfl rfl ?_; clear H; intro b6 _ H nw; have hb := nw.below; clear hb nw) | (refine Mm.new1 4 (.bool false) (by kernel_rfl) rfl H (some 7) rfl rfl rfl ?_; clear H; intro b7 _ H nw; have hb := nw.below; clear hb nw) | (go_at_call 92; refine (cO.out _ (HV.out.to H.out.below)).mono ?_; rintro e wz ⟨bs, bk, rfl, h1, h2, hb⟩; replace H := hidp (H.out.call hb); have HS1 := hidp h1; have HS2 := hidp h2; clear h1 h2; clear hb))
  have hg := H.out.below.size
  refine range_H (α := Ce) 8 68 Ce.row (fun a x B => { tmps := (a.tmps.setIfInBounds 12 (.agg x.row.toArray)).setIfInBounds 8 (.pointer (some ⟨B, 0, none⟩)), defers := [] }) (by omega) (gf := 112) (lb := #[.pointer (some ⟨bs, 0, none⟩), .pointer (some ⟨bk, 0, none⟩)]) rfl (enters_of Tryd.func112 (by kernel_rfl) rfl)
    (encs := encCe) (S := fun ys => ys = kiL cs k) (Sp := fun pre => pre <+: kiL cs k) (N := (kiL cs k).length)
    (ofKind_stops (8 - 1) (by omega) bs bk k cs v wz HS1.out HS2.out (HV.out.to H.out.below)) (fun _ => rfl)
    (IFi y wz) (IxFi y w b6 b7) (IFi_own _ _) (fun c => IxFi_own _ _ _ _ _ _ hg) (fun pre W h => h.2.size) ⟨rfl, Below.refl _ _⟩ ?assign ?body ?done ?stop
  case assign =>
    intro l x W K hK
    have HK := hidp hK
    clear hK
    simp only [encCe]
    rw [show ∀ (t : Array Value) (v : Value), Array.foldl (fun (t : Array Value) (x : Tmp × Value) => t.setIfInBounds x.1 x.2) t ((#[12] : Array Tmp).zip #[v]) = t.setIfInBounds 12 v from fun t v => by simp]
    simp only [List.setIfInBounds_toArray, List.set_cons_zero, List.set_cons_succ]
    gi_wp2_with (first | (refine Rnd.to_in (Rnd.roundF l) rfl ?_; refine Rt.wpL_new rtC (some 8) rfl rfl rfl ?_; intro b8 W1 n1; refine ⟨rfl, ?_⟩) | (refine Rnd.to_in (Rnd.roundF l) rfl ?_; refine Rt.wpL_put rtC rfl (.tmp 8) (.tmp 12) rfl b8 x.row rfl rfl rfl (Ce.one x) zC rfl n1.arr ?_; intro W2 ha st; refine ⟨rfl, ?_⟩))
    exact HK.out b8 W2 (n1.put st) n1.le ha
  case body =>
    rintro l pre x B W ⟨hpre, hB⟩ hBB hA hlt
    have HPRE := hidp hpre; have HBW := hidp hB; have HA := hidp hA
    have x1 := hA.cell 1 (by simp [Ce.row])
    have H5 := hidp (H.out.at2.below hB H.out.at2.lt); have H6 := hidp (H.out.at1.below hB H.out.at1.lt); have H7 := hidp (H.out.at0.below hB H.out.at0.lt)
    have x5 := H5.out.cell 0 (by simp)
    have h67 := hidp (show b6 ≠ b7 from by have := (List.pairwise_cons.1 H.out.inc).1 ⟨b6, 59, zE⟩ (by simp); show b6 ≠ b7; simp only at this; omega)
    have hg6 := hidp (H.out.ge ⟨b6, 59, zE⟩ (by simp)); have hg7 := hidp (H.out.ge ⟨b7, 4, [.bool false]⟩ (by simp))
    simp only [Ce.row, List.getElem_cons_zero, List.getElem_cons_succ] at x1 x5
    clear hpre hB hA hlt
    simp only [List.setIfInBounds_toArray, List.set_cons_zero, List.set_cons_succ]
    by_cases he : x.y = y
    · have e1 : (x.y.toList == y.toList) = true := by rw [he]; simp
      have HIX := hidp (show ∃ p z, pre ++ [x] = p ++ [z] ∧ p.all (fun c => !decide (c.y = y)) = true ∧ z.y = y from ⟨pre, x, rfl, HPRE.out, he⟩)
      have HLE := hidp (lastE_app pre x)
      clear he
      gi_wp2_with (first | (refine Rnd.to_in (Rnd.roundF l) rfl ?_; refine wpL_mid rtE rfl (.tmp 17) B 2 x.e.row rfl rfl rfl (ce_evA HA.out) ?_; refine ⟨rfl, ?_⟩) | (refine Rnd.to_in (Rnd.roundF l) rfl ?_; refine Rt.wpL_put rtE rfl (.tmp 6) (.tmp 18) rfl b6 x.e.row rfl rfl rfl (Ev.one x.e) zE rfl H6.out ?_; intro W2 ha st; refine ⟨rfl, ?_⟩; have HR6 := hidp ha; have HR7 := hidp (st.arr h67.out.symm H7.out); have HKO := hidp (Rnd.others_stp st H6.out); have HBZ := hidp (st.below' (H.out.below.trans (HBW.out.mono H.out.below.size)) hg6.out); clear ha st x1 x5) | (refine Rnd.to_in (Rnd.roundF l) rfl ?_; refine Rt.wpL_putF rfl 4 (.tmp 7) (.const (.bool true)) rfl b7 0 (.bool true) rfl rfl (by kernel_rfl) rfl [.bool false] HR7.out (by simp) ?_; intro W3 ha st; refine ⟨rfl, ?_⟩; have HQ6 := hidp (st.arr h67.out HR6.out); have HQ7 := hidp (show Arr W3 b7 4 [.bool true] from ha); have HKP := hidp (HKO.out.trans (Rnd.others_stp st HR7.out)); have HBY := hidp (st.below' HBZ.out hg7.out); clear ha st))
      exact ⟨HKP.out.from _, ⟨⟨rfl, HIX.out⟩, by rw [HLE.out]; exact HQ6.out, HQ7.out⟩, HBY.out⟩
    · have e1 : (x.y.toList == y.toList) = false := by rw [beq_eq_false_iff_ne]; exact fun g => he (ba_inj' g)
      have HAL := hidp (show (pre ++ [x]).all (fun c => !decide (c.y = y)) = true from by rw [List.all_append, HPRE.out]; simp [he])
      clear he
      gi_wp2_with fail
      exact ⟨(KeepsOthers.refl _).from _, Below.refl _ _, HAL.out, HBW.out⟩
  case done =>
    rintro D xs W hD rfl ⟨hpre, hB⟩ hK
    have HF := hidp (show firS cs k y = none from by rw [← HFK.out]; exact firK_no hpre)
    have HBW := hidp hB; have HK := hidp hK
    have H6a := hidp (H.out.at1.below hB H.out.at1.lt); have H7a := hidp (H.out.at0.below hB H.out.at0.lt)
    have h67 := hidp (show b6 ≠ b7 from by have := (List.pairwise_cons.1 H.out.inc).1 ⟨b6, 59, zE⟩ (by simp); simp only at this; omega)
    have hg6 := hidp (H.out.ge ⟨b6, 59, zE⟩ (by simp)); have hg7 := hidp (H.out.ge ⟨b7, 4, [.bool false]⟩ (by simp))
    have hbD := hidp (show b6 < D ∧ b7 < D from ⟨by have := H.out.at1.lt; omega, by have := H.out.at0.lt; omega⟩)
    clear hpre hB hK
    go_wp2_with (first | (refine Rt.wpL_build rfl 59 _ rfl zE (by kernel_rfl) ?_) | (refine Rt.wpL_put rtE rfl (.tmp 6) (.tmp 19) rfl b6 zE rfl rfl rfl (by simp [zE, Value.oneCell']) zE rfl H6a.out ?_; intro W2 ha st; have H6b := hidp ha; have H7b := hidp (st.arr h67.out.symm H7a.out); have HD2 := hidp ((st.other D (by have := hbD.out; omega)).trans HK.out); have HB2 := hidp (st.below' (H.out.below.trans (HBW.out.mono H.out.below.size)) hg6.out); clear ha st) | (refine Rt.wpL_putF rfl 4 (.tmp 7) (.const (.bool false)) rfl b7 0 (.bool false) rfl rfl (by kernel_rfl) rfl [.bool false] H7b.out (by simp) ?_; intro W3 ha st; have H6 := hidp (st.arr h67.out H6b.out); have H7 := hidp (show Arr W3 b7 4 [.bool false] from ha); have HDZ := hidp ((st.other D (by have := hbD.out; omega)).trans HD2.out); have HBZ := hidp (st.below' HB2.out hg7.out); clear ha st))
    have h6 := hidp (show Arr (W3.putObj D (.deferred none)) b6 59 _ from ((grownBy_putObj' W3 D (.deferred none)).block b6 H6.out.lt (fun e => by cases e; have := hbD.out; omega)).trans H6.out)
    have h7 := hidp (show Arr (W3.putObj D (.deferred none)) b7 4 _ from ((grownBy_putObj' W3 D (.deferred none)).block b7 H7.out.lt (fun e => by cases e; have := hbD.out; omega)).trans H7.out)
    refine ⟨by simp [Act.put], .inl ⟨_, _, rfl, run_takeDeferred HDZ.out, ?_⟩⟩
    refine ⟨_, Mm.ret_rowc rtE naB Tryd.results68 _ b6 b7 _ _ rfl rfl h6.out rfl (h7.out.cell 0 (by simp)), by rw [HF.out]; rfl, HBZ.out.grown (grownBy_putObj' W3 D (.deferred none)) HBZ.out.size (fun k e => by cases e; have := hD; have := H.out.below.size; omega)⟩
  case stop =>
    rintro D c pre W hD hsp ⟨⟨⟨rfl, p, x, rfl, hp, hx⟩, h6, h7⟩, hB⟩ hK
    have HF := hidp (show firS cs k y = some x.e from by rw [← HFK.out]; exact firK_hit hp hx hsp)
    rw [lastE_app] at h6
    have hbD := hidp (show b6 < D ∧ b7 < D from ⟨by have := H.out.at1.lt; omega, by have := H.out.at0.lt; omega⟩)
    have H6 := hidp h6; have H7 := hidp h7; have HBZ := hidp hB; have HDZ := hidp hK
    clear h6 h7 hB hK hp hx hsp
    refine wp_ret ?_
    have h6 := hidp (show Arr (W.putObj D (.deferred none)) b6 59 _ from ((grownBy_putObj' W D (.deferred none)).block b6 H6.out.lt (fun e => by cases e; have := hbD.out; omega)).trans H6.out)
    have h7 := hidp (show Arr (W.putObj D (.deferred none)) b7 4 _ from ((grownBy_putObj' W D (.deferred none)).block b7 H7.out.lt (fun e => by cases e; have := hbD.out; omega)).trans H7.out)
    refine ⟨by simp [Act.put], .inl ⟨_, _, rfl, run_takeDeferred HDZ.out, ?_⟩⟩
    refine ⟨_, Mm.ret_rowc rtE naB Tryd.results68 _ b6 b7 _ _ rfl rfl h6.out rfl (h7.out.cell 0 (by simp)), by rw [HF.out]; rfl, HBZ.out.grown (grownBy_putObj' W D (.deferred none)) HBZ.out.size (fun k e => by cases e; have := hD; have := H.out.below.size; omega)⟩
end Go.Proofs.YtfenjincbhkodaaDoor

namespace Go.Proofs.YtfenjincbhkodaaDoor
set_option maxRecDepth 100000
set_option linter.unusedVariables false
set_option linter.unusedSimpArgs false
open Go.RowKit Rw

def wLeave : ByteArray := ⟨#[108, 101, 97, 118, 101]⟩
def memS (cs : List Ce) (u : ByteArray) : ByteArray := ((firS cs 2 u).map (·.body)).getD wLeave
theorem firS_ok {cs : List Ce} (h : ∀ c ∈ cs, c.ok) {k : Nat} {y : ByteArray} {e : Ev} (he : firS cs k y = some e) : e.ok := by
  unfold firS at he
  cases hf : cs.find? (isC k y) with
  | none => rw [hf] at he; cases he
  | some c =>
    rw [hf] at he
    simp only [Option.map_some, Option.some.injEq] at he
    subst he
    exact (h c (List.mem_of_find?_eq_some hf)).e
set_option maxHeartbeats 8000000 in
theorem mem_any (w : World) (v : Value) (cs : List Ce) (hv : CsAt w v cs) (y : ByteArray) :
    Calls Tryd.prog 31 #[v, .string y] w fun x w' => x = .returned (.string (memS cs y)) ∧ Below w.heap.size w w' := by
  have HV := hidp hv
  have cf := hidp (fun W h => sfirst_any W v cs h 2 y)
  have H := hidp (Mm.M.nil w)
  cases hf : firS cs 2 y with
  | none =>
    rw [hf] at cf
    have HM := hidp (show memS cs y = wLeave from by unfold memS; rw [hf]; rfl)
    simp only [foV] at cf
    clear hv hf
    go_enter Tryd.func31, Tryd.ntmps31
    go_wp2_with (first | (go_at_call 68; refine (cf.out _ (HV.out.to H.out.below)).mono ?_; rintro e _ ⟨rfl, hb⟩; replace H := hidp (H.out.call hb); clear hb) | (refine Mm.new rtE H (some 5) rfl rfl rfl ?_; clear H; intro b5 _ H nw; have hb := nw.below; clear hb nw) | (refine Mm.put0 rtE H rfl (.tmp 5) (.tmp 11) zEv.row rfl rfl rfl rfl (Ev.one _) rfl ?_; intro _ H2 st; clear st H; have H := H2; clear H2))
    go_ret
    exact ⟨by rw [HM.out]; rfl, H.out.below⟩
  | some e =>
    have he := firS_ok hv.ok hf
    rw [hf] at cf
    have HM := hidp (show memS cs y = e.body from by unfold memS; rw [hf]; rfl)
    have cc := hidp (fun W => strClone_any e.body W he.b)
    simp only [foV] at cf
    clear hv hf
    go_enter Tryd.func31, Tryd.ntmps31
    go_wp2_with (first | (go_at_call 68; refine (cf.out _ (HV.out.to H.out.below)).mono ?_; rintro e _ ⟨rfl, hb⟩; replace H := hidp (H.out.call hb); clear hb) | (refine Mm.new rtE H (some 5) rfl rfl rfl ?_; clear H; intro b5 _ H nw; have hb := nw.below; clear hb nw) | (refine Mm.put0 rtE H rfl (.tmp 5) (.tmp 11) e.row rfl rfl rfl rfl (Ev.one _) rfl ?_; intro _ H2 st; clear st H; have H := H2; clear H2) | (refine Mm.ld0 naS H rfl (.tmp 15) 4 (.string e.body) rfl rfl rfl ?_) | (go_at_call 69; refine (cc.out _).mono ?_; rintro e _ ⟨rfl, hb⟩; replace H := hidp (H.out.call hb); clear hb))
    go_ret
    exact ⟨by rw [HM.out]; rfl, H.out.below⟩
end Go.Proofs.YtfenjincbhkodaaDoor
