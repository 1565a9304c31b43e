
/-
  Plain laws inside a fence: an operation, and a region by a script, in a round or out of it.
-/
import Derived.Test.YtokakgjcegmabaaBaC
import Derived.Test.YtokakgjcegmabaaRt
import Derived.RangeFuncFrom
import Derived.RangeFuncCalls
import Derived.OwnWalkIn
import Derived.OrdersIn
import Derived.TacticsIn
namespace Go.Proofs.Ytokakgjcegmabaa.Rnd
set_option linter.unusedVariables false
set_option linter.unusedSimpArgs false
open Go.RowKit

/-- No defer statement, no call of a row. -/
def noDefer : Op → Bool
  | .defer _ => false
  | _ => true
theorem noDefer_op {o : Op} (h : noDefer o = true) (c : Call) : o ≠ .defer c := by
  rintro rfl; cases h
/-- Wide, in a round or not. -/
structure WideF (F : Fence) : Prop where
  fn : ∀ f, F.fn f
  depth : F.depth = none
  calls : ∀ {n : Nat} {P : Program} {f : FuncId} {args : Array Value} {w : World} {R : Ending → World → Prop}, Calls P f args w R → CallsIn F n P f args w R
  rows : ∀ {n : Nat} {P : Program} {r : String} {args : Array Value} {w : World} {R : Value → World → Prop}, Rows P r args w R → RowsIn F n P r args w R
variable {F : Fence} {n : Nat} {P : Program} {ops : Array Oper} {Q : Exit → Act → World → Prop} {a : Act} {w : World} {rest : List Oper} {o : Oper} {md : Region.Mode}
theorem op_in (hF : WideF F) (hd : noDefer o.op = true) {K : Act → World → Prop} {Q' : Exit → Act → World → Prop} (hp : ∀ c a w, Q' (.panic c) a w → Q (.panic c) a w) (hl : ∀ a w, ¬ Q' .outgrown a w) (h : o.wp P a w K Q') : o.wpIn F n P a w K Q := by
  unfold Oper.wpIn
  rw [Oper.semAt_plain _ _ _ (noDefer_op hd)]
  refine ⟨fun f _ => hF.fn f, ?_⟩
  unfold Oper.wp at h
  generalize (execOp a.eval o).run P w = r at h ⊢
  have hdep : F.depth.isSome = true → 1 ≤ n := by rw [hF.depth]; intro h; cases h
  cases r with
  | ok x w' =>
    cases x with
    | value v => exact h
    | skip => exact h
    | defer d => exact h
    | enter f args =>
      refine ⟨hdep, hF.calls (Calls.mono h ?_)⟩
      intro e w'' he
      cases e with
      | returned v => exact he
      | panicked c => exact hp _ _ _ he
      | outgrown => obtain ⟨a, w, hh⟩ := he; exact absurd hh (hl _ _)
    | row r args => exact ⟨hdep, hF.rows h⟩
    | _ => exact h.elim
  | halt x w' =>
    cases x <;> first | exact hp _ _ _ h | exact h.elim
/-- A plain law at one operation, inside a fence. -/
theorem to_in (hF : WideF F) (hd : noDefer o.op = true) (h : wpList P ops (fun e a w => e = .normal ∧ wpListIn F n P ops Q rest a w) [o] a w) : wpListIn F n P ops Q (o :: rest) a w := by
  unfold wpListIn
  unfold wpList at h
  split
  · rename_i hw
    rw [if_pos hw] at h
    rcases h with h | ⟨_, a', w', hh⟩
    · refine op_in hF hd (Q' := fun e a w => e = .normal ∧ wpListIn F n P ops Q rest a w) (fun c a w hh => by cases hh.1) (fun a w hh => by cases hh.1) ?_
      exact Oper.wp_mono (fun a w hh => hh.2) h
    · cases hh.1
  · rename_i hw
    rw [if_neg hw] at h
    exact ⟨fun f _ => hF.fn f, h.2⟩
theorem opIn_any (hF : WideF F) (hl : ∀ a w, ¬ Q .outgrown a w) {i : Nat} (hd : ∀ o, ops[i]? = some o → noDefer o.op = true) {K : Act → World → Prop} (h : wpOp P ops Q i K a w) : wpOpIn F n P ops Q i K a w := by
  unfold wpOp at h
  unfold wpOpIn
  split
  · rename_i hn; simp only [hn] at h; exact h
  · rename_i o ho
    simp only [ho] at h
    split
    · rename_i hw
      rw [if_pos hw] at h
      rcases h with h | ⟨_, a', w', hh⟩
      · exact op_in hF (hd o ho) (fun _ _ _ h => h) hl h
      · exact absurd hh (hl _ _)
    · rename_i hw
      rw [if_neg hw] at h
      exact ⟨fun f _ => hF.fn f, h⟩
theorem any_in (hF : WideF F) (hl : ∀ a w, ¬ Q .outgrown a w) (hd : ∀ (i : Nat) o, ops[i]? = some o → noDefer o.op = true) : ∀ (fuel : Nat) (L : Array Bool) (a : Act) (w : World), wpAny P md ops Q fuel L a w → wpAnyIn F n P md ops Q fuel L a w
  | 0, _, _, _, h => h
  | fuel + 1, L, a, w, h => ⟨h.1, fun i hi => opIn_any hF hl (hd i) (wpOp_mono (fun a w h => any_in hF hl hd fuel _ a w h) (h.2 i hi))⟩
theorem noDefer_all (h : (ops.all fun o => noDefer o.op) = true) (i : Nat) (o : Oper) (ho : ops[i]? = some o) : noDefer o.op = true := by
  obtain ⟨hi, rfl⟩ := Array.getElem?_eq_some_iff.1 ho
  exact (Array.all_eq_true.1 h) i hi
/-- A region that draws its order, by a script, inside a fence. -/
theorem in_region_scr {id : Nat} (S : World → Prop) (s : Scr) (hF : WideF F) (hl : ∀ a w, ¬ Q .outgrown a w) (hnd : (ops.all fun o => noDefer o.op) = true) (hm : P.follows .mixedOrders = true) (hs : Region.noSelect ops = true)
    (hQ : ∀ c (a : Act) (d : Option Tmp) (v : Value) (w : World), Q (.panic c) (a.put d v) w → Q (.panic c) a w)
    (hd : s.depth ≤ ops.size) (hc : s.chk .any ops (Array.replicate ops.size false) = true) (hS : S { w with drawn := w.drawn + 1 }) (h : wpScr P ops Q s S a { w with drawn := w.drawn + 1 }) : (Code.region id ops true).wpIn F n P Q a w :=
  wpIn_region_any hm (any_in hF hl (noDefer_all hnd) _ _ _ _ (wpAny_of_held _ _ _ _ (scrH hs hQ s S _ _ _ _ hd hc hS h)))
/-- The same, whatever stands behind: the region only ends. -/
theorem in_region_scr0 {id : Nat} (S : World → Prop) (s : Scr) (hF : WideF F) (hnd : (ops.all fun o => noDefer o.op) = true) (hm : P.follows .mixedOrders = true) (hs : Region.noSelect ops = true)
    (hd : s.depth ≤ ops.size) (hc : s.chk .any ops (Array.replicate ops.size false) = true) (hS : S { w with drawn := w.drawn + 1 }) (h : wpScr P ops (fun e a w => e = .normal ∧ Q .normal a w) s S a { w with drawn := w.drawn + 1 }) : (Code.region id ops true).wpIn F n P Q a w :=
  wpIn_mono (in_region_scr (Q := fun e a w => e = .normal ∧ Q .normal a w) S s hF (fun a w h => by cases h.1) hnd hm hs (fun c a d v w h => by cases h.1) hd hc hS h) (by rintro e a w ⟨rfl, h⟩; exact h)
theorem scr_done0 {S : World → Prop} (h : Q .normal a w) : wpScr P ops (fun e a w => e = .normal ∧ Q .normal a w) .done S a w := ⟨rfl, h⟩
theorem scr_done {S : World → Prop} (h : Q .normal a w) : wpScr P ops Q .done S a w := h
theorem wideF : WideF Fence.wide := ⟨fun _ => trivial, rfl, fun h => callsIn_wide.2 h, fun {n P r args w R} h => fun c cs hr => by
  obtain ⟨v, w', hr, hs⟩ := h c cs
  exact ⟨v, w', hr, stepsIn_wide.2 hs⟩⟩
theorem roundF (l : Nat) : WideF (Fence.wide.inRound l) := ⟨fun _ => trivial, rfl, fun h => CallsIn.inRound l (callsIn_wide.2 h), fun {n P r args w R} h => fun c cs hr => by
  obtain ⟨v, w', hr, hs⟩ := h c cs
  refine ⟨v, w', hr, ?_⟩
  rw [fenced_inRound]
  exact stepsIn_wide.2 hs⟩
/-- A store into a block of cells keeps all that is no cells. -/
theorem others_stp {b t : Nat} {w W : World} {xs : List Value} (h : Rt.Stp b w W) (ha : Arr w b t xs) : KeepsOthers w W :=
  ⟨by rw [h.size]; exact Nat.le_refl _, fun k o hk ho => by
    refine (h.other k ?_).trans hk
    rintro rfl
    rw [show w.heap[k]? = _ from ha] at hk
    cases hk; cases ho⟩
/-- All blocks below m but one are as they were. -/
structure Exc (b m : Nat) (X Y : World) : Prop where
  size : X.heap.size ≤ Y.heap.size
  same : ∀ k, k < m → k ≠ b → Y.heap[k]? = X.heap[k]?
theorem Exc.trans {b m : Nat} {X Y Z : World} (h : Exc b m X Y) (k : Exc b m Y Z) : Exc b m X Z := ⟨Nat.le_trans h.size k.size, fun i hi hb => (k.same i hi hb).trans (h.same i hi hb)⟩
theorem Exc.refl (b m : Nat) (X : World) : Exc b m X X := ⟨Nat.le_refl _, fun _ _ _ => rfl⟩
theorem Exc.of_below {b m : Nat} {X Y : World} (h : Below X.heap.size X Y) (hm : m ≤ X.heap.size) : Exc b m X Y := ⟨h.size, fun k hk _ => h.block k (by omega)⟩
theorem Exc.of_stp {b m : Nat} {X Y : World} (h : Rt.Stp b X Y) : Exc b m X Y := ⟨by rw [h.size]; exact Nat.le_refl _, fun k _ hb => h.other k hb⟩
theorem Exc.arr {b m c t : Nat} {X Y : World} {xs : List Value} (h : Exc b m X Y) (hc : c < m) (hb : c ≠ b) (ha : Arr X c t xs) : Arr Y c t xs := (h.same c hc hb).trans ha
theorem Exc.put {b : Nat} {w : World} (W : World) (l : Nat) (o o' : Obj) (hl : w.heap.size ≤ l) (h : W.heap[l]? = some o) : Exc b w.heap.size W (W.putObj l o') :=
  ⟨(grownBy_putObj' W l o').size, fun k hk _ => (grownBy_putObj' W l o').block k (by have := (Array.getElem?_eq_some_iff.1 h).1; omega) (fun e => by cases e; omega)⟩
theorem range_K {α : Type} {g : Operand} {ps : Array Tmp} {assign body : Code} {Q : Exit → Act → World → Prop} {a : Act} {w : World} (n b : Nat) (f : Act → α → Act)
    (h1 : 1 ≤ n) {gf : Nat} {lb : Array Value} (hg : a.eval g = .func (.func gf) #[] lb) (eg : ∀ args w, (callFunc gf args).run P w = .ok (.enter gf args) w)
    {encs : α → Array Value} {S Sp : List α → Prop} {N : Nat} (hseq : SeqStopsK Fence.wide (n - 1) P gf lb encs (Exc b w.heap.size) S Sp N w) (hps : ∀ x, (encs x).size = ps.size)
    (I : List α → World → Prop) (Ix : Code → List α → World → Prop) (hI : OwnFrom w.heap.size I) (hIx : ∀ c, OwnFrom w.heap.size (Ix c)) (h0 : I [] w)
    (hassign : ∀ (l : Nat) (x : α) (W : World) (K : Act → World → Prop), K (f a x) W →
      assign.wpIn (Fence.wide.inRound l) (n - 1 - 1) P (Exit.then K (fun _ _ _ => False)) { tmps := (ps.zip (encs x)).foldl (fun t (p, v) => t.setIfInBounds p v) a.tmps, defers := [] } W)
    (hbody : ∀ (l : Nat) (pre : List α) (x : α) (W : World), I pre W → pre.length < N → body.wpIn (Fence.wide.inRound l) (n - 1 - 1) P (ownPostK (Exc b w.heap.size) I Ix (pre ++ [x]) W) (f a x) W)
    (hdone : ∀ (D : Nat) (xs : List α) (W : World), w.heap.size ≤ D → S xs → I xs W → W.heap[D]? = some (.deferred (some [])) → Q .normal { a with defers := { target := .collected D, args := #[] } :: a.defers } W)
    (hstop : ∀ (D : Nat) (c : Code) (pre : List α) (W : World), w.heap.size ≤ D → Sp pre → Ix c pre W → W.heap[D]? = some (.deferred (some [])) → c.wp P Q { a with defers := { target := .collected D, args := #[] } :: a.defers } W) :
    (Code.rangeFunc g ps assign body).wp P Q a w :=
  (wpIn_wide (n := n)).1 (wpIn_rangeFunc_ownF (F := Fence.wide) rfl h1 hg trivial eg hseq (fun h k => h.trans k) (fun W l o o' hl h _ _ => Exc.put W l o o' hl h) (Below.refl _ _) hps I Ix hI hIx h0 (f a) hassign hbody hdone
    (fun D c pre W h1 h2 h3 h4 => wpIn_wide.2 (hstop D c pre W h1 h2 h3 h4)))
/-- A range over a function in the plain calculus: what a round's frame is, is said of the frame ahead of the loop. -/
theorem range_F {α : Type} {g : Operand} {ps : Array Tmp} {assign body : Code} {Q : Exit → Act → World → Prop} {a : Act} {w : World} (n : Nat) (f : Act → α → Act)
    (h1 : 1 ≤ n) {gf : Nat} {lb : Array Value} (hg : a.eval g = .func (.func gf) #[] lb) (eg : ∀ args w, (callFunc gf args).run P w = .ok (.enter gf args) w)
    {encs : α → Array Value} {S Sp : List α → Prop} {N : Nat} (hseq : SeqStopsK Fence.wide (n - 1) P gf lb encs (Below w.heap.size) S Sp N w) (hps : ∀ x, (encs x).size = ps.size)
    (I : List α → World → Prop) (Ix : Code → List α → World → Prop) (hI : OwnFrom w.heap.size I) (hIx : ∀ c, OwnFrom w.heap.size (Ix c)) (h0 : I [] w)
    (hassign : ∀ (l : Nat) (x : α) (W : World) (K : Act → World → Prop), K (f a x) W →
      assign.wpIn (Fence.wide.inRound l) (n - 1 - 1) P (Exit.then K (fun _ _ _ => False)) { tmps := (ps.zip (encs x)).foldl (fun t (p, v) => t.setIfInBounds p v) a.tmps, defers := [] } W)
    (hbody : ∀ (l : Nat) (pre : List α) (x : α) (W : World), I pre W → pre.length < N → body.wpIn (Fence.wide.inRound l) (n - 1 - 1) P (ownPostK (Below w.heap.size) I Ix (pre ++ [x]) W) (f a x) W)
    (hdone : ∀ (D : Nat) (xs : List α) (W : World), w.heap.size ≤ D → S xs → I xs W → W.heap[D]? = some (.deferred (some [])) → Q .normal { a with defers := { target := .collected D, args := #[] } :: a.defers } W)
    (hstop : ∀ (D : Nat) (c : Code) (pre : List α) (W : World), w.heap.size ≤ D → Sp pre → Ix c pre W → W.heap[D]? = some (.deferred (some [])) → c.wp P Q { a with defers := { target := .collected D, args := #[] } :: a.defers } W) :
    (Code.rangeFunc g ps assign body).wp P Q a w :=
  (wpIn_wide (n := n)).1 (wpIn_rangeFunc_ownF (F := Fence.wide) rfl h1 hg trivial eg hseq (fun h k => h.trans k) (fun W l o o' hl h _ _ => belowK_b (Nat.le_refl _) W l o o' hl h ‹_› ‹_›) (Below.refl _ _) hps I Ix hI hIx h0 (f a) hassign hbody hdone
    (fun D c pre W h1 h2 h3 h4 => wpIn_wide.2 (hstop D c pre W h1 h2 h3 h4)))
end Go.Proofs.Ytokakgjcegmabaa.Rnd
