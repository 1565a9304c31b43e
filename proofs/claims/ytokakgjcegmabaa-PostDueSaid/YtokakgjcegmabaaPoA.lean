/-
  A range over a function whose iterator goes through a queue: it takes out each one, hands on where it lies, and puts back what the body leaves there.
-/
import Derived.Test.YtokakgjcegmabaaBaA
import Derived.Test.YtokakgjcegmabaaRnd
import Derived.RangeFuncNested
import Derived.RangeFuncBound
import Derived.RangeFuncCalls
import Derived.RangeFuncLeaves
import Derived.WalkKit
import Derived.OwnWalkIn
import Derived.LoopNIn
import Derived.LoopIn
import Derived.Conc.LoneCalls
import Derived.Conc.LoneSelect
namespace Go.Proofs.Ytokakgjcegmabaa.Po
set_option linter.unusedVariables false
set_option linter.unusedSimpArgs false
open Go.RowKit

/-- A queue in memory. -/
def ChAt (w : World) (c cap : Nat) (xs : List Value) : Prop := ∃ s r, w.heap[c]? = some (.chan cap xs.toArray false s r false)
theorem ChAt.lt {w : World} {c cap : Nat} {xs : List Value} (h : ChAt w c cap xs) : c < w.heap.size := by
  obtain ⟨s, r, h⟩ := h; exact (Array.getElem?_eq_some_iff.1 h).1
theorem ChAt.to {w W : World} {c cap : Nat} {xs : List Value} (h : ChAt w c cap xs) (hs : W.heap[c]? = w.heap[c]?) : ChAt W c cap xs := by
  obtain ⟨s, r, h⟩ := h; exact ⟨s, r, hs.trans h⟩
theorem ChAt.ne {w : World} {c cap b t : Nat} {xs ys : List Value} (h : ChAt w c cap xs) (ha : Arr w b t ys) : b ≠ c := by
  rintro rfl; obtain ⟨s, r, h⟩ := h; rw [show w.heap[b]? = _ from ha] at h; cases h
/-- Blocks of the iterator's own kind. -/
def lvO (lv : Nat → Nat → Prop) (k : Nat) : Obj → Prop
  | .cells _ t _ => lv k t
  | _ => False
theorem lvO_cells {lv : Nat → Nat → Prop} {k : Nat} {o : Obj} (h : lvO lv k o) : o.isCells = true := by cases o <;> first | rfl | exact h.elim
/-- What the iterator does: it writes the queue, and blocks of its own kind; what is belowP m, and what is cells, stands. -/
structure Im (p : Nat → Obj → Prop) (c : Nat) (lv : Nat → Nat → Prop) (w W : World) : Prop where
  os : W.os = w.os
  tape : W.tape = w.tape
  output : W.output = w.output
  size : w.heap.size ≤ W.heap.size
  same : ∀ (k : Nat) (o : Obj), w.heap[k]? = some o → k ≠ c → ¬ lvO lv k o → p k o → W.heap[k]? = some o
def all : Nat → Obj → Prop := fun _ _ => True
def lowP (m : Nat) : Nat → Obj → Prop := fun k o => k < m ∨ o.isCells = true
theorem Im.refl {p : Nat → Obj → Prop} {c : Nat} {lv : Nat → Nat → Prop} (w : World) : Im p c lv w w := ⟨rfl, rfl, rfl, Nat.le_refl _, fun _ _ h _ _ _ => h⟩
theorem Im.trans {p : Nat → Obj → Prop} {c : Nat} {lv : Nat → Nat → Prop} {A B C : World} (h : Im p c lv A B) (k : Im p c lv B C) : Im p c lv A C :=
  ⟨k.os.trans h.os, k.tape.trans h.tape, k.output.trans h.output, Nat.le_trans h.size k.size, fun i o hi hc hl hp => k.same i o (h.same i o hi hc hl hp) hc hl hp⟩
theorem Im.toLow {c m : Nat} {lv : Nat → Nat → Prop} {A B : World} (h : Im all c lv A B) : Im (lowP m) c lv A B := ⟨h.os, h.tape, h.output, h.size, fun i o hi hc hl _ => h.same i o hi hc hl trivial⟩
theorem Im.of_below {p : Nat → Obj → Prop} {c : Nat} {lv : Nat → Nat → Prop} {w W : World} (h : Below w.heap.size w W) : Im p c lv w W :=
  ⟨h.os, h.tape, h.output, h.size, fun k o hk _ _ _ => (h.block k (Array.getElem?_eq_some_iff.1 hk).1).trans hk⟩
theorem Im.put {m c l : Nat} {lv : Nat → Nat → Prop} {W : World} {o : Obj} (o' : Obj) (hl : m ≤ l) (h : W.heap[l]? = some o) (hc : o.isCells = false) : Im (lowP m) c lv W (W.putObj l o') :=
  ⟨rfl, rfl, rfl, by simp, fun k o2 hk _ _ hp => by
    have : k ≠ l := fun e => by subst e; rw [h] at hk; cases hk; exact hp.elim (fun h => by omega) (fun h => by rw [hc] at h; cases h)
    exact (World.putObj_heap_other this).trans hk⟩
theorem Im.arr {p : Nat → Obj → Prop} {c : Nat} {lv : Nat → Nat → Prop} {w W : World} (h : Im p c lv w W) {b t : Nat} {xs : List Value} (ha : Arr w b t xs) (hb : b ≠ c) (hl : ¬ lv b t) (hp : p b (.cells xs.toArray t)) : Arr W b t xs := h.same b _ ha hb hl hp
/-- What a round keeps for the iterator. -/
structure Kp (c : Nat) (lv : Nat → Nat → Prop) (w W : World) : Prop where
  size : w.heap.size ≤ W.heap.size
  chan : W.heap[c]? = w.heap[c]?
  own : ∀ (k : Nat) (o : Obj), w.heap[k]? = some o → lvO lv k o → W.heap[k]? = some o
theorem Kp.refl {c : Nat} {lv : Nat → Nat → Prop} (w : World) : Kp c lv w w := ⟨Nat.le_refl _, rfl, fun _ _ h _ => h⟩
theorem Kp.trans {c : Nat} {lv : Nat → Nat → Prop} {A B C : World} (h : Kp c lv A B) (k : Kp c lv B C) : Kp c lv A C := ⟨Nat.le_trans h.size k.size, k.chan.trans h.chan, fun i o hi hl => k.own i o (h.own i o hi hl) hl⟩
theorem Kp.arr {c : Nat} {lv : Nat → Nat → Prop} {w W : World} (h : Kp c lv w W) {b t : Nat} {xs : List Value} (ha : Arr w b t xs) (hl : lv b t) : Arr W b t xs := h.own b _ ha hl
theorem Kp.put {c l : Nat} {lv : Nat → Nat → Prop} {W : World} {o : Obj} (o' : Obj) (hl : l ≠ c) (h : W.heap[l]? = some o) (hc : o.isCells = false) : Kp c lv W (W.putObj l o') :=
  ⟨by simp, World.putObj_heap_other (fun e => hl e.symm), fun k o2 hk hv => by
    have : k ≠ l := fun e => by subst e; rw [h] at hk; cases hk; rw [lvO_cells hv] at hc; cases hc
    exact (World.putObj_heap_other this).trans hk⟩
theorem Kp.of_below {c : Nat} {lv : Nat → Nat → Prop} {w W : World} (h : Below w.heap.size w W) (hc : c < w.heap.size) : Kp c lv w W :=
  ⟨h.size, h.block c hc, fun k o hk _ => (h.block k (Array.getElem?_eq_some_iff.1 hk).1).trans hk⟩
variable {α : Type} {F : Fence} {n : Nat} {P : Program}
/-- The iterator's contract. -/
def SeqC (F : Fence) (n : Nat) (P : Program) (g : Nat) (lb : Array Value) (c cap : Nat) (lv : Nat → Nat → Prop) (TL : Nat) (row : α → List Value) (f : α → α) (L : List α) (w : World) : Prop :=
  ∀ (l : Nat) (J : List α → World → Prop) (W : World), Below w.heap.size w W →
    (∀ pre W W', J pre W → Im all c lv W W' → J pre W') →
    (∀ pre x B W1, J pre W1 → pre ++ [x] <+: L → w.heap.size ≤ B → Arr W1 B TL (row x) → YieldAt F (n - 1) P l #[.pointer (some ⟨B, 0, none⟩)] W1 fun e W' => e = .returned (.bool true) ∧ J (pre ++ [x]) W' ∧ Arr W' B TL (row (f x)) ∧ Kp c lv W1 W') →
    J [] W → ChAt W c cap (L.map fun x => .agg (row x).toArray) →
    CallsIn F n P g (#[.func (.yield l) #[] #[]] ++ lb) W fun e W' => (∃ v, e = .returned v) ∧ J L W' ∧ ChAt W' c cap (L.map fun x => .agg (row (f x)).toArray)
/-- A body that goes on to the next round. -/
def goesOn (R : World → Prop) : Exit → Act → World → Prop
  | .normal, _, W => R W
  | _, _, _ => False
theorem wpIn_rangeFunc_C {g : Operand} {ps : Array Tmp} {assign body : Code} {Q : Exit → Act → World → Prop} {a : Act} {w : World}
    (hro : F.round = none) (h1 : 1 ≤ n) {gf : Nat} {lb : Array Value} (hg : a.eval g = .func (.func gf) #[] lb) (hFg : F.fn gf) (eg : ∀ args w, (callFunc gf args).run P w = .ok (.enter gf args) w)
    {c cap : Nat} {lv : Nat → Nat → Prop} {TL : Nat} {row : α → List Value} {f : α → α} {L : List α} (hseq : SeqC F (n - 1) P gf lb c cap lv TL row f L w) (hps : ps.size = 1)
    (hch : ChAt w c cap (L.map fun x => .agg (row x).toArray))
    (I : List α → World → Prop) (hI : ∀ pre W W', I pre W → Im (lowP w.heap.size) c lv W W' → I pre W') (h0 : I [] w) (a₁ : Nat → Act)
    (hassign : ∀ (l B : Nat) (W : World) (K : Act → World → Prop), K (a₁ B) W →
      assign.wpIn (F.inRound l) (n - 1 - 1) P (Exit.then K (fun _ _ _ => False)) { tmps := (ps.zip #[.pointer (some ⟨B, 0, none⟩)]).foldl (fun t (p, v) => t.setIfInBounds p v) a.tmps, defers := [] } W)
    (hbody : ∀ (l : Nat) (pre : List α) (x : α) (B : Nat) (W : World), I pre W → pre ++ [x] <+: L → w.heap.size ≤ B → c < W.heap.size → Arr W B TL (row x) →
      body.wpIn (F.inRound l) (n - 1 - 1) P (goesOn fun W' => KeepsFrom w.heap.size W W' ∧ Kp c lv W W' ∧ Arr W' B TL (row (f x)) ∧ I (pre ++ [x]) W') (a₁ B) W)
    (hdone : ∀ (D : Nat) (W : World), w.heap.size ≤ D → I L W → ChAt W c cap (L.map fun x => .agg (row (f x)).toArray) → W.heap[D]? = some (.deferred (some [])) → Q .normal { a with defers := { target := .collected D, args := #[] } :: a.defers } W) :
    (Code.rangeFunc g ps assign body).wpIn F n P Q a w := by
  refine wpIn_rangeFunc ?_
  intro fn hfn
  rw [hro]
  have hcl := hch.lt
  obtain ⟨rec, hrec⟩ : ∃ rec : LoopState → Option Code → Loop, rec = fun st pe => { state := st, pending := pe, fn, tmps := a.tmps, params := ps, assign, body, defers := w.heap.size } := ⟨_, rfl⟩
  obtain ⟨W1, hW1⟩ : ∃ W1, (w.alloc (.deferred (some []))).alloc (.loop (rec .ready none)) = W1 := ⟨_, rfl⟩
  have hL1 : W1.heap[w.heap.size + 1]? = some (.loop (rec .ready none)) := by
    rw [← hW1]; have := World.alloc_heap_new (w.alloc (.deferred (some []))) (.loop (rec .ready none)); rwa [World.size_alloc] at this
  have hK1 : W1.heap[w.heap.size]? = some (.deferred (some [])) := by
    rw [← hW1]; exact (Below.heap_alloc _ _ _ (by simp)).trans (World.alloc_heap_new w _)
  have hb1 : Below w.heap.size w W1 := by
    rw [← hW1]; exact (((Below.refl _ w).alloc (Nat.le_refl _) _).alloc (by simp) _)
  have hI1 : I [] W1 := hI _ _ _ h0 (.of_below hb1)
  have nlv : ∀ (k : Nat) (o : Obj), o.isCells = false → ¬ lvO lv k o := fun k o h h' => by rw [lvO_cells h'] at h; cases h
  refine ⟨w.heap.size + 1, [{ target := .collected w.heap.size, args := #[] }], W1, { target := .fn (.func gf) lb, args := #[.func (.yield (w.heap.size + 1)) #[] #[]] }, W1, gf,
    #[.func (.yield (w.heap.size + 1)) #[] #[]] ++ lb, W1, ?_, ?_, ?_, ?_, fun _ => h1, ?_⟩
  · rw [← hW1, hrec]; exact run_enterLoop_outer _ _ _ _ _
  · simp only [resolve, hg]
    simp [go_sem]
  · intro f' hf'; simp [Target.leads] at hf'; subst hf'; exact hFg
  · simp [invoke, go_sem, eg]
  · refine (hseq (w.heap.size + 1)
      (fun pre W => I pre W ∧ c < W.heap.size ∧ W.heap[w.heap.size + 1]? = some (.loop (rec .ready none)) ∧ W.heap[w.heap.size]? = some (.deferred (some [])))
      W1 hb1 ?_ ?_ ⟨hI1, Nat.lt_of_lt_of_le hcl hb1.size, hL1, hK1⟩ (hch.to (hb1.block c hcl))).mono ?_
    · rintro pre W W' ⟨hi, hcs, hl, hk⟩ hit
      exact ⟨hI _ _ _ hi hit.toLow, Nat.lt_of_lt_of_le hcs hit.size, hit.same _ _ hl (by omega) (nlv _ _ rfl) trivial, hit.same _ _ hk (by omega) (nlv _ _ rfl) trivial⟩
    · rintro pre x B W ⟨hi, hcs, hl, hk⟩ hpx hB ha
      have hy := run_yield (P := P) (args := #[.pointer (some ⟨B, 0, none⟩)]) hl (by rw [hrec]; exact hps.symm)
      rw [hrec] at hy
      refine ⟨fn, _, assign, body, hy, roundIn_of_wpIn hfn (hassign _ B W _ ?_)⟩
      clear hy
      have hlt : w.heap.size + 1 < W.heap.size := (Array.getElem?_eq_some_iff.1 hl).1
      refine ⟨_, run_beginRound hl (by rw [hrec]), ?_⟩
      have hl2 : (W.putObj (w.heap.size + 1) (.loop { rec .ready none with state := .busy })).heap[w.heap.size + 1]? = some (.loop { rec .ready none with state := .busy }) := World.putObj_heap_same hlt
      have hk2 : (W.putObj (w.heap.size + 1) (.loop { rec .ready none with state := .busy })).heap[w.heap.size]? = some (.deferred (some [])) := (World.putObj_heap_other (by omega)).trans hk
      have hc1 : Im (lowP w.heap.size) c lv W (W.putObj (w.heap.size + 1) (.loop { rec .ready none with state := .busy })) := .put _ (by omega) hl rfl
      have hp1 : Kp c lv W (W.putObj (w.heap.size + 1) (.loop { rec .ready none with state := .busy })) := .put _ (by omega) hl rfl
      have hBl : B ≠ w.heap.size + 1 := fun e => by subst e; rw [show W.heap[w.heap.size + 1]? = _ from ha] at hl; cases hl
      refine wpIn_mono (hbody _ pre x B _ (hI _ _ _ hi hc1) hpx hB (Nat.lt_of_lt_of_le hcs hc1.size) ((World.putObj_heap_other hBl).trans ha)) ?_
      rintro e a3 W3 hp
      cases e with
      | normal =>
        obtain ⟨hk3, hkp3, ha3, hi3⟩ := hp
        have hl3 := hk3.same _ _ (by omega) hl2 rfl
        have hr := run_endRound (P := P) none hl3
        rw [hrec] at hr hl3
        refine ⟨_, _, hr, rfl, ⟨hI _ _ _ hi3 (.put _ (by omega) hl3 rfl), ?_, ?_, ?_⟩, ?_, ?_⟩
        · simp; exact Nat.lt_of_lt_of_le (Nat.lt_of_lt_of_le hcs hc1.size) hkp3.size
        · rw [hrec]; exact World.putObj_heap_same (Array.getElem?_eq_some_iff.1 hl3).1
        · exact (World.putObj_heap_other (by omega)).trans (hk3.same _ _ (Nat.le_refl _) hk2 rfl)
        · exact (World.putObj_heap_other hBl).trans ha3
        · exact (hp1.trans hkp3).trans (.put _ (by omega) hl3 rfl)
      | _ => exact hp.elim
    · rintro e W2 ⟨⟨v, rfl⟩, ⟨hi, hcs, hl, hk⟩, hch2⟩
      refine ⟨none, _, by have := run_endLoop (P := P) hl (by rw [hrec]; simp); rw [hrec] at this; exact this, hdone _ _ (Nat.le_refl _) (hI _ _ _ hi (.put _ (by omega) hl rfl)) (hch2.to (World.putObj_heap_other (by omega))) ((World.putObj_heap_other (by omega)).trans hk)⟩
end Go.Proofs.Ytokakgjcegmabaa.Po
