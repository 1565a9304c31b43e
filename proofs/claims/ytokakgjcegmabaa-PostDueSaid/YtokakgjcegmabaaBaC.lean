
/-
  A region that draws its order, walked by a script: what yields one value is taken first; else the ways are told apart, one by one; the class of worlds may be narrowed on the way. No dump.
-/
import Derived.Test.YtokakgjcegmabaaBaA
namespace Go.Proofs.Ytokakgjcegmabaa
set_option linter.unusedVariables false
set_option linter.unusedSimpArgs false
open Go.RowKit

inductive Scr where
  | done : Scr
  | take : Nat → Scr → Scr
  | one : Nat → Scr → Scr
  | two : Nat → Scr → Nat → Scr → Scr
  | three : Nat → Scr → Nat → Scr → Nat → Scr → Scr
  | to : (World → Prop) → Scr → Scr
def Scr.depth : Scr → Nat
  | .done => 0
  | .take _ s => s.depth + 1
  | .one _ s => s.depth + 1
  | .two _ s _ t => max s.depth t.depth + 1
  | .three _ s _ t _ u => max s.depth (max t.depth u.depth) + 1
  | .to _ s => s.depth
def Scr.chk (md : Region.Mode) (ops : Array Oper) : Scr → Array Bool → Bool
  | .done, L => (Region.ready md ops L).isEmpty
  | .take k s, L => (Region.ready md ops L).contains k && Region.free md ops L k && s.chk md ops (L.setIfInBounds k true)
  | .one k s, L => decide (Region.ready md ops L = [k]) && s.chk md ops (L.setIfInBounds k true)
  | .two k s j t, L => decide (Region.ready md ops L = [k, j]) && s.chk md ops (L.setIfInBounds k true) && t.chk md ops (L.setIfInBounds j true)
  | .three k s j t i u, L => decide (Region.ready md ops L = [k, j, i]) && s.chk md ops (L.setIfInBounds k true) && t.chk md ops (L.setIfInBounds j true) && u.chk md ops (L.setIfInBounds i true)
  | .to _ s, L => s.chk md ops L
section
variable {P : Program} {ops : Array Oper} {md : Region.Mode} {Q : Exit → Act → World → Prop}
def opW (P : Program) (ops : Array Oper) (Q : Exit → Act → World → Prop) (S : World → Prop) (k : Nat) (K : Act → World → Prop) (a : Act) (w : World) : Prop :=
  ∃ o, ops[k]? = some o ∧ Region.wanted o (yielded ops a.tmps) = true ∧ o.wp P a w (fun a' w' => S w' ∧ K a' w') Q
def wpScr (P : Program) (ops : Array Oper) (Q : Exit → Act → World → Prop) : Scr → (World → Prop) → Act → World → Prop
  | .done, _, a, w => Q .normal a w
  | .take k s, S, a, w => ∃ o v, ops[k]? = some o ∧ YieldsIf P ops S o v a ∧ wpScr P ops Q s S (a.put o.dst v) w
  | .one k s, S, a, w => opW P ops Q S k (wpScr P ops Q s S) a w
  | .two k s j t, S, a, w => opW P ops Q S k (wpScr P ops Q s S) a w ∧ opW P ops Q S j (wpScr P ops Q t S) a w
  | .three k s j t i u, S, a, w => opW P ops Q S k (wpScr P ops Q s S) a w ∧ opW P ops Q S j (wpScr P ops Q t S) a w ∧ opW P ops Q S i (wpScr P ops Q u S) a w
  | .to S' s, S, a, w => S' w ∧ (∀ w, S' w → S w) ∧ wpScr P ops Q s S' a w
theorem wpAnyH_wide {S S' : World → Prop} (h : ∀ w, S' w → S w) : ∀ (fuel : Nat) (L : Array Bool) (a : Act) (w : World), wpAnyH P md ops Q S' fuel L a w → wpAnyH P md ops Q S fuel L a w
  | 0, _, _, _, hh => hh
  | fuel + 1, _, _, _, hh => ⟨hh.1, fun i hi => wpOp_mono (fun a' w' h' => ⟨h _ h'.1, wpAnyH_wide h fuel _ a' w' h'.2⟩) (hh.2 i hi)⟩
theorem opW.op {S : World → Prop} {k : Nat} {K : Act → World → Prop} {a : Act} {w : World} (h : opW P ops Q S k K a w) : wpOp P ops Q k (fun a' w' => S w' ∧ K a' w') a w := by
  obtain ⟨o, ho, hw, hp⟩ := h
  unfold wpOp
  simp only [ho]
  rw [if_pos hw]
  exact .inl hp
theorem scrH (hs : Region.noSelect ops = true) (hQ : ∀ c (a : Act) (d : Option Tmp) (v : Value) (w : World), Q (.panic c) (a.put d v) w → Q (.panic c) a w) :
    ∀ (s : Scr) (S : World → Prop) (fuel : Nat) (L : Array Bool) (a : Act) (w : World), s.depth ≤ fuel → s.chk md ops L = true → S w → wpScr P ops Q s S a w → wpAnyH P md ops Q S fuel L a w
  | .done, S, fuel, L, a, w, _, hc, _, h => wpAnyH_done (by simpa [Scr.chk] using hc) h fuel
  | .take k s, S, fuel, L, a, w, hd, hc, hS, h => by
    obtain ⟨o, v, ho, hy, hK⟩ := h
    simp only [Scr.chk, Bool.and_eq_true] at hc
    obtain ⟨m, rfl⟩ : ∃ m, fuel = m + 1 := ⟨fuel - 1, by simp only [Scr.depth] at hd; omega⟩
    exact wpAnyH_take ho hs hc.1.2 hc.1.1 (fun c a w => hQ c a _ _ w) hy hS (scrH hs hQ s S m _ _ _ (by simp only [Scr.depth] at hd; omega) hc.2 hS hK)
  | .one k s, S, fuel, L, a, w, hd, hc, hS, h => by
    simp only [Scr.chk, Bool.and_eq_true, decide_eq_true_iff] at hc
    obtain ⟨m, rfl⟩ : ∃ m, fuel = m + 1 := ⟨fuel - 1, by simp only [Scr.depth] at hd; omega⟩
    refine wpAnyH_all hc.1 (by simp) fun i hi => ?_
    obtain rfl : i = k := by simpa using hi
    exact wpOp_mono (fun a' w' h' => ⟨h'.1, scrH hs hQ s S m _ _ _ (by simp only [Scr.depth] at hd; omega) hc.2 h'.1 h'.2⟩) (opW.op h)
  | .two k s j t, S, fuel, L, a, w, hd, hc, hS, h => by
    simp only [Scr.chk, Bool.and_eq_true, decide_eq_true_iff] at hc
    obtain ⟨m, rfl⟩ : ∃ m, fuel = m + 1 := ⟨fuel - 1, by simp only [Scr.depth] at hd; omega⟩
    refine wpAnyH_all hc.1.1 (by simp) fun i hi => ?_
    have hi' : i = k ∨ i = j := by simpa using hi
    rcases hi' with rfl | rfl
    · exact wpOp_mono (fun a' w' h' => ⟨h'.1, scrH hs hQ s S m _ _ _ (by simp only [Scr.depth] at hd; omega) hc.1.2 h'.1 h'.2⟩) (opW.op h.1)
    · exact wpOp_mono (fun a' w' h' => ⟨h'.1, scrH hs hQ t S m _ _ _ (by simp only [Scr.depth] at hd; omega) hc.2 h'.1 h'.2⟩) (opW.op h.2)
  | .three k s j t i u, S, fuel, L, a, w, hd, hc, hS, h => by
    simp only [Scr.chk, Bool.and_eq_true, decide_eq_true_iff] at hc
    obtain ⟨m, rfl⟩ : ∃ m, fuel = m + 1 := ⟨fuel - 1, by simp only [Scr.depth] at hd; omega⟩
    refine wpAnyH_all hc.1.1.1 (by simp) fun q hq => ?_
    have hq' : q = k ∨ q = j ∨ q = i := by simpa using hq
    rcases hq' with rfl | rfl | rfl
    · exact wpOp_mono (fun a' w' h' => ⟨h'.1, scrH hs hQ s S m _ _ _ (by simp only [Scr.depth] at hd; omega) hc.1.1.2 h'.1 h'.2⟩) (opW.op h.1)
    · exact wpOp_mono (fun a' w' h' => ⟨h'.1, scrH hs hQ t S m _ _ _ (by simp only [Scr.depth] at hd; omega) hc.1.2 h'.1 h'.2⟩) (opW.op h.2.1)
    · exact wpOp_mono (fun a' w' h' => ⟨h'.1, scrH hs hQ u S m _ _ _ (by simp only [Scr.depth] at hd; omega) hc.2 h'.1 h'.2⟩) (opW.op h.2.2)
  | .to S' s, S, fuel, L, a, w, hd, hc, hS, h => by
    obtain ⟨h1, h2, h3⟩ := h
    exact wpAnyH_wide h2 fuel L a w (scrH hs hQ s S' fuel L a w hd hc h1 h3)
theorem wp_region_scr {id : Nat} {a : Act} {w : World} (S : World → Prop) (s : Scr) (hm : P.follows .mixedOrders = true) (hs : Region.noSelect ops = true) (hQ : ∀ c (a : Act) (d : Option Tmp) (v : Value) (w : World), Q (.panic c) (a.put d v) w → Q (.panic c) a w)
    (hd : s.depth ≤ ops.size) (hc : s.chk .any ops (Array.replicate ops.size false) = true) (hS : S { w with drawn := w.drawn + 1 }) (h : wpScr P ops Q s S a { w with drawn := w.drawn + 1 }) : (Code.region id ops true).wp P Q a w :=
  wp_region_held (S := S) hm (scrH hs hQ s S _ _ _ _ hd hc hS h)
variable {S : World → Prop} {k : Nat} {o : Oper} {s : Scr} {a : Act} {w : World} {K : Act → World → Prop}
theorem s_val {v : Value} (ho : ops[k]? = some o) (hw : Region.wanted o (yielded ops a.tmps) = true) (hv : ∀ w, S w → (execOp a.eval o).run P w = .ok (.value v) w) (h : wpScr P ops Q s S (a.put o.dst v) w) : wpScr P ops Q (.take k s) S a w :=
  ⟨o, v, ho, .inl ⟨hw, hv⟩, h⟩
theorem o_call {v : Value} (ho : ops[k]? = some o) (hw : Region.wanted o (yielded ops a.tmps) = true) (f : FuncId) (args : Array Value) (hop : (execOp a.eval o).run P w = .ok (.enter f args) w) {R : World → Prop} (hc : Calls P f args w fun e w' => e = .returned v ∧ R w')
    (h : ∀ w', R w' → S w' ∧ K (a.put o.dst v) w') : opW P ops Q S k K a w := by
  refine ⟨o, ho, hw, ?_⟩
  unfold Oper.wp
  rw [hop]
  exact hc.mono fun e w' ⟨he, hr⟩ => by subst he; exact h w' hr
theorem o_make {v : Value} {W : World} (ho : ops[k]? = some o) (hw : Region.wanted o (yielded ops a.tmps) = true) (hop : (execOp a.eval o).run P w = .ok (.value v) W) (hS : S W) (h : K (a.put o.dst v) W) : opW P ops Q S k K a w := by
  refine ⟨o, ho, hw, ?_⟩
  unfold Oper.wp
  rw [hop]
  exact ⟨hS, h⟩
end
end Go.Proofs.Ytokakgjcegmabaa
