/-
  Joined: OnGL.
-/
import Derived.Test.YtbgooppmhgaicaaDoorUA
import Derived.Test.YtbgooppmhgaicaaDoorUE
import Derived.Test.YtbgooppmhgaicaaDoorUD
namespace Go.Proofs.YtbgooppmhgaicaaDoor
set_option maxRecDepth 100000
set_option linter.unusedVariables false
set_option linter.unusedSimpArgs false
open Go.RowKit Go.Shelf
attribute [local go_sem] Oper.semAt_some
/-- What a round keeps: what lay below m, and the block B. -/
def KpB (m B : Nat) (X Y : World) : Prop := Below m X Y ∧ Y.heap[B]? = X.heap[B]?
theorem KpB.trans {m B : Nat} {X Y Z : World} (h : KpB m B X Y) (k : KpB m B Y Z) : KpB m B X Z := ⟨h.1.trans k.1, k.2.trans h.2⟩
theorem KpB.refl (m B : Nat) (X : World) : KpB m B X X := ⟨Below.refl _ _, rfl⟩
theorem KpB.cell {m B i : Nat} {X Y : World} {v : Value} (h : KpB m B X Y) (hc : X.cell? ⟨B, i, none⟩ = some v) : Y.cell? ⟨B, i, none⟩ = some v := by
  simp only [World.cell?, h.2] at hc ⊢; exact hc
theorem KpB.put {m B : Nat} {w : World} (hm : m ≤ w.heap.size) (hB : B < w.heap.size) (W : World) (l : Nat) (o o' : Obj) (hl : w.heap.size ≤ l) (h : W.heap[l]? = some o) (hc : o.isCells = false) (hw : o.isWalk = false) : KpB m B W (W.putObj l o') :=
  ⟨belowK_b hm W l o o' hl h hc hw, (grownBy_putObj' W l o').block B (by have := (Array.getElem?_eq_some_iff.1 h).1; omega) (fun e => by cases e; omega)⟩
end Go.Proofs.YtbgooppmhgaicaaDoor

namespace Go.Proofs.YtbgooppmhgaicaaDoor
set_option maxRecDepth 100000
set_option linter.unusedVariables false
set_option linter.unusedSimpArgs false
open Go.RowKit Go.Shelf
attribute [local go_sem] Oper.semAt_some
theorem own_form {w : World} {B e : Nat} {v : Value} {l : List UInt8} (h : Own w B e v l) (hn : 0 < l.length) : ∃ g cap, v = .slice (some ⟨g, 0, none⟩) l.length cap := by
  rcases h.2 with ⟨_, h0⟩ | ⟨g, cap, cur, hv, _⟩
  · omega
  · exact ⟨g, cap, hv⟩
/-- What no turn of bytes, of a box of bytes, nor of what is no cells, can fell. -/
def Firm (A : World → Prop) : Prop := ∀ X Y row, A X → X.grownBy Y row → (∀ r, row = some r → ∃ o : Obj, X.heap[r]? = some o ∧ (o.isCells = false ∨ ∃ c t fz, o = .cells c t fz ∧ (t = 5 ∨ t = 54))) → A Y
theorem Firm.and {A A' : World → Prop} (h : Firm A) (h' : Firm A') : Firm (fun W => A W ∧ A' W) := fun X Y row hs hg hr => ⟨h X Y row hs.1 hg hr, h' X Y row hs.2 hg hr⟩
theorem Firm.own {A : World → Prop} (h : Firm A) {β : Type} : Go.Own (fun (_ : β) W => A W) := fun _ X Y row hs hg hr => h X Y row hs hg fun r e => by
  obtain ⟨o, ho, hc⟩ := hr r e; exact ⟨o, ho, .inl hc⟩
theorem Firm.below {A : World → Prop} (h : Firm A) {X Y : World} (hs : A X) (hb : Below X.heap.size X Y) : A Y := h X Y none hs (grown_of_below hb) (fun r e => by cases e)
end Go.Proofs.YtbgooppmhgaicaaDoor

namespace Go.Proofs.YtbgooppmhgaicaaDoor
set_option maxRecDepth 100000
set_option linter.unusedVariables false
set_option linter.unusedSimpArgs false
open Go.RowKit Go.Shelf
attribute [local go_sem] Oper.semAt_some
end Go.Proofs.YtbgooppmhgaicaaDoor

namespace Go.Proofs.YtbgooppmhgaicaaDoor
set_option maxRecDepth 100000
set_option linter.unusedVariables false
set_option linter.unusedSimpArgs false
open Go.RowKit Go.Shelf
attribute [local go_sem] Oper.semAt_some
end Go.Proofs.YtbgooppmhgaicaaDoor

namespace Go.Proofs.YtbgooppmhgaicaaDoor
set_option maxRecDepth 100000
set_option linter.unusedVariables false
set_option linter.unusedSimpArgs false
open Go.RowKit

theorem recV_yes (t sig : List UInt8) (h : sig.length = 1088) : recV t sig = recL t sig := by unfold recV; simp [h]
theorem recE_yes (sig : List UInt8) (h : sig.length = 1088) : recE sig = 0 := by unfold recE; simp [h]
end Go.Proofs.YtbgooppmhgaicaaDoor

namespace Go.Proofs.YtbgooppmhgaicaaDoor
set_option maxRecDepth 100000
set_option linter.unusedVariables false
set_option linter.unusedSimpArgs false
open Go.RowKit
end Go.Proofs.YtbgooppmhgaicaaDoor
