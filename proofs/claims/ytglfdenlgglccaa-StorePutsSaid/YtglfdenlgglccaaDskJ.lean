
/-
  A disk among a law's arguments.
-/
import Derived.Test.YtglfdenlgglccaaDskA
import Derived.ProofKit
import Derived.OpenShut
import Derived.ShutString
import Derived.SliceStrings
import Derived.SizedLaws
import Derived.Lib.SmallJoins
namespace Go.Proofs.Ytglfdenlgglccaa
set_option maxRecDepth 100000
set_option linter.unusedVariables false
set_option linter.unusedSimpArgs false
open Go.RowKit Go.ChangeShapes Go.WideShapes Go.ChangeAt

section
variable {H : Type} {enc : TypeId × Value → H} {w : World} {base : Nat} {spare : Nat → Bool} {held : Bool}
theorem open_disk {r : Reach} {b0 : Nat} {v : Value} {d : DataW H} {ps : List MemPlace} (hval : Value.okWide Try.prog w r b0 23 v) (hd : DataW.Trod enc Try.prog w base spare held 23 v d ps) :
    ∃ (s : ByteArray) (y r : Int), v = .agg #[.string s, .int .i64 y, .int .i64 r] ∧ (Lit.int .i64 y).wf = true ∧ (Lit.int .i64 r).wf = true := by
  obtain ⟨v0, v1, v2, y0, y1, y2, n, rfl, -, -, h0, h1, h2⟩ := Go.Joins.open_agg3 Try.underlying23 (by kernel_rfl) (by kernel_rfl) hval hd
  obtain ⟨s, hs, _⟩ := DataW.trod_string Try.underlying9 h0
  obtain ⟨y, hy, _, wy⟩ := DataW.trod_int Try.underlying3 h1
  obtain ⟨r, hr, _, wr⟩ := DataW.trod_int Try.underlying3 h2
  simp at hs hy hr
  subst hs hy hr
  exact ⟨s, y, r, rfl, wy, wr⟩
end
end Go.Proofs.Ytglfdenlgglccaa
