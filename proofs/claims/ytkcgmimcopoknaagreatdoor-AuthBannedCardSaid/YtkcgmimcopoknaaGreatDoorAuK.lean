
/-
  auth: the walks as the frame asks for them.
-/
import Derived.Test.YtkcgmimcopoknaaGreatDoorAuH
import Derived.Test.YtkcgmimcopoknaaGreatDoorAuJ
namespace Go.Proofs.YtkcgmimcopoknaaGreatDoor
set_option maxRecDepth 100000
set_option linter.unusedVariables false
set_option linter.unusedSimpArgs false
open Go.RowKit Rw Go.ChangeShapes Go.WideShapes Go.ChangeAt
theorem open_cellsV {H : Type} {enc : TypeId × Value → H} {w : World} {base : Nat} {held : Bool} {r : Reach} {b0 : Nat} {ts : List TypeId} {ds : List (DataW H)} (hsz : (DataW.weightsEach Tryz.prog ts ds).all (· ≤ reachBytes) = true) {j : Nat} (htj : ts[j]? = some 22) {v : Value} {d : DataW H} {ps : List MemPlace}
    (hval : Value.okWide Tryz.prog w r b0 22 v) (hd : DataW.Trod enc Tryz.prog w base (fun _ => true) held 22 v d ps) (hdj : ds[j]? = some d) : ∃ cs, CsAt w v cs ∧ ∀ c ∈ cs, c.e.body.size ≤ 140737488351232 ∧ c.e.sender.size ≤ 140737488351232 := by
  have hu : Tryz.prog.underlying 22 = some (.slice 96) := Tryz.underlying22
  obtain ⟨a, len, cap, rfl⟩ := okWide_slice hu hval
  have hc : Cell.okWide Tryz.prog w r b0 22 (.slice a len cap) := by
    simp only [Value.okWide, hu] at hval; exact hval
  obtain ⟨fuel, hf⟩ := hd
  exact open_cells hsz htj (x := (d, ps)) hdj hc hf
theorem walk_authBanned (w : World) (v : Value) (cs : List Ce) (hv : CsAt w v cs) (hs : ∀ c ∈ cs, c.e.body.size ≤ 140737488351232 ∧ c.e.sender.size ≤ 140737488351232) (e : Ev) (he : e.ok) (hbs : e.body.size ≤ 140737488351232) (hP : PT w) :
    Calls Tryz.prog 4 #[v, .agg #[.string e.room, .string e.sender, .int .u8 (e.kind : Int), .string e.key, .string e.body, .int .i64 e.nonce]] w fun x w' => x = .returned (.bool true) ∧ Below w.heap.size w w' := banned_walk w v cs hv hs e he hbs hP
theorem walk_authJoined (w : World) (v : Value) (cs : List Ce) (hv : CsAt w v cs) (hs : ∀ c ∈ cs, c.e.body.size ≤ 140737488351232 ∧ c.e.sender.size ≤ 140737488351232) (e : Ev) (he : e.ok) (hbs : e.body.size ≤ 140737488351232) (hP : PT w) :
    Calls Tryz.prog 3 #[v, .agg #[.string e.room, .string e.sender, .int .u8 (e.kind : Int), .string e.key, .string e.body, .int .i64 e.nonce]] w fun x w' => x = .returned (.bool true) ∧ Below w.heap.size w w' := joined_walk w v cs hv hs e he hbs hP
end Go.Proofs.YtkcgmimcopoknaaGreatDoor
