import Derived.Test.YtokakgjcegmabaaGreatDoorLO
set_option linter.unusedVariables false
set_option linter.unusedSimpArgs false
set_option maxHeartbeats 64000000
set_option maxRecDepth 100000
namespace Go.Proofs.YtokakgjcegmabaaGreatDoor.Ho
open Go.RowKit
open List (getElem_toArray getElem_cons_zero getElem_cons_succ setIfInBounds_toArray set_cons_zero set_cons_succ)
theorem al_sz (t:ByteArray) (ht:t.size≤281474976710656):∀ s ∈ (al t).1,s.size≤8192:=by
 intro s hs
 by_cases h:(al t).2=0
 · exact (al_again h).2.2 s hs
 · have e:(al t).1=[]:=by
    unfold al at h ⊢
    split
    · rfl
    · split <;> rename_i h1 h2
      · rfl
      · rw [if_neg h1,if_neg h2] at h;exact absurd rfl h
   rw [e] at hs;cases hs
end Go.Proofs.YtokakgjcegmabaaGreatDoor.Ho
