import Derived.Test.YtokakgjcegmabaaGreatDoorWO
set_option linter.unusedVariables false
set_option linter.unusedSimpArgs false
set_option maxHeartbeats 64000000
set_option maxRecDepth 100000
namespace Go.Proofs.YtokakgjcegmabaaGreatDoor.Ho
open Go.RowKit
open List (getElem_toArray getElem_cons_zero getElem_cons_succ setIfInBounds_toArray set_cons_zero set_cons_succ)
def mN:Nat→Nat:=fun i=>([4096,4096,63,63]:List Nat).getD i 0
def nRow (x:Nat→Nat) (i:Nat):List Value:=(List.range 4).map fun j=>.int .i64 (if j<i then (x j:Int) else 0)
def xN (ss:List ByteArray) (j:Nat):Nat:=inV (Sl.sAt ss (2 + j)) (mN j)
def xE (ss:List ByteArray) (j:Nat):Int:=inE (Sl.sAt ss (2 + j)) (mN j)
def rdV (t:ByteArray):De:=(rd t).getD zD
def rdE (t:ByteArray):Int:=if (rd t).isSome=true then 0 else 6
def dpV (t:ByteArray):De:=(dP t).getD zD
def dpE (t:ByteArray):Int:=if (dP t).isSome=true then 0 else 6
theorem al_sz (t:ByteArray) (ht:t.size≤281474976710656):∀ s ∈ (al t).1,s.size≤8192:=by
 intro s hs
 by_cases h:(al t).2=0
 · exact (al_again h).2.2 s hs
 · have e:(al t).1=[]:=by
    unfold al at h ⊢
    split
    · rfl
    · split <;> rename_i h1 h2
      · rfl
      · rw [if_neg h1,if_neg h2] at h;exact absurd rfl h
   rw [e] at hs;cases hs
end Go.Proofs.YtokakgjcegmabaaGreatDoor.Ho
