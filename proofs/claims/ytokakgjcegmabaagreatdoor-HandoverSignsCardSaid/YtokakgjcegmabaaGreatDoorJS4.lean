import Derived.Test.YtokakgjcegmabaaGreatDoorJC
import Derived.Test.YtokakgjcegmabaaGreatDoorJD
set_option linter.unusedVariables false
set_option linter.unusedSimpArgs false
set_option maxHeartbeats 64000000
set_option maxRecDepth 100000
namespace Go.Proofs.YtokakgjcegmabaaGreatDoor.En
open Go.RowKit
structure En where
 r : ByteArray
 e : Int
 i : Int
 p : List UInt8
 v : ByteArray
 g : ByteArray
def En.row (x : En) : List Value := [.string x.r, .int .i64 x.e, .int .i64 x.i] ++ u8s x.p ++ [.string x.v, .string x.g]
structure En.ok (x : En) : Prop where
 r : x.r.size ≤ 140737488351232
 p : x.p.length = 32
 v : x.v.size ≤ 140737488351232
 g : x.g.size ≤ 140737488351232
def z32e : List UInt8 := List.replicate 32 0
def zEn : En := ⟨⟨#[]⟩, 0, 0, z32e, ⟨#[]⟩, ⟨#[]⟩⟩
def wEntry : ByteArray := ⟨#[101, 110, 116, 114, 121]⟩
def cnt (n : Int) : Bool := decide (0 ≤ n ∧ n ≤ 4096)
def eOk (x : En) : Bool := (who 2 x.r).isSome && cnt x.e && cnt x.i && decide (x.v.size ≤ 8192) && decide (x.g.size ≤ 8192)
def eE (x : En) : Int := if eOk x = true then 0 else 2
def eL (x : En) : List ByteArray := [wEntry, x.r, mkS (encN x.e.toNat), mkS (encN x.i.toNat), mkS x.p, x.v]
def eT (x : En) : ByteArray := if eOk x = true then mkS (encL (eL x)) else ByteArray.empty
end Go.Proofs.YtokakgjcegmabaaGreatDoor.En
