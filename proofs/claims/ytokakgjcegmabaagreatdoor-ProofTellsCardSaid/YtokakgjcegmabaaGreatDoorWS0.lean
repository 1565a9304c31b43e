import Derived.Test.YtokakgjcegmabaaGreatDoorWK
import Derived.Test.YtokakgjcegmabaaGreatDoorWE
set_option linter.unusedVariables false
set_option linter.unusedSimpArgs false
set_option maxHeartbeats 64000000
set_option maxRecDepth 100000
namespace Go.Proofs.YtokakgjcegmabaaGreatDoor
def blkF (l:List UInt8):Nat→S8
 | 0=>init8
 | i + 1=>compF (blkF l i) ((l.drop (64 * i)).take 64)
theorem blkF_eq (l:List UInt8) (i:Nat):blk l i=blkF l i:=by
 induction i with
 | zero=>rw [blk_zero];rfl
 | succ i ih=>rw [blk_succ,ih,compF_eq];rfl
def shaSF (l:List UInt8):S8 :=
 if 55<(l.drop (64 * (l.length / 64))).length then compF (compF (blkF l (l.length / 64)) (ended (l.drop (64 * (l.length / 64))))) (sized (List.replicate 64 0) l.length) else compF (blkF l (l.length / 64)) (sized (ended (l.drop (64 * (l.length / 64)))) l.length)
def shaF (l:List UInt8):List UInt8:=joinL (shaSF l)
theorem shaF_eq (l:List UInt8):shaL l=shaF l:=by
 unfold shaL shaF shaSF
 by_cases h:55<(l.drop (64 * (l.length / 64))).length
 · rw [shaS_long l h,if_pos h,compF_eq,compF_eq,blkF_eq]
 · rw [shaS_short l h,if_neg h,compF_eq,blkF_eq]
end Go.Proofs.YtokakgjcegmabaaGreatDoor
