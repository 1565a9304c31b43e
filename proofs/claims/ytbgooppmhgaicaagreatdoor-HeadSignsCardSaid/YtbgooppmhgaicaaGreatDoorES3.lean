import Derived.Test.YtbgooppmhgaicaaGreatDoorES0
set_option linter.unusedVariables false
set_option linter.unusedSimpArgs false
set_option maxHeartbeats 64000000
set_option maxRecDepth 100000
namespace Go.Proofs.YtbgooppmhgaicaaGreatDoor.En
open Go.RowKit
theorem rec_other (seed t u : List UInt8) : recL u (signL seed t) = shaL (4 :: catL (fun j => walkL (startL seed j) ((digL t).getD j 0 + (3 - (digL u).getD j 0))) 68) := by
 unfold recL
 congr 2
 refine catL_congr _ _ _ fun j hj => ?_
 unfold pieceL signL
 rw [catL_piece _ _ _ (fun j => walkL_len _ _ (startL_len _ _)) hj, walkL_add]
end Go.Proofs.YtbgooppmhgaicaaGreatDoor.En
