
/-
  octet.addNum: what it does to a row of bytes of the call's own.
-/
import Derived.Test.YtokakgjcegmabaaRows
import Derived.Test.YtokakgjcegmabaaOctM
import Derived.WalkKit
import Derived.WalkSpells
import Derived.WalkLawsBesides
import Derived.Handy
namespace Go.Proofs.Ytokakgjcegmabaa
set_option linter.unusedVariables false
set_option linter.unusedSimpArgs false
open Go.RowKit

theorem info5 : (Try.prog.info? 5).map (fun i => (i.zero, i.size, i.bytes)) = some (some (.int .u8 0), 1, 1) := by kernel_rfl

end Go.Proofs.Ytokakgjcegmabaa
