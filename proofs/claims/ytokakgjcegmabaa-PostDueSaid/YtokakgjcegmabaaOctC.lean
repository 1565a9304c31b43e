
/-
  octet.GetNum and the document's: the number that bytes begin with.
-/
import Derived.Test.YtokakgjcegmabaaOctB
namespace Go.Proofs.Ytokakgjcegmabaa
set_option linter.unusedVariables false
set_option linter.unusedSimpArgs false
open Go.RowKit

def tup3 (r : Nat × Nat × Nat) : Value := .tuple #[.int .u64 r.1, .int .i64 r.2.1, .int .i64 r.2.2]

end Go.Proofs.Ytokakgjcegmabaa
