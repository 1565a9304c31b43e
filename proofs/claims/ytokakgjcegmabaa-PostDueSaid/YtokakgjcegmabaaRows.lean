/-
  No cell of these rows narrows 'for every input' (looked for: loops, veiled, ifaces, maps, wideKeys, modest, calm, conditions, laid).
  DERIVED. THE GIVEN ROWS OF THIS SEAT. 4 by the template 'for every input the law returns true; each argument reads behind the call as it read before'; 0 by the template 'total and deterministic' (their statements: YtokakgjcegmabaaTotals.lean).
  GIVEN WITH THE SEED: the statements are not yours to turn. If you find one false, say at which input.
  Laid BY PROGRAM, IN A SANDBOX (cutbox-rows.mjs): the forced cells as the released guide's own fill.sh prints them over the translation d4d26165cfc3ebdd… (all of the seat's roots in one cut). By AI agents, Wed Nov 11 2026. No macro, syntax, notation, axiom, sorry.
-/
import Derived.Test.YtokakgjcegmabaaChecked
import GoSem.Claim
import GoSem.ClaimJoined
import GoSem.ClaimMapViews
import Derived.JoinedTies
import Derived.KernelRfl
namespace Go.Proofs.Ytokakgjcegmabaa
/- THE CELL 'sum', in the pinned program and in every row, IS THE sha256 OF THE DUMP (.gsa) THAT YtokakgjcegmabaaProg.lean LOADS. Nothing in Lean hashes anything: it is a label: what it is worth is what the hold of that sum in a sandbox is worth. -/
noncomputable def Try.pinned : Pinned := { name := "ytokakgjcegmabaa", sum := "d4d26165cfc3ebdd6c74104070867323ffdd6f8cae94ba0737ed3c91fa46dc81", checked := Try.checked }
namespace Rows
def none {H : Type} : Left H := { results := [], args := [] }

/-- 'palaverlaw29.NetPlays': WHATEVER THE INPUT: true; the input reads as it did. -/
def netPlaysSpec : ChangeSpec := { name := "netPlays", fn := fun _ => fun
  | [d1, d2] => { results := [.lit (.bool true)], args := [d1, d2] }
  | _ => none }
def netPlaysRow : OpenClaim := { program := "ytokakgjcegmabaa", sum := "d4d26165cfc3ebdd6c74104070867323ffdd6f8cae94ba0737ed3c91fa46dc81", func := "palaver/palaverlaw29.NetPlays", spec := "netPlays", apart := false }
def NetPlaysSaid : Prop := netPlaysRow.holds Try.pinned (OpenSpec.ofChange netPlaysSpec)

/-- ITS FALSE NEIGHBOUR: 'it returns false'. Refute it at one input. -/
def netPlaysWrong : ChangeSpec := { name := "netPlays", fn := fun _ => fun
  | [d1, d2] => { results := [.lit (.bool false)], args := [d1, d2] }
  | _ => none }
def NetPlaysWrongFalsely : Prop := netPlaysRow.holds Try.pinned (OpenSpec.ofChange netPlaysWrong)

/-- 'palaverlaw29.NetSomewhere': WHATEVER THE INPUT: true; the input reads as it did. -/
def netSomewhereSpec : ChangeSpec := { name := "netSomewhere", fn := fun _ => fun
  | [d1, d2] => { results := [.lit (.bool true)], args := [d1, d2] }
  | _ => none }
def netSomewhereRow : OpenClaim := { program := "ytokakgjcegmabaa", sum := "d4d26165cfc3ebdd6c74104070867323ffdd6f8cae94ba0737ed3c91fa46dc81", func := "palaver/palaverlaw29.NetSomewhere", spec := "netSomewhere", apart := false }
def NetSomewhereSaid : Prop := netSomewhereRow.holds Try.pinned (OpenSpec.ofChange netSomewhereSpec)

/-- ITS FALSE NEIGHBOUR: 'it returns false'. Refute it at one input. -/
def netSomewhereWrong : ChangeSpec := { name := "netSomewhere", fn := fun _ => fun
  | [d1, d2] => { results := [.lit (.bool false)], args := [d1, d2] }
  | _ => none }
def NetSomewhereWrongFalsely : Prop := netSomewhereRow.holds Try.pinned (OpenSpec.ofChange netSomewhereWrong)

/-- 'palaverlaw23.PostPlays': WHATEVER THE INPUT: true; the input reads as it did. -/
def postPlaysSpec : ChangeSpec := { name := "postPlays", fn := fun _ => fun
  | [d1, d2, d3] => { results := [.lit (.bool true)], args := [d1, d2, d3] }
  | _ => none }
def postPlaysRow : OpenClaim := { program := "ytokakgjcegmabaa", sum := "d4d26165cfc3ebdd6c74104070867323ffdd6f8cae94ba0737ed3c91fa46dc81", func := "palaver/palaverlaw23.PostPlays", spec := "postPlays", unfollowed := true, recurses := true, apart := false }
def PostPlaysSaid : Prop := postPlaysRow.holds Try.pinned (OpenSpec.ofChange postPlaysSpec)

/-- ITS FALSE NEIGHBOUR: 'it returns false'. Refute it at one input. -/
def postPlaysWrong : ChangeSpec := { name := "postPlays", fn := fun _ => fun
  | [d1, d2, d3] => { results := [.lit (.bool false)], args := [d1, d2, d3] }
  | _ => none }
def PostPlaysWrongFalsely : Prop := postPlaysRow.holds Try.pinned (OpenSpec.ofChange postPlaysWrong)

/-- 'palaverlaw23.PostDue': WHATEVER THE INPUT: true; the input reads as it did. -/
def postDueSpec : ChangeSpec := { name := "postDue", fn := fun _ => fun
  | [d1, d2] => { results := [.lit (.bool true)], args := [d1, d2] }
  | _ => none }
def postDueRow : OpenClaim := { program := "ytokakgjcegmabaa", sum := "d4d26165cfc3ebdd6c74104070867323ffdd6f8cae94ba0737ed3c91fa46dc81", func := "palaver/palaverlaw23.PostDue", spec := "postDue", unfollowed := true, recurses := true, apart := false }
def PostDueSaid : Prop := postDueRow.holds Try.pinned (OpenSpec.ofChange postDueSpec)

/-- ITS FALSE NEIGHBOUR: 'it returns false'. Refute it at one input. -/
def postDueWrong : ChangeSpec := { name := "postDue", fn := fun _ => fun
  | [d1, d2] => { results := [.lit (.bool false)], args := [d1, d2] }
  | _ => none }
def PostDueWrongFalsely : Prop := postDueRow.holds Try.pinned (OpenSpec.ofChange postDueWrong)

/- THE SECOND FORM. 'bulk': how many values and letters a reading holds, each counted each time it is reached (what is shared counts as often as it is met; a slice's spare places count too). A statement '..UptoSaid' is the law's where the arguments, and the package variables that the reading takes, are together of bulk at most 1048576: NARROWER than '..Said'. Prove '..Said' where nothing that the law and all that it calls make is longer than what came in: it says more and counts as full. Else prove '..UptoSaid'. A law counts once. -/
mutual
def uptoBulk {H : Type} : DataW H → Nat
  | .lit (.string bytes) => bytes.length + 1
  | .lit _ => 1
  | .nil => 1
  | .ptr d => uptoBulk d + 1
  | .slice elems spare => uptoBulkAll elems + uptoBulkAll spare + 1
  | .agg parts => uptoBulkAll parts + 1
  | .iface _ d => uptoBulk d + 1
  | .map entries => uptoBulkEntries entries + 1
  | .held _ => 1
def uptoBulkAll {H : Type} : List (DataW H) → Nat
  | [] => 0
  | d :: r => uptoBulk d + uptoBulkAll r
def uptoBulkEntries {H : Type} : List (Lit × DataW H) → Nat
  | [] => 0
  | x :: r => uptoBulkEntry x + uptoBulkEntries r
def uptoBulkEntry {H : Type} : Lit × DataW H → Nat
  | (.string bytes, d) => bytes.length + uptoBulk d + 1
  | (_, d) => uptoBulk d + 1
 end
def uptoSmall : (H : Type) → List (DataW H) → Bool := fun _ ds => decide (uptoBulkAll ds ≤ 1048576)
def OpenSpec.upto (s : _root_.Go.ChangeSpec) : _root_.Go.OpenSpec := { _root_.Go.OpenSpec.ofChange s with cond := some uptoSmall }

/-- 'palaverlaw29.NetPlays', WHERE WHAT IT READS IS OF BULK AT MOST 1048576: true; the input reads as it did. -/
def netPlaysUptoRow : OpenClaim := { program := "ytokakgjcegmabaa", sum := "d4d26165cfc3ebdd6c74104070867323ffdd6f8cae94ba0737ed3c91fa46dc81", func := "palaver/palaverlaw29.NetPlays", spec := "netPlays", apart := false, narrowed := true }
def NetPlaysUptoSaid : Prop := netPlaysUptoRow.holds Try.pinned (OpenSpec.upto netPlaysSpec)

/-- 'palaverlaw29.NetSomewhere', WHERE WHAT IT READS IS OF BULK AT MOST 1048576: true; the input reads as it did. -/
def netSomewhereUptoRow : OpenClaim := { program := "ytokakgjcegmabaa", sum := "d4d26165cfc3ebdd6c74104070867323ffdd6f8cae94ba0737ed3c91fa46dc81", func := "palaver/palaverlaw29.NetSomewhere", spec := "netSomewhere", apart := false, narrowed := true }
def NetSomewhereUptoSaid : Prop := netSomewhereUptoRow.holds Try.pinned (OpenSpec.upto netSomewhereSpec)

/-- 'palaverlaw23.PostPlays', WHERE WHAT IT READS IS OF BULK AT MOST 1048576: true; the input reads as it did. -/
def postPlaysUptoRow : OpenClaim := { program := "ytokakgjcegmabaa", sum := "d4d26165cfc3ebdd6c74104070867323ffdd6f8cae94ba0737ed3c91fa46dc81", func := "palaver/palaverlaw23.PostPlays", spec := "postPlays", unfollowed := true, recurses := true, apart := false, narrowed := true }
def PostPlaysUptoSaid : Prop := postPlaysUptoRow.holds Try.pinned (OpenSpec.upto postPlaysSpec)

/-- 'palaverlaw23.PostDue', WHERE WHAT IT READS IS OF BULK AT MOST 1048576: true; the input reads as it did. -/
def postDueUptoRow : OpenClaim := { program := "ytokakgjcegmabaa", sum := "d4d26165cfc3ebdd6c74104070867323ffdd6f8cae94ba0737ed3c91fa46dc81", func := "palaver/palaverlaw23.PostDue", spec := "postDue", unfollowed := true, recurses := true, apart := false, narrowed := true }
def PostDueUptoSaid : Prop := postDueUptoRow.holds Try.pinned (OpenSpec.upto postDueSpec)

end Rows
end Go.Proofs.Ytokakgjcegmabaa
