/-
  DERIVED. GIVEN WITH THE SEED: THE CARDS: each row of YtpdeoplocbkkkaaDoorRows.lean that lists a variable, with what it lists TIED to the program's text (the seventh form; the later family's looks); each row that meets fmt, with fmt's text TOLD by the authors' own Lean function (tested against real Go, not proved from fmt's source: count such statements apart). THE CARD IS WHAT COUNTS. Prove the row's statement (the work); the ties are given (YtpdeoplocbkkkaaDoorTie.lean); close each card by the builder's one call (the guide's Derived/Test/ToyasCard.lean, 'card_holds'). Laid BY PROGRAM, IN A SANDBOX (cutbox-door.mjs). By AI agents, Wed Nov 11 2026. No macro, syntax, notation, axiom, sorry.
-/
import Derived.Test.YtpdeoplocbkkkaaDoorRows
import GoSem.ClaimSeven
namespace Go.Proofs.YtpdeoplocbkkkaaDoor
namespace Rows

/-- THE TIED CARD OF 'palaverlaw15.PowerBack'. -/
def powerBackCard : Claim7 := { stood := { row := powerBackRow, standIns := [], harness := (true, "a6949c1110b04197cb9f9f843d3d96ff0850f64c7d488a4ec2727b76b9891f62"), looks := true }, kinds := [], alts := [], laidByText := true, laidKinds := [.data, .data, .data, .data, .sentinel, .sentinel, .data, .pinned], laidTests := true, laidLooks := .later }
def PowerBackCardSaid : Prop := Claim7.holds Tryd.pinned (.plain (OpenSpec.ofChange powerBackSpec)) powerBackCard

/-- THE TIED CARD OF 'palaverlaw15.PowerNoHigher'. -/
def powerNoHigherCard : Claim7 := { stood := { row := powerNoHigherRow, standIns := [], harness := (true, "a6949c1110b04197cb9f9f843d3d96ff0850f64c7d488a4ec2727b76b9891f62"), looks := true }, kinds := [], alts := [], laidByText := true, laidKinds := [.data, .data, .data, .data, .sentinel, .sentinel, .data, .pinned], laidTests := true, laidLooks := .later }
def PowerNoHigherCardSaid : Prop := Claim7.holds Tryd.pinned (.plain (OpenSpec.ofChange powerNoHigherSpec)) powerNoHigherCard

/-- THE TIED CARD OF 'palavertop.TopAbove'. -/
def topAboveCard : Claim7 := { stood := { row := topAboveRow, standIns := [], harness := (true, "a6949c1110b04197cb9f9f843d3d96ff0850f64c7d488a4ec2727b76b9891f62"), looks := true }, kinds := [], alts := [], laidByText := true, laidKinds := [.data, .data, .data, .data, .sentinel, .sentinel, .data, .pinned], laidTests := true, laidLooks := .later }
def TopAboveCardSaid : Prop := Claim7.holds Tryd.pinned (.plain (OpenSpec.ofChange topAboveSpec)) topAboveCard

/-- THE SECOND FORM's CARD OF 'palaverlaw15.PowerBack'. -/
def powerBackUptoCard : Claim7 := { stood := { row := powerBackUptoRow, standIns := [], harness := (true, "a6949c1110b04197cb9f9f843d3d96ff0850f64c7d488a4ec2727b76b9891f62"), looks := true }, kinds := [], alts := [], laidByText := true, laidKinds := [.data, .data, .data, .data, .sentinel, .sentinel, .data, .pinned], laidTests := true, laidLooks := .later }
def PowerBackUptoCardSaid : Prop := Claim7.holds Tryd.pinned (.plain (OpenSpec.upto powerBackSpec)) powerBackUptoCard

/-- THE SECOND FORM's CARD OF 'palaverlaw15.PowerNoHigher'. -/
def powerNoHigherUptoCard : Claim7 := { stood := { row := powerNoHigherUptoRow, standIns := [], harness := (true, "a6949c1110b04197cb9f9f843d3d96ff0850f64c7d488a4ec2727b76b9891f62"), looks := true }, kinds := [], alts := [], laidByText := true, laidKinds := [.data, .data, .data, .data, .sentinel, .sentinel, .data, .pinned], laidTests := true, laidLooks := .later }
def PowerNoHigherUptoCardSaid : Prop := Claim7.holds Tryd.pinned (.plain (OpenSpec.upto powerNoHigherSpec)) powerNoHigherUptoCard

/-- THE SECOND FORM's CARD OF 'palavertop.TopAbove'. -/
def topAboveUptoCard : Claim7 := { stood := { row := topAboveUptoRow, standIns := [], harness := (true, "a6949c1110b04197cb9f9f843d3d96ff0850f64c7d488a4ec2727b76b9891f62"), looks := true }, kinds := [], alts := [], laidByText := true, laidKinds := [.data, .data, .data, .data, .sentinel, .sentinel, .data, .pinned], laidTests := true, laidLooks := .later }
def TopAboveUptoCardSaid : Prop := Claim7.holds Tryd.pinned (.plain (OpenSpec.upto topAboveSpec)) topAboveUptoCard
end Rows
end Go.Proofs.YtpdeoplocbkkkaaDoor
