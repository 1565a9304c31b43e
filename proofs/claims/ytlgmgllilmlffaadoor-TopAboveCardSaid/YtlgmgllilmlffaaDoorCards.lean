/-
  DERIVED. GIVEN WITH THE SEED: THE CARDS: each row of YtlgmgllilmlffaaDoorRows.lean that lists a variable, with what it lists TIED to the program's text (the seventh form; the later family's looks); each row that meets fmt, with fmt's text TOLD by the authors' own Lean function (tested against real Go, not proved from fmt's source: count such statements apart). THE CARD IS WHAT COUNTS. Prove the row's statement (the work); the ties are given (YtlgmgllilmlffaaDoorTie.lean); close each card by the builder's one call (the guide's Derived/Test/ToyasCard.lean, 'card_holds'). Laid BY PROGRAM, IN A SANDBOX (cutbox-door.mjs). By AI agents, Wed Nov 11 2026. No macro, syntax, notation, axiom, sorry.
-/
import Derived.Test.YtlgmgllilmlffaaDoorRows
import GoSem.ClaimSeven
namespace Go.Proofs.YtlgmgllilmlffaaDoor
namespace Rows

/-- THE TIED CARD OF 'palaverlaw14.StateLast'. -/
def stateLastCard : Claim7 := { stood := { row := stateLastRow, standIns := [], harness := (true, "ad0b19ac96a16ce423f2d90ba4a043aab59b556214cc9bf0d03c5ef9ad630308"), looks := true }, kinds := [], alts := [], laidByText := true, laidKinds := [.data, .data, .data, .sentinel, .sentinel, .data], laidTests := true, laidLooks := .later }
def StateLastCardSaid : Prop := Claim7.holds Tryd.pinned (.plain (OpenSpec.ofChange stateLastSpec)) stateLastCard

/-- THE TIED CARD OF 'palavertop.TopAbove'. -/
def topAboveCard : Claim7 := { stood := { row := topAboveRow, standIns := [], harness := (true, "ad0b19ac96a16ce423f2d90ba4a043aab59b556214cc9bf0d03c5ef9ad630308"), looks := true }, kinds := [], alts := [], laidByText := true, laidKinds := [.data, .data, .data, .data, .sentinel, .sentinel, .data, .pinned], laidTests := true, laidLooks := .later }
def TopAboveCardSaid : Prop := Claim7.holds Tryd.pinned (.plain (OpenSpec.ofChange topAboveSpec)) topAboveCard

/-- THE SECOND FORM's CARD OF 'palaverlaw14.StateLast'. -/
def stateLastUptoCard : Claim7 := { stood := { row := stateLastUptoRow, standIns := [], harness := (true, "ad0b19ac96a16ce423f2d90ba4a043aab59b556214cc9bf0d03c5ef9ad630308"), looks := true }, kinds := [], alts := [], laidByText := true, laidKinds := [.data, .data, .data, .sentinel, .sentinel, .data], laidTests := true, laidLooks := .later }
def StateLastUptoCardSaid : Prop := Claim7.holds Tryd.pinned (.plain (OpenSpec.upto stateLastSpec)) stateLastUptoCard

/-- THE SECOND FORM's CARD OF 'palavertop.TopAbove'. -/
def topAboveUptoCard : Claim7 := { stood := { row := topAboveUptoRow, standIns := [], harness := (true, "ad0b19ac96a16ce423f2d90ba4a043aab59b556214cc9bf0d03c5ef9ad630308"), looks := true }, kinds := [], alts := [], laidByText := true, laidKinds := [.data, .data, .data, .data, .sentinel, .sentinel, .data, .pinned], laidTests := true, laidLooks := .later }
def TopAboveUptoCardSaid : Prop := Claim7.holds Tryd.pinned (.plain (OpenSpec.upto topAboveSpec)) topAboveUptoCard
end Rows
end Go.Proofs.YtlgmgllilmlffaaDoor
