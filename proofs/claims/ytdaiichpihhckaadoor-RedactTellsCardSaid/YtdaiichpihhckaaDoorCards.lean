/-
  DERIVED. GIVEN WITH THE SEED: THE CARDS: each row of YtdaiichpihhckaaDoorRows.lean that lists a variable, with what it lists TIED to the program's text (the seventh form; the later family's looks); each row that meets fmt, with fmt's text TOLD by the authors' own Lean function (tested against real Go, not proved from fmt's source: count such statements apart). THE CARD IS WHAT COUNTS. Prove the row's statement (the work); the ties are given (YtdaiichpihhckaaDoorTie.lean); close each card by the builder's one call (the guide's Derived/Test/ToyasCard.lean, 'card_holds'). Laid BY PROGRAM, IN A SANDBOX (cutbox-door.mjs). By AI agents, Wed Nov 11 2026. No macro, syntax, notation, axiom, sorry.
-/
import Derived.Test.YtdaiichpihhckaaDoorRows
import GoSem.ClaimSeven
namespace Go.Proofs.YtdaiichpihhckaaDoor
namespace Rows

/-- THE TIED CARD OF 'palaverlaw13.RedactTells'. -/
def redactTellsCard : Claim7 := { stood := { row := redactTellsRow, standIns := [], harness := (true, "f46ea50b4cbf3f40a472a93958e161d3f80f3401312af767401ed919036dc716"), looks := true }, kinds := [], alts := [], laidByText := true, laidKinds := [.data, .data, .data, .data, .sentinel, .sentinel, .data, .data], laidTests := true, laidLooks := .later }
def RedactTellsCardSaid : Prop := Claim7.holds Tryd.pinned (.plain (OpenSpec.ofChange redactTellsSpec)) redactTellsCard

/-- THE TIED CARD OF 'palaverlaw13.RedactStable'. -/
def redactStableCard : Claim7 := { stood := { row := redactStableRow, standIns := [], harness := (true, "f46ea50b4cbf3f40a472a93958e161d3f80f3401312af767401ed919036dc716"), looks := true }, kinds := [], alts := [], laidByText := true, laidKinds := [.data, .data, .data, .data, .sentinel, .sentinel, .data, .data], laidTests := true, laidLooks := .later }
def RedactStableCardSaid : Prop := Claim7.holds Tryd.pinned (.plain (OpenSpec.ofChange redactStableSpec)) redactStableCard

/-- THE TIED CARD OF 'palaverlaw13.RedactApart'. -/
def redactApartCard : Claim7 := { stood := { row := redactApartRow, standIns := [], harness := (true, "f46ea50b4cbf3f40a472a93958e161d3f80f3401312af767401ed919036dc716"), looks := true }, kinds := [], alts := [], laidByText := true, laidKinds := [.data, .data, .data, .data, .sentinel, .sentinel, .data, .data], laidTests := true, laidLooks := .later }
def RedactApartCardSaid : Prop := Claim7.holds Tryd.pinned (.plain (OpenSpec.ofChange redactApartSpec)) redactApartCard

/-- THE TIED CARD OF 'palaverlaw14.StateSets'. -/
def stateSetsCard : Claim7 := { stood := { row := stateSetsRow, standIns := [], harness := (true, "f46ea50b4cbf3f40a472a93958e161d3f80f3401312af767401ed919036dc716"), looks := true }, kinds := [], alts := [], laidByText := true, laidKinds := [.data, .data, .data, .sentinel, .sentinel, .data], laidTests := true, laidLooks := .later }
def StateSetsCardSaid : Prop := Claim7.holds Tryd.pinned (.plain (OpenSpec.ofChange stateSetsSpec)) stateSetsCard

/-- THE TIED CARD OF 'palaverlaw14.StateLast'. -/
def stateLastCard : Claim7 := { stood := { row := stateLastRow, standIns := [], harness := (true, "f46ea50b4cbf3f40a472a93958e161d3f80f3401312af767401ed919036dc716"), looks := true }, kinds := [], alts := [], laidByText := true, laidKinds := [.data, .data, .data, .sentinel, .sentinel, .data], laidTests := true, laidLooks := .later }
def StateLastCardSaid : Prop := Claim7.holds Tryd.pinned (.plain (OpenSpec.ofChange stateLastSpec)) stateLastCard

/-- THE TIED CARD OF 'palavertop.TopLeft'. -/
def topLeftCard : Claim7 := { stood := { row := topLeftRow, standIns := [], harness := (true, "f46ea50b4cbf3f40a472a93958e161d3f80f3401312af767401ed919036dc716"), looks := true }, kinds := [], alts := [], laidByText := true, laidKinds := [.data, .data, .data, .data, .sentinel, .sentinel, .data, .data], laidTests := true, laidLooks := .later }
def TopLeftCardSaid : Prop := Claim7.holds Tryd.pinned (.plain (OpenSpec.ofChange topLeftSpec)) topLeftCard

/-- THE SECOND FORM's CARD OF 'palaverlaw13.RedactTells'. -/
def redactTellsUptoCard : Claim7 := { stood := { row := redactTellsUptoRow, standIns := [], harness := (true, "f46ea50b4cbf3f40a472a93958e161d3f80f3401312af767401ed919036dc716"), looks := true }, kinds := [], alts := [], laidByText := true, laidKinds := [.data, .data, .data, .data, .sentinel, .sentinel, .data, .data], laidTests := true, laidLooks := .later }
def RedactTellsUptoCardSaid : Prop := Claim7.holds Tryd.pinned (.plain (OpenSpec.upto redactTellsSpec)) redactTellsUptoCard

/-- THE SECOND FORM's CARD OF 'palaverlaw13.RedactStable'. -/
def redactStableUptoCard : Claim7 := { stood := { row := redactStableUptoRow, standIns := [], harness := (true, "f46ea50b4cbf3f40a472a93958e161d3f80f3401312af767401ed919036dc716"), looks := true }, kinds := [], alts := [], laidByText := true, laidKinds := [.data, .data, .data, .data, .sentinel, .sentinel, .data, .data], laidTests := true, laidLooks := .later }
def RedactStableUptoCardSaid : Prop := Claim7.holds Tryd.pinned (.plain (OpenSpec.upto redactStableSpec)) redactStableUptoCard

/-- THE SECOND FORM's CARD OF 'palaverlaw13.RedactApart'. -/
def redactApartUptoCard : Claim7 := { stood := { row := redactApartUptoRow, standIns := [], harness := (true, "f46ea50b4cbf3f40a472a93958e161d3f80f3401312af767401ed919036dc716"), looks := true }, kinds := [], alts := [], laidByText := true, laidKinds := [.data, .data, .data, .data, .sentinel, .sentinel, .data, .data], laidTests := true, laidLooks := .later }
def RedactApartUptoCardSaid : Prop := Claim7.holds Tryd.pinned (.plain (OpenSpec.upto redactApartSpec)) redactApartUptoCard

/-- THE SECOND FORM's CARD OF 'palaverlaw14.StateSets'. -/
def stateSetsUptoCard : Claim7 := { stood := { row := stateSetsUptoRow, standIns := [], harness := (true, "f46ea50b4cbf3f40a472a93958e161d3f80f3401312af767401ed919036dc716"), looks := true }, kinds := [], alts := [], laidByText := true, laidKinds := [.data, .data, .data, .sentinel, .sentinel, .data], laidTests := true, laidLooks := .later }
def StateSetsUptoCardSaid : Prop := Claim7.holds Tryd.pinned (.plain (OpenSpec.upto stateSetsSpec)) stateSetsUptoCard

/-- THE SECOND FORM's CARD OF 'palaverlaw14.StateLast'. -/
def stateLastUptoCard : Claim7 := { stood := { row := stateLastUptoRow, standIns := [], harness := (true, "f46ea50b4cbf3f40a472a93958e161d3f80f3401312af767401ed919036dc716"), looks := true }, kinds := [], alts := [], laidByText := true, laidKinds := [.data, .data, .data, .sentinel, .sentinel, .data], laidTests := true, laidLooks := .later }
def StateLastUptoCardSaid : Prop := Claim7.holds Tryd.pinned (.plain (OpenSpec.upto stateLastSpec)) stateLastUptoCard

/-- THE SECOND FORM's CARD OF 'palavertop.TopLeft'. -/
def topLeftUptoCard : Claim7 := { stood := { row := topLeftUptoRow, standIns := [], harness := (true, "f46ea50b4cbf3f40a472a93958e161d3f80f3401312af767401ed919036dc716"), looks := true }, kinds := [], alts := [], laidByText := true, laidKinds := [.data, .data, .data, .data, .sentinel, .sentinel, .data, .data], laidTests := true, laidLooks := .later }
def TopLeftUptoCardSaid : Prop := Claim7.holds Tryd.pinned (.plain (OpenSpec.upto topLeftSpec)) topLeftUptoCard
end Rows
end Go.Proofs.YtdaiichpihhckaaDoor
