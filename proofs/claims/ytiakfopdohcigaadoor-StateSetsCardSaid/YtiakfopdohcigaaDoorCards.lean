/-
  DERIVED. GIVEN WITH THE SEED: THE CARDS: each row of YtiakfopdohcigaaDoorRows.lean that lists a variable, with what it lists TIED to the program's text (the seventh form; the later family's looks); each row that meets fmt, with fmt's text TOLD by the authors' own Lean function (tested against real Go, not proved from fmt's source: count such statements apart). THE CARD IS WHAT COUNTS. Prove the row's statement (the work); the ties are given (YtiakfopdohcigaaDoorTie.lean); close each card by the builder's one call (the guide's Derived/Test/ToyasCard.lean, 'card_holds'). Laid BY PROGRAM, IN A SANDBOX (cutbox-door.mjs). By AI agents, Wed Nov 11 2026. No macro, syntax, notation, axiom, sorry.
-/
import Derived.Test.YtiakfopdohcigaaDoorRows
import GoSem.ClaimSeven
namespace Go.Proofs.YtiakfopdohcigaaDoor
namespace Rows

/-- THE TIED CARD OF 'palaverlaw14.StateSets'. -/
def stateSetsCard : Claim7 := { stood := { row := stateSetsRow, standIns := [], harness := (true, "d49e3fd9dd8b92a3171d881a15de79a1b713ffbd25a9a5d5882213755e394e52"), looks := true }, kinds := [], alts := [], laidByText := true, laidKinds := [.data, .data, .data, .sentinel, .sentinel, .data], laidTests := true, laidLooks := .later }
def StateSetsCardSaid : Prop := Claim7.holds Tryd.pinned (.plain (OpenSpec.ofChange stateSetsSpec)) stateSetsCard

/-- THE TIED CARD OF 'palaverlaw14.StateLast'. -/
def stateLastCard : Claim7 := { stood := { row := stateLastRow, standIns := [], harness := (true, "d49e3fd9dd8b92a3171d881a15de79a1b713ffbd25a9a5d5882213755e394e52"), looks := true }, kinds := [], alts := [], laidByText := true, laidKinds := [.data, .data, .data, .sentinel, .sentinel, .data], laidTests := true, laidLooks := .later }
def StateLastCardSaid : Prop := Claim7.holds Tryd.pinned (.plain (OpenSpec.ofChange stateLastSpec)) stateLastCard

/-- THE SECOND FORM's CARD OF 'palaverlaw14.StateSets'. -/
def stateSetsUptoCard : Claim7 := { stood := { row := stateSetsUptoRow, standIns := [], harness := (true, "d49e3fd9dd8b92a3171d881a15de79a1b713ffbd25a9a5d5882213755e394e52"), looks := true }, kinds := [], alts := [], laidByText := true, laidKinds := [.data, .data, .data, .sentinel, .sentinel, .data], laidTests := true, laidLooks := .later }
def StateSetsUptoCardSaid : Prop := Claim7.holds Tryd.pinned (.plain (OpenSpec.upto stateSetsSpec)) stateSetsUptoCard

/-- THE SECOND FORM's CARD OF 'palaverlaw14.StateLast'. -/
def stateLastUptoCard : Claim7 := { stood := { row := stateLastUptoRow, standIns := [], harness := (true, "d49e3fd9dd8b92a3171d881a15de79a1b713ffbd25a9a5d5882213755e394e52"), looks := true }, kinds := [], alts := [], laidByText := true, laidKinds := [.data, .data, .data, .sentinel, .sentinel, .data], laidTests := true, laidLooks := .later }
def StateLastUptoCardSaid : Prop := Claim7.holds Tryd.pinned (.plain (OpenSpec.upto stateLastSpec)) stateLastUptoCard
end Rows
end Go.Proofs.YtiakfopdohcigaaDoor
