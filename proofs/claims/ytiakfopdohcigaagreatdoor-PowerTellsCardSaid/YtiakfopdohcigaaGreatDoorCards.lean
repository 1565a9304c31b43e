/-
  DERIVED. GIVEN WITH THE SEED: THE CARDS: each row of YtiakfopdohcigaaGreatDoorRows.lean that lists a variable, with what it lists TIED to the program's text (the seventh form; the later family's looks); each row that meets fmt, with fmt's text TOLD by the authors' own Lean function (tested against real Go, not proved from fmt's source: count such statements apart). THE CARD IS WHAT COUNTS. Prove the row's statement (the work); the ties are given (YtiakfopdohcigaaGreatDoorTie.lean); close each card by the builder's one call (the guide's Derived/Test/ToyasCard.lean, 'card_holds'). Laid BY PROGRAM, IN A SANDBOX (cutbox-door.mjs). By AI agents, Wed Nov 11 2026. No macro, syntax, notation, axiom, sorry.
-/
import Derived.Test.YtiakfopdohcigaaGreatDoorRows
import GoSem.ClaimSeven
namespace Go.Proofs.YtiakfopdohcigaaGreatDoor
namespace Rows

/-- THE TIED CARD OF 'palaverlaw14.StateAsks'. -/
def stateAsksCard : Claim7 := { stood := { row := stateAsksRow, standIns := [], harness := (true, "a087024d7367b2a77da1c279ed3929baceb9667045e9bd12f762615899c45b22"), looks := true }, kinds := [], alts := [], laidByText := true, laidKinds := [.data, .data, .data, .sentinel, .sentinel, .data], laidTests := true, laidLooks := .later }
def StateAsksCardSaid : Prop := Claim7.holds Tryz.pinned (.plain (OpenSpec.ofChange stateAsksSpec)) stateAsksCard

/-- THE TIED CARD OF 'palaverlaw15.PowerTells'. -/
def powerTellsCard : Claim7 := { stood := { row := powerTellsRow, standIns := [], harness := (true, "a087024d7367b2a77da1c279ed3929baceb9667045e9bd12f762615899c45b22"), looks := true }, kinds := [], alts := [], laidByText := true, laidKinds := [.data, .data, .data, .data, .sentinel, .sentinel, .data, .pinned], laidTests := true, laidLooks := .later }
def PowerTellsCardSaid : Prop := Claim7.holds Tryz.pinned (.plain (OpenSpec.ofChange powerTellsSpec)) powerTellsCard

/-- THE TIED CARD OF 'palaverlaw15.PowerChanges'. -/
def powerChangesCard : Claim7 := { stood := { row := powerChangesRow, standIns := [], harness := (true, "a087024d7367b2a77da1c279ed3929baceb9667045e9bd12f762615899c45b22"), looks := true }, kinds := [], alts := [], laidByText := true, laidKinds := [.data, .data, .data, .data, .sentinel, .sentinel, .data, .pinned], laidTests := true, laidLooks := .later }
def PowerChangesCardSaid : Prop := Claim7.holds Tryz.pinned (.plain (OpenSpec.ofChange powerChangesSpec)) powerChangesCard

/-- THE TIED CARD OF 'palaverlaw17.AuthTells'. -/
def authTellsCard : Claim7 := { stood := { row := authTellsRow, standIns := [], harness := (true, "a087024d7367b2a77da1c279ed3929baceb9667045e9bd12f762615899c45b22"), looks := true }, kinds := [], alts := [], laidByText := true, laidKinds := [.data, .data, .data, .data, .sentinel, .sentinel, .data, .pinned], laidTests := true, laidLooks := .later }
def AuthTellsCardSaid : Prop := Claim7.holds Tryz.pinned (.plain (OpenSpec.ofChange authTellsSpec)) authTellsCard

/-- THE TIED CARD OF 'palaverlaw18.FoldNext'. -/
def foldNextCard : Claim7 := { stood := { row := foldNextRow, standIns := [], harness := (true, "a087024d7367b2a77da1c279ed3929baceb9667045e9bd12f762615899c45b22"), looks := true }, kinds := [], alts := [], laidByText := true, laidKinds := [.data, .data, .data, .data, .sentinel, .sentinel, .data, .pinned], laidTests := true, laidLooks := .later }
def FoldNextCardSaid : Prop := Claim7.holds Tryz.pinned (.plain (OpenSpec.ofChange foldNextSpec)) foldNextCard

/-- THE TIED CARD OF 'palaverlaw18.FoldRuns'. -/
def foldRunsCard : Claim7 := { stood := { row := foldRunsRow, standIns := [], harness := (true, "a087024d7367b2a77da1c279ed3929baceb9667045e9bd12f762615899c45b22"), looks := true }, kinds := [], alts := [], laidByText := true, laidKinds := [.data, .data, .data, .data, .sentinel, .sentinel, .data, .pinned], laidTests := true, laidLooks := .later }
def FoldRunsCardSaid : Prop := Claim7.holds Tryz.pinned (.plain (OpenSpec.ofChange foldRunsSpec)) foldRunsCard

/-- THE SECOND FORM's CARD OF 'palaverlaw14.StateAsks'. -/
def stateAsksUptoCard : Claim7 := { stood := { row := stateAsksUptoRow, standIns := [], harness := (true, "a087024d7367b2a77da1c279ed3929baceb9667045e9bd12f762615899c45b22"), looks := true }, kinds := [], alts := [], laidByText := true, laidKinds := [.data, .data, .data, .sentinel, .sentinel, .data], laidTests := true, laidLooks := .later }
def StateAsksUptoCardSaid : Prop := Claim7.holds Tryz.pinned (.plain (OpenSpec.upto stateAsksSpec)) stateAsksUptoCard

/-- THE SECOND FORM's CARD OF 'palaverlaw15.PowerTells'. -/
def powerTellsUptoCard : Claim7 := { stood := { row := powerTellsUptoRow, standIns := [], harness := (true, "a087024d7367b2a77da1c279ed3929baceb9667045e9bd12f762615899c45b22"), looks := true }, kinds := [], alts := [], laidByText := true, laidKinds := [.data, .data, .data, .data, .sentinel, .sentinel, .data, .pinned], laidTests := true, laidLooks := .later }
def PowerTellsUptoCardSaid : Prop := Claim7.holds Tryz.pinned (.plain (OpenSpec.upto powerTellsSpec)) powerTellsUptoCard

/-- THE SECOND FORM's CARD OF 'palaverlaw15.PowerChanges'. -/
def powerChangesUptoCard : Claim7 := { stood := { row := powerChangesUptoRow, standIns := [], harness := (true, "a087024d7367b2a77da1c279ed3929baceb9667045e9bd12f762615899c45b22"), looks := true }, kinds := [], alts := [], laidByText := true, laidKinds := [.data, .data, .data, .data, .sentinel, .sentinel, .data, .pinned], laidTests := true, laidLooks := .later }
def PowerChangesUptoCardSaid : Prop := Claim7.holds Tryz.pinned (.plain (OpenSpec.upto powerChangesSpec)) powerChangesUptoCard

/-- THE SECOND FORM's CARD OF 'palaverlaw17.AuthTells'. -/
def authTellsUptoCard : Claim7 := { stood := { row := authTellsUptoRow, standIns := [], harness := (true, "a087024d7367b2a77da1c279ed3929baceb9667045e9bd12f762615899c45b22"), looks := true }, kinds := [], alts := [], laidByText := true, laidKinds := [.data, .data, .data, .data, .sentinel, .sentinel, .data, .pinned], laidTests := true, laidLooks := .later }
def AuthTellsUptoCardSaid : Prop := Claim7.holds Tryz.pinned (.plain (OpenSpec.upto authTellsSpec)) authTellsUptoCard

/-- THE SECOND FORM's CARD OF 'palaverlaw18.FoldNext'. -/
def foldNextUptoCard : Claim7 := { stood := { row := foldNextUptoRow, standIns := [], harness := (true, "a087024d7367b2a77da1c279ed3929baceb9667045e9bd12f762615899c45b22"), looks := true }, kinds := [], alts := [], laidByText := true, laidKinds := [.data, .data, .data, .data, .sentinel, .sentinel, .data, .pinned], laidTests := true, laidLooks := .later }
def FoldNextUptoCardSaid : Prop := Claim7.holds Tryz.pinned (.plain (OpenSpec.upto foldNextSpec)) foldNextUptoCard

/-- THE SECOND FORM's CARD OF 'palaverlaw18.FoldRuns'. -/
def foldRunsUptoCard : Claim7 := { stood := { row := foldRunsUptoRow, standIns := [], harness := (true, "a087024d7367b2a77da1c279ed3929baceb9667045e9bd12f762615899c45b22"), looks := true }, kinds := [], alts := [], laidByText := true, laidKinds := [.data, .data, .data, .data, .sentinel, .sentinel, .data, .pinned], laidTests := true, laidLooks := .later }
def FoldRunsUptoCardSaid : Prop := Claim7.holds Tryz.pinned (.plain (OpenSpec.upto foldRunsSpec)) foldRunsUptoCard
end Rows
end Go.Proofs.YtiakfopdohcigaaGreatDoor
