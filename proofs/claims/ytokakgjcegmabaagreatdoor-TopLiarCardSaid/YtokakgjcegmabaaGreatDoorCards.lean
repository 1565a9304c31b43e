/-
  DERIVED. GIVEN WITH THE SEED: THE CARDS: each row of YtokakgjcegmabaaGreatDoorRows.lean that lists a variable, with what it lists TIED to the program's text (the seventh form; the later family's looks); each row that meets fmt, with fmt's text TOLD by the authors' own Lean function (tested against real Go, not proved from fmt's source: count such statements apart). THE CARD IS WHAT COUNTS. Prove the row's statement (the work); the ties are given (YtokakgjcegmabaaGreatDoorTie.lean); close each card by the builder's one call (the guide's Derived/Test/ToyasCard.lean, 'card_holds'). Laid BY PROGRAM, IN A SANDBOX (cutbox-door.mjs). By AI agents, Wed Nov 11 2026. No macro, syntax, notation, axiom, sorry.
-/
import Derived.Test.YtokakgjcegmabaaGreatDoorRows
import GoSem.ClaimSeven
namespace Go.Proofs.YtokakgjcegmabaaGreatDoor
namespace Rows

/-- THE TIED CARD OF 'palaverlaw24.HandoverSigns'. -/
def handoverSignsCard : Claim7 := { stood := { row := handoverSignsRow, standIns := [], harness := (true, "ee572e2fa3cc8e6bafcbafc68f38da5dac821cc41152f957104fb76d0e222ba8"), looks := true }, kinds := [], alts := [], laidByText := true, laidKinds := [.data, .data, .data, .data, .sentinel, .sentinel, .data, .data, .data], laidTests := true, laidLooks := .later }
def HandoverSignsCardSaid : Prop := Claim7.holds Tryz.pinned (.plain (OpenSpec.ofChange handoverSignsSpec)) handoverSignsCard

/-- THE TIED CARD OF 'palavertop.TopAgreed'. -/
def topAgreedCard : Claim7 := { stood := { row := topAgreedRow, standIns := [], harness := (true, "ee572e2fa3cc8e6bafcbafc68f38da5dac821cc41152f957104fb76d0e222ba8"), looks := true }, kinds := [], alts := [], laidByText := true, laidKinds := [.data, .data, .data, .data, .sentinel, .sentinel, .data, .data, .data], laidTests := true, laidLooks := .later }
def TopAgreedCardSaid : Prop := Claim7.holds Tryz.pinned (.plain (OpenSpec.ofChange topAgreedSpec)) topAgreedCard

/-- THE TIED CARD OF 'palaverlaw22.ProofTells'. -/
def proofTellsCard : Claim7 := { stood := { row := proofTellsRow, standIns := [], harness := (true, "ee572e2fa3cc8e6bafcbafc68f38da5dac821cc41152f957104fb76d0e222ba8"), looks := true }, kinds := [], alts := [], laidByText := true, laidKinds := [.data, .data, .data, .data, .sentinel, .sentinel, .data], laidTests := true, laidLooks := .later }
def ProofTellsCardSaid : Prop := Claim7.holds Tryz.pinned (.plain (OpenSpec.ofChange proofTellsSpec)) proofTellsCard

/-- THE TIED CARD OF 'palaverlaw22.ProofBack'. -/
def proofBackCard : Claim7 := { stood := { row := proofBackRow, standIns := [], harness := (true, "ee572e2fa3cc8e6bafcbafc68f38da5dac821cc41152f957104fb76d0e222ba8"), looks := true }, kinds := [], alts := [], laidByText := true, laidKinds := [.data, .data, .data, .data, .sentinel, .sentinel, .data], laidTests := true, laidLooks := .later }
def ProofBackCardSaid : Prop := Claim7.holds Tryz.pinned (.plain (OpenSpec.ofChange proofBackSpec)) proofBackCard

/-- THE TIED CARD OF 'palaverlaw22.ProofHonest'. -/
def proofHonestCard : Claim7 := { stood := { row := proofHonestRow, standIns := [], harness := (true, "ee572e2fa3cc8e6bafcbafc68f38da5dac821cc41152f957104fb76d0e222ba8"), looks := true }, kinds := [], alts := [], laidByText := true, laidKinds := [.data, .data, .data, .data, .sentinel, .sentinel, .data], laidTests := true, laidLooks := .later }
def ProofHonestCardSaid : Prop := Claim7.holds Tryz.pinned (.plain (OpenSpec.ofChange proofHonestSpec)) proofHonestCard

/-- THE TIED CARD OF 'palaverlaw26.SeenHears'. -/
def seenHearsCard : Claim7 := { stood := { row := seenHearsRow, standIns := [], harness := (true, "ee572e2fa3cc8e6bafcbafc68f38da5dac821cc41152f957104fb76d0e222ba8"), looks := true }, kinds := [], alts := [], laidByText := true, laidKinds := [.data, .data, .data, .data, .sentinel, .sentinel, .data], laidTests := true, laidLooks := .later }
def SeenHearsCardSaid : Prop := Claim7.holds Tryz.pinned (.plain (OpenSpec.ofChange seenHearsSpec)) seenHearsCard

/-- THE TIED CARD OF 'palaverlaw26.SeenFinds'. -/
def seenFindsCard : Claim7 := { stood := { row := seenFindsRow, standIns := [], harness := (true, "ee572e2fa3cc8e6bafcbafc68f38da5dac821cc41152f957104fb76d0e222ba8"), looks := true }, kinds := [], alts := [], laidByText := true, laidKinds := [.data, .data, .data, .data, .sentinel, .sentinel, .data], laidTests := true, laidLooks := .later }
def SeenFindsCardSaid : Prop := Claim7.holds Tryz.pinned (.plain (OpenSpec.ofChange seenFindsSpec)) seenFindsCard

/-- THE TIED CARD OF 'palavertop.TopLiar'. -/
def topLiarCard : Claim7 := { stood := { row := topLiarRow, standIns := [], harness := (true, "ee572e2fa3cc8e6bafcbafc68f38da5dac821cc41152f957104fb76d0e222ba8"), looks := true }, kinds := [], alts := [], laidByText := true, laidKinds := [.data, .data, .data, .data, .sentinel, .sentinel, .data], laidTests := true, laidLooks := .later }
def TopLiarCardSaid : Prop := Claim7.holds Tryz.pinned (.plain (OpenSpec.ofChange topLiarSpec)) topLiarCard

/-- THE SECOND FORM's CARD OF 'palaverlaw24.HandoverSigns'. -/
def handoverSignsUptoCard : Claim7 := { stood := { row := handoverSignsUptoRow, standIns := [], harness := (true, "ee572e2fa3cc8e6bafcbafc68f38da5dac821cc41152f957104fb76d0e222ba8"), looks := true }, kinds := [], alts := [], laidByText := true, laidKinds := [.data, .data, .data, .data, .sentinel, .sentinel, .data, .data, .data], laidTests := true, laidLooks := .later }
def HandoverSignsUptoCardSaid : Prop := Claim7.holds Tryz.pinned (.plain (OpenSpec.upto handoverSignsSpec)) handoverSignsUptoCard

/-- THE SECOND FORM's CARD OF 'palavertop.TopAgreed'. -/
def topAgreedUptoCard : Claim7 := { stood := { row := topAgreedUptoRow, standIns := [], harness := (true, "ee572e2fa3cc8e6bafcbafc68f38da5dac821cc41152f957104fb76d0e222ba8"), looks := true }, kinds := [], alts := [], laidByText := true, laidKinds := [.data, .data, .data, .data, .sentinel, .sentinel, .data, .data, .data], laidTests := true, laidLooks := .later }
def TopAgreedUptoCardSaid : Prop := Claim7.holds Tryz.pinned (.plain (OpenSpec.upto topAgreedSpec)) topAgreedUptoCard

/-- THE SECOND FORM's CARD OF 'palaverlaw22.ProofTells'. -/
def proofTellsUptoCard : Claim7 := { stood := { row := proofTellsUptoRow, standIns := [], harness := (true, "ee572e2fa3cc8e6bafcbafc68f38da5dac821cc41152f957104fb76d0e222ba8"), looks := true }, kinds := [], alts := [], laidByText := true, laidKinds := [.data, .data, .data, .data, .sentinel, .sentinel, .data], laidTests := true, laidLooks := .later }
def ProofTellsUptoCardSaid : Prop := Claim7.holds Tryz.pinned (.plain (OpenSpec.upto proofTellsSpec)) proofTellsUptoCard

/-- THE SECOND FORM's CARD OF 'palaverlaw22.ProofBack'. -/
def proofBackUptoCard : Claim7 := { stood := { row := proofBackUptoRow, standIns := [], harness := (true, "ee572e2fa3cc8e6bafcbafc68f38da5dac821cc41152f957104fb76d0e222ba8"), looks := true }, kinds := [], alts := [], laidByText := true, laidKinds := [.data, .data, .data, .data, .sentinel, .sentinel, .data], laidTests := true, laidLooks := .later }
def ProofBackUptoCardSaid : Prop := Claim7.holds Tryz.pinned (.plain (OpenSpec.upto proofBackSpec)) proofBackUptoCard

/-- THE SECOND FORM's CARD OF 'palaverlaw22.ProofHonest'. -/
def proofHonestUptoCard : Claim7 := { stood := { row := proofHonestUptoRow, standIns := [], harness := (true, "ee572e2fa3cc8e6bafcbafc68f38da5dac821cc41152f957104fb76d0e222ba8"), looks := true }, kinds := [], alts := [], laidByText := true, laidKinds := [.data, .data, .data, .data, .sentinel, .sentinel, .data], laidTests := true, laidLooks := .later }
def ProofHonestUptoCardSaid : Prop := Claim7.holds Tryz.pinned (.plain (OpenSpec.upto proofHonestSpec)) proofHonestUptoCard

/-- THE SECOND FORM's CARD OF 'palaverlaw26.SeenHears'. -/
def seenHearsUptoCard : Claim7 := { stood := { row := seenHearsUptoRow, standIns := [], harness := (true, "ee572e2fa3cc8e6bafcbafc68f38da5dac821cc41152f957104fb76d0e222ba8"), looks := true }, kinds := [], alts := [], laidByText := true, laidKinds := [.data, .data, .data, .data, .sentinel, .sentinel, .data], laidTests := true, laidLooks := .later }
def SeenHearsUptoCardSaid : Prop := Claim7.holds Tryz.pinned (.plain (OpenSpec.upto seenHearsSpec)) seenHearsUptoCard

/-- THE SECOND FORM's CARD OF 'palaverlaw26.SeenFinds'. -/
def seenFindsUptoCard : Claim7 := { stood := { row := seenFindsUptoRow, standIns := [], harness := (true, "ee572e2fa3cc8e6bafcbafc68f38da5dac821cc41152f957104fb76d0e222ba8"), looks := true }, kinds := [], alts := [], laidByText := true, laidKinds := [.data, .data, .data, .data, .sentinel, .sentinel, .data], laidTests := true, laidLooks := .later }
def SeenFindsUptoCardSaid : Prop := Claim7.holds Tryz.pinned (.plain (OpenSpec.upto seenFindsSpec)) seenFindsUptoCard

/-- THE SECOND FORM's CARD OF 'palavertop.TopLiar'. -/
def topLiarUptoCard : Claim7 := { stood := { row := topLiarUptoRow, standIns := [], harness := (true, "ee572e2fa3cc8e6bafcbafc68f38da5dac821cc41152f957104fb76d0e222ba8"), looks := true }, kinds := [], alts := [], laidByText := true, laidKinds := [.data, .data, .data, .data, .sentinel, .sentinel, .data], laidTests := true, laidLooks := .later }
def TopLiarUptoCardSaid : Prop := Claim7.holds Tryz.pinned (.plain (OpenSpec.upto topLiarSpec)) topLiarUptoCard
end Rows
end Go.Proofs.YtokakgjcegmabaaGreatDoor
