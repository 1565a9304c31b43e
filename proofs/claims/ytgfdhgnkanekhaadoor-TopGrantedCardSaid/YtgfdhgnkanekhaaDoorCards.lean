/-
  DERIVED. GIVEN WITH THE SEED: THE CARDS: each row of YtgfdhgnkanekhaaDoorRows.lean that lists a variable, with what it lists TIED to the program's text (the seventh form; the later family's looks); each row that meets fmt, with fmt's text TOLD by the authors' own Lean function (tested against real Go, not proved from fmt's source: count such statements apart). THE CARD IS WHAT COUNTS. Prove the row's statement (the work); the ties are given (YtgfdhgnkanekhaaDoorTie.lean); close each card by the builder's one call (the guide's Derived/Test/ToyasCard.lean, 'card_holds'). Laid BY PROGRAM, IN A SANDBOX (cutbox-door.mjs). By AI agents, Wed Nov 11 2026. No macro, syntax, notation, axiom, sorry.
-/
import Derived.Test.YtgfdhgnkanekhaaDoorRows
import GoSem.ClaimSeven
namespace Go.Proofs.YtgfdhgnkanekhaaDoor
namespace Rows

/-- THE TIED CARD OF 'palaverlaw05.KeySigns'. -/
def keySignsCard : Claim7 := { stood := { row := keySignsRow, standIns := [], harness := (true, "c03bf58bbd2451362d0f5f5b20e22cd7b3ec904c03a2c5d9faa5705e99dc1f00"), looks := false }, kinds := [], alts := [], laidByText := true, laidKinds := [.data], laidTests := true, laidLooks := .later }
def KeySignsCardSaid : Prop := Claim7.holds Tryd.pinned (.plain (OpenSpec.ofChange keySignsSpec)) keySignsCard

/-- THE TIED CARD OF 'palaverlaw05.KeyVerifies'. -/
def keyVerifiesCard : Claim7 := { stood := { row := keyVerifiesRow, standIns := [], harness := (true, "c03bf58bbd2451362d0f5f5b20e22cd7b3ec904c03a2c5d9faa5705e99dc1f00"), looks := false }, kinds := [], alts := [], laidByText := true, laidKinds := [.data], laidTests := true, laidLooks := .later }
def KeyVerifiesCardSaid : Prop := Claim7.holds Tryd.pinned (.plain (OpenSpec.ofChange keyVerifiesSpec)) keyVerifiesCard

/-- THE TIED CARD OF 'palaverlaw05.KeyBack'. -/
def keyBackCard : Claim7 := { stood := { row := keyBackRow, standIns := [], harness := (true, "c03bf58bbd2451362d0f5f5b20e22cd7b3ec904c03a2c5d9faa5705e99dc1f00"), looks := false }, kinds := [], alts := [], laidByText := true, laidKinds := [.data], laidTests := true, laidLooks := .later }
def KeyBackCardSaid : Prop := Claim7.holds Tryd.pinned (.plain (OpenSpec.ofChange keyBackSpec)) keyBackCard

/-- THE TIED CARD OF 'palaverlaw05.KeyRings'. -/
def keyRingsCard : Claim7 := { stood := { row := keyRingsRow, standIns := [], harness := (true, "c03bf58bbd2451362d0f5f5b20e22cd7b3ec904c03a2c5d9faa5705e99dc1f00"), looks := false }, kinds := [], alts := [], laidByText := true, laidKinds := [.data], laidTests := true, laidLooks := .later }
def KeyRingsCardSaid : Prop := Claim7.holds Tryd.pinned (.plain (OpenSpec.ofChange keyRingsSpec)) keyRingsCard

/-- THE TIED CARD OF 'palaverlaw06.BookAdds'. -/
def bookAddsCard : Claim7 := { stood := { row := bookAddsRow, standIns := [], harness := (true, "c03bf58bbd2451362d0f5f5b20e22cd7b3ec904c03a2c5d9faa5705e99dc1f00"), looks := false }, kinds := [], alts := [], laidByText := true, laidKinds := [.data], laidTests := true, laidLooks := .later }
def BookAddsCardSaid : Prop := Claim7.holds Tryd.pinned (.plain (OpenSpec.ofChange bookAddsSpec)) bookAddsCard

/-- THE TIED CARD OF 'palaverlaw06.BookFinds'. -/
def bookFindsCard : Claim7 := { stood := { row := bookFindsRow, standIns := [], harness := (true, "c03bf58bbd2451362d0f5f5b20e22cd7b3ec904c03a2c5d9faa5705e99dc1f00"), looks := false }, kinds := [], alts := [], laidByText := true, laidKinds := [.data], laidTests := true, laidLooks := .later }
def BookFindsCardSaid : Prop := Claim7.holds Tryd.pinned (.plain (OpenSpec.ofChange bookFindsSpec)) bookFindsCard

/-- THE TIED CARD OF 'palaverlaw06.BookOne'. -/
def bookOneCard : Claim7 := { stood := { row := bookOneRow, standIns := [], harness := (true, "c03bf58bbd2451362d0f5f5b20e22cd7b3ec904c03a2c5d9faa5705e99dc1f00"), looks := false }, kinds := [], alts := [], laidByText := true, laidKinds := [.data], laidTests := true, laidLooks := .later }
def BookOneCardSaid : Prop := Claim7.holds Tryd.pinned (.plain (OpenSpec.ofChange bookOneSpec)) bookOneCard

/-- THE TIED CARD OF 'palavertop.TopGranted'. -/
def topGrantedCard : Claim7 := { stood := { row := topGrantedRow, standIns := [], harness := (true, "c03bf58bbd2451362d0f5f5b20e22cd7b3ec904c03a2c5d9faa5705e99dc1f00"), looks := false }, kinds := [], alts := [], laidByText := true, laidKinds := [.data], laidTests := true, laidLooks := .later }
def TopGrantedCardSaid : Prop := Claim7.holds Tryd.pinned (.plain (OpenSpec.ofChange topGrantedSpec)) topGrantedCard

/-- THE SECOND FORM's CARD OF 'palaverlaw05.KeySigns'. -/
def keySignsUptoCard : Claim7 := { stood := { row := keySignsUptoRow, standIns := [], harness := (true, "c03bf58bbd2451362d0f5f5b20e22cd7b3ec904c03a2c5d9faa5705e99dc1f00"), looks := false }, kinds := [], alts := [], laidByText := true, laidKinds := [.data], laidTests := true, laidLooks := .later }
def KeySignsUptoCardSaid : Prop := Claim7.holds Tryd.pinned (.plain (OpenSpec.upto keySignsSpec)) keySignsUptoCard

/-- THE SECOND FORM's CARD OF 'palaverlaw05.KeyVerifies'. -/
def keyVerifiesUptoCard : Claim7 := { stood := { row := keyVerifiesUptoRow, standIns := [], harness := (true, "c03bf58bbd2451362d0f5f5b20e22cd7b3ec904c03a2c5d9faa5705e99dc1f00"), looks := false }, kinds := [], alts := [], laidByText := true, laidKinds := [.data], laidTests := true, laidLooks := .later }
def KeyVerifiesUptoCardSaid : Prop := Claim7.holds Tryd.pinned (.plain (OpenSpec.upto keyVerifiesSpec)) keyVerifiesUptoCard

/-- THE SECOND FORM's CARD OF 'palaverlaw05.KeyBack'. -/
def keyBackUptoCard : Claim7 := { stood := { row := keyBackUptoRow, standIns := [], harness := (true, "c03bf58bbd2451362d0f5f5b20e22cd7b3ec904c03a2c5d9faa5705e99dc1f00"), looks := false }, kinds := [], alts := [], laidByText := true, laidKinds := [.data], laidTests := true, laidLooks := .later }
def KeyBackUptoCardSaid : Prop := Claim7.holds Tryd.pinned (.plain (OpenSpec.upto keyBackSpec)) keyBackUptoCard

/-- THE SECOND FORM's CARD OF 'palaverlaw05.KeyRings'. -/
def keyRingsUptoCard : Claim7 := { stood := { row := keyRingsUptoRow, standIns := [], harness := (true, "c03bf58bbd2451362d0f5f5b20e22cd7b3ec904c03a2c5d9faa5705e99dc1f00"), looks := false }, kinds := [], alts := [], laidByText := true, laidKinds := [.data], laidTests := true, laidLooks := .later }
def KeyRingsUptoCardSaid : Prop := Claim7.holds Tryd.pinned (.plain (OpenSpec.upto keyRingsSpec)) keyRingsUptoCard

/-- THE SECOND FORM's CARD OF 'palaverlaw06.BookAdds'. -/
def bookAddsUptoCard : Claim7 := { stood := { row := bookAddsUptoRow, standIns := [], harness := (true, "c03bf58bbd2451362d0f5f5b20e22cd7b3ec904c03a2c5d9faa5705e99dc1f00"), looks := false }, kinds := [], alts := [], laidByText := true, laidKinds := [.data], laidTests := true, laidLooks := .later }
def BookAddsUptoCardSaid : Prop := Claim7.holds Tryd.pinned (.plain (OpenSpec.upto bookAddsSpec)) bookAddsUptoCard

/-- THE SECOND FORM's CARD OF 'palaverlaw06.BookFinds'. -/
def bookFindsUptoCard : Claim7 := { stood := { row := bookFindsUptoRow, standIns := [], harness := (true, "c03bf58bbd2451362d0f5f5b20e22cd7b3ec904c03a2c5d9faa5705e99dc1f00"), looks := false }, kinds := [], alts := [], laidByText := true, laidKinds := [.data], laidTests := true, laidLooks := .later }
def BookFindsUptoCardSaid : Prop := Claim7.holds Tryd.pinned (.plain (OpenSpec.upto bookFindsSpec)) bookFindsUptoCard

/-- THE SECOND FORM's CARD OF 'palaverlaw06.BookOne'. -/
def bookOneUptoCard : Claim7 := { stood := { row := bookOneUptoRow, standIns := [], harness := (true, "c03bf58bbd2451362d0f5f5b20e22cd7b3ec904c03a2c5d9faa5705e99dc1f00"), looks := false }, kinds := [], alts := [], laidByText := true, laidKinds := [.data], laidTests := true, laidLooks := .later }
def BookOneUptoCardSaid : Prop := Claim7.holds Tryd.pinned (.plain (OpenSpec.upto bookOneSpec)) bookOneUptoCard

/-- THE SECOND FORM's CARD OF 'palavertop.TopGranted'. -/
def topGrantedUptoCard : Claim7 := { stood := { row := topGrantedUptoRow, standIns := [], harness := (true, "c03bf58bbd2451362d0f5f5b20e22cd7b3ec904c03a2c5d9faa5705e99dc1f00"), looks := false }, kinds := [], alts := [], laidByText := true, laidKinds := [.data], laidTests := true, laidLooks := .later }
def TopGrantedUptoCardSaid : Prop := Claim7.holds Tryd.pinned (.plain (OpenSpec.upto topGrantedSpec)) topGrantedUptoCard
end Rows
end Go.Proofs.YtgfdhgnkanekhaaDoor
