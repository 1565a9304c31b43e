/-
  DERIVED. GIVEN WITH THE SEED: THE CARDS: each row of YtfenjincbhkodaaDoorRows.lean that lists a variable, with what it lists TIED to the program's text (the seventh form; the later family's looks); each row that meets fmt, with fmt's text TOLD by the authors' own Lean function (tested against real Go, not proved from fmt's source: count such statements apart). THE CARD IS WHAT COUNTS. Prove the row's statement (the work); the ties are given (YtfenjincbhkodaaDoorTie.lean); close each card by the builder's one call (the guide's Derived/Test/ToyasCard.lean, 'card_holds'). Laid BY PROGRAM, IN A SANDBOX (cutbox-door.mjs). By AI agents, Wed Nov 11 2026. No macro, syntax, notation, axiom, sorry.
-/
import Derived.Test.YtfenjincbhkodaaDoorRows
import GoSem.ClaimSeven
namespace Go.Proofs.YtfenjincbhkodaaDoor
namespace Rows

/-- THE TIED CARD OF 'palaverlaw06.BookAdds'. -/
def bookAddsCard : Claim7 := { stood := { row := bookAddsRow, standIns := [], harness := (true, "acc450ce8745f56d12e045348316748ec2e11f98ea3f4ff709c9b94a4d4ce832"), looks := true }, kinds := [], alts := [], laidByText := true, laidKinds := [.data], laidTests := true, laidLooks := .later }
def BookAddsCardSaid : Prop := Claim7.holds Tryd.pinned (.plain (OpenSpec.ofChange bookAddsSpec)) bookAddsCard

/-- THE TIED CARD OF 'palaverlaw06.BookOne'. -/
def bookOneCard : Claim7 := { stood := { row := bookOneRow, standIns := [], harness := (true, "acc450ce8745f56d12e045348316748ec2e11f98ea3f4ff709c9b94a4d4ce832"), looks := true }, kinds := [], alts := [], laidByText := true, laidKinds := [.data], laidTests := true, laidLooks := .later }
def BookOneCardSaid : Prop := Claim7.holds Tryd.pinned (.plain (OpenSpec.ofChange bookOneSpec)) bookOneCard

/-- THE TIED CARD OF 'palaverlaw25.WireBack'. -/
def wireBackCard : Claim7 := { stood := { row := wireBackRow, standIns := [], harness := (true, "acc450ce8745f56d12e045348316748ec2e11f98ea3f4ff709c9b94a4d4ce832"), looks := true }, kinds := [], alts := [], laidByText := true, laidKinds := [.data, .data, .data, .sentinel, .sentinel, .data, .data, .data, .data, .data], laidTests := true, laidLooks := .later }
def WireBackCardSaid : Prop := Claim7.holds Tryd.pinned (.plain (OpenSpec.ofChange wireBackSpec)) wireBackCard

/-- THE TIED CARD OF 'palavertop.TopLeft'. -/
def topLeftCard : Claim7 := { stood := { row := topLeftRow, standIns := [], harness := (true, "acc450ce8745f56d12e045348316748ec2e11f98ea3f4ff709c9b94a4d4ce832"), looks := true }, kinds := [], alts := [], laidByText := true, laidKinds := [.data, .data, .data, .data, .sentinel, .sentinel, .data, .data], laidTests := true, laidLooks := .later }
def TopLeftCardSaid : Prop := Claim7.holds Tryd.pinned (.plain (OpenSpec.ofChange topLeftSpec)) topLeftCard

/-- THE SECOND FORM's CARD OF 'palaverlaw06.BookAdds'. -/
def bookAddsUptoCard : Claim7 := { stood := { row := bookAddsUptoRow, standIns := [], harness := (true, "acc450ce8745f56d12e045348316748ec2e11f98ea3f4ff709c9b94a4d4ce832"), looks := true }, kinds := [], alts := [], laidByText := true, laidKinds := [.data], laidTests := true, laidLooks := .later }
def BookAddsUptoCardSaid : Prop := Claim7.holds Tryd.pinned (.plain (OpenSpec.upto bookAddsSpec)) bookAddsUptoCard

/-- THE SECOND FORM's CARD OF 'palaverlaw06.BookOne'. -/
def bookOneUptoCard : Claim7 := { stood := { row := bookOneUptoRow, standIns := [], harness := (true, "acc450ce8745f56d12e045348316748ec2e11f98ea3f4ff709c9b94a4d4ce832"), looks := true }, kinds := [], alts := [], laidByText := true, laidKinds := [.data], laidTests := true, laidLooks := .later }
def BookOneUptoCardSaid : Prop := Claim7.holds Tryd.pinned (.plain (OpenSpec.upto bookOneSpec)) bookOneUptoCard

/-- THE SECOND FORM's CARD OF 'palaverlaw25.WireBack'. -/
def wireBackUptoCard : Claim7 := { stood := { row := wireBackUptoRow, standIns := [], harness := (true, "acc450ce8745f56d12e045348316748ec2e11f98ea3f4ff709c9b94a4d4ce832"), looks := true }, kinds := [], alts := [], laidByText := true, laidKinds := [.data, .data, .data, .sentinel, .sentinel, .data, .data, .data, .data, .data], laidTests := true, laidLooks := .later }
def WireBackUptoCardSaid : Prop := Claim7.holds Tryd.pinned (.plain (OpenSpec.upto wireBackSpec)) wireBackUptoCard

/-- THE SECOND FORM's CARD OF 'palavertop.TopLeft'. -/
def topLeftUptoCard : Claim7 := { stood := { row := topLeftUptoRow, standIns := [], harness := (true, "acc450ce8745f56d12e045348316748ec2e11f98ea3f4ff709c9b94a4d4ce832"), looks := true }, kinds := [], alts := [], laidByText := true, laidKinds := [.data, .data, .data, .data, .sentinel, .sentinel, .data, .data], laidTests := true, laidLooks := .later }
def TopLeftUptoCardSaid : Prop := Claim7.holds Tryd.pinned (.plain (OpenSpec.upto topLeftSpec)) topLeftUptoCard
end Rows
end Go.Proofs.YtfenjincbhkodaaDoor
