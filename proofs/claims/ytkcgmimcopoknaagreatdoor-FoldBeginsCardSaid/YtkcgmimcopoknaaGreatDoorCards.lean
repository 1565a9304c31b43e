/-
  DERIVED. GIVEN WITH THE SEED: THE CARDS: each row of YtkcgmimcopoknaaGreatDoorRows.lean that lists a variable, with what it lists TIED to the program's text (the seventh form; the later family's looks); each row that meets fmt, with fmt's text TOLD by the authors' own Lean function (tested against real Go, not proved from fmt's source: count such statements apart). THE CARD IS WHAT COUNTS. Prove the row's statement (the work); the ties are given (YtkcgmimcopoknaaGreatDoorTie.lean); close each card by the builder's one call (the guide's Derived/Test/ToyasCard.lean, 'card_holds'). Laid BY PROGRAM, IN A SANDBOX (cutbox-door.mjs). By AI agents, Wed Nov 11 2026. No macro, syntax, notation, axiom, sorry.
-/
import Derived.Test.YtkcgmimcopoknaaGreatDoorRows
import GoSem.ClaimSeven
namespace Go.Proofs.YtkcgmimcopoknaaGreatDoor
namespace Rows

/-- THE TIED CARD OF 'palaverlaw17.AuthJoined'. -/
def authJoinedCard : Claim7 := { stood := { row := authJoinedRow, standIns := [], harness := (true, "b0fd9c04d0306b6b5beeda7962310164e89fd177165dbcd99a65b1606ba501e3"), looks := true }, kinds := [], alts := [], laidByText := true, laidKinds := [.data, .data, .data, .data, .sentinel, .sentinel, .data, .pinned], laidTests := true, laidLooks := .later }
def AuthJoinedCardSaid : Prop := Claim7.holds Tryz.pinned (.plain (OpenSpec.ofChange authJoinedSpec)) authJoinedCard

/-- THE TIED CARD OF 'palaverlaw17.AuthBanned'. -/
def authBannedCard : Claim7 := { stood := { row := authBannedRow, standIns := [], harness := (true, "b0fd9c04d0306b6b5beeda7962310164e89fd177165dbcd99a65b1606ba501e3"), looks := true }, kinds := [], alts := [], laidByText := true, laidKinds := [.data, .data, .data, .data, .sentinel, .sentinel, .data, .pinned], laidTests := true, laidLooks := .later }
def AuthBannedCardSaid : Prop := Claim7.holds Tryz.pinned (.plain (OpenSpec.ofChange authBannedSpec)) authBannedCard

/-- THE TIED CARD OF 'palaverlaw18.FoldBegins'. -/
def foldBeginsCard : Claim7 := { stood := { row := foldBeginsRow, standIns := [], harness := (true, "b0fd9c04d0306b6b5beeda7962310164e89fd177165dbcd99a65b1606ba501e3"), looks := true }, kinds := [], alts := [], laidByText := true, laidKinds := [.data, .data, .data, .data, .sentinel, .sentinel, .data, .pinned], laidTests := true, laidLooks := .later }
def FoldBeginsCardSaid : Prop := Claim7.holds Tryz.pinned (.plain (OpenSpec.ofChange foldBeginsSpec)) foldBeginsCard

/-- THE TIED CARD OF 'palaverlaw18.FoldHub'. -/
def foldHubCard : Claim7 := { stood := { row := foldHubRow, standIns := [], harness := (true, "b0fd9c04d0306b6b5beeda7962310164e89fd177165dbcd99a65b1606ba501e3"), looks := true }, kinds := [], alts := [], laidByText := true, laidKinds := [.data, .data, .data, .data, .sentinel, .sentinel, .data, .pinned], laidTests := true, laidLooks := .later }
def FoldHubCardSaid : Prop := Claim7.holds Tryz.pinned (.plain (OpenSpec.ofChange foldHubSpec)) foldHubCard

/-- THE TIED CARD OF 'palavertop.TopRoom'. -/
def topRoomCard : Claim7 := { stood := { row := topRoomRow, standIns := [], harness := (true, "b0fd9c04d0306b6b5beeda7962310164e89fd177165dbcd99a65b1606ba501e3"), looks := true }, kinds := [], alts := [], laidByText := true, laidKinds := [.data, .data, .data, .data, .sentinel, .sentinel, .data, .pinned], laidTests := true, laidLooks := .later }
def TopRoomCardSaid : Prop := Claim7.holds Tryz.pinned (.plain (OpenSpec.ofChange topRoomSpec)) topRoomCard

/-- THE SECOND FORM's CARD OF 'palaverlaw17.AuthJoined'. -/
def authJoinedUptoCard : Claim7 := { stood := { row := authJoinedUptoRow, standIns := [], harness := (true, "b0fd9c04d0306b6b5beeda7962310164e89fd177165dbcd99a65b1606ba501e3"), looks := true }, kinds := [], alts := [], laidByText := true, laidKinds := [.data, .data, .data, .data, .sentinel, .sentinel, .data, .pinned], laidTests := true, laidLooks := .later }
def AuthJoinedUptoCardSaid : Prop := Claim7.holds Tryz.pinned (.plain (OpenSpec.upto authJoinedSpec)) authJoinedUptoCard

/-- THE SECOND FORM's CARD OF 'palaverlaw17.AuthBanned'. -/
def authBannedUptoCard : Claim7 := { stood := { row := authBannedUptoRow, standIns := [], harness := (true, "b0fd9c04d0306b6b5beeda7962310164e89fd177165dbcd99a65b1606ba501e3"), looks := true }, kinds := [], alts := [], laidByText := true, laidKinds := [.data, .data, .data, .data, .sentinel, .sentinel, .data, .pinned], laidTests := true, laidLooks := .later }
def AuthBannedUptoCardSaid : Prop := Claim7.holds Tryz.pinned (.plain (OpenSpec.upto authBannedSpec)) authBannedUptoCard

/-- THE SECOND FORM's CARD OF 'palaverlaw18.FoldBegins'. -/
def foldBeginsUptoCard : Claim7 := { stood := { row := foldBeginsUptoRow, standIns := [], harness := (true, "b0fd9c04d0306b6b5beeda7962310164e89fd177165dbcd99a65b1606ba501e3"), looks := true }, kinds := [], alts := [], laidByText := true, laidKinds := [.data, .data, .data, .data, .sentinel, .sentinel, .data, .pinned], laidTests := true, laidLooks := .later }
def FoldBeginsUptoCardSaid : Prop := Claim7.holds Tryz.pinned (.plain (OpenSpec.upto foldBeginsSpec)) foldBeginsUptoCard

/-- THE SECOND FORM's CARD OF 'palaverlaw18.FoldHub'. -/
def foldHubUptoCard : Claim7 := { stood := { row := foldHubUptoRow, standIns := [], harness := (true, "b0fd9c04d0306b6b5beeda7962310164e89fd177165dbcd99a65b1606ba501e3"), looks := true }, kinds := [], alts := [], laidByText := true, laidKinds := [.data, .data, .data, .data, .sentinel, .sentinel, .data, .pinned], laidTests := true, laidLooks := .later }
def FoldHubUptoCardSaid : Prop := Claim7.holds Tryz.pinned (.plain (OpenSpec.upto foldHubSpec)) foldHubUptoCard

/-- THE SECOND FORM's CARD OF 'palavertop.TopRoom'. -/
def topRoomUptoCard : Claim7 := { stood := { row := topRoomUptoRow, standIns := [], harness := (true, "b0fd9c04d0306b6b5beeda7962310164e89fd177165dbcd99a65b1606ba501e3"), looks := true }, kinds := [], alts := [], laidByText := true, laidKinds := [.data, .data, .data, .data, .sentinel, .sentinel, .data, .pinned], laidTests := true, laidLooks := .later }
def TopRoomUptoCardSaid : Prop := Claim7.holds Tryz.pinned (.plain (OpenSpec.upto topRoomSpec)) topRoomUptoCard
end Rows
end Go.Proofs.YtkcgmimcopoknaaGreatDoor
