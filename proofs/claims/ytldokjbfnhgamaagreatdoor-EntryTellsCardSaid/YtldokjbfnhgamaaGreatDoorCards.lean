/-
  DERIVED. GIVEN WITH THE SEED: THE CARDS: each row of YtldokjbfnhgamaaGreatDoorRows.lean that lists a variable, with what it lists TIED to the program's text (the seventh form; the later family's looks); each row that meets fmt, with fmt's text TOLD by the authors' own Lean function (tested against real Go, not proved from fmt's source: count such statements apart). THE CARD IS WHAT COUNTS. Prove the row's statement (the work); the ties are given (YtldokjbfnhgamaaGreatDoorTie.lean); close each card by the builder's one call (the guide's Derived/Test/ToyasCard.lean, 'card_holds'). Laid BY PROGRAM, IN A SANDBOX (cutbox-door.mjs). By AI agents, Wed Nov 11 2026. No macro, syntax, notation, axiom, sorry.
-/
import Derived.Test.YtldokjbfnhgamaaGreatDoorRows
import GoSem.ClaimSeven
namespace Go.Proofs.YtldokjbfnhgamaaGreatDoor
namespace Rows

/-- THE TIED CARD OF 'palaverlaw24.HandoverTells'. -/
def handoverTellsCard : Claim7 := { stood := { row := handoverTellsRow, standIns := [], harness := (true, "df32e12fc5cf5e2f20ba6b18048302869a3abcd0c0c97631efa7a010478bb27e"), looks := true }, kinds := [], alts := [], laidByText := true, laidKinds := [.data, .data, .data, .data, .sentinel, .sentinel, .data, .data, .data], laidTests := true, laidLooks := .later }
def HandoverTellsCardSaid : Prop := Claim7.holds Tryz.pinned (.plain (OpenSpec.ofChange handoverTellsSpec)) handoverTellsCard

/-- THE TIED CARD OF 'palaverlaw24.HandoverFits'. -/
def handoverFitsCard : Claim7 := { stood := { row := handoverFitsRow, standIns := [], harness := (true, "df32e12fc5cf5e2f20ba6b18048302869a3abcd0c0c97631efa7a010478bb27e"), looks := true }, kinds := [], alts := [], laidByText := true, laidKinds := [.data, .data, .data, .data, .sentinel, .sentinel, .data, .data, .data], laidTests := true, laidLooks := .later }
def HandoverFitsCardSaid : Prop := Claim7.holds Tryz.pinned (.plain (OpenSpec.ofChange handoverFitsSpec)) handoverFitsCard

/-- THE TIED CARD OF 'palaverlaw24.HandoverSigns'. -/
def handoverSignsCard : Claim7 := { stood := { row := handoverSignsRow, standIns := [], harness := (true, "df32e12fc5cf5e2f20ba6b18048302869a3abcd0c0c97631efa7a010478bb27e"), looks := true }, kinds := [], alts := [], laidByText := true, laidKinds := [.data, .data, .data, .data, .sentinel, .sentinel, .data, .data, .data], laidTests := true, laidLooks := .later }
def HandoverSignsCardSaid : Prop := Claim7.holds Tryz.pinned (.plain (OpenSpec.ofChange handoverSignsSpec)) handoverSignsCard

/-- THE TIED CARD OF 'palaverlaw19.EntryBack'. -/
def entryBackCard : Claim7 := { stood := { row := entryBackRow, standIns := [], harness := (true, "df32e12fc5cf5e2f20ba6b18048302869a3abcd0c0c97631efa7a010478bb27e"), looks := true }, kinds := [], alts := [], laidByText := true, laidKinds := [.data, .data, .data, .data, .sentinel, .sentinel, .data], laidTests := true, laidLooks := .later }
def EntryBackCardSaid : Prop := Claim7.holds Tryz.pinned (.plain (OpenSpec.ofChange entryBackSpec)) entryBackCard

/-- THE TIED CARD OF 'palaverlaw19.EntryTells'. -/
def entryTellsCard : Claim7 := { stood := { row := entryTellsRow, standIns := [], harness := (true, "df32e12fc5cf5e2f20ba6b18048302869a3abcd0c0c97631efa7a010478bb27e"), looks := true }, kinds := [], alts := [], laidByText := true, laidKinds := [.data, .data, .data, .data, .sentinel, .sentinel, .data], laidTests := true, laidLooks := .later }
def EntryTellsCardSaid : Prop := Claim7.holds Tryz.pinned (.plain (OpenSpec.ofChange entryTellsSpec)) entryTellsCard

/-- THE TIED CARD OF 'palaverlaw19.EntrySigns'. -/
def entrySignsCard : Claim7 := { stood := { row := entrySignsRow, standIns := [], harness := (true, "df32e12fc5cf5e2f20ba6b18048302869a3abcd0c0c97631efa7a010478bb27e"), looks := true }, kinds := [], alts := [], laidByText := true, laidKinds := [.data, .data, .data, .data, .sentinel, .sentinel, .data], laidTests := true, laidLooks := .later }
def EntrySignsCardSaid : Prop := Claim7.holds Tryz.pinned (.plain (OpenSpec.ofChange entrySignsSpec)) entrySignsCard

/-- THE TIED CARD OF 'palavertop.TopAgreed'. -/
def topAgreedCard : Claim7 := { stood := { row := topAgreedRow, standIns := [], harness := (true, "df32e12fc5cf5e2f20ba6b18048302869a3abcd0c0c97631efa7a010478bb27e"), looks := true }, kinds := [], alts := [], laidByText := true, laidKinds := [.data, .data, .data, .data, .sentinel, .sentinel, .data, .data, .data], laidTests := true, laidLooks := .later }
def TopAgreedCardSaid : Prop := Claim7.holds Tryz.pinned (.plain (OpenSpec.ofChange topAgreedSpec)) topAgreedCard

/-- THE SECOND FORM's CARD OF 'palaverlaw24.HandoverTells'. -/
def handoverTellsUptoCard : Claim7 := { stood := { row := handoverTellsUptoRow, standIns := [], harness := (true, "df32e12fc5cf5e2f20ba6b18048302869a3abcd0c0c97631efa7a010478bb27e"), looks := true }, kinds := [], alts := [], laidByText := true, laidKinds := [.data, .data, .data, .data, .sentinel, .sentinel, .data, .data, .data], laidTests := true, laidLooks := .later }
def HandoverTellsUptoCardSaid : Prop := Claim7.holds Tryz.pinned (.plain (OpenSpec.upto handoverTellsSpec)) handoverTellsUptoCard

/-- THE SECOND FORM's CARD OF 'palaverlaw24.HandoverFits'. -/
def handoverFitsUptoCard : Claim7 := { stood := { row := handoverFitsUptoRow, standIns := [], harness := (true, "df32e12fc5cf5e2f20ba6b18048302869a3abcd0c0c97631efa7a010478bb27e"), looks := true }, kinds := [], alts := [], laidByText := true, laidKinds := [.data, .data, .data, .data, .sentinel, .sentinel, .data, .data, .data], laidTests := true, laidLooks := .later }
def HandoverFitsUptoCardSaid : Prop := Claim7.holds Tryz.pinned (.plain (OpenSpec.upto handoverFitsSpec)) handoverFitsUptoCard

/-- THE SECOND FORM's CARD OF 'palaverlaw24.HandoverSigns'. -/
def handoverSignsUptoCard : Claim7 := { stood := { row := handoverSignsUptoRow, standIns := [], harness := (true, "df32e12fc5cf5e2f20ba6b18048302869a3abcd0c0c97631efa7a010478bb27e"), looks := true }, kinds := [], alts := [], laidByText := true, laidKinds := [.data, .data, .data, .data, .sentinel, .sentinel, .data, .data, .data], laidTests := true, laidLooks := .later }
def HandoverSignsUptoCardSaid : Prop := Claim7.holds Tryz.pinned (.plain (OpenSpec.upto handoverSignsSpec)) handoverSignsUptoCard

/-- THE SECOND FORM's CARD OF 'palaverlaw19.EntryBack'. -/
def entryBackUptoCard : Claim7 := { stood := { row := entryBackUptoRow, standIns := [], harness := (true, "df32e12fc5cf5e2f20ba6b18048302869a3abcd0c0c97631efa7a010478bb27e"), looks := true }, kinds := [], alts := [], laidByText := true, laidKinds := [.data, .data, .data, .data, .sentinel, .sentinel, .data], laidTests := true, laidLooks := .later }
def EntryBackUptoCardSaid : Prop := Claim7.holds Tryz.pinned (.plain (OpenSpec.upto entryBackSpec)) entryBackUptoCard

/-- THE SECOND FORM's CARD OF 'palaverlaw19.EntryTells'. -/
def entryTellsUptoCard : Claim7 := { stood := { row := entryTellsUptoRow, standIns := [], harness := (true, "df32e12fc5cf5e2f20ba6b18048302869a3abcd0c0c97631efa7a010478bb27e"), looks := true }, kinds := [], alts := [], laidByText := true, laidKinds := [.data, .data, .data, .data, .sentinel, .sentinel, .data], laidTests := true, laidLooks := .later }
def EntryTellsUptoCardSaid : Prop := Claim7.holds Tryz.pinned (.plain (OpenSpec.upto entryTellsSpec)) entryTellsUptoCard

/-- THE SECOND FORM's CARD OF 'palaverlaw19.EntrySigns'. -/
def entrySignsUptoCard : Claim7 := { stood := { row := entrySignsUptoRow, standIns := [], harness := (true, "df32e12fc5cf5e2f20ba6b18048302869a3abcd0c0c97631efa7a010478bb27e"), looks := true }, kinds := [], alts := [], laidByText := true, laidKinds := [.data, .data, .data, .data, .sentinel, .sentinel, .data], laidTests := true, laidLooks := .later }
def EntrySignsUptoCardSaid : Prop := Claim7.holds Tryz.pinned (.plain (OpenSpec.upto entrySignsSpec)) entrySignsUptoCard

/-- THE SECOND FORM's CARD OF 'palavertop.TopAgreed'. -/
def topAgreedUptoCard : Claim7 := { stood := { row := topAgreedUptoRow, standIns := [], harness := (true, "df32e12fc5cf5e2f20ba6b18048302869a3abcd0c0c97631efa7a010478bb27e"), looks := true }, kinds := [], alts := [], laidByText := true, laidKinds := [.data, .data, .data, .data, .sentinel, .sentinel, .data, .data, .data], laidTests := true, laidLooks := .later }
def TopAgreedUptoCardSaid : Prop := Claim7.holds Tryz.pinned (.plain (OpenSpec.upto topAgreedSpec)) topAgreedUptoCard
end Rows
end Go.Proofs.YtldokjbfnhgamaaGreatDoor
