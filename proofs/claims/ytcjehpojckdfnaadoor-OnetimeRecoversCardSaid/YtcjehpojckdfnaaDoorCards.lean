/-
  DERIVED. GIVEN WITH THE SEED: THE CARDS: each row of YtcjehpojckdfnaaDoorRows.lean that lists a variable, with what it lists TIED to the program's text (the seventh form; the later family's looks); each row that meets fmt, with fmt's text TOLD by the authors' own Lean function (tested against real Go, not proved from fmt's source: count such statements apart). THE CARD IS WHAT COUNTS. Prove the row's statement (the work); the ties are given (YtcjehpojckdfnaaDoorTie.lean); close each card by the builder's one call (the guide's Derived/Test/ToyasCard.lean, 'card_holds'). Laid BY PROGRAM, IN A SANDBOX (cutbox-door.mjs). By AI agents, Wed Nov 11 2026. No macro, syntax, notation, axiom, sorry.
-/
import Derived.Test.YtcjehpojckdfnaaDoorRows
import GoSem.ClaimSeven
namespace Go.Proofs.YtcjehpojckdfnaaDoor
namespace Rows

/-- THE TIED CARD OF 'palaverlaw02.ShaSums'. -/
def shaSumsCard : Claim7 := { stood := { row := shaSumsRow, standIns := [], harness := (true, "36c2d6b70edcc404795993ed2af51258d46dcc0c412ba1d78b6d84e4037638f4"), looks := false }, kinds := [], alts := [], laidByText := true, laidKinds := [.data], laidTests := true, laidLooks := .later }
def ShaSumsCardSaid : Prop := Claim7.holds Tryd.pinned (.plain (OpenSpec.ofChange shaSumsSpec)) shaSumsCard

/-- THE TIED CARD OF 'palaverlaw02.ShaTurns'. -/
def shaTurnsCard : Claim7 := { stood := { row := shaTurnsRow, standIns := [], harness := (true, "36c2d6b70edcc404795993ed2af51258d46dcc0c412ba1d78b6d84e4037638f4"), looks := false }, kinds := [], alts := [], laidByText := true, laidKinds := [.data], laidTests := true, laidLooks := .later }
def ShaTurnsCardSaid : Prop := Claim7.holds Tryd.pinned (.plain (OpenSpec.ofChange shaTurnsSpec)) shaTurnsCard

/-- THE TIED CARD OF 'palaverlaw02.ShaBack'. -/
def shaBackCard : Claim7 := { stood := { row := shaBackRow, standIns := [], harness := (true, "36c2d6b70edcc404795993ed2af51258d46dcc0c412ba1d78b6d84e4037638f4"), looks := false }, kinds := [], alts := [], laidByText := true, laidKinds := [.data], laidTests := true, laidLooks := .later }
def ShaBackCardSaid : Prop := Claim7.holds Tryd.pinned (.plain (OpenSpec.ofChange shaBackSpec)) shaBackCard

/-- THE TIED CARD OF 'palaverlaw03.TreeRoots'. -/
def treeRootsCard : Claim7 := { stood := { row := treeRootsRow, standIns := [], harness := (true, "36c2d6b70edcc404795993ed2af51258d46dcc0c412ba1d78b6d84e4037638f4"), looks := false }, kinds := [], alts := [], laidByText := true, laidKinds := [.data], laidTests := true, laidLooks := .later }
def TreeRootsCardSaid : Prop := Claim7.holds Tryd.pinned (.plain (OpenSpec.ofChange treeRootsSpec)) treeRootsCard

/-- THE TIED CARD OF 'palaverlaw03.TreeClimbs'. -/
def treeClimbsCard : Claim7 := { stood := { row := treeClimbsRow, standIns := [], harness := (true, "36c2d6b70edcc404795993ed2af51258d46dcc0c412ba1d78b6d84e4037638f4"), looks := false }, kinds := [], alts := [], laidByText := true, laidKinds := [.data], laidTests := true, laidLooks := .later }
def TreeClimbsCardSaid : Prop := Claim7.holds Tryd.pinned (.plain (OpenSpec.ofChange treeClimbsSpec)) treeClimbsCard

/-- THE TIED CARD OF 'palaverlaw03.TreeThere'. -/
def treeThereCard : Claim7 := { stood := { row := treeThereRow, standIns := [], harness := (true, "36c2d6b70edcc404795993ed2af51258d46dcc0c412ba1d78b6d84e4037638f4"), looks := false }, kinds := [], alts := [], laidByText := true, laidKinds := [.data], laidTests := true, laidLooks := .later }
def TreeThereCardSaid : Prop := Claim7.holds Tryd.pinned (.plain (OpenSpec.ofChange treeThereSpec)) treeThereCard

/-- THE TIED CARD OF 'palaverlaw03.TreeOther'. -/
def treeOtherCard : Claim7 := { stood := { row := treeOtherRow, standIns := [], harness := (true, "36c2d6b70edcc404795993ed2af51258d46dcc0c412ba1d78b6d84e4037638f4"), looks := false }, kinds := [], alts := [], laidByText := true, laidKinds := [.data], laidTests := true, laidLooks := .later }
def TreeOtherCardSaid : Prop := Claim7.holds Tryd.pinned (.plain (OpenSpec.ofChange treeOtherSpec)) treeOtherCard

/-- THE TIED CARD OF 'palaverlaw04.OnetimeDigits'. -/
def onetimeDigitsCard : Claim7 := { stood := { row := onetimeDigitsRow, standIns := [], harness := (true, "36c2d6b70edcc404795993ed2af51258d46dcc0c412ba1d78b6d84e4037638f4"), looks := false }, kinds := [], alts := [], laidByText := true, laidKinds := [.data], laidTests := true, laidLooks := .later }
def OnetimeDigitsCardSaid : Prop := Claim7.holds Tryd.pinned (.plain (OpenSpec.ofChange onetimeDigitsSpec)) onetimeDigitsCard

/-- THE TIED CARD OF 'palaverlaw04.OnetimeSigns'. -/
def onetimeSignsCard : Claim7 := { stood := { row := onetimeSignsRow, standIns := [], harness := (true, "36c2d6b70edcc404795993ed2af51258d46dcc0c412ba1d78b6d84e4037638f4"), looks := false }, kinds := [], alts := [], laidByText := true, laidKinds := [.data], laidTests := true, laidLooks := .later }
def OnetimeSignsCardSaid : Prop := Claim7.holds Tryd.pinned (.plain (OpenSpec.ofChange onetimeSignsSpec)) onetimeSignsCard

/-- THE TIED CARD OF 'palaverlaw04.OnetimeRecovers'. -/
def onetimeRecoversCard : Claim7 := { stood := { row := onetimeRecoversRow, standIns := [], harness := (true, "36c2d6b70edcc404795993ed2af51258d46dcc0c412ba1d78b6d84e4037638f4"), looks := false }, kinds := [], alts := [], laidByText := true, laidKinds := [.data], laidTests := true, laidLooks := .later }
def OnetimeRecoversCardSaid : Prop := Claim7.holds Tryd.pinned (.plain (OpenSpec.ofChange onetimeRecoversSpec)) onetimeRecoversCard

/-- THE TIED CARD OF 'palaverlaw04.OnetimeBack'. -/
def onetimeBackCard : Claim7 := { stood := { row := onetimeBackRow, standIns := [], harness := (true, "36c2d6b70edcc404795993ed2af51258d46dcc0c412ba1d78b6d84e4037638f4"), looks := false }, kinds := [], alts := [], laidByText := true, laidKinds := [.data], laidTests := true, laidLooks := .later }
def OnetimeBackCardSaid : Prop := Claim7.holds Tryd.pinned (.plain (OpenSpec.ofChange onetimeBackSpec)) onetimeBackCard

/-- THE TIED CARD OF 'palaverlaw04.OnetimeAbove'. -/
def onetimeAboveCard : Claim7 := { stood := { row := onetimeAboveRow, standIns := [], harness := (true, "36c2d6b70edcc404795993ed2af51258d46dcc0c412ba1d78b6d84e4037638f4"), looks := false }, kinds := [], alts := [], laidByText := true, laidKinds := [.data], laidTests := true, laidLooks := .later }
def OnetimeAboveCardSaid : Prop := Claim7.holds Tryd.pinned (.plain (OpenSpec.ofChange onetimeAboveSpec)) onetimeAboveCard

/-- THE TIED CARD OF 'palavertop.TopSummed'. -/
def topSummedCard : Claim7 := { stood := { row := topSummedRow, standIns := [], harness := (true, "36c2d6b70edcc404795993ed2af51258d46dcc0c412ba1d78b6d84e4037638f4"), looks := false }, kinds := [], alts := [], laidByText := true, laidKinds := [.data], laidTests := true, laidLooks := .later }
def TopSummedCardSaid : Prop := Claim7.holds Tryd.pinned (.plain (OpenSpec.ofChange topSummedSpec)) topSummedCard

/-- THE TIED CARD OF 'palavertop.TopOnce'. -/
def topOnceCard : Claim7 := { stood := { row := topOnceRow, standIns := [], harness := (true, "36c2d6b70edcc404795993ed2af51258d46dcc0c412ba1d78b6d84e4037638f4"), looks := false }, kinds := [], alts := [], laidByText := true, laidKinds := [.data], laidTests := true, laidLooks := .later }
def TopOnceCardSaid : Prop := Claim7.holds Tryd.pinned (.plain (OpenSpec.ofChange topOnceSpec)) topOnceCard

/-- THE SECOND FORM's CARD OF 'palaverlaw02.ShaSums'. -/
def shaSumsUptoCard : Claim7 := { stood := { row := shaSumsUptoRow, standIns := [], harness := (true, "36c2d6b70edcc404795993ed2af51258d46dcc0c412ba1d78b6d84e4037638f4"), looks := false }, kinds := [], alts := [], laidByText := true, laidKinds := [.data], laidTests := true, laidLooks := .later }
def ShaSumsUptoCardSaid : Prop := Claim7.holds Tryd.pinned (.plain (OpenSpec.upto shaSumsSpec)) shaSumsUptoCard

/-- THE SECOND FORM's CARD OF 'palaverlaw02.ShaTurns'. -/
def shaTurnsUptoCard : Claim7 := { stood := { row := shaTurnsUptoRow, standIns := [], harness := (true, "36c2d6b70edcc404795993ed2af51258d46dcc0c412ba1d78b6d84e4037638f4"), looks := false }, kinds := [], alts := [], laidByText := true, laidKinds := [.data], laidTests := true, laidLooks := .later }
def ShaTurnsUptoCardSaid : Prop := Claim7.holds Tryd.pinned (.plain (OpenSpec.upto shaTurnsSpec)) shaTurnsUptoCard

/-- THE SECOND FORM's CARD OF 'palaverlaw02.ShaBack'. -/
def shaBackUptoCard : Claim7 := { stood := { row := shaBackUptoRow, standIns := [], harness := (true, "36c2d6b70edcc404795993ed2af51258d46dcc0c412ba1d78b6d84e4037638f4"), looks := false }, kinds := [], alts := [], laidByText := true, laidKinds := [.data], laidTests := true, laidLooks := .later }
def ShaBackUptoCardSaid : Prop := Claim7.holds Tryd.pinned (.plain (OpenSpec.upto shaBackSpec)) shaBackUptoCard

/-- THE SECOND FORM's CARD OF 'palaverlaw03.TreeRoots'. -/
def treeRootsUptoCard : Claim7 := { stood := { row := treeRootsUptoRow, standIns := [], harness := (true, "36c2d6b70edcc404795993ed2af51258d46dcc0c412ba1d78b6d84e4037638f4"), looks := false }, kinds := [], alts := [], laidByText := true, laidKinds := [.data], laidTests := true, laidLooks := .later }
def TreeRootsUptoCardSaid : Prop := Claim7.holds Tryd.pinned (.plain (OpenSpec.upto treeRootsSpec)) treeRootsUptoCard

/-- THE SECOND FORM's CARD OF 'palaverlaw03.TreeClimbs'. -/
def treeClimbsUptoCard : Claim7 := { stood := { row := treeClimbsUptoRow, standIns := [], harness := (true, "36c2d6b70edcc404795993ed2af51258d46dcc0c412ba1d78b6d84e4037638f4"), looks := false }, kinds := [], alts := [], laidByText := true, laidKinds := [.data], laidTests := true, laidLooks := .later }
def TreeClimbsUptoCardSaid : Prop := Claim7.holds Tryd.pinned (.plain (OpenSpec.upto treeClimbsSpec)) treeClimbsUptoCard

/-- THE SECOND FORM's CARD OF 'palaverlaw03.TreeThere'. -/
def treeThereUptoCard : Claim7 := { stood := { row := treeThereUptoRow, standIns := [], harness := (true, "36c2d6b70edcc404795993ed2af51258d46dcc0c412ba1d78b6d84e4037638f4"), looks := false }, kinds := [], alts := [], laidByText := true, laidKinds := [.data], laidTests := true, laidLooks := .later }
def TreeThereUptoCardSaid : Prop := Claim7.holds Tryd.pinned (.plain (OpenSpec.upto treeThereSpec)) treeThereUptoCard

/-- THE SECOND FORM's CARD OF 'palaverlaw03.TreeOther'. -/
def treeOtherUptoCard : Claim7 := { stood := { row := treeOtherUptoRow, standIns := [], harness := (true, "36c2d6b70edcc404795993ed2af51258d46dcc0c412ba1d78b6d84e4037638f4"), looks := false }, kinds := [], alts := [], laidByText := true, laidKinds := [.data], laidTests := true, laidLooks := .later }
def TreeOtherUptoCardSaid : Prop := Claim7.holds Tryd.pinned (.plain (OpenSpec.upto treeOtherSpec)) treeOtherUptoCard

/-- THE SECOND FORM's CARD OF 'palaverlaw04.OnetimeDigits'. -/
def onetimeDigitsUptoCard : Claim7 := { stood := { row := onetimeDigitsUptoRow, standIns := [], harness := (true, "36c2d6b70edcc404795993ed2af51258d46dcc0c412ba1d78b6d84e4037638f4"), looks := false }, kinds := [], alts := [], laidByText := true, laidKinds := [.data], laidTests := true, laidLooks := .later }
def OnetimeDigitsUptoCardSaid : Prop := Claim7.holds Tryd.pinned (.plain (OpenSpec.upto onetimeDigitsSpec)) onetimeDigitsUptoCard

/-- THE SECOND FORM's CARD OF 'palaverlaw04.OnetimeSigns'. -/
def onetimeSignsUptoCard : Claim7 := { stood := { row := onetimeSignsUptoRow, standIns := [], harness := (true, "36c2d6b70edcc404795993ed2af51258d46dcc0c412ba1d78b6d84e4037638f4"), looks := false }, kinds := [], alts := [], laidByText := true, laidKinds := [.data], laidTests := true, laidLooks := .later }
def OnetimeSignsUptoCardSaid : Prop := Claim7.holds Tryd.pinned (.plain (OpenSpec.upto onetimeSignsSpec)) onetimeSignsUptoCard

/-- THE SECOND FORM's CARD OF 'palaverlaw04.OnetimeRecovers'. -/
def onetimeRecoversUptoCard : Claim7 := { stood := { row := onetimeRecoversUptoRow, standIns := [], harness := (true, "36c2d6b70edcc404795993ed2af51258d46dcc0c412ba1d78b6d84e4037638f4"), looks := false }, kinds := [], alts := [], laidByText := true, laidKinds := [.data], laidTests := true, laidLooks := .later }
def OnetimeRecoversUptoCardSaid : Prop := Claim7.holds Tryd.pinned (.plain (OpenSpec.upto onetimeRecoversSpec)) onetimeRecoversUptoCard

/-- THE SECOND FORM's CARD OF 'palaverlaw04.OnetimeBack'. -/
def onetimeBackUptoCard : Claim7 := { stood := { row := onetimeBackUptoRow, standIns := [], harness := (true, "36c2d6b70edcc404795993ed2af51258d46dcc0c412ba1d78b6d84e4037638f4"), looks := false }, kinds := [], alts := [], laidByText := true, laidKinds := [.data], laidTests := true, laidLooks := .later }
def OnetimeBackUptoCardSaid : Prop := Claim7.holds Tryd.pinned (.plain (OpenSpec.upto onetimeBackSpec)) onetimeBackUptoCard

/-- THE SECOND FORM's CARD OF 'palaverlaw04.OnetimeAbove'. -/
def onetimeAboveUptoCard : Claim7 := { stood := { row := onetimeAboveUptoRow, standIns := [], harness := (true, "36c2d6b70edcc404795993ed2af51258d46dcc0c412ba1d78b6d84e4037638f4"), looks := false }, kinds := [], alts := [], laidByText := true, laidKinds := [.data], laidTests := true, laidLooks := .later }
def OnetimeAboveUptoCardSaid : Prop := Claim7.holds Tryd.pinned (.plain (OpenSpec.upto onetimeAboveSpec)) onetimeAboveUptoCard

/-- THE SECOND FORM's CARD OF 'palavertop.TopSummed'. -/
def topSummedUptoCard : Claim7 := { stood := { row := topSummedUptoRow, standIns := [], harness := (true, "36c2d6b70edcc404795993ed2af51258d46dcc0c412ba1d78b6d84e4037638f4"), looks := false }, kinds := [], alts := [], laidByText := true, laidKinds := [.data], laidTests := true, laidLooks := .later }
def TopSummedUptoCardSaid : Prop := Claim7.holds Tryd.pinned (.plain (OpenSpec.upto topSummedSpec)) topSummedUptoCard

/-- THE SECOND FORM's CARD OF 'palavertop.TopOnce'. -/
def topOnceUptoCard : Claim7 := { stood := { row := topOnceUptoRow, standIns := [], harness := (true, "36c2d6b70edcc404795993ed2af51258d46dcc0c412ba1d78b6d84e4037638f4"), looks := false }, kinds := [], alts := [], laidByText := true, laidKinds := [.data], laidTests := true, laidLooks := .later }
def TopOnceUptoCardSaid : Prop := Claim7.holds Tryd.pinned (.plain (OpenSpec.upto topOnceSpec)) topOnceUptoCard
end Rows
end Go.Proofs.YtcjehpojckdfnaaDoor
