/-
  Joined: TlK.
-/
import Derived.Test.YtfenjincbhkodaaDoorTQ
import Derived.Test.YtfenjincbhkodaaDoorTO
import Derived.Deep.WholeRow
import Derived.Lib.LaidTab
namespace Go.Proofs.YtfenjincbhkodaaDoor.Sh
set_option maxRecDepth 100000
set_option linter.unusedVariables false
set_option linter.unusedSimpArgs false
open Go.RowKit Go.ChangeShapes Go.WideShapes Go.ChangeAt
def kkI : List Int := kk.map fun (n : Nat) => (n : Int)
theorem gTab : Tryd.prog.globalNamed "palaver/sha.constants" = some 3 := by kernel_rfl
theorem gTabType : (Tryd.prog.globals[3]?).map (·.type) = some 201 := by kernel_rfl
theorem cellsTab : Tryd.prog.cellsOf 201 = 64 := by kernel_rfl
theorem cells32 : Tryd.prog.cellsOf 168 = 1 := by kernel_rfl
theorem tabData_eq {H : Type} : (Rows.laid_palaver_sha_constants : DataW H) = Lib.tabData .u32 kkI := by kernel_rfl
theorem kt_of_laid {W : World} {rest : List (String × DataW Unit)} (h : laidMet Tryd.prog (("palaver/sha.constants", Rows.laid_palaver_sha_constants) :: rest) W) : KT W := by
  rw [tabData_eq] at h
  have t : Lib.TabIs Tryd.prog W "palaver/sha.constants" .u32 kkI := Lib.tabIs_of_head gTab gTabType Tryd.underlying201 Tryd.underlying168 cells32 cellsTab h
  intro i hi
  have hk : kkI.length = 64 := by kernel_rfl
  have := t.cell gTab i (by omega)
  rw [this]
  congr 2
  simp [kkI, List.getD_eq_getElem?_getD, show kk.length = 64 from by kernel_rfl, hi]
end Go.Proofs.YtfenjincbhkodaaDoor.Sh
namespace Go.Proofs.YtfenjincbhkodaaDoor.Tl
open Go.RowKit Go.ChangeShapes Go.WideShapes Go.ChangeAt
theorem all_of_laid {W : World} {x0 x1 x2 : String × DataW Unit} {rest : List (String × DataW Unit)}
    (h : laidMet Tryd.prog (x0 :: x1 :: x2 :: ("palaver/sha.constants", Rows.laid_palaver_sha_constants) :: ("strconv.ErrRange", Rows.laid_strconv_ErrRange) :: ("strconv.ErrSyntax", Rows.laid_strconv_ErrSyntax) :: ("palaver/ident.marks", Rows.laid_palaver_ident_marks) :: ("palaver/event.words", Rows.laid_palaver_event_words) :: rest) W) : IT W ∧ WT W ∧ Sh.KT W :=
  ⟨it_of_laid h.tail, wt_of_laid h.tail, Sh.kt_of_laid h.tail.tail.tail⟩
end Go.Proofs.YtfenjincbhkodaaDoor.Tl
