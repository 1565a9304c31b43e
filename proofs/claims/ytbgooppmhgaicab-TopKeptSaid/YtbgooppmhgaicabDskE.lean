
/-
  disk: two disks compared; lives.
-/
import Derived.Test.YtbgooppmhgaicabDskD
namespace Go.Proofs.Ytbgooppmhgaicab
set_option maxRecDepth 100000
set_option linter.unusedVariables false
set_option linter.unusedSimpArgs false
open Go.RowKit

theorem eqin_disk (W : World) (s : ByteArray) (y r : Int) :
    (Op.equalIn 10000 26 (.agg #[.string s, .int .i64 y, .int .i64 r]) (.agg #[.string s, .int .i64 y, .int .i64 r])).run Try.prog W = .ok true W := by
  have ht : Try.prog.underlying 26 = some (.struct (Try.prog.fieldsOf 26)) := by kernel_rfl
  have hp : Try.prog.stoodInHeld 26 = false := by kernel_rfl
  have hu := Try.underlying26
  have hus := Try.underlying9
  have hui := Try.underlying3
  rw [run_equalIn_agg W 9999 _ _ _ ht hp]
  unfold Program.fieldsOf
  rw [hu]
  go_simp
theorem eq_disk (W : World) (s : ByteArray) (y r : Int) :
    (binOp .eql 26 (.agg #[.string s, .int .i64 y, .int .i64 r]) (.agg #[.string s, .int .i64 y, .int .i64 r])).run Try.prog W = .ok (.bool true) W := by
  rw [run_eql_struct, eqin_disk]; rfl
theorem neq_disk (W : World) (s : ByteArray) (y r : Int) :
    (binOp .neq 26 (.agg #[.string s, .int .i64 y, .int .i64 r]) (.agg #[.string s, .int .i64 y, .int .i64 r])).run Try.prog W = .ok (.bool false) W := by
  rw [run_neq_struct, eqin_disk]; rfl
theorem arr3_set {w : World} {b T : Nat} {x0 x1 x2 : Value} (h : Arr w b T [x0, x1, x2]) (y0 y1 y2 : Value) : Arr (((w.setCell ⟨b, 0, none⟩ y0).setCell ⟨b, 1, none⟩ y1).setCell ⟨b, 2, none⟩ y2) b T [y0, y1, y2] :=
  ((h.set 0 y0).set 1 y1).set 2 y2
instance (s : ByteArray) (y r : Int) : Decidable (okD s y r) := by unfold okD; infer_instance

end Go.Proofs.Ytbgooppmhgaicab
