
/-
  The laws on ident: two identifiers compared; the answers asked for first; the walks.
-/
import Derived.Test.YtglfdenlgglccaaDoorIdH
namespace Go.Proofs.YtglfdenlgglccaaDoor
set_option maxRecDepth 100000
set_option linter.unusedVariables false
set_option linter.unusedSimpArgs false
open Go.RowKit

theorem eqin_ident (W : World) (k : Int) (s : ByteArray) (r : Int) :
    (Op.equalIn 10000 38 (.agg #[.int .u8 k, .string s, .int .i64 r]) (.agg #[.int .u8 k, .string s, .int .i64 r])).run Tryd.prog W = .ok true W := by
  have ht : Tryd.prog.underlying 38 = some (.struct (Tryd.prog.fieldsOf 38)) := by kernel_rfl
  have hp : Tryd.prog.stoodInHeld 38 = false := by kernel_rfl
  have hu := Tryd.underlying38
  have hus := Tryd.underlying9
  have hui := Tryd.underlying3
  have huk := Tryd.underlying36
  rw [run_equalIn_agg W 9999 _ _ _ ht hp]
  unfold Program.fieldsOf
  rw [hu]
  go_simp
theorem eq_ident (W : World) (k : Int) (s : ByteArray) (r : Int) :
    (binOp .eql 38 (.agg #[.int .u8 k, .string s, .int .i64 r]) (.agg #[.int .u8 k, .string s, .int .i64 r])).run Tryd.prog W = .ok (.bool true) W := by
  rw [run_eql_struct, eqin_ident]; rfl
theorem neq_ident (W : World) (k : Int) (s : ByteArray) (r : Int) :
    (binOp .neq 38 (.agg #[.int .u8 k, .string s, .int .i64 r]) (.agg #[.int .u8 k, .string s, .int .i64 r])).run Tryd.prog W = .ok (.bool false) W := by
  rw [run_neq_struct, eqin_ident]; rfl
theorem whoV_form (o : Option Nat) : ∃ a b, whoV o = .tuple #[.int .i64 a, .bool b] := by cases o with
  | none => exact ⟨_, _, rfl⟩
  | some n => exact ⟨_, _, rfl⟩
theorem idV_form (o : Option (Nat × ByteArray × Nat)) : ∃ (k : Nat) (s : ByteArray) (n : Int), idV o = .agg #[.int .u8 (k : Int), .string s, .int .i64 n] ∧ k < 256 ∧ s.size ≤ 281474976710656 ∨ ¬ (∀ k s n, o = some (k, s, n) → k < 256 ∧ s.size ≤ 281474976710656) := by
  cases o with
  | none => exact ⟨0, ⟨#[]⟩, 0, .inl ⟨rfl, by omega, by simp [ByteArray.size]⟩⟩
  | some x =>
    obtain ⟨k, s, n⟩ := x
    by_cases h : k < 256 ∧ s.size ≤ 281474976710656
    · exact ⟨k, s, n, .inl ⟨rfl, h.1, h.2⟩⟩
    · exact ⟨k, s, n, .inr fun hh => h (hh k s n rfl)⟩
/-- What a parse hands back, as a value. -/
theorem idP_form (t : ByteArray) : ∃ (k : Nat) (s : ByteArray) (n : Int), idV (idP t) = .agg #[.int .u8 (k : Int), .string s, .int .i64 n] ∧ k < 256 ∧ s.size ≤ 281474976710656 := by
  obtain ⟨k, s, n, h | h⟩ := idV_form (idP t)
  · exact ⟨k, s, n, h⟩
  · exfalso; apply h
    intro k s n hp
    obtain ⟨h1, -⟩ := idP_some hp
    have h2 := idOk_size h1
    obtain ⟨-, -, -, h3⟩ := idOk_name h1
    exact ⟨by omega, by omega⟩

end Go.Proofs.YtglfdenlgglccaaDoor
