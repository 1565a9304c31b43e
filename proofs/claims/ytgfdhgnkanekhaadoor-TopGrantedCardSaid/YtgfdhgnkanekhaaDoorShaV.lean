
/-
  Two checksums by value, compared.
-/
import Derived.Test.YtgfdhgnkanekhaaDoorShaT
namespace Go.Proofs.YtgfdhgnkanekhaaDoor
set_option linter.unusedVariables false
set_option linter.unusedSimpArgs false
open Go.RowKit

theorem eqin_hash (W : World) (a b : List UInt8) (ha : a.length = 32) (hb : b.length = 32) :
    (Op.equalIn 10000 26 (.agg (u8s a).toArray) (.agg (u8s b).toArray)).run Tryd.prog W = .ok (decide (a = b)) W := by
  obtain ⟨i0, hi, hz0, hz1, hz2⟩ := info_parts info5
  have hu : Tryd.prog.underlying 26 = some (.array 32 5) := by kernel_rfl
  have hu8 : Tryd.prog.underlying 5 = some (.int .u8) := Tryd.underlying5
  have hsz : ∀ W, (sizeOf 5).run Tryd.prog W = .ok 1 W := by intro W; simp [sizeOf, typeInfo, hi, hz1]
  have hpart : ∀ (l : List UInt8) (i : Nat) (W : World), l.length = 32 → i < 32 → (part 5 (u8s l).toArray (i * 1)).run Tryd.prog W = .ok (.int .u8 ((l.getD i 0).toNat : Int)) W := by
    intro l i W hl hlt
    simp [part, sizeOf, typeInfo, hi, hz0, hz1, hz2, hl, hlt, u8s, List.getD_eq_getElem?_getD]
  have hdec : decide (a = b) = (List.range' 0 32).all (fun i => a.getD i 0 == b.getD i 0) := by
    rw [Bool.eq_iff_iff, decide_eq_true_iff, List.all_eq_true]
    constructor
    · rintro rfl i _; simp
    · intro h
      apply List.ext_getElem (by omega)
      intro i h1 h2
      have := h i (by simp [List.mem_range']; omega)
      simpa [List.getD_eq_getElem?_getD, h1, h2] using this
  rw [hdec]
  unfold Op.equalIn
  simp only [Sem.run_bind, run_underlying hu, Result.andThen_ok, hsz]
  rw [Std.Legacy.Range.forIn_eq_forIn_range']
  have hall : ∀ i ∈ List.range' 0 32, i < 32 := by intro i h; simp [List.mem_range'] at h; omega
  show ((Sem.run Tryd.prog (forIn (List.range' 0 32) _ _) W).andThen _) = _
  generalize List.range' 0 32 = is at hall ⊢
  induction is generalizing W with
  | nil => simp
  | cons i is ih =>
    have hi32 := hall i (by simp)
    have ih := ih W (fun j hj => hall j (by simp [hj]))
    simp only [List.forIn_cons, Sem.run_bind, hpart a i _ ha hi32, hpart b i _ hb hi32, Result.andThen_ok, run_equalIn_int _ _ _ _ _ _ _ hu8, Sem.run_ite, List.all_cons]
    have hbeq : (((a.getD i 0).toNat : Int) == ((b.getD i 0).toNat : Int)) = (a.getD i 0 == b.getD i 0) := by
      rw [Bool.eq_iff_iff, beq_iff_eq, beq_iff_eq, ← UInt8.toNat_inj]; omega
    rw [hbeq]
    cases a.getD i 0 == b.getD i 0
    · simp
    · simpa using ih
theorem eql_hash (W : World) (a b : List UInt8) (ha : a.length = 32) (hb : b.length = 32) :
    (binOp .eql 26 (.agg (u8s a).toArray) (.agg (u8s b).toArray)).run Tryd.prog W = .ok (.bool (decide (a = b))) W := by
  rw [run_eql_struct, eqin_hash W a b ha hb]; rfl
theorem neq_hash (W : World) (a b : List UInt8) (ha : a.length = 32) (hb : b.length = 32) :
    (binOp .neq 26 (.agg (u8s a).toArray) (.agg (u8s b).toArray)).run Tryd.prog W = .ok (.bool (!decide (a = b))) W := by
  rw [run_neq_struct, eqin_hash W a b ha hb]; rfl
/-- 'string(h[:16])' of a checksum that lies in memory. -/
theorem mid_conv (W : World) (b : Nat) (l : List UInt8) (hl : l.length = 32) (h : W.rangeAt b 0 (u8s l)) :
    (convert 76 9 (.slice (some ⟨b, 0, none⟩) 16 32)).run Tryd.prog W = .ok (.string (mkS (l.take 16))) W := by
  have h := run_str_at (P := Tryd.prog) (src := 76) (e := 5) (dst := 9) Tryd.underlying76 Tryd.underlying5 Tryd.underlying9 b 0 32 (l.take 16) (w := W) (by
    intro i hi
    rw [List.length_take, hl] at hi
    rw [h i (.int .u8 ((l.getD i 0).toNat : Int)) (by simp [u8s, List.getD_eq_getElem?_getD, hl, show i < 32 from by omega])]
    simp [List.getD_eq_getElem?_getD, List.getElem?_take, show i < 16 from by omega])
  rw [List.length_take, hl] at h
  exact h
theorem kt3 {N : Nat} {W w1 : World} {b1 b2 b3 : Nat} {x1 x2 x3 : List Value} (h : w1.rangeAt b1 0 x1 ∧ w1.rangeAt b2 0 x2 ∧ w1.rangeAt b3 0 x3 ∧ Below N W w1) (hK : KT W) (hN : 0 < N) : KT w1 := hK.below h.2.2.2 hN
end Go.Proofs.YtgfdhgnkanekhaaDoor
