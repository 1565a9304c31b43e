/-
  Tree: TreeOther, for every input.
-/
import Derived.Test.YtmbghbdhiihcnaaDoorTrOh
namespace Go.Proofs.YtmbghbdhiihcnaaDoor
set_option linter.unusedVariables false
set_option linter.unusedSimpArgs false
open Go.RowKit

theorem walk_treeOther (w : World) (A : List UInt8) (hal : A.length = 32) (B : List UInt8) (hbl : B.length = 32) (i : Int) (hi : (Lit.int .i64 i).wf = true) (va : Value) (p : List (List UInt8)) (hP : HsAt w va p) (hlp : p.length ≤ 4611686018427387904) (vb : Value) (q : List (List UInt8)) (hQ : HsAt w vb q) (hlq : q.length ≤ 4611686018427387904) (hK : KT w) :
    Calls Tryd.prog 3 #[.agg (u8s A).toArray, .agg (u8s B).toArray, .int .i64 i, va, vb] w fun e w' => e = .returned (.bool true) ∧ Below w.heap.size w w' := by
  obtain ⟨ap, cp, rfl⟩ := hP.form
  obtain ⟨aq, cq, rfl⟩ := hQ.form
  have L := hidp (fun W (h : KT W) => lives3_any W h)
  have HP := hidp hP
  have HQ := hidp hQ
  have HK := hidp hK
  have hkp := hK.pos
  have c1 : ∀ W, HsAt W (.slice ap p.length cp) p → KT W → _ := fun W h hk => climb_any W A hal i hi _ p h hk
  have c2 : ∀ W, HsAt W (.slice aq q.length cq) q → KT W → _ := fun W h hk => climb_any W B hbl i hi _ q h hk
  have l1 := climbV_len A i p hal
  have l2 := climbV_len B i q hbl
  by_cases ho : okC p.length i = true
  · have h0 : climbE p.length i = 0 := if_pos ho
    rw [h0] at c1
    by_cases hoq : okC q.length i = true
    · have h1 : climbE q.length i = 0 := if_pos hoq
      rw [h1] at c2
      by_cases hnm : p.length = q.length
      · by_cases hr : climbV A i p = climbV B i q
        · have v1 : climbV A i p = climbL A i.toNat p := if_pos ho
          have v2 : climbV B i q = climbL B i.toNat q := if_pos hoq
          have hcl : climbL A i.toNat p = climbL B i.toNat q := by rw [← v1, ← v2, hr]
          have hok := ho
          unfold okC at hok
          simp only [decide_eq_true_iff] at hok
          obtain ⟨h7, hi0, hi2⟩ := hok
          obtain ⟨j, rfl⟩ : ∃ j : Nat, i = (j : Int) := ⟨i.toNat, by omega⟩
          have hj : j ≤ 9223372036854775807 := by
            have a1 : ((2 : Int) ^ p.length) = ((2 ^ p.length : Nat) : Int) := by simp
            have a2 : 2 ^ p.length ≤ 2 ^ 7 := Nat.pow_le_pow_right (by decide) h7
            rw [a1] at hi2
            have a3 : j < 2 ^ 7 := by omega
            omega
          have h7q : q.length ≤ 7 := by omega
          have d1 := hidp (fun W (hb : Below w.heap.size w W) => way_ok W A hal j hj _ p (HP.out.to hb) h7)
          have d2 := hidp (fun W (hb : Below w.heap.size w W) => way_ok W B hbl j hj _ q (HQ.out.to hb) h7q)
          have S1 := hidp (wayL_small p A j hal hP.1)
          have S2 := hidp (wayL_small q B j hbl hQ.1)
          have HN := hidp (show p.length < 4294967296 by omega)
          have w1 := wayL_len A j p
          have w2 := wayL_len B j q
          rw [← hr] at c2
          by_cases hab : A = B
          · subst hab
            by_cases hpq : p = q
            · have c3 := hidp (fun W (x : HsAt W (.slice ap p.length cp) p) (y : HsAt W (.slice aq q.length cq) q) => by
                have h := same_any W _ _ p q x y hlp hlq
                rw [show decide (p = q) = true from decide_eq_true hpq] at h
                exact h)
              rw [← hnm] at c2 c3 HQ ⊢
              exact other_E w A _ hal l1 _ ap aq p.length cp cq p q HP HQ HK hkp L (hidp c1) (hidp c2) c3
            · obtain ⟨K, hKl, hK1, hK2⟩ := way_other p q A A j hnm hal hal hP.1 hQ.1 hcl (fun h => hpq h.2)
              have c3 := hidp (fun W (x : HsAt W (.slice ap p.length cp) p) (y : HsAt W (.slice aq q.length cq) q) => by
                have h := same_any W _ _ p q x y hlp hlq
                rw [show decide (p = q) = false from decide_eq_false hpq] at h
                exact h)
              rw [← hnm] at c2 c3 HQ w2 d2 ⊢
              exact other_F2 w A _ hal l1 _ ap aq p.length cp cq p q HP HQ HK hkp L _ _ _ _ w1 w2 S1 S2 HN K hKl (hidp ⟨hK1, hK2⟩) (hidp c1) (hidp c2) c3 d1 d2
          · obtain ⟨K, hKl, hK1, hK2⟩ := way_other p q A B j hnm hal hbl hP.1 hQ.1 hcl (fun h => hab h.1)
            rw [← hnm] at c2 HQ w2 d2 ⊢
            exact other_F1 w A B _ hal hbl l1 _ ap aq p.length cp cq p q HP HQ HK hkp L _ _ _ _ w1 w2 S1 S2 HN K hKl (hidp ⟨hK1, hK2⟩) (decide_eq_false hab) (hidp c1) (hidp c2) d1 d2
        · rw [← hnm] at c2 HQ ⊢
          exact other_D w A B _ _ hal hbl l1 l2 i ap aq p.length cp cq p q HP HQ HK hkp L (by simpa using hr) (hidp c1) (hidp c2)
      · exact other_C w A B _ _ hal hbl l1 l2 i ap aq p.length q.length cp cq p q HP HQ HK hkp L (by simp; omega) (by simp; omega) (eq_false (by omega)) (eq_false hnm) (hidp c1) (hidp c2)
    · have h1 : climbE q.length i = 1 := if_neg hoq
      rw [h1] at c2
      exact other_B w A B _ _ hal hbl l1 l2 i ap aq p.length q.length cp cq p q HP HQ HK hkp L (hidp c1) (hidp c2)
  · have h0 : climbE p.length i = 1 := if_neg ho
    rw [h0] at c1
    exact other_A w A B _ _ hal hbl l1 l2 i ap aq p.length q.length cp cq p q HP HQ HK hkp L _ (hidp c1) (hidp c2)
end Go.Proofs.YtmbghbdhiihcnaaDoor
