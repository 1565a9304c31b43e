
/-
  ident: names, texts, and what a text's parts are.
-/
import Derived.Test.YtglfdenlgglccaaDoorIdA
import Derived.Deep.QuietTactic
namespace Go.Proofs.YtglfdenlgglccaaDoor
set_option maxRecDepth 100000
set_option linter.unusedVariables false
set_option linter.unusedSimpArgs false
open Go.RowKit

/-- The tables and the errors' values that the identifiers' functions read. -/
def IT (w : World) : Prop :=
  (w.cell? ⟨1, 1, none⟩ = some (.string ⟨#[64]⟩) ∧ w.cell? ⟨1, 2, none⟩ = some (.string ⟨#[33]⟩)) ∧
  (∃ t p, w.cell? ⟨3, 0, none⟩ = some (.iface t p)) ∧ (∃ t p, w.cell? ⟨4, 0, none⟩ = some (.iface t p))
theorem IT.below {w w' : World} (h : IT w) {B : Nat} (hb : Below B w w') (hB : w.heap.size ≤ B) : IT w' := by
  obtain ⟨⟨h1, h2⟩, ⟨t, p, h3⟩, ⟨t', p', h4⟩⟩ := h
  have g1 := World.block_lt_of_cell? w _ h1
  have g3 := World.block_lt_of_cell? w _ h3
  have g4 := World.block_lt_of_cell? w _ h4
  simp only at g1 g3 g4
  exact ⟨⟨(hb.cell (by simp only; omega)).trans h1, (hb.cell (by simp only; omega)).trans h2⟩, ⟨t, p, (hb.cell (by simp only; omega)).trans h3⟩, ⟨t', p', (hb.cell (by simp only; omega)).trans h4⟩⟩

theorem name_yes {s : ByteArray} (h1 : 1 ≤ s.size) (h2 : s.size ≤ 16) (h : ∀ j (hj : j < s.size), nameN (s[j]'hj).toNat = true) : nameL s.data.toList = true := by
  unfold nameL
  simp only [Bool.and_eq_true, decide_eq_true_eq, List.all_eq_true]
  refine ⟨⟨by rw [size_toList]; exact h1, by rw [size_toList]; exact h2⟩, fun b hb => ?_⟩
  obtain ⟨j, hj, rfl⟩ := List.getElem_of_mem hb
  exact h j (by rw [size_toList] at hj; exact hj)
theorem name_short {s : ByteArray} (h : s.size = 0 ∨ 16 < s.size) : nameL s.data.toList = false := by
  unfold nameL
  rw [size_toList]
  rcases h with h | h
  · rw [h]; rfl
  · rw [decide_eq_false (show ¬ s.size ≤ 16 from by omega)]; simp
theorem name_bad {s : ByteArray} (j : Nat) (hj : j < s.size) (h : nameN (s[j]'hj).toNat = false) : nameL s.data.toList = false := by
  have hall : (s.data.toList.all fun b => nameN b.toNat) = false := by
    rw [List.all_eq_false]
    exact ⟨s[j]'hj, List.getElem_mem (by rw [size_toList]; exact hj), by rw [h]; simp⟩
  unfold nameL
  rw [hall]; simp

set_option maxHeartbeats 4000000 in
theorem validName_any (w : World) (s : ByteArray) (hs : s.size ≤ 281474976710656) :
    Calls Tryd.prog 54 #[.string s] w fun e w' => e = .returned (.bool (nameL s.data.toList)) ∧ w' = w := by
  by_cases h0 : s.size = 0
  · have e0 : ((s.size : Int) == 0) = true := by rw [h0]; rfl
    have HF := hidp (name_short (.inl h0))
    clear h0
    go_enter Tryd.func54, Tryd.ntmps54
    go_wp2
    go_ret
    exact ⟨by rw [HF.out]; rfl, rfl⟩
  · have e0 : ((s.size : Int) == 0) = false := beq_eq_false_iff_ne.2 (by omega)
    by_cases h16 : 16 < s.size
    · have e1 : decide ((16 : Int) < (s.size : Int)) = true := by simp; omega
      have HF := hidp (name_short (.inr h16))
      clear h16
      go_enter Tryd.func54, Tryd.ntmps54
      go_wp2
      go_ret
      exact ⟨by rw [HF.out]; rfl, rfl⟩
    · have e1 : decide ((16 : Int) < (s.size : Int)) = false := by simp; omega
      obtain ⟨R, hR⟩ : ∃ R, nameL s.data.toList = R := ⟨_, rfl⟩
      rw [hR]
      have HR := hidp hR; clear hR
      go_enter Tryd.func54, Tryd.ntmps54
      go_wp2
      go_loop [14] (fun t14 => ∃ (i : Nat), t14 = .int .i64 i ∧ i ≤ s.size ∧ (∀ j (hj : j < s.size), j < i → nameN (s[j]'hj).toNat = true)) (fun t14 => s.size - (intOf t14).toNat)
      case atStart => exact ⟨0, rfl, by omega, fun j hj h => by omega⟩
      case round =>
        obtain ⟨i, rfl, hi, hall⟩ := hrel
        have HALL := hidp hall; clear hall
        by_cases hl : i < s.size
        · obtain ⟨bn, hbn⟩ : ∃ bn, (s[i]'hl).toNat = bn := ⟨_, rfl⟩
          have hb : bn < 256 := by rw [← hbn]; exact UInt8.toNat_lt _
          have HBN := hidp hbn
          have C := hidp (fun W => inName_any W bn hb)
          cases hq : nameN bn with
          | true =>
            rw [hq] at C
            go_wp2_with (go_at_call 67; (refine (C.out _).mono ?_); rintro e w' ⟨rfl, rfl⟩)
            refine ⟨⟨i + 1, by go_num, by omega, fun j hj h => ?_⟩, by simp [intOf]; omega⟩
            by_cases hji : j = i
            · subst hji; have e2 := HBN.out; rw [e2]; exact hq
            · exact HALL.out j hj (by omega)
          | false =>
            rw [hq] at C
            have HF := hidp (HR.out.symm.trans (name_bad i hl (by rw [HBN.out]; exact hq)))
            go_wp2_with (go_at_call 67; (refine (C.out _).mono ?_); rintro e w' ⟨rfl, rfl⟩)
            go_ret
            exact ⟨by rw [HF.out]; rfl, rfl⟩
        · have HT := hidp (HR.out.symm.trans (name_yes (by omega) (by omega) fun j hj => HALL.out j hj (by omega)))
          go_wp2
          go_ret
          exact ⟨by rw [HT.out]; rfl, rfl⟩

theorem idOk_k {k : Nat} (nm : ByteArray) (s : Int) (h : ¬ (k = 1 ∨ k = 2)) : idOk k nm s = false := by
  unfold idOk
  rw [decide_eq_false (show ¬ k = 1 from fun e => h (.inl e)), decide_eq_false (show ¬ k = 2 from fun e => h (.inr e))]; rfl
theorem idOk_n {k : Nat} {nm : ByteArray} (s : Int) (h : nameL nm.data.toList = false) : idOk k nm s = false := by unfold idOk; rw [h]; simp
theorem idOk_s {k : Nat} {nm : ByteArray} {s : Int} (h : s < 0 ∨ 63 < s) : idOk k nm s = false := by
  unfold idOk
  rcases h with h | h
  · rw [decide_eq_false (show ¬ 0 ≤ s from by omega)]; simp
  · rw [decide_eq_false (show ¬ s ≤ 63 from by omega)]; simp
theorem idOk_yes {k : Nat} {nm : ByteArray} {s : Int} (hk : k = 1 ∨ k = 2) (hn : nameL nm.data.toList = true) (h0 : 0 ≤ s) (h1 : s ≤ 63) : idOk k nm s = true := by
  unfold idOk
  rw [hn, decide_eq_true h0, decide_eq_true h1]
  rcases hk with rfl | rfl <;> rfl

set_option maxHeartbeats 4000000 in
theorem valid_any (w : World) (k : Nat) (hk : k < 256) (nm : ByteArray) (hs : nm.size ≤ 281474976710656) (s : Int) :
    Calls Tryd.prog 39 #[.agg #[.int .u8 (k : Int), .string nm, .int .i64 s]] w fun e w' => e = .returned (.bool (idOk k nm s)) ∧ Below w.heap.size w w' := by
  have C := hidp (fun W => validName_any W nm hs)
  have hb := hidp ((Below.refl w.heap.size w).alloc (Nat.le_refl _) (.cells #[.int .u8 (k : Int), .string nm, .int .i64 s] 38))
  by_cases h12 : k = 1 ∨ k = 2
  · have e0 : decide ((0 : Int) < (k : Int)) = true := by simp; omega
    have n0 : 0 < k := by omega
    have e1 : decide ((k : Int) < 3) = true := by simp; omega
    have n1 : (k : Int) < 3 := by omega
    cases hn : nameL nm.data.toList with
    | false =>
      have HF := hidp (idOk_n (k := k) s hn)
      rw [hn] at C
      clear h12
      go_enter Tryd.func39, Tryd.ntmps39
      go_wp2_with (go_at_call 54; (refine (C.out _).mono ?_); rintro e w' ⟨rfl, rfl⟩)
      go_ret
      exact ⟨by rw [HF.out]; rfl, hb.out⟩
    | true =>
      rw [hn] at C
      by_cases h0 : s < 0
      · have e2 : decide ((0 : Int) ≤ s) = false := by simp; omega
        have HF := hidp (idOk_s (k := k) (nm := nm) (.inl h0))
        clear h12 h0
        go_enter Tryd.func39, Tryd.ntmps39
        go_wp2_with (go_at_call 54; (refine (C.out _).mono ?_); rintro e w' ⟨rfl, rfl⟩)
        go_ret
        exact ⟨by rw [HF.out]; rfl, hb.out⟩
      · have e2 : decide ((0 : Int) ≤ s) = true := by simp; omega
        by_cases h1 : 63 < s
        · have e3 : decide (s ≤ 63) = false := by simp; omega
          have HF := hidp (idOk_s (k := k) (nm := nm) (.inr h1))
          clear h12 h0 h1
          go_enter Tryd.func39, Tryd.ntmps39
          go_wp2_with (go_at_call 54; (refine (C.out _).mono ?_); rintro e w' ⟨rfl, rfl⟩)
          go_ret
          exact ⟨by rw [HF.out]; rfl, hb.out⟩
        · have e3 : decide (s ≤ 63) = true := by simp; omega
          have HF := hidp (idOk_yes h12 hn (by omega : 0 ≤ s) (by omega))
          clear h12 h0 h1
          go_enter Tryd.func39, Tryd.ntmps39
          go_wp2_with (go_at_call 54; (refine (C.out _).mono ?_); rintro e w' ⟨rfl, rfl⟩)
          go_ret
          exact ⟨by rw [HF.out]; rfl, hb.out⟩
  · have HF := hidp (idOk_k nm s h12)
    by_cases h0 : k = 0
    · have e0 : decide ((0 : Int) < (k : Int)) = false := by simp; omega
      have n0 : ¬ 0 < k := by omega
      clear h12 h0
      go_enter Tryd.func39, Tryd.ntmps39
      go_wp2_with fail
      go_ret
      exact ⟨by rw [HF.out]; rfl, hb.out⟩
    · have e0 : decide ((0 : Int) < (k : Int)) = true := by simp; omega
      have n0 : 0 < k := by omega
      have e1 : decide ((k : Int) < 3) = false := by simp; omega
      have n1 : ¬ (k : Int) < 3 := by omega
      clear h12 h0
      go_enter Tryd.func39, Tryd.ntmps39
      go_wp2_with fail
      go_ret
      exact ⟨by rw [HF.out]; rfl, hb.out⟩
end Go.Proofs.YtglfdenlgglccaaDoor
