
/-
  The document's numbers of at most 100.
-/
import Derived.Test.YtiakfopdohcigaaGreatDoorPxA
import Derived.Test.YtiakfopdohcigaaGreatDoorPwR
import Derived.Test.YtiakfopdohcigaaGreatDoorIdR
namespace Go.Proofs.YtiakfopdohcigaaGreatDoor
set_option maxRecDepth 100000
set_option linter.unusedVariables false
set_option linter.unusedSimpArgs false
open Go.RowKit
/-- The number of digits, of at most 100. -/
def cntC (s : ByteArray) : Option Nat := (List.range 101).find? fun n => decide (itT (n : Int) = s)
theorem cntC_some {s : ByteArray} {m : Nat} (h : cntC s = some m) : m ≤ 100 ∧ itT (m : Int) = s := by
  unfold cntC at h
  have h1 := List.mem_of_find?_eq_some h
  have h2 := List.find?_some h
  exact ⟨by have := List.mem_range.1 h1; omega, of_decide_eq_true h2⟩
theorem it_inj {m n : Nat} (hm : m ≤ 100) (hn : n ≤ 100) (h : itT (m : Int) = itT (n : Int)) : m = n := by
  have h1 := (num_it (n := (m : Int)) (by unfold inR; simp; omega)).1
  have h2 := (num_it (n := (n : Int)) (by unfold inR; simp; omega)).1
  rw [h, h2] at h1; omega
theorem cntC_it {n : Nat} (h : n ≤ 100) : cntC (itT (n : Int)) = some n := by
  cases hc : cntC (itT (n : Int)) with
  | none =>
    unfold cntC at hc
    have := List.find?_eq_none.1 hc n (by simp; omega)
    simp at this
  | some m =>
    obtain ⟨h1, h2⟩ := cntC_some hc
    rw [it_inj h1 h h2]
theorem cntC_no {s : ByteArray} (h : ∀ n : Nat, n ≤ 100 → itT (n : Int) ≠ s) : cntC s = none := by
  cases hc : cntC s with
  | none => rfl
  | some m => obtain ⟨h1, h2⟩ := cntC_some hc; exact absurd h2 (h m h1)
theorem it_digits {m : Nat} (hm : m ≤ 100) :
    (∀ j (hj : j < (itT (m : Int)).data.toList.length), 48 ≤ ((itT (m : Int)).data.toList[j]'hj).toNat ∧ ((itT (m : Int)).data.toList[j]'hj).toNat ≤ 57) ∧ (∀ i, i ≤ (itT (m : Int)).data.toList.length → valD ((itT (m : Int)).data.toList.take i) ≤ 100) ∧ valD (itT (m : Int)).data.toList = m ∧ (itT (m : Int)).data.toList.length ≤ 3 ∧ 1 ≤ (itT (m : Int)).data.toList.length := by
  have h1 : ((List.range 101).all fun n => ((itT (n : Int)).data.toList.all fun b => decide (48 ≤ b.toNat ∧ b.toNat ≤ 57)) && ((List.range 4).all fun i => decide (valD ((itT (n : Int)).data.toList.take i) ≤ 100)) && decide (valD (itT (n : Int)).data.toList = n) && decide ((itT (n : Int)).data.toList.length ≤ 3) && decide (1 ≤ (itT (n : Int)).data.toList.length)) = true := by kernel_rfl
  have h2 := List.all_eq_true.1 h1 m (by simp; omega)
  simp only [Bool.and_eq_true] at h2
  obtain ⟨⟨⟨⟨g1, g2⟩, g3⟩, g4⟩, g5⟩ := h2
  refine ⟨fun j hj => of_decide_eq_true (List.all_eq_true.1 g1 _ (List.getElem_mem hj)), fun i hi => of_decide_eq_true (List.all_eq_true.1 g2 i (by have := of_decide_eq_true g4; simp; omega)), of_decide_eq_true g3, of_decide_eq_true g4, of_decide_eq_true g5⟩
theorem cntC_digits {s : ByteArray} {m : Nat} (h : cntC s = some m) :
    (∀ j (hj : j < s.data.toList.length), 48 ≤ (s.data.toList[j]'hj).toNat ∧ (s.data.toList[j]'hj).toNat ≤ 57) ∧ (∀ i, i ≤ s.data.toList.length → valD (s.data.toList.take i) ≤ 100) ∧ valD s.data.toList = m ∧ s.data.toList.length ≤ 3 ∧ 1 ≤ s.data.toList.length := by
  obtain ⟨hm, rfl⟩ := cntC_some h
  exact it_digits hm
theorem it_dig {n : Nat} (h : n ≤ 99) : mkS (dig n) = itT (n : Int) := by
  have : ((List.range 100).all fun n => decide (mkS (dig n) = itT (n : Int))) = true := by kernel_rfl
  exact of_decide_eq_true (List.all_eq_true.1 this n (by simp; omega))
theorem it_two {n : Nat} (h0 : ¬ n < 10) (h : n ≤ 100) : mkS (dig (n / 10)) ++ mkS (dig (n % 10)) = itT (n : Int) := by
  have : ((List.range 101).all fun n => decide (n < 10) || decide (mkS (dig (n / 10)) ++ mkS (dig (n % 10)) = itT (n : Int))) = true := by kernel_rfl
  have h1 := List.all_eq_true.1 this n (by simp; omega)
  rw [decide_eq_false h0, Bool.false_or] at h1
  exact of_decide_eq_true h1
set_option maxHeartbeats 4000000 in
theorem rnumC_any (w : World) (n : Nat) (hn : n ≤ 100) :
    Calls Tryz.prog 64 #[.int .i64 (n : Int)] w fun e w' => e = .returned (.string (itT (n : Int))) ∧ w' = w := by
  by_cases h : n < 10
  · rw [← it_dig (by omega)]; exact rnum_small w n h
  · have e0 : decide ((n : Int) < 10) = false := by simp; omega
    have n0 : ¬ (n : Int) < 10 := by omega
    have C1 := hidp (fun W => rnumber_any W (n / 10) (by omega))
    have C2 := hidp (fun W => rnum_small W (n % 10) (by omega))
    rw [← it_two h hn]
    obtain ⟨X, hX⟩ : ∃ X, mkS (dig (n / 10)) = X := ⟨_, rfl⟩
    obtain ⟨Y, hY⟩ : ∃ X, mkS (dig (n % 10)) = X := ⟨_, rfl⟩
    have hXs : X.size ≤ 2 := by rw [← hX]; exact dig_size _
    have hYs : Y.size ≤ 2 := by rw [← hY]; exact dig_size _
    rw [hX] at C1 ⊢
    rw [hY] at C2 ⊢
    clear hX hY
    obtain ⟨a, ha⟩ : ∃ a, n / 10 = a := ⟨_, rfl⟩
    obtain ⟨b, hb⟩ : ∃ a, n % 10 = a := ⟨_, rfl⟩
    have q1 : ((n : Int)).tdiv 10 = (a : Int) := by rw [← ha]; simp
    have q2 : ((n : Int)).tmod 10 = (b : Int) := by rw [Int.tmod_eq_emod_of_nonneg (by omega)]; omega
    have q3 : (n : Int) / 10 = (a : Int) := by omega
    have q4 : (n : Int) % 10 = (b : Int) := by omega
    rw [ha] at C1
    rw [hb] at C2
    have hal : a ≤ 10 := by omega
    go_enter Tryz.func64, Tryz.ntmps64
    go_wp2_with fail
    refine (C1.out _).mono ?_
    rintro e w1 ⟨rfl, rfl⟩
    go_wp2_with fail
    refine (C2.out _).mono ?_
    rintro e w1 ⟨rfl, rfl⟩
    go_wp2_with fail
    go_ret
    exact ⟨rfl, rfl⟩

set_option maxHeartbeats 8000000 in
theorem rcountC_any (w : World) (s : ByteArray) (hs : s.size ≤ 281474976710656) :
    Calls Tryz.prog 70 #[.string s, .int .i64 100] w fun e w' => e = .returned (whoV (cntC s)) ∧ w' = w := by
  obtain ⟨R, hR⟩ : ∃ R, cntC s = R := ⟨_, rfl⟩
  rw [hR]
  have hsz := size_toList s
  have F1 := hidp (show ∀ j (hj : j < s.size), (s[j]'hj).toNat < 48 ∨ 57 < (s[j]'hj).toNat → R = none from fun j hj h => by
    cases hd : R with
    | none => rfl
    | some m =>
      have := (cntC_digits (hR.trans hd)).1 j (by omega)
      have e : s.data.toList[j]'(by omega) = s[j]'hj := rfl
      rw [e] at this; omega)
  have F2 := hidp (show ∀ i, i ≤ s.size → 100 < valD (s.data.toList.take i) → R = none from fun i hi h => by
    cases hd : R with
    | none => rfl
    | some m => have := (cntC_digits (hR.trans hd)).2.1 i (by omega); omega)
  have F3 := hidp (show s.size = 0 → R = none from fun h => by
    cases hd : R with
    | none => rfl
    | some m => have := (cntC_digits (hR.trans hd)).2.2.2.2; omega)
  have F4 := hidp (show ∀ n, n = valD s.data.toList → itT (n : Int) ≠ s → R = none from fun n hn h => by
    cases hd : R with
    | none => rfl
    | some m =>
      have h1 := (cntC_digits (hR.trans hd)).2.2.1
      have h2 := (cntC_some (hR.trans hd)).2
      exfalso; apply h
      rw [hn, h1]; exact h2)
  have F5 := hidp (show ∀ n : Nat, n ≤ 100 → itT (n : Int) = s → R = some n from fun n hn h => by
    rw [← hR, ← h]; exact cntC_it hn)
  clear hR
  go_enter Tryz.func70, Tryz.ntmps70
  go_wp2
  go_loop [6, 7] (fun t6 t7 => ∃ (i n : Nat), t7 = .int .i64 i ∧ t6 = .int .i64 n ∧ i ≤ s.size ∧ n ≤ 1009 ∧ n = valD (s.data.toList.take i)) (fun _ t7 => s.size - (intOf t7).toNat)
  case atStart => exact ⟨0, 0, rfl, rfl, by omega, by omega, rfl⟩
  case round =>
    obtain ⟨i, n, rfl, rfl, hi, hn, hv⟩ := hrel
    have HV := hidp hv; clear hv
    by_cases hl : i < s.size
    · obtain ⟨bn, hbn⟩ : ∃ bn, (s[i]'hl).toNat = bn := ⟨_, rfl⟩
      have hb : bn < 256 := by rw [← hbn]; exact UInt8.toNat_lt _
      have G1 := hidp (show bn < 48 ∨ 57 < bn → R = none from fun h => F1.out i hl (by rw [hbn]; exact h))
      have G2 := hidp (show 100 < n → R = none from fun h => F2.out i hi (by rw [← HV.out]; exact h))
      have HV2 := hidp (show 10 * n + (bn - 48) = valD (s.data.toList.take (i + 1)) from by
        rw [List.take_succ_eq_append_getElem (by omega), valD_snoc, ← HV.out]
        have e : s.data.toList[i]'(by omega) = s[i]'hl := rfl
        rw [e, hbn])
      have HBN := hidp hbn
      by_cases h48 : bn < 48
      · have e0 : decide ((bn : Int) < 48) = true := by simp; omega
        have n0 : (bn : Int) < 48 := by omega
        have HF := hidp (G1.out (.inl h48))
        clear h48
        go_wp2
        go_ret2
        exact ⟨by rw [HF.out]; rfl, rfl⟩
      · have e0 : decide ((bn : Int) < 48) = false := by simp; omega
        have n0 : ¬ (bn : Int) < 48 := by omega
        by_cases h57 : 57 < bn
        · have e1 : decide ((57 : Int) < (bn : Int)) = true := by simp; omega
          have n1 : (57 : Int) < (bn : Int) := by omega
          have HF := hidp (G1.out (.inr h57))
          clear h57
          go_wp2
          go_ret2
          exact ⟨by rw [HF.out]; rfl, rfl⟩
        · have e1 : decide ((57 : Int) < (bn : Int)) = false := by simp; omega
          have n1 : ¬ (57 : Int) < (bn : Int) := by omega
          by_cases h100 : 100 < n
          · have e2 : decide ((100 : Int) < (n : Int)) = true := by simp; omega
            have n2 : (100 : Int) < (n : Int) := by omega
            have HF := hidp (G2.out h100)
            clear h100
            go_wp2
            go_ret2
            exact ⟨by rw [HF.out]; rfl, rfl⟩
          · have e2 : decide ((100 : Int) < (n : Int)) = false := by simp; omega
            have n2 : ¬ (100 : Int) < (n : Int) := by omega
            go_wp2
            refine ⟨⟨i + 1, 10 * n + (bn - 48), by go_num, by go_num, by omega, by omega, HV2.out⟩, by simp [intOf]; omega⟩
    · have hie : i = s.size := by omega
      have hve := hidp (show n = valD s.data.toList from by have := HV.out; rw [List.take_of_length_le (by omega)] at this; exact this)
      by_cases hz : s.size = 0
      · have HF := hidp (F3.out hz)
        have htn : s.toList = [] := by rw [ByteArray.toList_eq]; exact List.eq_nil_of_length_eq_zero (hsz.trans hz)
        have hte : s.toList.isEmpty = true := by rw [htn]; first | rfl | (rw [ByteArray.toList_eq]; rfl)
        have htq : (s.toList == (⟨#[]⟩ : ByteArray).toList) = true := by rw [htn]; first | rfl | (rw [ByteArray.toList_eq]; rfl)
        clear hz
        go_wp2
        go_ret2
        exact ⟨by rw [HF.out]; rfl, rfl⟩
      · have ht := toList_no (show s ≠ ⟨#[]⟩ from fun e => hz (by rw [e]; rfl))
        have hte : s.toList.isEmpty = false := by rw [ByteArray.toList_eq]; cases hq : s.data.toList with
          | nil => exfalso; rw [hq] at hsz; exact hz hsz.symm
          | cons a r => rfl
        have htn : ¬ s.toList = [] := fun e => by rw [e] at hte; cases hte
        by_cases h100 : 100 < n
        · have e2 : decide ((100 : Int) < (n : Int)) = true := by simp; omega
          have n2 : (100 : Int) < (n : Int) := by omega
          have HF := hidp (F2.out s.size (Nat.le_refl _) (by rw [List.take_of_length_le (by omega), ← hve.out]; exact h100))
          clear h100
          go_wp2
          go_ret2
          exact ⟨by rw [HF.out]; rfl, rfl⟩
        · have e2 : decide ((100 : Int) < (n : Int)) = false := by simp; omega
          have n2 : ¬ (100 : Int) < (n : Int) := by omega
          have C := hidp (fun W => rnumC_any W n (by omega))
          by_cases hd : itT (n : Int) = s
          · rw [hd] at C
            have HF := hidp (F5.out n (by omega) hd)
            clear hd
            go_wp2_with (go_at_call 64; (refine (C.out _).mono ?_); rintro e w' ⟨rfl, rfl⟩)
            go_ret2
            exact ⟨by rw [HF.out]; rfl, rfl⟩
          · have hq := toList_no hd
            have HF := hidp (F4.out n hve.out hd)
            obtain ⟨X, hX⟩ : ∃ X, itT (n : Int) = X := ⟨_, rfl⟩
            rw [hX] at C hq
            clear hd hX
            go_wp2_with (go_at_call 64; (refine (C.out _).mono ?_); rintro e w' ⟨rfl, rfl⟩)
            go_ret2
            exact ⟨by rw [HF.out]; rfl, rfl⟩
end Go.Proofs.YtiakfopdohcigaaGreatDoor
