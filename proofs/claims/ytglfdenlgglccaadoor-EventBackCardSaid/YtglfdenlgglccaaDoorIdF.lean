
/-
  The document's ident: numbers, names.
-/
import Derived.Test.YtglfdenlgglccaaDoorIdE
namespace Go.Proofs.YtglfdenlgglccaaDoor
set_option maxRecDepth 100000
set_option linter.unusedVariables false
set_option linter.unusedSimpArgs false
open Go.RowKit

theorem digits_at {n : Nat} (h : n < 10) : (⟨#[48, 49, 50, 51, 52, 53, 54, 55, 56, 57]⟩ : ByteArray).extract n (n + 1) = mkS (dig n) := by
  have h1 : ∀ n : Fin 10, (⟨#[48, 49, 50, 51, 52, 53, 54, 55, 56, 57]⟩ : ByteArray).extract n.val (n.val + 1) = mkS (dig n.val) := by decide +kernel
  exact h1 ⟨n, h⟩
set_option maxHeartbeats 4000000 in
theorem rnum_small (w : World) (n : Nat) (hn : n < 10) :
    Calls Tryd.prog 71 #[.int .i64 (n : Int)] w fun e w' => e = .returned (.string (mkS (dig n))) ∧ w' = w := by
  rw [← digits_at hn]
  have e0 : decide ((n : Int) < 10) = true := by simp; omega
  have n0 : (n : Int) < 10 := by omega
  have c0 : (0 : Int) ≤ (n : Int) := by omega
  have c1 : (n : Int) ≤ (n : Int) + 1 := by omega
  have c2 : (n : Int) + 1 ≤ 10 := by omega
  have hsz : (⟨#[48, 49, 50, 51, 52, 53, 54, 55, 56, 57]⟩ : ByteArray).size = 10 := rfl
  go_enter Tryd.func71, Tryd.ntmps71
  go_wp2
  go_ret
  exact ⟨rfl, rfl⟩
theorem dig_two {n : Nat} (h0 : ¬ n < 10) (h : n ≤ 99) : mkS (dig (n / 10)) ++ mkS (dig (n % 10)) = mkS (dig n) := by
  rw [mkS_append]
  have e1 : dig (n / 10) = [UInt8.ofNat (48 + n / 10)] := by unfold dig; rw [if_pos (by omega)]
  have e2 : dig (n % 10) = [UInt8.ofNat (48 + n % 10)] := by unfold dig; rw [if_pos (by omega)]
  have e3 : dig n = [UInt8.ofNat (48 + n / 10), UInt8.ofNat (48 + n % 10)] := by unfold dig; rw [if_neg h0]
  rw [e1, e2, e3]; rfl
set_option maxHeartbeats 4000000 in
theorem rnumber_any (w : World) (n : Nat) (hn : n ≤ 99) :
    Calls Tryd.prog 71 #[.int .i64 (n : Int)] w fun e w' => e = .returned (.string (mkS (dig n))) ∧ w' = w := by
  by_cases h : n < 10
  · exact rnum_small w n h
  · have e0 : decide ((n : Int) < 10) = false := by simp; omega
    have n0 : ¬ (n : Int) < 10 := by omega
    have C1 := hidp (fun W => rnum_small W (n / 10) (by omega))
    have C2 := hidp (fun W => rnum_small W (n % 10) (by omega))
    rw [← dig_two h hn]
    obtain ⟨X, hX⟩ : ∃ X, mkS (dig (n / 10)) = X := ⟨_, rfl⟩
    obtain ⟨Y, hY⟩ : ∃ X, mkS (dig (n % 10)) = X := ⟨_, rfl⟩
    have hXs : X.size ≤ 2 := by rw [← hX]; exact dig_size _
    have hYs : Y.size ≤ 2 := by rw [← hY]; exact dig_size _
    rw [hX] at C1 ⊢
    rw [hY] at C2 ⊢
    clear hX hY
    obtain ⟨a, ha⟩ : ∃ a, n / 10 = a := ⟨_, rfl⟩
    obtain ⟨b, hb⟩ : ∃ a, n % 10 = a := ⟨_, rfl⟩
    have q1 : ((n : Int)).tdiv 10 = (a : Int) := by rw [← ha]; simp
    have q2 : ((n : Int)).tmod 10 = (b : Int) := by rw [Int.tmod_eq_emod_of_nonneg (by omega)]; omega
    have q3 : (n : Int) / 10 = (a : Int) := by omega
    have q4 : (n : Int) % 10 = (b : Int) := by omega
    rw [ha] at C1
    rw [hb] at C2
    have hal : a ≤ 9 := by omega
    go_enter Tryd.func71, Tryd.ntmps71
    go_wp2_with fail
    refine (C1.out _).mono ?_
    rintro e w1 ⟨rfl, rfl⟩
    go_wp2_with fail
    refine (C2.out _).mono ?_
    rintro e w1 ⟨rfl, rfl⟩
    go_wp2_with fail
    go_ret
    exact ⟨rfl, rfl⟩

/-- The value of digits. -/
def valD (l : List UInt8) : Nat := l.foldl (fun a b => 10 * a + (b.toNat - 48)) 0
theorem valD_snoc (l : List UInt8) (b : UInt8) : valD (l ++ [b]) = 10 * valD l + (b.toNat - 48) := by unfold valD; rw [List.foldl_append]; rfl
theorem decOf_digits {l : List UInt8} {m : Nat} (h : decOf l = some m) :
    (∀ j (hj : j < l.length), 48 ≤ (l[j]'hj).toNat ∧ (l[j]'hj).toNat ≤ 57) ∧ (∀ i, i ≤ l.length → valD (l.take i) ≤ 63) ∧ valD l = m ∧ l.length ≤ 2 ∧ 1 ≤ l.length := by
  obtain ⟨hm, rfl⟩ := decOf_some h
  have h1 : ∀ n : Fin 64, ((dig n.val).all fun b => decide (48 ≤ b.toNat ∧ b.toNat ≤ 57)) = true ∧ ((List.range 3).all fun i => decide (valD ((dig n.val).take i) ≤ 63)) = true ∧ valD (dig n.val) = n.val ∧ (dig n.val).length ≤ 2 ∧ 1 ≤ (dig n.val).length := by decide +kernel
  obtain ⟨g1, g2, g3, g4, g5⟩ := h1 ⟨m, by omega⟩
  simp only at g1 g2 g3 g4 g5
  refine ⟨fun j hj => ?_, fun i hi => ?_, g3, g4, g5⟩
  · have := List.all_eq_true.1 g1 _ (List.getElem_mem hj)
    exact of_decide_eq_true this
  · have := List.all_eq_true.1 g2 i (by simp; omega)
    exact of_decide_eq_true this

set_option maxHeartbeats 8000000 in
theorem rcount_any (w : World) (s : ByteArray) (hs : s.size ≤ 281474976710656) :
    Calls Tryd.prog 58 #[.string s, .int .i64 63] w fun e w' => e = .returned (whoV (decOf s.data.toList)) ∧ w' = w := by
  obtain ⟨R, hR⟩ : ∃ R, decOf s.data.toList = R := ⟨_, rfl⟩
  rw [hR]
  have hsz := size_toList s
  have F1 := hidp (show ∀ j (hj : j < s.size), (s[j]'hj).toNat < 48 ∨ 57 < (s[j]'hj).toNat → R = none from fun j hj h => by
    cases hd : R with
    | none => rfl
    | some m =>
      have := (decOf_digits (hR.trans hd)).1 j (by omega)
      have e : s.data.toList[j]'(by omega) = s[j]'hj := rfl
      rw [e] at this; omega)
  have F2 := hidp (show ∀ i, i ≤ s.size → 63 < valD (s.data.toList.take i) → R = none from fun i hi h => by
    cases hd : R with
    | none => rfl
    | some m => have := (decOf_digits (hR.trans hd)).2.1 i (by omega); omega)
  have F3 := hidp (show s.size = 0 → R = none from fun h => by
    cases hd : R with
    | none => rfl
    | some m => have := (decOf_digits (hR.trans hd)).2.2.2.2; omega)
  have F4 := hidp (show ∀ n, n = valD s.data.toList → mkS (dig n) ≠ s → R = none from fun n hn h => by
    cases hd : R with
    | none => rfl
    | some m =>
      have h1 := (decOf_digits (hR.trans hd)).2.2.1
      have h2 := (decOf_some (hR.trans hd)).2
      exfalso; apply h
      rw [hn, h1, h2, mkS_of])
  have F5 := hidp (show ∀ n, n ≤ 63 → mkS (dig n) = s → R = some n from fun n hn h => by
    rw [← hR, ← h, mkS_data]; exact decOf_dig hn)
  clear hR
  go_enter Tryd.func58, Tryd.ntmps58
  go_wp2
  go_loop [6, 7] (fun t6 t7 => ∃ (i n : Nat), t7 = .int .i64 i ∧ t6 = .int .i64 n ∧ i ≤ s.size ∧ n ≤ 639 ∧ n = valD (s.data.toList.take i)) (fun _ t7 => s.size - (intOf t7).toNat)
  case atStart => exact ⟨0, 0, rfl, rfl, by omega, by omega, rfl⟩
  case round =>
    obtain ⟨i, n, rfl, rfl, hi, hn, hv⟩ := hrel
    have HV := hidp hv; clear hv
    by_cases hl : i < s.size
    · obtain ⟨bn, hbn⟩ : ∃ bn, (s[i]'hl).toNat = bn := ⟨_, rfl⟩
      have hb : bn < 256 := by rw [← hbn]; exact UInt8.toNat_lt _
      have G1 := hidp (show bn < 48 ∨ 57 < bn → R = none from fun h => F1.out i hl (by rw [hbn]; exact h))
      have G2 := hidp (show 63 < n → R = none from fun h => F2.out i hi (by rw [← HV.out]; exact h))
      have HV2 := hidp (show 10 * n + (bn - 48) = valD (s.data.toList.take (i + 1)) from by
        rw [List.take_succ_eq_append_getElem (by omega), valD_snoc, ← HV.out]
        have e : s.data.toList[i]'(by omega) = s[i]'hl := rfl
        rw [e, hbn])
      have HBN := hidp hbn
      by_cases h48 : bn < 48
      · have e0 : decide ((bn : Int) < 48) = true := by simp; omega
        have n0 : (bn : Int) < 48 := by omega
        have HF := hidp (G1.out (.inl h48))
        clear h48
        go_wp2
        go_ret2
        exact ⟨by rw [HF.out]; rfl, rfl⟩
      · have e0 : decide ((bn : Int) < 48) = false := by simp; omega
        have n0 : ¬ (bn : Int) < 48 := by omega
        by_cases h57 : 57 < bn
        · have e1 : decide ((57 : Int) < (bn : Int)) = true := by simp; omega
          have n1 : (57 : Int) < (bn : Int) := by omega
          have HF := hidp (G1.out (.inr h57))
          clear h57
          go_wp2
          go_ret2
          exact ⟨by rw [HF.out]; rfl, rfl⟩
        · have e1 : decide ((57 : Int) < (bn : Int)) = false := by simp; omega
          have n1 : ¬ (57 : Int) < (bn : Int) := by omega
          by_cases h63 : 63 < n
          · have e2 : decide ((63 : Int) < (n : Int)) = true := by simp; omega
            have n2 : (63 : Int) < (n : Int) := by omega
            have HF := hidp (G2.out h63)
            clear h63
            go_wp2
            go_ret2
            exact ⟨by rw [HF.out]; rfl, rfl⟩
          · have e2 : decide ((63 : Int) < (n : Int)) = false := by simp; omega
            have n2 : ¬ (63 : Int) < (n : Int) := by omega
            go_wp2
            refine ⟨⟨i + 1, 10 * n + (bn - 48), by go_num, by go_num, by omega, by omega, HV2.out⟩, by simp [intOf]; omega⟩
    · have hie : i = s.size := by omega
      have hve := hidp (show n = valD s.data.toList from by have := HV.out; rw [List.take_of_length_le (by omega)] at this; exact this)
      by_cases hz : s.size = 0
      · have HF := hidp (F3.out hz)
        have htn : s.toList = [] := by rw [ByteArray.toList_eq]; exact List.eq_nil_of_length_eq_zero (hsz.trans hz)
        have hte : s.toList.isEmpty = true := by rw [htn]; first | rfl | (rw [ByteArray.toList_eq]; rfl)
        have htq : (s.toList == (⟨#[]⟩ : ByteArray).toList) = true := by rw [htn]; first | rfl | (rw [ByteArray.toList_eq]; rfl)
        clear hz
        go_wp2
        go_ret2
        exact ⟨by rw [HF.out]; rfl, rfl⟩
      · have ht := toList_no (show s ≠ ⟨#[]⟩ from fun e => hz (by rw [e]; rfl))
        have hte : s.toList.isEmpty = false := by rw [ByteArray.toList_eq]; cases hq : s.data.toList with
          | nil => exfalso; rw [hq] at hsz; exact hz hsz.symm
          | cons a r => rfl
        have htn : ¬ s.toList = [] := fun e => by rw [e] at hte; cases hte
        by_cases h63 : 63 < n
        · have e2 : decide ((63 : Int) < (n : Int)) = true := by simp; omega
          have n2 : (63 : Int) < (n : Int) := by omega
          have HF := hidp (F2.out s.size (Nat.le_refl _) (by rw [List.take_of_length_le (by omega), ← hve.out]; exact h63))
          clear h63
          go_wp2
          go_ret2
          exact ⟨by rw [HF.out]; rfl, rfl⟩
        · have e2 : decide ((63 : Int) < (n : Int)) = false := by simp; omega
          have n2 : ¬ (63 : Int) < (n : Int) := by omega
          have C := hidp (fun W => rnumber_any W n (by omega))
          by_cases hd : mkS (dig n) = s
          · rw [hd] at C
            have HF := hidp (F5.out n (by omega) hd)
            clear hd
            go_wp2_with (go_at_call 71; (refine (C.out _).mono ?_); rintro e w' ⟨rfl, rfl⟩)
            go_ret2
            exact ⟨by rw [HF.out]; rfl, rfl⟩
          · have hq := toList_no hd
            have HF := hidp (F4.out n hve.out hd)
            obtain ⟨X, hX⟩ : ∃ X, mkS (dig n) = X := ⟨_, rfl⟩
            rw [hX] at C hq
            clear hd hX
            go_wp2_with (go_at_call 71; (refine (C.out _).mono ?_); rintro e w' ⟨rfl, rfl⟩)
            go_ret2
            exact ⟨by rw [HF.out]; rfl, rfl⟩
end Go.Proofs.YtglfdenlgglccaaDoor
