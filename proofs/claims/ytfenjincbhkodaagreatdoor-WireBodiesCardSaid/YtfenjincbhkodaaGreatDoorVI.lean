/-
  Joined: IdF IdG IdH EvA EvB EvC AiN AiM.
-/
import Derived.Test.YtfenjincbhkodaaGreatDoorVC
import Derived.Test.YtfenjincbhkodaaGreatDoorVB
import Derived.Test.YtfenjincbhkodaaGreatDoorVA
namespace Go.Proofs.YtfenjincbhkodaaGreatDoor
set_option maxRecDepth 100000
set_option linter.unusedVariables false
set_option linter.unusedSimpArgs false
open Go.RowKit

theorem digits_at {n : Nat} (h : n < 10) : (⟨#[48, 49, 50, 51, 52, 53, 54, 55, 56, 57]⟩ : ByteArray).extract n (n + 1) = mkS (dig n) := by
  have h1 : ∀ n : Fin 10, (⟨#[48, 49, 50, 51, 52, 53, 54, 55, 56, 57]⟩ : ByteArray).extract n.val (n.val + 1) = mkS (dig n.val) := by decide +kernel
  exact h1 ⟨n, h⟩
set_option maxHeartbeats 4000000 in
theorem rnum_small (w : World) (n : Nat) (hn : n < 10) :
    Calls Tryz.prog 100 #[.int .i64 (n : Int)] w fun e w' => e = .returned (.string (mkS (dig n))) ∧ w' = w := by
  rw [← digits_at hn]
  have e0 : decide ((n : Int) < 10) = true := by simp; omega
  have n0 : (n : Int) < 10 := by omega
  have c0 : (0 : Int) ≤ (n : Int) := by omega
  have c1 : (n : Int) ≤ (n : Int) + 1 := by omega
  have c2 : (n : Int) + 1 ≤ 10 := by omega
  have hsz : (⟨#[48, 49, 50, 51, 52, 53, 54, 55, 56, 57]⟩ : ByteArray).size = 10 := rfl
  go_enter Tryz.func100, Tryz.ntmps100
  go_wp2
  go_ret
  exact ⟨rfl, rfl⟩
theorem dig_two {n : Nat} (h0 : ¬ n < 10) (h : n ≤ 99) : mkS (dig (n / 10)) ++ mkS (dig (n % 10)) = mkS (dig n) := by
  rw [mkS_append]
  have e1 : dig (n / 10) = [UInt8.ofNat (48 + n / 10)] := by unfold dig; rw [if_pos (by omega)]
  have e2 : dig (n % 10) = [UInt8.ofNat (48 + n % 10)] := by unfold dig; rw [if_pos (by omega)]
  have e3 : dig n = [UInt8.ofNat (48 + n / 10), UInt8.ofNat (48 + n % 10)] := by unfold dig; rw [if_neg h0]
  rw [e1, e2, e3]; rfl
set_option maxHeartbeats 4000000 in
theorem rnumber_any (w : World) (n : Nat) (hn : n ≤ 99) :
    Calls Tryz.prog 100 #[.int .i64 (n : Int)] w fun e w' => e = .returned (.string (mkS (dig n))) ∧ w' = w := by
  by_cases h : n < 10
  · exact rnum_small w n h
  · have e0 : decide ((n : Int) < 10) = false := by simp; omega
    have n0 : ¬ (n : Int) < 10 := by omega
    have C1 := hidp (fun W => rnum_small W (n / 10) (by omega))
    have C2 := hidp (fun W => rnum_small W (n % 10) (by omega))
    rw [← dig_two h hn]
    obtain ⟨X, hX⟩ : ∃ X, mkS (dig (n / 10)) = X := ⟨_, rfl⟩
    obtain ⟨Y, hY⟩ : ∃ X, mkS (dig (n % 10)) = X := ⟨_, rfl⟩
    have hXs : X.size ≤ 2 := by rw [← hX]; exact dig_size _
    have hYs : Y.size ≤ 2 := by rw [← hY]; exact dig_size _
    rw [hX] at C1 ⊢
    rw [hY] at C2 ⊢
    clear hX hY
    obtain ⟨a, ha⟩ : ∃ a, n / 10 = a := ⟨_, rfl⟩
    obtain ⟨b, hb⟩ : ∃ a, n % 10 = a := ⟨_, rfl⟩
    have q1 : ((n : Int)).tdiv 10 = (a : Int) := by rw [← ha]; simp
    have q2 : ((n : Int)).tmod 10 = (b : Int) := by rw [Int.tmod_eq_emod_of_nonneg (by omega)]; omega
    have q3 : (n : Int) / 10 = (a : Int) := by omega
    have q4 : (n : Int) % 10 = (b : Int) := by omega
    rw [ha] at C1
    rw [hb] at C2
    have hal : a ≤ 9 := by omega
    go_enter Tryz.func100, Tryz.ntmps100
    go_wp2_with fail
    refine (C1.out _).mono ?_
    rintro e w1 ⟨rfl, rfl⟩
    go_wp2_with fail
    refine (C2.out _).mono ?_
    rintro e w1 ⟨rfl, rfl⟩
    go_wp2_with fail
    go_ret
    exact ⟨rfl, rfl⟩

/-- The value of digits. -/
def valD (l : List UInt8) : Nat := l.foldl (fun a b => 10 * a + (b.toNat - 48)) 0
theorem valD_snoc (l : List UInt8) (b : UInt8) : valD (l ++ [b]) = 10 * valD l + (b.toNat - 48) := by unfold valD; rw [List.foldl_append]; rfl
theorem decOf_digits {l : List UInt8} {m : Nat} (h : decOf l = some m) :
    (∀ j (hj : j < l.length), 48 ≤ (l[j]'hj).toNat ∧ (l[j]'hj).toNat ≤ 57) ∧ (∀ i, i ≤ l.length → valD (l.take i) ≤ 63) ∧ valD l = m ∧ l.length ≤ 2 ∧ 1 ≤ l.length := by
  obtain ⟨hm, rfl⟩ := decOf_some h
  have h1 : ∀ n : Fin 64, ((dig n.val).all fun b => decide (48 ≤ b.toNat ∧ b.toNat ≤ 57)) = true ∧ ((List.range 3).all fun i => decide (valD ((dig n.val).take i) ≤ 63)) = true ∧ valD (dig n.val) = n.val ∧ (dig n.val).length ≤ 2 ∧ 1 ≤ (dig n.val).length := by decide +kernel
  obtain ⟨g1, g2, g3, g4, g5⟩ := h1 ⟨m, by omega⟩
  simp only at g1 g2 g3 g4 g5
  refine ⟨fun j hj => ?_, fun i hi => ?_, g3, g4, g5⟩
  · have := List.all_eq_true.1 g1 _ (List.getElem_mem hj)
    exact of_decide_eq_true this
  · have := List.all_eq_true.1 g2 i (by simp; omega)
    exact of_decide_eq_true this

set_option maxHeartbeats 8000000 in
theorem rcount_any (w : World) (s : ByteArray) (hs : s.size ≤ 281474976710656) :
    Calls Tryz.prog 94 #[.string s, .int .i64 63] w fun e w' => e = .returned (whoV (decOf s.data.toList)) ∧ w' = w := by
  obtain ⟨R, hR⟩ : ∃ R, decOf s.data.toList = R := ⟨_, rfl⟩
  rw [hR]
  have hsz := size_toList s
  have F1 := hidp (show ∀ j (hj : j < s.size), (s[j]'hj).toNat < 48 ∨ 57 < (s[j]'hj).toNat → R = none from fun j hj h => by
    cases hd : R with
    | none => rfl
    | some m =>
      have := (decOf_digits (hR.trans hd)).1 j (by omega)
      have e : s.data.toList[j]'(by omega) = s[j]'hj := rfl
      rw [e] at this; omega)
  have F2 := hidp (show ∀ i, i ≤ s.size → 63 < valD (s.data.toList.take i) → R = none from fun i hi h => by
    cases hd : R with
    | none => rfl
    | some m => have := (decOf_digits (hR.trans hd)).2.1 i (by omega); omega)
  have F3 := hidp (show s.size = 0 → R = none from fun h => by
    cases hd : R with
    | none => rfl
    | some m => have := (decOf_digits (hR.trans hd)).2.2.2.2; omega)
  have F4 := hidp (show ∀ n, n = valD s.data.toList → mkS (dig n) ≠ s → R = none from fun n hn h => by
    cases hd : R with
    | none => rfl
    | some m =>
      have h1 := (decOf_digits (hR.trans hd)).2.2.1
      have h2 := (decOf_some (hR.trans hd)).2
      exfalso; apply h
      rw [hn, h1, h2, mkS_of])
  have F5 := hidp (show ∀ n, n ≤ 63 → mkS (dig n) = s → R = some n from fun n hn h => by
    rw [← hR, ← h, mkS_data]; exact decOf_dig hn)
  clear hR
  go_enter Tryz.func94, Tryz.ntmps94
  go_wp2
  go_loop [6, 7] (fun t6 t7 => ∃ (i n : Nat), t7 = .int .i64 i ∧ t6 = .int .i64 n ∧ i ≤ s.size ∧ n ≤ 639 ∧ n = valD (s.data.toList.take i)) (fun _ t7 => s.size - (intOf t7).toNat)
  case atStart => exact ⟨0, 0, rfl, rfl, by omega, by omega, rfl⟩
  case round =>
    obtain ⟨i, n, rfl, rfl, hi, hn, hv⟩ := hrel
    have HV := hidp hv; clear hv
    by_cases hl : i < s.size
    · obtain ⟨bn, hbn⟩ : ∃ bn, (s[i]'hl).toNat = bn := ⟨_, rfl⟩
      have hb : bn < 256 := by rw [← hbn]; exact UInt8.toNat_lt _
      have G1 := hidp (show bn < 48 ∨ 57 < bn → R = none from fun h => F1.out i hl (by rw [hbn]; exact h))
      have G2 := hidp (show 63 < n → R = none from fun h => F2.out i hi (by rw [← HV.out]; exact h))
      have HV2 := hidp (show 10 * n + (bn - 48) = valD (s.data.toList.take (i + 1)) from by
        rw [List.take_succ_eq_append_getElem (by omega), valD_snoc, ← HV.out]
        have e : s.data.toList[i]'(by omega) = s[i]'hl := rfl
        rw [e, hbn])
      have HBN := hidp hbn
      by_cases h48 : bn < 48
      · have e0 : decide ((bn : Int) < 48) = true := by simp; omega
        have n0 : (bn : Int) < 48 := by omega
        have HF := hidp (G1.out (.inl h48))
        clear h48
        go_wp2
        go_ret2
        exact ⟨by rw [HF.out]; rfl, rfl⟩
      · have e0 : decide ((bn : Int) < 48) = false := by simp; omega
        have n0 : ¬ (bn : Int) < 48 := by omega
        by_cases h57 : 57 < bn
        · have e1 : decide ((57 : Int) < (bn : Int)) = true := by simp; omega
          have n1 : (57 : Int) < (bn : Int) := by omega
          have HF := hidp (G1.out (.inr h57))
          clear h57
          go_wp2
          go_ret2
          exact ⟨by rw [HF.out]; rfl, rfl⟩
        · have e1 : decide ((57 : Int) < (bn : Int)) = false := by simp; omega
          have n1 : ¬ (57 : Int) < (bn : Int) := by omega
          by_cases h63 : 63 < n
          · have e2 : decide ((63 : Int) < (n : Int)) = true := by simp; omega
            have n2 : (63 : Int) < (n : Int) := by omega
            have HF := hidp (G2.out h63)
            clear h63
            go_wp2
            go_ret2
            exact ⟨by rw [HF.out]; rfl, rfl⟩
          · have e2 : decide ((63 : Int) < (n : Int)) = false := by simp; omega
            have n2 : ¬ (63 : Int) < (n : Int) := by omega
            go_wp2
            refine ⟨⟨i + 1, 10 * n + (bn - 48), by go_num, by go_num, by omega, by omega, HV2.out⟩, by simp [intOf]; omega⟩
    · have hie : i = s.size := by omega
      have hve := hidp (show n = valD s.data.toList from by have := HV.out; rw [List.take_of_length_le (by omega)] at this; exact this)
      by_cases hz : s.size = 0
      · have HF := hidp (F3.out hz)
        have htn : s.toList = [] := by rw [ByteArray.toList_eq]; exact List.eq_nil_of_length_eq_zero (hsz.trans hz)
        have hte : s.toList.isEmpty = true := by rw [htn]; first | rfl | (rw [ByteArray.toList_eq]; rfl)
        have htq : (s.toList == (⟨#[]⟩ : ByteArray).toList) = true := by rw [htn]; first | rfl | (rw [ByteArray.toList_eq]; rfl)
        clear hz
        go_wp2
        go_ret2
        exact ⟨by rw [HF.out]; rfl, rfl⟩
      · have ht := toList_no (show s ≠ ⟨#[]⟩ from fun e => hz (by rw [e]; rfl))
        have hte : s.toList.isEmpty = false := by rw [ByteArray.toList_eq]; cases hq : s.data.toList with
          | nil => exfalso; rw [hq] at hsz; exact hz hsz.symm
          | cons a r => rfl
        have htn : ¬ s.toList = [] := fun e => by rw [e] at hte; cases hte
        by_cases h63 : 63 < n
        · have e2 : decide ((63 : Int) < (n : Int)) = true := by simp; omega
          have n2 : (63 : Int) < (n : Int) := by omega
          have HF := hidp (F2.out s.size (Nat.le_refl _) (by rw [List.take_of_length_le (by omega), ← hve.out]; exact h63))
          clear h63
          go_wp2
          go_ret2
          exact ⟨by rw [HF.out]; rfl, rfl⟩
        · have e2 : decide ((63 : Int) < (n : Int)) = false := by simp; omega
          have n2 : ¬ (63 : Int) < (n : Int) := by omega
          have C := hidp (fun W => rnumber_any W n (by omega))
          by_cases hd : mkS (dig n) = s
          · rw [hd] at C
            have HF := hidp (F5.out n (by omega) hd)
            clear hd
            go_wp2_with (go_at_call 100; (refine (C.out _).mono ?_); rintro e w' ⟨rfl, rfl⟩)
            go_ret2
            exact ⟨by rw [HF.out]; rfl, rfl⟩
          · have hq := toList_no hd
            have HF := hidp (F4.out n hve.out hd)
            obtain ⟨X, hX⟩ : ∃ X, mkS (dig n) = X := ⟨_, rfl⟩
            rw [hX] at C hq
            clear hd hX
            go_wp2_with (go_at_call 100; (refine (C.out _).mono ?_); rintro e w' ⟨rfl, rfl⟩)
            go_ret2
            exact ⟨by rw [HF.out]; rfl, rfl⟩
end Go.Proofs.YtfenjincbhkodaaGreatDoor

namespace Go.Proofs.YtfenjincbhkodaaGreatDoor
set_option maxRecDepth 100000
set_option linter.unusedVariables false
set_option linter.unusedSimpArgs false
open Go.RowKit

set_option maxHeartbeats 4000000 in
theorem rname_any (w : World) (s : ByteArray) (hs : s.size ≤ 281474976710656) :
    Calls Tryz.prog 101 #[.string s] w fun e w' => e = .returned (.bool (nameL s.data.toList)) ∧ w' = w := by
  obtain ⟨R, hR⟩ : ∃ R, nameL s.data.toList = R := ⟨_, rfl⟩
  rw [hR]
  have HR := hidp hR; clear hR
  go_enter Tryz.func101, Tryz.ntmps101
  go_wp2
  go_loop [3] (fun t3 => ∃ (i : Nat), t3 = .int .i64 i ∧ i ≤ s.size ∧ (∀ j (hj : j < s.size), j < i → nameN (s[j]'hj).toNat = true)) (fun t3 => s.size - (intOf t3).toNat)
  case atStart => exact ⟨0, rfl, by omega, fun j hj h => by omega⟩
  case round =>
    obtain ⟨i, rfl, hi, hall⟩ := hrel
    have HALL := hidp hall; clear hall
    by_cases hl : i < s.size
    · obtain ⟨bn, hbn⟩ : ∃ bn, (s[i]'hl).toNat = bn := ⟨_, rfl⟩
      have hb : bn < 256 := by rw [← hbn]; exact UInt8.toNat_lt _
      have HBN := hidp hbn
      have C := hidp (fun W => letter_any W bn hb)
      cases hq : nameN bn with
      | true =>
        rw [hq] at C
        go_wp2_with (go_at_call 108; (refine (C.out _).mono ?_); rintro e w' ⟨rfl, rfl⟩)
        refine ⟨⟨i + 1, by go_num, by omega, fun j hj h => ?_⟩, by simp [intOf]; omega⟩
        by_cases hji : j = i
        · subst hji; have e2 := HBN.out; rw [e2]; exact hq
        · exact HALL.out j hj (by omega)
      | false =>
        rw [hq] at C
        have HF := hidp (HR.out.symm.trans (name_bad i hl (by rw [HBN.out]; exact hq)))
        go_wp2_with (go_at_call 108; (refine (C.out _).mono ?_); rintro e w' ⟨rfl, rfl⟩)
        go_ret
        exact ⟨by rw [HF.out]; rfl, rfl⟩
    · by_cases h0 : s.size = 0
      · have e0 : decide ((1 : Int) ≤ (s.size : Int)) = false := by simp; omega
        have n0 : ¬ (1 : Int) ≤ (s.size : Int) := by omega
        have n1 : ¬ 1 ≤ s.size := by omega
        have HF := hidp (HR.out.symm.trans (name_short (.inl h0)))
        clear h0
        go_wp2
        go_ret
        exact ⟨by rw [HF.out]; rfl, rfl⟩
      · have e0 : decide ((1 : Int) ≤ (s.size : Int)) = true := by simp; omega
        have n0 : (1 : Int) ≤ (s.size : Int) := by omega
        have n1 : 1 ≤ s.size := by omega
        by_cases h16 : 16 < s.size
        · have e1 : decide ((s.size : Int) ≤ 16) = false := by simp; omega
          have n2 : ¬ (s.size : Int) ≤ 16 := by omega
          have HF := hidp (HR.out.symm.trans (name_short (.inr h16)))
          go_wp2
          go_ret
          exact ⟨by rw [HF.out]; rfl, rfl⟩
        · have e1 : decide ((s.size : Int) ≤ 16) = true := by simp; omega
          have n2 : (s.size : Int) ≤ 16 := by omega
          have HF := hidp (HR.out.symm.trans (name_yes (by omega) (by omega) fun j hj => HALL.out j hj (by omega)))
          go_wp2
          go_ret
          exact ⟨by rw [HF.out]; rfl, rfl⟩

set_option maxHeartbeats 8000000 in
theorem rtext_any (w : World) (k : Nat) (hk : k < 256) (nm : ByteArray) (hs : nm.size ≤ 281474976710656) (s : Int) :
    Calls Tryz.prog 95 #[.agg #[.int .u8 (k : Int), .string nm, .int .i64 s]] w fun e w' => e = .returned (.tuple #[.string (idT k nm s), .int .i64 (idE k nm s)]) ∧ Below w.heap.size w w' := by
  have C := hidp (fun W => rname_any W nm hs)
  have hb := hidp ((Below.refl w.heap.size w).alloc (Nat.le_refl _) (.cells #[.int .u8 (k : Int), .string nm, .int .i64 s] 128))
  by_cases h1 : k = 1
  · subst h1
    cases hn : nameL nm.data.toList with
    | false =>
      have HF := hidp (idOk_n (k := 1) s hn)
      rw [hn] at C
      rw [show idT 1 nm s = ByteArray.empty from by unfold idT; rw [HF.out]; rfl, show idE 1 nm s = 2 from by unfold idE; rw [HF.out]; rfl]
      go_enter Tryz.func95, Tryz.ntmps95
      go_wp2_with (go_at_call 101; (refine (C.out _).mono ?_); rintro e w' ⟨rfl, rfl⟩)
      go_ret2
      exact ⟨rfl, hb.out⟩
    | true =>
      rw [hn] at C
      by_cases h0 : s < 0
      · have e3 : decide (s < 0) = true := by simp; omega
        have HF := hidp (idOk_s (k := 1) (nm := nm) (.inl h0))
        clear h0
        rw [show idT 1 nm s = ByteArray.empty from by unfold idT; rw [HF.out]; rfl, show idE 1 nm s = 2 from by unfold idE; rw [HF.out]; rfl]
        go_enter Tryz.func95, Tryz.ntmps95
        go_wp2_with (go_at_call 101; (refine (C.out _).mono ?_); rintro e w' ⟨rfl, rfl⟩)
        go_ret2
        exact ⟨rfl, hb.out⟩
      · have e3 : decide (s < 0) = false := by simp; omega
        by_cases h1 : 63 < s
        · have e4 : decide (63 < s) = true := by simp; omega
          have HF := hidp (idOk_s (k := 1) (nm := nm) (.inr h1))
          clear h0 h1
          rw [show idT 1 nm s = ByteArray.empty from by unfold idT; rw [HF.out]; rfl, show idE 1 nm s = 2 from by unfold idE; rw [HF.out]; rfl]
          go_enter Tryz.func95, Tryz.ntmps95
          go_wp2_with (go_at_call 101; (refine (C.out _).mono ?_); rintro e w' ⟨rfl, rfl⟩)
          go_ret2
          exact ⟨rfl, hb.out⟩
        · have e4 : decide (63 < s) = false := by simp; omega
          have hok := idOk_yes (k := 1) (by omega) hn (by omega : 0 ≤ s) (by omega)
          have hsz := idOk_size hok
          obtain ⟨n, rfl⟩ : ∃ n : Nat, s = n := ⟨s.toNat, by omega⟩
          have hn63 : n ≤ 63 := by omega
          obtain ⟨D, hD⟩ : ∃ D, mkS (dig n) = D := ⟨_, rfl⟩
          have hDs : D.size ≤ 2 := by rw [← hD]; exact dig_size n
          have hcs : (⟨#[58]⟩ : ByteArray).size = 1 := rfl
          have hms : (⟨#[64]⟩ : ByteArray).size = 1 := rfl
          have hT : (⟨#[64]⟩ : ByteArray) ++ nm ++ ⟨#[58]⟩ ++ D = idT 1 nm n := by rw [← hD]; exact idT_app hok ⟨#[64]⟩ rfl
          have CN := hidp (show ∀ W, Calls Tryz.prog 100 #[.int .i64 (n : Int)] W fun e w' => e = .returned (.string D) ∧ w' = W from fun W => by
            rw [← hD]; exact rnumber_any W n (by omega))
          rw [← hT, show idE 1 nm n = 0 from by unfold idE; rw [hok]; rfl]
          clear hT hD hok h0 h1 hn63
          go_enter Tryz.func95, Tryz.ntmps95
          go_wp2_with (go_at_call 101; (refine (C.out _).mono ?_); rintro e w' ⟨rfl, rfl⟩)
          go_quiet ((go_at_call 100; exact Calls.quiet_of_same (CN.out _)))
          go_wp2
          go_ret2
          exact ⟨rfl, below_drewN hb.out _⟩
  · by_cases h2 : k = 2
    · subst h2
      cases hn : nameL nm.data.toList with
      | false =>
        have HF := hidp (idOk_n (k := 2) s hn)
        rw [hn] at C
        rw [show idT 2 nm s = ByteArray.empty from by unfold idT; rw [HF.out]; rfl, show idE 2 nm s = 2 from by unfold idE; rw [HF.out]; rfl]
        go_enter Tryz.func95, Tryz.ntmps95
        go_wp2_with (go_at_call 101; (refine (C.out _).mono ?_); rintro e w' ⟨rfl, rfl⟩)
        go_ret2
        exact ⟨rfl, hb.out⟩
      | true =>
        rw [hn] at C
        by_cases h0 : s < 0
        · have e3 : decide (s < 0) = true := by simp; omega
          have HF := hidp (idOk_s (k := 2) (nm := nm) (.inl h0))
          clear h0
          rw [show idT 2 nm s = ByteArray.empty from by unfold idT; rw [HF.out]; rfl, show idE 2 nm s = 2 from by unfold idE; rw [HF.out]; rfl]
          go_enter Tryz.func95, Tryz.ntmps95
          go_wp2_with (go_at_call 101; (refine (C.out _).mono ?_); rintro e w' ⟨rfl, rfl⟩)
          go_ret2
          exact ⟨rfl, hb.out⟩
        · have e3 : decide (s < 0) = false := by simp; omega
          by_cases h1 : 63 < s
          · have e4 : decide (63 < s) = true := by simp; omega
            have HF := hidp (idOk_s (k := 2) (nm := nm) (.inr h1))
            clear h0 h1
            rw [show idT 2 nm s = ByteArray.empty from by unfold idT; rw [HF.out]; rfl, show idE 2 nm s = 2 from by unfold idE; rw [HF.out]; rfl]
            go_enter Tryz.func95, Tryz.ntmps95
            go_wp2_with (go_at_call 101; (refine (C.out _).mono ?_); rintro e w' ⟨rfl, rfl⟩)
            go_ret2
            exact ⟨rfl, hb.out⟩
          · have e4 : decide (63 < s) = false := by simp; omega
            have hok := idOk_yes (k := 2) (by omega) hn (by omega : 0 ≤ s) (by omega)
            have hsz := idOk_size hok
            obtain ⟨n, rfl⟩ : ∃ n : Nat, s = n := ⟨s.toNat, by omega⟩
            have hn63 : n ≤ 63 := by omega
            obtain ⟨D, hD⟩ : ∃ D, mkS (dig n) = D := ⟨_, rfl⟩
            have hDs : D.size ≤ 2 := by rw [← hD]; exact dig_size n
            have hcs : (⟨#[58]⟩ : ByteArray).size = 1 := rfl
            have hms : (⟨#[33]⟩ : ByteArray).size = 1 := rfl
            have hT : (⟨#[33]⟩ : ByteArray) ++ nm ++ ⟨#[58]⟩ ++ D = idT 2 nm n := by rw [← hD]; exact idT_app hok ⟨#[33]⟩ rfl
            have CN := hidp (show ∀ W, Calls Tryz.prog 100 #[.int .i64 (n : Int)] W fun e w' => e = .returned (.string D) ∧ w' = W from fun W => by
              rw [← hD]; exact rnumber_any W n (by omega))
            rw [← hT, show idE 2 nm n = 0 from by unfold idE; rw [hok]; rfl]
            clear hT hD hok h0 h1 hn63
            go_enter Tryz.func95, Tryz.ntmps95
            go_wp2_with (go_at_call 101; (refine (C.out _).mono ?_); rintro e w' ⟨rfl, rfl⟩)
            go_quiet ((go_at_call 100; exact Calls.quiet_of_same (CN.out _)))
            go_wp2
            go_ret2
            exact ⟨rfl, below_drewN hb.out _⟩
    · have HF := hidp (idOk_k nm s (fun h => by omega) : idOk k nm s = false)
      have e1 : ((k : Int) == 1) = false := by simp; omega
      have m1 : ((k : Int) != 1) = true := by simp; omega
      have x1 : ¬ k = 1 := by omega
      have e2 : ((k : Int) == 2) = false := by simp; omega
      have m2 : ((k : Int) != 2) = true := by simp; omega
      have x2 : ¬ k = 2 := by omega
      rw [show idT k nm s = ByteArray.empty from by unfold idT; rw [HF.out]; rfl, show idE k nm s = 2 from by unfold idE; rw [HF.out]; rfl]
      go_enter Tryz.func95, Tryz.ntmps95
      go_wp2_with fail
      go_ret2
      exact ⟨rfl, hb.out⟩
end Go.Proofs.YtfenjincbhkodaaGreatDoor

namespace Go.Proofs.YtfenjincbhkodaaGreatDoor
set_option maxRecDepth 100000
set_option linter.unusedVariables false
set_option linter.unusedSimpArgs false
open Go.RowKit

set_option maxHeartbeats 16000000 in
theorem rparse_any (w : World) (t : ByteArray) (hs : t.size ≤ 281474976710656) :
    Calls Tryz.prog 91 #[.string t] w fun e w' => e = .returned (.tuple #[idV (idP t), .int .i64 (idX (idP t))]) ∧ Below w.heap.size w w' := by
  obtain ⟨X, hX⟩ : ∃ x, idP t = x := ⟨_, rfl⟩
  rw [hX]
  have HXX := hidp hX; clear hX
  have HB := hidp ((Below.refl w.heap.size w).alloc (Nat.le_refl _) (.cells #[.int .u8 0, .string ⟨#[]⟩, .int .i64 0] 128))
  have HA := hidp (Arr.new w 128 [.int .u8 0, .string ⟨#[]⟩, .int .i64 0])
  go_enter Tryz.func91, Tryz.ntmps91
  go_wp2
  go_loop [4] (fun t4 => ∃ (i : Nat), t4 = .int .i64 i ∧ 1 ≤ i ∧ (i ≤ t.size ∨ i = 1) ∧ (∀ j (hj : j < t.size), 1 ≤ j → j < i → (t[j]'hj).toNat ≠ 58)) (fun t4 => t.size + 1 - (intOf t4).toNat)
  case atStart => exact ⟨1, rfl, by omega, .inr rfl, fun j hj h1 h2 => by omega⟩
  case round =>
    obtain ⟨i, rfl, hi1, hi, hall⟩ := hrel
    have HALL := hidp hall; clear hall
    by_cases hl : i < t.size
    · obtain ⟨bn, hbn⟩ : ∃ bn, (t[i]'hl).toNat = bn := ⟨_, rfl⟩
      have hb : bn < 256 := by rw [← hbn]; exact UInt8.toNat_lt _
      have HBN := hidp hbn
      by_cases h58 : bn = 58
      · have e0 : ((bn : Int) != 58) = false := by rw [h58]; rfl
        have hP := idP_at i hi1 hl (by rw [HBN.out]; exact h58) (fun j hj h1 h2 => HALL.out j hj h1 h2)
        rw [HXX.out] at hP
        have f1 : mkS ((t.data.toList.drop 1).take (i - 1)) = t.extract 1 i := by apply ba_ext; rw [mkS_data, extract_toList]
        have f2 : t.data.toList.drop (i + 1) = (t.extract (i + 1) t.size).data.toList := by rw [ext_drop, mkS_data]
        rw [f2] at hP
        unfold idC at hP
        rw [f1] at hP
        have CC := hidp (fun W => rcount_any W (t.extract (i + 1) t.size) (by simp; omega))
        have hNs : (t.extract 1 i).size ≤ 281474976710656 := by simp; omega
        have c0 : (0 : Int) ≤ (i : Int) + 1 := by omega
        have c1 : (i : Int) + 1 ≤ (t.size : Int) := by omega
        have c2 : (1 : Int) ≤ (i : Int) := by omega
        have c3 : (i : Int) ≤ (t.size : Int) := by omega
        have c4 : (0 : Int) < (t.size : Int) := by omega
        have hl0 : 0 < t.size := by omega
        obtain ⟨cn, hcn⟩ : ∃ cn, (t[0]'hl0).toNat = cn := ⟨_, rfl⟩
        have hcb : cn < 256 := by rw [← hcn]; exact UInt8.toNat_lt _
        have hc33 : (t[0]'hl0 = 33) = (cn = 33) := by
          rw [← hcn]; apply propext
          exact ⟨fun e => by rw [e]; rfl, fun e => UInt8.toNat_inj.1 e⟩
        obtain ⟨NM, hNM⟩ : ∃ x, t.extract 1 i = x := ⟨_, rfl⟩
        obtain ⟨D, hD⟩ : ∃ x, t.extract (i + 1) t.size = x := ⟨_, rfl⟩
        have hNM0 := hNM; have hD0 := hD
        rw [hNM] at hP hNs
        rw [hD] at hP CC
        clear f1 f2 h58
        by_cases h33 : cn = 33
        · have e1 : ((cn : Int) == 33) = true := by rw [h33]; rfl
          simp only [hc33, h33, if_true] at hP
          clear hc33
          cases hd : decOf D.data.toList with
          | none =>
            rw [hd] at hP CC
            simp only at hP
            subst hP
            have CT := hidp (fun W => rtext_any W 2 (by omega) NM hNs 0)
            obtain ⟨S, hS⟩ : ∃ x, idT 2 NM 0 = x := ⟨_, rfl⟩
            obtain ⟨E, hE⟩ : ∃ x, idE 2 NM 0 = x := ⟨_, rfl⟩
            rw [hS, hE] at CT
            clear hS hE hd
            go_wp2_with fail
            refine (CC.out _).mono ?_
            rintro e w1 ⟨rfl, rfl⟩
            unfold whoV
            go_wp2_with fail
            have HN := hidp (show Arr ((w.alloc (.cells #[.int .u8 0, .string ⟨#[]⟩, .int .i64 0] 128)).alloc (.cells #[.int .u8 2, .string NM, .int .i64 0] 128)) (w.heap.size + 1) 128 [.int .u8 2, .string NM, .int .i64 0] from by
              have h := Arr.new (w.alloc (.cells #[.int .u8 0, .string ⟨#[]⟩, .int .i64 0] 128)) 128 [.int .u8 2, .string NM, .int .i64 0]
              rw [heap_size_alloc] at h; exact h)
            have HB1 := hidp (HB.out.alloc HB.out.size (.cells #[.int .u8 2, .string NM, .int .i64 0] 128)); have HA1 := hidp (HA.out.alloc (.cells #[.int .u8 2, .string NM, .int .i64 0] 128))
            have HN2 := HN; have HB2 := HB1; have HA2 := HA1
            generalize hW2 : ((w.alloc (.cells #[.int .u8 0, .string ⟨#[]⟩, .int .i64 0] 128)).alloc (.cells #[.int .u8 2, .string NM, .int .i64 0] 128)) = W2 at HN2 HB2 HA2 HN HB1 HA1 ⊢
            clear HN HB1 HA1 hW2
            refine (CT.out _).mono ?_
            rintro e w5 ⟨rfl, hb5⟩
            have HB5 := hidp (HB2.out.trans (hb5.mono HB2.out.size)); have HA5 := hidp (HA2.out.below hb5 HA2.out.lt); have HN5 := hidp (HN2.out.below hb5 HN2.out.lt)
            clear hb5
            obtain ⟨r0, r1, r2, rf⟩ := arr3 HA5.out
            have g0 := rf 0; have g1 := rf 1; have g2 := rf 2
            clear rf
            go_wp2_with fail
            refine bodyPost_ret (v := .tuple #[.agg #[.int .u8 0, .string ⟨#[]⟩, .int .i64 0], .int .i64 6]) (by simp [results, Tryz.results91, go_sem, r0, r1, r2]) rfl ⟨rfl, ?_⟩
            repeat (refine Below.setCell ?_ (by simp) _)
            exact HB5.out
          | some n =>
            rw [hd] at hP CC
            simp only at hP
            have CT := hidp (fun W => rtext_any W 2 (by omega) NM hNs n)
            have hn63 := (decOf_some hd).1
            clear hd
            by_cases hh : idOk 2 NM n = true ∧ mkS (idL 2 NM n) = t
            · rw [if_pos hh] at hP
              subst hP
              rw [idT_eq (v := (n : Int)) (by simpa using hh), idE_ok hh.1] at CT
              clear hh
              go_wp2_with fail
              refine (CC.out _).mono ?_
              rintro e w1 ⟨rfl, rfl⟩
              unfold whoV
              go_wp2_with fail
              have HN := hidp (show Arr ((w.alloc (.cells #[.int .u8 0, .string ⟨#[]⟩, .int .i64 0] 128)).alloc (.cells #[.int .u8 2, .string NM, .int .i64 (n : Int)] 128)) (w.heap.size + 1) 128 [.int .u8 2, .string NM, .int .i64 (n : Int)] from by
                have h := Arr.new (w.alloc (.cells #[.int .u8 0, .string ⟨#[]⟩, .int .i64 0] 128)) 128 [.int .u8 2, .string NM, .int .i64 (n : Int)]
                rw [heap_size_alloc] at h; exact h)
              have HB1 := hidp (HB.out.alloc HB.out.size (.cells #[.int .u8 2, .string NM, .int .i64 (n : Int)] 128)); have HA1 := hidp (HA.out.alloc (.cells #[.int .u8 2, .string NM, .int .i64 (n : Int)] 128))
              have HN2 := HN; have HB2 := HB1; have HA2 := HA1
              generalize hW2 : ((w.alloc (.cells #[.int .u8 0, .string ⟨#[]⟩, .int .i64 0] 128)).alloc (.cells #[.int .u8 2, .string NM, .int .i64 (n : Int)] 128)) = W2 at HN2 HB2 HA2 HN HB1 HA1 ⊢
              clear HN HB1 HA1 hW2
              refine (CT.out _).mono ?_
              rintro e w5 ⟨rfl, hb5⟩
              have HB5 := hidp (HB2.out.trans (hb5.mono HB2.out.size)); have HA5 := hidp (HA2.out.below hb5 HA2.out.lt); have HN5 := hidp (HN2.out.below hb5 HN2.out.lt)
              clear hb5
              obtain ⟨r0, r1, r2, rf⟩ := arr3 HA5.out
              have g0 := rf 0; have g1 := rf 1; have g2 := rf 2
              clear rf
              obtain ⟨n0, n1, n2, -⟩ := arr3 HN5.out
              go_wp2_with fail
              refine bodyPost_ret (v := .tuple #[.agg #[.int .u8 2, .string NM, .int .i64 (n : Int)], .int .i64 0]) (by simp [results, Tryz.results91, go_sem, r0, r1, r2]) rfl ⟨rfl, ?_⟩
              repeat (refine Below.setCell ?_ (by simp) _)
              exact HB5.out
            · rw [if_neg hh] at hP
              subst hP
              by_cases hok : idOk 2 NM n = true
              · have ht := toList_no (idT_ne (v := (n : Int)) (t := t) hok (by simpa using hh))
                rw [idE_ok hok] at CT
                obtain ⟨S, hS⟩ : ∃ x, idT 2 NM n = x := ⟨_, rfl⟩
                rw [hS] at CT ht
                clear hh hok hS
                go_wp2_with fail
                refine (CC.out _).mono ?_
                rintro e w1 ⟨rfl, rfl⟩
                unfold whoV
                go_wp2_with fail
                have HN := hidp (show Arr ((w.alloc (.cells #[.int .u8 0, .string ⟨#[]⟩, .int .i64 0] 128)).alloc (.cells #[.int .u8 2, .string NM, .int .i64 (n : Int)] 128)) (w.heap.size + 1) 128 [.int .u8 2, .string NM, .int .i64 (n : Int)] from by
                  have h := Arr.new (w.alloc (.cells #[.int .u8 0, .string ⟨#[]⟩, .int .i64 0] 128)) 128 [.int .u8 2, .string NM, .int .i64 (n : Int)]
                  rw [heap_size_alloc] at h; exact h)
                have HB1 := hidp (HB.out.alloc HB.out.size (.cells #[.int .u8 2, .string NM, .int .i64 (n : Int)] 128)); have HA1 := hidp (HA.out.alloc (.cells #[.int .u8 2, .string NM, .int .i64 (n : Int)] 128))
                have HN2 := HN; have HB2 := HB1; have HA2 := HA1
                generalize hW2 : ((w.alloc (.cells #[.int .u8 0, .string ⟨#[]⟩, .int .i64 0] 128)).alloc (.cells #[.int .u8 2, .string NM, .int .i64 (n : Int)] 128)) = W2 at HN2 HB2 HA2 HN HB1 HA1 ⊢
                clear HN HB1 HA1 hW2
                refine (CT.out _).mono ?_
                rintro e w5 ⟨rfl, hb5⟩
                have HB5 := hidp (HB2.out.trans (hb5.mono HB2.out.size)); have HA5 := hidp (HA2.out.below hb5 HA2.out.lt); have HN5 := hidp (HN2.out.below hb5 HN2.out.lt)
                clear hb5
                obtain ⟨r0, r1, r2, rf⟩ := arr3 HA5.out
                have g0 := rf 0; have g1 := rf 1; have g2 := rf 2
                clear rf
                go_wp2_with fail
                refine bodyPost_ret (v := .tuple #[.agg #[.int .u8 0, .string ⟨#[]⟩, .int .i64 0], .int .i64 6]) (by simp [results, Tryz.results91, go_sem, r0, r1, r2]) rfl ⟨rfl, ?_⟩
                repeat (refine Below.setCell ?_ (by simp) _)
                exact HB5.out
              · rw [idE_no hok] at CT
                obtain ⟨S, hS⟩ : ∃ x, idT 2 NM n = x := ⟨_, rfl⟩
                rw [hS] at CT
                clear hh hok hS
                go_wp2_with fail
                refine (CC.out _).mono ?_
                rintro e w1 ⟨rfl, rfl⟩
                unfold whoV
                go_wp2_with fail
                have HN := hidp (show Arr ((w.alloc (.cells #[.int .u8 0, .string ⟨#[]⟩, .int .i64 0] 128)).alloc (.cells #[.int .u8 2, .string NM, .int .i64 (n : Int)] 128)) (w.heap.size + 1) 128 [.int .u8 2, .string NM, .int .i64 (n : Int)] from by
                  have h := Arr.new (w.alloc (.cells #[.int .u8 0, .string ⟨#[]⟩, .int .i64 0] 128)) 128 [.int .u8 2, .string NM, .int .i64 (n : Int)]
                  rw [heap_size_alloc] at h; exact h)
                have HB1 := hidp (HB.out.alloc HB.out.size (.cells #[.int .u8 2, .string NM, .int .i64 (n : Int)] 128)); have HA1 := hidp (HA.out.alloc (.cells #[.int .u8 2, .string NM, .int .i64 (n : Int)] 128))
                have HN2 := HN; have HB2 := HB1; have HA2 := HA1
                generalize hW2 : ((w.alloc (.cells #[.int .u8 0, .string ⟨#[]⟩, .int .i64 0] 128)).alloc (.cells #[.int .u8 2, .string NM, .int .i64 (n : Int)] 128)) = W2 at HN2 HB2 HA2 HN HB1 HA1 ⊢
                clear HN HB1 HA1 hW2
                refine (CT.out _).mono ?_
                rintro e w5 ⟨rfl, hb5⟩
                have HB5 := hidp (HB2.out.trans (hb5.mono HB2.out.size)); have HA5 := hidp (HA2.out.below hb5 HA2.out.lt); have HN5 := hidp (HN2.out.below hb5 HN2.out.lt)
                clear hb5
                obtain ⟨r0, r1, r2, rf⟩ := arr3 HA5.out
                have g0 := rf 0; have g1 := rf 1; have g2 := rf 2
                clear rf
                go_wp2_with fail
                refine bodyPost_ret (v := .tuple #[.agg #[.int .u8 0, .string ⟨#[]⟩, .int .i64 0], .int .i64 6]) (by simp [results, Tryz.results91, go_sem, r0, r1, r2]) rfl ⟨rfl, ?_⟩
                repeat (refine Below.setCell ?_ (by simp) _)
                exact HB5.out
        · have e1 : ((cn : Int) == 33) = false := beq_eq_false_iff_ne.2 (by omega)
          have x1 : ¬ cn = 33 := h33
          simp only [hc33, h33, if_false] at hP
          clear hc33
          cases hd : decOf D.data.toList with
          | none =>
            rw [hd] at hP CC
            simp only at hP
            subst hP
            have CT := hidp (fun W => rtext_any W 1 (by omega) NM hNs 0)
            obtain ⟨S, hS⟩ : ∃ x, idT 1 NM 0 = x := ⟨_, rfl⟩
            obtain ⟨E, hE⟩ : ∃ x, idE 1 NM 0 = x := ⟨_, rfl⟩
            rw [hS, hE] at CT
            clear hS hE hd
            go_wp2_with fail
            refine (CC.out _).mono ?_
            rintro e w1 ⟨rfl, rfl⟩
            unfold whoV
            go_wp2_with fail
            have HN := hidp (show Arr ((w.alloc (.cells #[.int .u8 0, .string ⟨#[]⟩, .int .i64 0] 128)).alloc (.cells #[.int .u8 1, .string NM, .int .i64 0] 128)) (w.heap.size + 1) 128 [.int .u8 1, .string NM, .int .i64 0] from by
              have h := Arr.new (w.alloc (.cells #[.int .u8 0, .string ⟨#[]⟩, .int .i64 0] 128)) 128 [.int .u8 1, .string NM, .int .i64 0]
              rw [heap_size_alloc] at h; exact h)
            have HB1 := hidp (HB.out.alloc HB.out.size (.cells #[.int .u8 1, .string NM, .int .i64 0] 128)); have HA1 := hidp (HA.out.alloc (.cells #[.int .u8 1, .string NM, .int .i64 0] 128))
            have HN2 := HN; have HB2 := HB1; have HA2 := HA1
            generalize hW2 : ((w.alloc (.cells #[.int .u8 0, .string ⟨#[]⟩, .int .i64 0] 128)).alloc (.cells #[.int .u8 1, .string NM, .int .i64 0] 128)) = W2 at HN2 HB2 HA2 HN HB1 HA1 ⊢
            clear HN HB1 HA1 hW2
            refine (CT.out _).mono ?_
            rintro e w5 ⟨rfl, hb5⟩
            have HB5 := hidp (HB2.out.trans (hb5.mono HB2.out.size)); have HA5 := hidp (HA2.out.below hb5 HA2.out.lt); have HN5 := hidp (HN2.out.below hb5 HN2.out.lt)
            clear hb5
            obtain ⟨r0, r1, r2, rf⟩ := arr3 HA5.out
            have g0 := rf 0; have g1 := rf 1; have g2 := rf 2
            clear rf
            go_wp2_with fail
            refine bodyPost_ret (v := .tuple #[.agg #[.int .u8 0, .string ⟨#[]⟩, .int .i64 0], .int .i64 6]) (by simp [results, Tryz.results91, go_sem, r0, r1, r2]) rfl ⟨rfl, ?_⟩
            repeat (refine Below.setCell ?_ (by simp) _)
            exact HB5.out
          | some n =>
            rw [hd] at hP CC
            simp only at hP
            have CT := hidp (fun W => rtext_any W 1 (by omega) NM hNs n)
            have hn63 := (decOf_some hd).1
            clear hd
            by_cases hh : idOk 1 NM n = true ∧ mkS (idL 1 NM n) = t
            · rw [if_pos hh] at hP
              subst hP
              rw [idT_eq (v := (n : Int)) (by simpa using hh), idE_ok hh.1] at CT
              clear hh
              go_wp2_with fail
              refine (CC.out _).mono ?_
              rintro e w1 ⟨rfl, rfl⟩
              unfold whoV
              go_wp2_with fail
              have HN := hidp (show Arr ((w.alloc (.cells #[.int .u8 0, .string ⟨#[]⟩, .int .i64 0] 128)).alloc (.cells #[.int .u8 1, .string NM, .int .i64 (n : Int)] 128)) (w.heap.size + 1) 128 [.int .u8 1, .string NM, .int .i64 (n : Int)] from by
                have h := Arr.new (w.alloc (.cells #[.int .u8 0, .string ⟨#[]⟩, .int .i64 0] 128)) 128 [.int .u8 1, .string NM, .int .i64 (n : Int)]
                rw [heap_size_alloc] at h; exact h)
              have HB1 := hidp (HB.out.alloc HB.out.size (.cells #[.int .u8 1, .string NM, .int .i64 (n : Int)] 128)); have HA1 := hidp (HA.out.alloc (.cells #[.int .u8 1, .string NM, .int .i64 (n : Int)] 128))
              have HN2 := HN; have HB2 := HB1; have HA2 := HA1
              generalize hW2 : ((w.alloc (.cells #[.int .u8 0, .string ⟨#[]⟩, .int .i64 0] 128)).alloc (.cells #[.int .u8 1, .string NM, .int .i64 (n : Int)] 128)) = W2 at HN2 HB2 HA2 HN HB1 HA1 ⊢
              clear HN HB1 HA1 hW2
              refine (CT.out _).mono ?_
              rintro e w5 ⟨rfl, hb5⟩
              have HB5 := hidp (HB2.out.trans (hb5.mono HB2.out.size)); have HA5 := hidp (HA2.out.below hb5 HA2.out.lt); have HN5 := hidp (HN2.out.below hb5 HN2.out.lt)
              clear hb5
              obtain ⟨r0, r1, r2, rf⟩ := arr3 HA5.out
              have g0 := rf 0; have g1 := rf 1; have g2 := rf 2
              clear rf
              obtain ⟨n0, n1, n2, -⟩ := arr3 HN5.out
              go_wp2_with fail
              refine bodyPost_ret (v := .tuple #[.agg #[.int .u8 1, .string NM, .int .i64 (n : Int)], .int .i64 0]) (by simp [results, Tryz.results91, go_sem, r0, r1, r2]) rfl ⟨rfl, ?_⟩
              repeat (refine Below.setCell ?_ (by simp) _)
              exact HB5.out
            · rw [if_neg hh] at hP
              subst hP
              by_cases hok : idOk 1 NM n = true
              · have ht := toList_no (idT_ne (v := (n : Int)) (t := t) hok (by simpa using hh))
                rw [idE_ok hok] at CT
                obtain ⟨S, hS⟩ : ∃ x, idT 1 NM n = x := ⟨_, rfl⟩
                rw [hS] at CT ht
                clear hh hok hS
                go_wp2_with fail
                refine (CC.out _).mono ?_
                rintro e w1 ⟨rfl, rfl⟩
                unfold whoV
                go_wp2_with fail
                have HN := hidp (show Arr ((w.alloc (.cells #[.int .u8 0, .string ⟨#[]⟩, .int .i64 0] 128)).alloc (.cells #[.int .u8 1, .string NM, .int .i64 (n : Int)] 128)) (w.heap.size + 1) 128 [.int .u8 1, .string NM, .int .i64 (n : Int)] from by
                  have h := Arr.new (w.alloc (.cells #[.int .u8 0, .string ⟨#[]⟩, .int .i64 0] 128)) 128 [.int .u8 1, .string NM, .int .i64 (n : Int)]
                  rw [heap_size_alloc] at h; exact h)
                have HB1 := hidp (HB.out.alloc HB.out.size (.cells #[.int .u8 1, .string NM, .int .i64 (n : Int)] 128)); have HA1 := hidp (HA.out.alloc (.cells #[.int .u8 1, .string NM, .int .i64 (n : Int)] 128))
                have HN2 := HN; have HB2 := HB1; have HA2 := HA1
                generalize hW2 : ((w.alloc (.cells #[.int .u8 0, .string ⟨#[]⟩, .int .i64 0] 128)).alloc (.cells #[.int .u8 1, .string NM, .int .i64 (n : Int)] 128)) = W2 at HN2 HB2 HA2 HN HB1 HA1 ⊢
                clear HN HB1 HA1 hW2
                refine (CT.out _).mono ?_
                rintro e w5 ⟨rfl, hb5⟩
                have HB5 := hidp (HB2.out.trans (hb5.mono HB2.out.size)); have HA5 := hidp (HA2.out.below hb5 HA2.out.lt); have HN5 := hidp (HN2.out.below hb5 HN2.out.lt)
                clear hb5
                obtain ⟨r0, r1, r2, rf⟩ := arr3 HA5.out
                have g0 := rf 0; have g1 := rf 1; have g2 := rf 2
                clear rf
                go_wp2_with fail
                refine bodyPost_ret (v := .tuple #[.agg #[.int .u8 0, .string ⟨#[]⟩, .int .i64 0], .int .i64 6]) (by simp [results, Tryz.results91, go_sem, r0, r1, r2]) rfl ⟨rfl, ?_⟩
                repeat (refine Below.setCell ?_ (by simp) _)
                exact HB5.out
              · rw [idE_no hok] at CT
                obtain ⟨S, hS⟩ : ∃ x, idT 1 NM n = x := ⟨_, rfl⟩
                rw [hS] at CT
                clear hh hok hS
                go_wp2_with fail
                refine (CC.out _).mono ?_
                rintro e w1 ⟨rfl, rfl⟩
                unfold whoV
                go_wp2_with fail
                have HN := hidp (show Arr ((w.alloc (.cells #[.int .u8 0, .string ⟨#[]⟩, .int .i64 0] 128)).alloc (.cells #[.int .u8 1, .string NM, .int .i64 (n : Int)] 128)) (w.heap.size + 1) 128 [.int .u8 1, .string NM, .int .i64 (n : Int)] from by
                  have h := Arr.new (w.alloc (.cells #[.int .u8 0, .string ⟨#[]⟩, .int .i64 0] 128)) 128 [.int .u8 1, .string NM, .int .i64 (n : Int)]
                  rw [heap_size_alloc] at h; exact h)
                have HB1 := hidp (HB.out.alloc HB.out.size (.cells #[.int .u8 1, .string NM, .int .i64 (n : Int)] 128)); have HA1 := hidp (HA.out.alloc (.cells #[.int .u8 1, .string NM, .int .i64 (n : Int)] 128))
                have HN2 := HN; have HB2 := HB1; have HA2 := HA1
                generalize hW2 : ((w.alloc (.cells #[.int .u8 0, .string ⟨#[]⟩, .int .i64 0] 128)).alloc (.cells #[.int .u8 1, .string NM, .int .i64 (n : Int)] 128)) = W2 at HN2 HB2 HA2 HN HB1 HA1 ⊢
                clear HN HB1 HA1 hW2
                refine (CT.out _).mono ?_
                rintro e w5 ⟨rfl, hb5⟩
                have HB5 := hidp (HB2.out.trans (hb5.mono HB2.out.size)); have HA5 := hidp (HA2.out.below hb5 HA2.out.lt); have HN5 := hidp (HN2.out.below hb5 HN2.out.lt)
                clear hb5
                obtain ⟨r0, r1, r2, rf⟩ := arr3 HA5.out
                have g0 := rf 0; have g1 := rf 1; have g2 := rf 2
                clear rf
                go_wp2_with fail
                refine bodyPost_ret (v := .tuple #[.agg #[.int .u8 0, .string ⟨#[]⟩, .int .i64 0], .int .i64 6]) (by simp [results, Tryz.results91, go_sem, r0, r1, r2]) rfl ⟨rfl, ?_⟩
                repeat (refine Below.setCell ?_ (by simp) _)
                exact HB5.out
      · have e0 : ((bn : Int) != 58) = true := by simp; omega
        have x0 : ¬ bn = 58 := h58
        go_wp2
        refine ⟨⟨i + 1, by go_num, by omega, .inl (by omega), fun j hj h1 h2 => ?_⟩, by simp [intOf]; omega⟩
        by_cases hji : j = i
        · subst hji; have e2 := HBN.out; rw [e2]; exact h58
        · exact HALL.out j hj h1 (by omega)
    · have hF := idP_nocolon (t := t) (fun j hj h1 => HALL.out j hj h1 (by omega))
      rw [HXX.out] at hF
      subst hF
      obtain ⟨r0, r1, r2, rf⟩ := arr3 HA.out
      have g0 := rf 0; have g1 := rf 1; have g2 := rf 2
      clear rf
      go_wp2_with fail
      refine bodyPost_ret (v := .tuple #[.agg #[.int .u8 0, .string ⟨#[]⟩, .int .i64 0], .int .i64 6]) (by simp [results, Tryz.results91, go_sem, r0, r1, r2]) rfl ⟨rfl, ?_⟩
      repeat (refine Below.setCell ?_ (by simp) _)
      exact HB.out

set_option maxHeartbeats 4000000 in
theorem ruser_any (w : World) (t : ByteArray) (hs : t.size ≤ 281474976710656) :
    Calls Tryz.prog 78 #[.string t] w fun e w' => e = .returned (whoV (who 1 t)) ∧ Below w.heap.size w w' := by
  have C := hidp (rparse_any w t hs)
  cases hp : idP t with
  | none =>
    rw [hp] at C
    rw [who_no hp]
    clear hp
    unfold idV idX at C
    unfold whoV
    go_enter Tryz.func78, Tryz.ntmps78
    go_wp2_with (go_at_call 91; (refine C.out.mono ?_); rintro e w1 ⟨rfl, hb1⟩; have HB1 := hidp (hb1.alloc hb1.size (.cells #[.int .u8 0, .string ⟨#[]⟩, .int .i64 0] 128)); clear hb1)
    go_ret2
    exact ⟨rfl, HB1.out⟩
  | some x =>
    obtain ⟨k, nm, n⟩ := x
    rw [hp] at C
    unfold idV idX at C
    by_cases hk : k = 1
    · subst hk
      rw [who_yes hp]
      unfold whoV
      clear hp
      go_enter Tryz.func78, Tryz.ntmps78
      go_wp2_with (go_at_call 91; (refine C.out.mono ?_); rintro e w1 ⟨rfl, hb1⟩; have HB1 := hidp (hb1.alloc hb1.size (.cells #[.int .u8 ((1 : Nat) : Int), .string nm, .int .i64 (n : Int)] 128)); clear hb1)
      go_ret2
      exact ⟨rfl, HB1.out⟩
    · rw [who_other hp hk]
      unfold whoV
      have e0 : ((k : Int) != 1) = true := by simp; omega
      have x0 : ¬ k = 1 := hk
      clear hp
      go_enter Tryz.func78, Tryz.ntmps78
      go_wp2_with (go_at_call 91; (refine C.out.mono ?_); rintro e w1 ⟨rfl, hb1⟩; have HB1 := hidp (hb1.alloc hb1.size (.cells #[.int .u8 (k : Int), .string nm, .int .i64 (n : Int)] 128)); clear hb1)
      go_ret2
      exact ⟨rfl, HB1.out⟩
set_option maxHeartbeats 4000000 in
theorem rroom_any (w : World) (t : ByteArray) (hs : t.size ≤ 281474976710656) :
    Calls Tryz.prog 77 #[.string t] w fun e w' => e = .returned (whoV (who 2 t)) ∧ Below w.heap.size w w' := by
  have C := hidp (rparse_any w t hs)
  cases hp : idP t with
  | none =>
    rw [hp] at C
    rw [who_no hp]
    clear hp
    unfold idV idX at C
    unfold whoV
    go_enter Tryz.func77, Tryz.ntmps77
    go_wp2_with (go_at_call 91; (refine C.out.mono ?_); rintro e w1 ⟨rfl, hb1⟩; have HB1 := hidp (hb1.alloc hb1.size (.cells #[.int .u8 0, .string ⟨#[]⟩, .int .i64 0] 128)); clear hb1)
    go_ret2
    exact ⟨rfl, HB1.out⟩
  | some x =>
    obtain ⟨k, nm, n⟩ := x
    rw [hp] at C
    unfold idV idX at C
    by_cases hk : k = 2
    · subst hk
      rw [who_yes hp]
      unfold whoV
      clear hp
      go_enter Tryz.func77, Tryz.ntmps77
      go_wp2_with (go_at_call 91; (refine C.out.mono ?_); rintro e w1 ⟨rfl, hb1⟩; have HB1 := hidp (hb1.alloc hb1.size (.cells #[.int .u8 ((2 : Nat) : Int), .string nm, .int .i64 (n : Int)] 128)); clear hb1)
      go_ret2
      exact ⟨rfl, HB1.out⟩
    · rw [who_other hp hk]
      unfold whoV
      have e0 : ((k : Int) != 2) = true := by simp; omega
      have x0 : ¬ k = 2 := hk
      clear hp
      go_enter Tryz.func77, Tryz.ntmps77
      go_wp2_with (go_at_call 91; (refine C.out.mono ?_); rintro e w1 ⟨rfl, hb1⟩; have HB1 := hidp (hb1.alloc hb1.size (.cells #[.int .u8 (k : Int), .string nm, .int .i64 (n : Int)] 128)); clear hb1)
      go_ret2
      exact ⟨rfl, HB1.out⟩
end Go.Proofs.YtfenjincbhkodaaGreatDoor

namespace Go.Proofs.YtfenjincbhkodaaGreatDoor
set_option maxRecDepth 100000
set_option linter.unusedVariables false
set_option linter.unusedSimpArgs false
open Go.RowKit

/-- The table of the words. -/
def WT (w : World) : Prop := ∀ i, i < 9 → w.cell? ⟨1, i, none⟩ = some (.string (word i))
theorem WT.below {w w' : World} (h : WT w) {B : Nat} (hb : Below B w w') (hB : w.heap.size ≤ B) : WT w' := fun i hi => by
  have g1 := World.block_lt_of_cell? w _ (h i hi)
  exact (hb.cell (p := ⟨1, i, none⟩) (by simp only at g1 ⊢; omega)).trans (h i hi)

def kindB (k : Nat) : Bool := decide (1 ≤ k ∧ k ≤ 8)
theorem kindB_yes {k : Nat} (h : 1 ≤ k ∧ k ≤ 8) : kindB k = true := decide_eq_true h
theorem kindB_no {k : Nat} (h : ¬ (1 ≤ k ∧ k ≤ 8)) : kindB k = false := decide_eq_false h
set_option maxHeartbeats 4000000 in
theorem isKind_any (w : World) (k : Nat) (hk : k < 256) :
    Calls Tryz.prog 71 #[.int .u8 (k : Int)] w fun e w' => e = .returned (.bool (kindB k)) ∧ w' = w := by
  by_cases h0 : k = 0
  · have e0 : decide ((0 : Int) < (k : Int)) = false := by simp; omega
    have n0 : ¬ 0 < k := by omega
    have HF := hidp (kindB_no (k := k) (by omega))
    clear h0
    go_enter Tryz.func71, Tryz.ntmps71
    go_wp2
    go_ret
    exact ⟨by rw [HF.out]; rfl, rfl⟩
  · have e0 : decide ((0 : Int) < (k : Int)) = true := by simp; omega
    have n0 : 0 < k := by omega
    by_cases h9 : k < 9
    · have e1 : decide ((k : Int) < 9) = true := by simp; omega
      have n1 : (k : Int) < 9 := by omega
      have HF := hidp (kindB_yes (k := k) (by omega))
      clear h0 h9
      go_enter Tryz.func71, Tryz.ntmps71
      go_wp2
      go_ret
      exact ⟨by rw [HF.out]; rfl, rfl⟩
    · have e1 : decide ((k : Int) < 9) = false := by simp; omega
      have n1 : ¬ (k : Int) < 9 := by omega
      have HF := hidp (kindB_no (k := k) (by omega))
      clear h0 h9
      go_enter Tryz.func71, Tryz.ntmps71
      go_wp2
      go_ret
      exact ⟨by rw [HF.out]; rfl, rfl⟩
theorem word_out {k : Nat} (h : ¬ (1 ≤ k ∧ k ≤ 8)) : word k = ⟨#[]⟩ := by
  by_cases h0 : k = 0
  · subst h0; rfl
  · unfold word evWords; rw [List.getD_eq_getElem?_getD, List.getElem?_eq_none (by simp; omega)]; rfl
theorem kindOf_eq {t : ByteArray} {k : Nat} (h1 : 1 ≤ k) (h2 : k ≤ 8) (h : word k = t) : kindOf t = k := by rw [← h]; exact kindOf_word h1 h2
theorem kindOf_none {t : ByteArray} (h : ∀ k, 1 ≤ k → k ≤ 8 → word k ≠ t) : kindOf t = 0 := by
  by_cases h0 : kindOf t = 0
  · exact h0
  · obtain ⟨h1, h2⟩ := word_kindOf (t := t) (by omega)
    exact absurd h1 (h _ (by omega) h2)
set_option maxHeartbeats 4000000 in
theorem kindOf_any (w : World) (t : ByteArray) (hW : WT w) :
    Calls Tryz.prog 57 #[.string t] w fun e w' => e = .returned (.int .u8 (kindOf t : Nat)) ∧ w' = w := by
  have HW := hidp hW; clear hW
  obtain ⟨K, hK⟩ : ∃ K, kindOf t = K := ⟨_, rfl⟩
  rw [hK]
  have HK := hidp hK; clear hK
  go_enter Tryz.func57, Tryz.ntmps57
  go_wp2
  go_loop [3] (fun t3 => ∃ k : Nat, t3 = .int .u8 (k : Int) ∧ 1 ≤ k ∧ k ≤ 9 ∧ ∀ j, 1 ≤ j → j < k → word j ≠ t) (fun t3 => 9 - (intOf t3).toNat)
  case atStart => exact ⟨1, rfl, by omega, by omega, fun j h1 h2 => by omega⟩
  case round =>
    obtain ⟨k, rfl, h1, h9, hall⟩ := hrel
    have HALL := hidp hall; clear hall
    by_cases hl : k < 9
    · have e0 : decide ((k : Int) < 9) = true := by simp; omega
      have n0 : (k : Int) < 9 := by omega
      have c0 : (0 : Int) ≤ (k : Int) := by omega
      have m1 := HW.out k hl
      by_cases hw : word k = t
      · have HF := hidp (HK.out.symm.trans (kindOf_eq h1 (by omega) hw))
        rw [hw] at m1
        clear hw
        go_wp2
        go_ret
        exact ⟨by rw [HF.out]; rfl, rfl⟩
      · have hq := toList_no hw
        obtain ⟨X, hX⟩ : ∃ X, word k = X := ⟨_, rfl⟩
        have HX := hidp hX
        rw [hX] at m1 hq
        have HN := hidp hw
        clear hw hX
        have hw1 : IntKind.u8.wrap ((k : Int) + 1) = (k : Int) + 1 := by unfold IntKind.wrap; simp [IntKind.bits, IntKind.signed]; omega
        go_wp2
        refine ⟨⟨k + 1, by go_num, by omega, by omega, fun j g1 g2 => ?_⟩, by simp [intOf]; omega⟩
        by_cases hjk : j = k
        · subst hjk; exact HN.out
        · exact HALL.out j g1 (by omega)
    · have e0 : decide ((k : Int) < 9) = false := by simp; omega
      have n0 : ¬ (k : Int) < 9 := by omega
      have HF := hidp (HK.out.symm.trans (kindOf_none fun j g1 g2 => HALL.out j g1 (by omega)))
      go_wp2
      go_ret
      exact ⟨by rw [HF.out]; rfl, rfl⟩
end Go.Proofs.YtfenjincbhkodaaGreatDoor

namespace Go.Proofs.YtfenjincbhkodaaGreatDoor
set_option maxRecDepth 100000
set_option linter.unusedVariables false
set_option linter.unusedSimpArgs false
open Go.RowKit

theorem empty_facts {y : ByteArray} (h : y.size = 0) : y.toList = [] ∧ y.toList.isEmpty = true ∧ (y.toList == (⟨#[]⟩ : ByteArray).toList) = true := by
  have h1 : y.toList = [] := by rw [ByteArray.toList_eq]; exact List.eq_nil_of_length_eq_zero ((size_toList y).trans h)
  exact ⟨h1, by rw [h1]; rfl, by rw [h1, ByteArray.toList_eq]; rfl⟩
theorem full_facts {y : ByteArray} (h : ¬ y.size = 0) : ¬ y.toList = [] ∧ y.toList.isEmpty = false ∧ (y.toList == (⟨#[]⟩ : ByteArray).toList) = false := by
  have h1 : ¬ y.toList = [] := fun e => h (by rw [← size_toList, ← ByteArray.toList_eq, e]; rfl)
  refine ⟨h1, ?_, toList_no (fun e => h (by rw [e]; rfl))⟩
  cases hq : y.toList with
  | nil => exact absurd hq h1
  | cons a r => rfl

theorem arr6 {w : World} {b T : Nat} {x0 x1 x2 x3 x4 x5 : Value} (h : Arr w b T [x0, x1, x2, x3, x4, x5]) : w.cell? ⟨b, 0, none⟩ = some x0 ∧ w.cell? ⟨b, 1, none⟩ = some x1 ∧ w.cell? ⟨b, 2, none⟩ = some x2 ∧ w.cell? ⟨b, 3, none⟩ = some x3 ∧ w.cell? ⟨b, 4, none⟩ = some x4 ∧ w.cell? ⟨b, 5, none⟩ = some x5 :=
  ⟨h.cell 0 (by simp), h.cell 1 (by simp), h.cell 2 (by simp), h.cell 3 (by simp), h.cell 4 (by simp), h.cell 5 (by simp)⟩
set_option maxHeartbeats 4000000 in
theorem validKey_any (w : World) (r s : ByteArray) (k : Nat) (y b : ByteArray) (n : Int) (hk : k < 256) (hr : r.size ≤ 281474976710656) (hs : s.size ≤ 281474976710656) (hy : y.size ≤ 281474976710656) (hI : IT w) :
    Calls Tryz.prog 72 #[.agg #[.string r, .string s, .int .u8 (k : Int), .string y, .string b, .int .i64 n]] w fun e w' => e = .returned (.bool (keyOk k y)) ∧ Below w.heap.size w w' := by
  have HX := hidp ((Below.refl w.heap.size w).alloc (Nat.le_refl _) (.cells #[.string r, .string s, .int .u8 (k : Int), .string y, .string b, .int .i64 n] 74))
  have C := hidp (fun W (h : IT W) => user_any W y hy h)
  have HI := hidp hI; clear hI
  by_cases h2 : k = 2
  · have e0 : ((k : Int) != 2) = false := by rw [h2]; rfl
    cases hw : who 1 y with
    | none =>
      have HF := hidp (show keyOk k y = false from by unfold keyOk; rw [if_pos h2, hw]; rfl)
      rw [hw] at C
      unfold whoV at C
      clear h2 hw
      go_enter Tryz.func72, Tryz.ntmps72
      go_wp2_with (go_at_call 70; (refine (C.out _ (HI.out.below HX.out (Nat.le_refl _))).mono ?_); rintro e w1 ⟨rfl, hb1⟩; have HB1 := hidp (HX.out.trans (hb1.mono HX.out.size)); clear hb1)
      go_ret
      exact ⟨by rw [HF.out]; rfl, HB1.out⟩
    | some m =>
      have HF := hidp (show keyOk k y = true from by unfold keyOk; rw [if_pos h2, hw]; rfl)
      rw [hw] at C
      unfold whoV at C
      clear h2 hw
      go_enter Tryz.func72, Tryz.ntmps72
      go_wp2_with (go_at_call 70; (refine (C.out _ (HI.out.below HX.out (Nat.le_refl _))).mono ?_); rintro e w1 ⟨rfl, hb1⟩; have HB1 := hidp (HX.out.trans (hb1.mono HX.out.size)); clear hb1)
      go_ret
      exact ⟨by rw [HF.out]; rfl, HB1.out⟩
  · have e0 : ((k : Int) != 2) = true := by simp; omega
    have n0 : ¬ k = 2 := h2
    by_cases h0 : y.size = 0
    · obtain ⟨f1, f2, f3⟩ := empty_facts h0
      have HF := hidp (show keyOk k y = true from by unfold keyOk; rw [if_neg h2]; exact decide_eq_true h0)
      clear h2 h0
      go_enter Tryz.func72, Tryz.ntmps72
      go_wp2_with fail
      go_ret
      exact ⟨by rw [HF.out]; rfl, HX.out⟩
    · obtain ⟨f1, f2, f3⟩ := full_facts h0
      have HF := hidp (show keyOk k y = false from by unfold keyOk; rw [if_neg h2]; exact decide_eq_false h0)
      clear h2 h0
      go_enter Tryz.func72, Tryz.ntmps72
      go_wp2_with fail
      go_ret
      exact ⟨by rw [HF.out]; rfl, HX.out⟩

theorem whoV_form' (o : Option Nat) : ∃ a b, whoV o = .tuple #[.int .i64 a, .bool b] := by cases o with
  | none => exact ⟨_, _, rfl⟩
  | some n => exact ⟨_, _, rfl⟩
set_option maxHeartbeats 8000000 in
theorem evCheck_any (w : World) (r s : ByteArray) (k : Nat) (y b : ByteArray) (n : Int) (hk : k < 256) (hr : r.size ≤ 281474976710656) (hs : s.size ≤ 281474976710656) (hy : y.size ≤ 281474976710656) (hb : b.size ≤ 281474976710656) (hI : IT w) :
    Calls Tryz.prog 58 #[.agg #[.string r, .string s, .int .u8 (k : Int), .string y, .string b, .int .i64 n]] w fun e w' => e = .returned (.int .i64 (evE (⟨r, s, k, y, b, n⟩ : Ev))) ∧ Below w.heap.size w w' := by
  have c1 := hidp (fun W (h : IT W) => room_any W r hr h)
  have c2 := hidp (fun W (h : IT W) => user_any W s hs h)
  have c3 := hidp (fun W => isKind_any W k hk)
  have c4 := hidp (fun W (h : IT W) => validKey_any W r s k y b n hk hr hs hy h)
  have HI := hidp hI; clear hI
  obtain ⟨E, hE⟩ : ∃ E, evE (⟨r, s, k, y, b, n⟩ : Ev) = E := ⟨_, rfl⟩
  have HE := hidp hE
  rw [hE]
  clear hE
  unfold evE evOk at HE
  simp only at HE
  cases h1 : who 2 r with
  | none =>
    rw [h1] at c1 HE
    obtain ⟨a2, b2, h2⟩ := whoV_form' (who 1 s)
    rw [h2] at c2
    unfold whoV at c1
    have HF := hidp (show E = 2 from by have := HE.out; simp at this; exact this.symm)
    clear h1 h2 HE
    go_enter Tryz.func58, Tryz.ntmps58
    go_wp2_with fail
    have HX := hidp ((Below.refl w.heap.size w).alloc (Nat.le_refl _) (.cells #[.string r, .string s, .int .u8 (k : Int), .string y, .string b, .int .i64 n] 74)); have HA := hidp (Arr.new w 74 [.string r, .string s, .int .u8 (k : Int), .string y, .string b, .int .i64 n])
    obtain ⟨bd, hbd⟩ : ∃ b, w.heap.size = b := ⟨_, rfl⟩
    have hge : w.heap.size ≤ bd := by omega
    generalize hW : (w.alloc (.cells #[.string r, .string s, .int .u8 (k : Int), .string y, .string b, .int .i64 n] 74)) = W0 at HX HA ⊢
    rw [hbd] at HA ⊢
    rw [← hbd]
    clear hW
    refine (c1.out _ (HI.out.below HX.out (Nat.le_refl _))).mono ?_
    rintro e w1 ⟨rfl, hb1⟩
    have HB1 := hidp (HX.out.trans (hb1.mono HX.out.size)); have HA1 := hidp (HA.out.below hb1 HA.out.lt)
    clear hb1
    obtain ⟨x0, x1, x2, x3, x4, x5⟩ := arr6 HA1.out
    go_wp2_with fail
    clear x0 x1 x2 x3 x4 x5
    refine (c2.out _ (HI.out.below HB1.out (Nat.le_refl _))).mono ?_
    rintro e w2 ⟨rfl, hb2⟩
    have HB2 := hidp (HB1.out.trans (hb2.mono HB1.out.size)); have HA2 := hidp (HA1.out.below hb2 HA1.out.lt)
    clear hb2
    obtain ⟨x0, x1, x2, x3, x4, x5⟩ := arr6 HA2.out
    go_wp2_with fail
    go_ret
    exact ⟨by rw [HF.out]; rfl, HB2.out⟩
  | some m1 =>
    rw [h1] at c1 HE
    unfold whoV at c1
    clear h1
    cases h2 : who 1 s with
    | none =>
      rw [h2] at c2 HE
      unfold whoV at c2
      have HF := hidp (show E = 2 from by have := HE.out; simp at this; exact this.symm)
      clear h2 HE
      go_enter Tryz.func58, Tryz.ntmps58
      go_wp2_with fail
      have HX := hidp ((Below.refl w.heap.size w).alloc (Nat.le_refl _) (.cells #[.string r, .string s, .int .u8 (k : Int), .string y, .string b, .int .i64 n] 74)); have HA := hidp (Arr.new w 74 [.string r, .string s, .int .u8 (k : Int), .string y, .string b, .int .i64 n])
      obtain ⟨bd, hbd⟩ : ∃ b, w.heap.size = b := ⟨_, rfl⟩
      have hge : w.heap.size ≤ bd := by omega
      generalize hW : (w.alloc (.cells #[.string r, .string s, .int .u8 (k : Int), .string y, .string b, .int .i64 n] 74)) = W0 at HX HA ⊢
      rw [hbd] at HA ⊢
      rw [← hbd]
      clear hW
      refine (c1.out _ (HI.out.below HX.out (Nat.le_refl _))).mono ?_
      rintro e w1 ⟨rfl, hb1⟩
      have HB1 := hidp (HX.out.trans (hb1.mono HX.out.size)); have HA1 := hidp (HA.out.below hb1 HA.out.lt)
      clear hb1
      obtain ⟨x0, x1, x2, x3, x4, x5⟩ := arr6 HA1.out
      go_wp2_with fail
      clear x0 x1 x2 x3 x4 x5
      refine (c2.out _ (HI.out.below HB1.out (Nat.le_refl _))).mono ?_
      rintro e w2 ⟨rfl, hb2⟩
      have HB2 := hidp (HB1.out.trans (hb2.mono HB1.out.size)); have HA2 := hidp (HA1.out.below hb2 HA1.out.lt)
      clear hb2
      obtain ⟨x0, x1, x2, x3, x4, x5⟩ := arr6 HA2.out
      go_wp2_with fail
      go_ret
      exact ⟨by rw [HF.out]; rfl, HB2.out⟩
    | some m2 =>
      rw [h2] at c2 HE
      unfold whoV at c2
      clear h2
      by_cases h3 : 1 ≤ k ∧ k ≤ 8
      · rw [kindB_yes h3] at c3
        rw [decide_eq_true h3] at HE
        cases h4 : keyOk k y with
        | false =>
          rw [h4] at c4 HE
          have HF := hidp (show E = 2 from by have := HE.out; simp at this; exact this.symm)
          clear h3 h4 HE
          go_enter Tryz.func58, Tryz.ntmps58
          go_wp2_with fail
          have HX := hidp ((Below.refl w.heap.size w).alloc (Nat.le_refl _) (.cells #[.string r, .string s, .int .u8 (k : Int), .string y, .string b, .int .i64 n] 74)); have HA := hidp (Arr.new w 74 [.string r, .string s, .int .u8 (k : Int), .string y, .string b, .int .i64 n])
          obtain ⟨bd, hbd⟩ : ∃ b, w.heap.size = b := ⟨_, rfl⟩
          have hge : w.heap.size ≤ bd := by omega
          generalize hW : (w.alloc (.cells #[.string r, .string s, .int .u8 (k : Int), .string y, .string b, .int .i64 n] 74)) = W0 at HX HA ⊢
          rw [hbd] at HA ⊢
          rw [← hbd]
          clear hW
          refine (c1.out _ (HI.out.below HX.out (Nat.le_refl _))).mono ?_
          rintro e w1 ⟨rfl, hb1⟩
          have HB1 := hidp (HX.out.trans (hb1.mono HX.out.size)); have HA1 := hidp (HA.out.below hb1 HA.out.lt)
          clear hb1
          obtain ⟨x0, x1, x2, x3, x4, x5⟩ := arr6 HA1.out
          go_wp2_with fail
          clear x0 x1 x2 x3 x4 x5
          refine (c2.out _ (HI.out.below HB1.out (Nat.le_refl _))).mono ?_
          rintro e w2 ⟨rfl, hb2⟩
          have HB2 := hidp (HB1.out.trans (hb2.mono HB1.out.size)); have HA2 := hidp (HA1.out.below hb2 HA1.out.lt)
          clear hb2
          obtain ⟨x0, x1, x2, x3, x4, x5⟩ := arr6 HA2.out
          go_wp2_with (first
            | (go_at_call 71; (refine (c3.out _).mono ?_); rintro e w3 ⟨rfl, rfl⟩)
            | (go_at_call 72; (refine (c4.out _ (HI.out.below HB2.out (Nat.le_refl _))).mono ?_); rintro e w4 ⟨rfl, hb4⟩; have HB4 := hidp (HB2.out.trans (hb4.mono HB2.out.size)); have HA4 := hidp (HA2.out.below hb4 HA2.out.lt); clear hb4; clear x0 x1 x2 x3 x4 x5; obtain ⟨x0, x1, x2, x3, x4, x5⟩ := arr6 HA4.out))
          go_ret
          exact ⟨by rw [HF.out]; rfl, HB4.out⟩
        | true =>
          rw [h4] at c4 HE
          clear h4
          by_cases h5 : 512 < b.size
          · have e5 : decide ((512 : Int) < (b.size : Int)) = true := by simp; omega
            have n5 : (512 : Int) < (b.size : Int) := by omega
            rw [decide_eq_false (show ¬ b.size ≤ 512 from by omega)] at HE
            have HF := hidp (show E = 2 from by have := HE.out; simp at this; exact this.symm)
            clear h3 h5 HE
            go_enter Tryz.func58, Tryz.ntmps58
            go_wp2_with fail
            have HX := hidp ((Below.refl w.heap.size w).alloc (Nat.le_refl _) (.cells #[.string r, .string s, .int .u8 (k : Int), .string y, .string b, .int .i64 n] 74)); have HA := hidp (Arr.new w 74 [.string r, .string s, .int .u8 (k : Int), .string y, .string b, .int .i64 n])
            obtain ⟨bd, hbd⟩ : ∃ b, w.heap.size = b := ⟨_, rfl⟩
            have hge : w.heap.size ≤ bd := by omega
            generalize hW : (w.alloc (.cells #[.string r, .string s, .int .u8 (k : Int), .string y, .string b, .int .i64 n] 74)) = W0 at HX HA ⊢
            rw [hbd] at HA ⊢
            rw [← hbd]
            clear hW
            refine (c1.out _ (HI.out.below HX.out (Nat.le_refl _))).mono ?_
            rintro e w1 ⟨rfl, hb1⟩
            have HB1 := hidp (HX.out.trans (hb1.mono HX.out.size)); have HA1 := hidp (HA.out.below hb1 HA.out.lt)
            clear hb1
            obtain ⟨x0, x1, x2, x3, x4, x5⟩ := arr6 HA1.out
            go_wp2_with fail
            clear x0 x1 x2 x3 x4 x5
            refine (c2.out _ (HI.out.below HB1.out (Nat.le_refl _))).mono ?_
            rintro e w2 ⟨rfl, hb2⟩
            have HB2 := hidp (HB1.out.trans (hb2.mono HB1.out.size)); have HA2 := hidp (HA1.out.below hb2 HA1.out.lt)
            clear hb2
            obtain ⟨x0, x1, x2, x3, x4, x5⟩ := arr6 HA2.out
            go_wp2_with (first
              | (go_at_call 71; (refine (c3.out _).mono ?_); rintro e w3 ⟨rfl, rfl⟩)
              | (go_at_call 72; (refine (c4.out _ (HI.out.below HB2.out (Nat.le_refl _))).mono ?_); rintro e w4 ⟨rfl, hb4⟩; have HB4 := hidp (HB2.out.trans (hb4.mono HB2.out.size)); have HA4 := hidp (HA2.out.below hb4 HA2.out.lt); clear hb4; clear x0 x1 x2 x3 x4 x5; obtain ⟨x0, x1, x2, x3, x4, x5⟩ := arr6 HA4.out))
            go_ret
            exact ⟨by rw [HF.out]; rfl, HB4.out⟩
          · have e5 : decide ((512 : Int) < (b.size : Int)) = false := by simp; omega
            have n5 : ¬ (512 : Int) < (b.size : Int) := by omega
            rw [decide_eq_true (show b.size ≤ 512 from by omega)] at HE
            by_cases h6 : n < 0
            · have e6 : decide (n < 0) = true := by simp; omega
              rw [decide_eq_false (show ¬ (0 ≤ n ∧ n ≤ 1099511627776) from by omega)] at HE
              have HF := hidp (show E = 2 from by have := HE.out; simp at this; exact this.symm)
              clear h3 h5 HE
              go_enter Tryz.func58, Tryz.ntmps58
              go_wp2_with fail
              have HX := hidp ((Below.refl w.heap.size w).alloc (Nat.le_refl _) (.cells #[.string r, .string s, .int .u8 (k : Int), .string y, .string b, .int .i64 n] 74)); have HA := hidp (Arr.new w 74 [.string r, .string s, .int .u8 (k : Int), .string y, .string b, .int .i64 n])
              obtain ⟨bd, hbd⟩ : ∃ b, w.heap.size = b := ⟨_, rfl⟩
              have hge : w.heap.size ≤ bd := by omega
              generalize hW : (w.alloc (.cells #[.string r, .string s, .int .u8 (k : Int), .string y, .string b, .int .i64 n] 74)) = W0 at HX HA ⊢
              rw [hbd] at HA ⊢
              rw [← hbd]
              clear hW
              refine (c1.out _ (HI.out.below HX.out (Nat.le_refl _))).mono ?_
              rintro e w1 ⟨rfl, hb1⟩
              have HB1 := hidp (HX.out.trans (hb1.mono HX.out.size)); have HA1 := hidp (HA.out.below hb1 HA.out.lt)
              clear hb1
              obtain ⟨x0, x1, x2, x3, x4, x5⟩ := arr6 HA1.out
              go_wp2_with fail
              clear x0 x1 x2 x3 x4 x5
              refine (c2.out _ (HI.out.below HB1.out (Nat.le_refl _))).mono ?_
              rintro e w2 ⟨rfl, hb2⟩
              have HB2 := hidp (HB1.out.trans (hb2.mono HB1.out.size)); have HA2 := hidp (HA1.out.below hb2 HA1.out.lt)
              clear hb2
              obtain ⟨x0, x1, x2, x3, x4, x5⟩ := arr6 HA2.out
              go_wp2_with (first
                | (go_at_call 71; (refine (c3.out _).mono ?_); rintro e w3 ⟨rfl, rfl⟩)
                | (go_at_call 72; (refine (c4.out _ (HI.out.below HB2.out (Nat.le_refl _))).mono ?_); rintro e w4 ⟨rfl, hb4⟩; have HB4 := hidp (HB2.out.trans (hb4.mono HB2.out.size)); have HA4 := hidp (HA2.out.below hb4 HA2.out.lt); clear hb4; clear x0 x1 x2 x3 x4 x5; obtain ⟨x0, x1, x2, x3, x4, x5⟩ := arr6 HA4.out))
              go_ret
              exact ⟨by rw [HF.out]; rfl, HB4.out⟩
            · have e6 : decide (n < 0) = false := by simp; omega
              by_cases h7 : 1099511627776 < n
              · have e7 : decide (1099511627776 < n) = true := by simp; omega
                rw [decide_eq_false (show ¬ (0 ≤ n ∧ n ≤ 1099511627776) from by omega)] at HE
                have HF := hidp (show E = 2 from by have := HE.out; simp at this; exact this.symm)
                clear h3 h5 h6 HE
                go_enter Tryz.func58, Tryz.ntmps58
                go_wp2_with fail
                have HX := hidp ((Below.refl w.heap.size w).alloc (Nat.le_refl _) (.cells #[.string r, .string s, .int .u8 (k : Int), .string y, .string b, .int .i64 n] 74)); have HA := hidp (Arr.new w 74 [.string r, .string s, .int .u8 (k : Int), .string y, .string b, .int .i64 n])
                obtain ⟨bd, hbd⟩ : ∃ b, w.heap.size = b := ⟨_, rfl⟩
                have hge : w.heap.size ≤ bd := by omega
                generalize hW : (w.alloc (.cells #[.string r, .string s, .int .u8 (k : Int), .string y, .string b, .int .i64 n] 74)) = W0 at HX HA ⊢
                rw [hbd] at HA ⊢
                rw [← hbd]
                clear hW
                refine (c1.out _ (HI.out.below HX.out (Nat.le_refl _))).mono ?_
                rintro e w1 ⟨rfl, hb1⟩
                have HB1 := hidp (HX.out.trans (hb1.mono HX.out.size)); have HA1 := hidp (HA.out.below hb1 HA.out.lt)
                clear hb1
                obtain ⟨x0, x1, x2, x3, x4, x5⟩ := arr6 HA1.out
                go_wp2_with fail
                clear x0 x1 x2 x3 x4 x5
                refine (c2.out _ (HI.out.below HB1.out (Nat.le_refl _))).mono ?_
                rintro e w2 ⟨rfl, hb2⟩
                have HB2 := hidp (HB1.out.trans (hb2.mono HB1.out.size)); have HA2 := hidp (HA1.out.below hb2 HA1.out.lt)
                clear hb2
                obtain ⟨x0, x1, x2, x3, x4, x5⟩ := arr6 HA2.out
                go_wp2_with (first
                  | (go_at_call 71; (refine (c3.out _).mono ?_); rintro e w3 ⟨rfl, rfl⟩)
                  | (go_at_call 72; (refine (c4.out _ (HI.out.below HB2.out (Nat.le_refl _))).mono ?_); rintro e w4 ⟨rfl, hb4⟩; have HB4 := hidp (HB2.out.trans (hb4.mono HB2.out.size)); have HA4 := hidp (HA2.out.below hb4 HA2.out.lt); clear hb4; clear x0 x1 x2 x3 x4 x5; obtain ⟨x0, x1, x2, x3, x4, x5⟩ := arr6 HA4.out))
                go_ret
                exact ⟨by rw [HF.out]; rfl, HB4.out⟩
              · have e7 : decide (1099511627776 < n) = false := by simp; omega
                rw [decide_eq_true (show (0 ≤ n ∧ n ≤ 1099511627776) from by omega)] at HE
                have HF := hidp (show E = 0 from by have := HE.out; simp at this; exact this.symm)
                clear h3 h5 h6 HE
                go_enter Tryz.func58, Tryz.ntmps58
                go_wp2_with fail
                have HX := hidp ((Below.refl w.heap.size w).alloc (Nat.le_refl _) (.cells #[.string r, .string s, .int .u8 (k : Int), .string y, .string b, .int .i64 n] 74)); have HA := hidp (Arr.new w 74 [.string r, .string s, .int .u8 (k : Int), .string y, .string b, .int .i64 n])
                obtain ⟨bd, hbd⟩ : ∃ b, w.heap.size = b := ⟨_, rfl⟩
                have hge : w.heap.size ≤ bd := by omega
                generalize hW : (w.alloc (.cells #[.string r, .string s, .int .u8 (k : Int), .string y, .string b, .int .i64 n] 74)) = W0 at HX HA ⊢
                rw [hbd] at HA ⊢
                rw [← hbd]
                clear hW
                refine (c1.out _ (HI.out.below HX.out (Nat.le_refl _))).mono ?_
                rintro e w1 ⟨rfl, hb1⟩
                have HB1 := hidp (HX.out.trans (hb1.mono HX.out.size)); have HA1 := hidp (HA.out.below hb1 HA.out.lt)
                clear hb1
                obtain ⟨x0, x1, x2, x3, x4, x5⟩ := arr6 HA1.out
                go_wp2_with fail
                clear x0 x1 x2 x3 x4 x5
                refine (c2.out _ (HI.out.below HB1.out (Nat.le_refl _))).mono ?_
                rintro e w2 ⟨rfl, hb2⟩
                have HB2 := hidp (HB1.out.trans (hb2.mono HB1.out.size)); have HA2 := hidp (HA1.out.below hb2 HA1.out.lt)
                clear hb2
                obtain ⟨x0, x1, x2, x3, x4, x5⟩ := arr6 HA2.out
                go_wp2_with (first
                  | (go_at_call 71; (refine (c3.out _).mono ?_); rintro e w3 ⟨rfl, rfl⟩)
                  | (go_at_call 72; (refine (c4.out _ (HI.out.below HB2.out (Nat.le_refl _))).mono ?_); rintro e w4 ⟨rfl, hb4⟩; have HB4 := hidp (HB2.out.trans (hb4.mono HB2.out.size)); have HA4 := hidp (HA2.out.below hb4 HA2.out.lt); clear hb4; clear x0 x1 x2 x3 x4 x5; obtain ⟨x0, x1, x2, x3, x4, x5⟩ := arr6 HA4.out))
                go_ret
                exact ⟨by rw [HF.out]; rfl, HB4.out⟩
      · rw [kindB_no h3] at c3
        rw [decide_eq_false h3] at HE
        have HF := hidp (show E = 2 from by have := HE.out; simp at this; exact this.symm)
        clear h3 HE
        go_enter Tryz.func58, Tryz.ntmps58
        go_wp2_with fail
        have HX := hidp ((Below.refl w.heap.size w).alloc (Nat.le_refl _) (.cells #[.string r, .string s, .int .u8 (k : Int), .string y, .string b, .int .i64 n] 74)); have HA := hidp (Arr.new w 74 [.string r, .string s, .int .u8 (k : Int), .string y, .string b, .int .i64 n])
        obtain ⟨bd, hbd⟩ : ∃ b, w.heap.size = b := ⟨_, rfl⟩
        have hge : w.heap.size ≤ bd := by omega
        generalize hW : (w.alloc (.cells #[.string r, .string s, .int .u8 (k : Int), .string y, .string b, .int .i64 n] 74)) = W0 at HX HA ⊢
        rw [hbd] at HA ⊢
        rw [← hbd]
        clear hW
        refine (c1.out _ (HI.out.below HX.out (Nat.le_refl _))).mono ?_
        rintro e w1 ⟨rfl, hb1⟩
        have HB1 := hidp (HX.out.trans (hb1.mono HX.out.size)); have HA1 := hidp (HA.out.below hb1 HA.out.lt)
        clear hb1
        obtain ⟨x0, x1, x2, x3, x4, x5⟩ := arr6 HA1.out
        go_wp2_with fail
        clear x0 x1 x2 x3 x4 x5
        refine (c2.out _ (HI.out.below HB1.out (Nat.le_refl _))).mono ?_
        rintro e w2 ⟨rfl, hb2⟩
        have HB2 := hidp (HB1.out.trans (hb2.mono HB1.out.size)); have HA2 := hidp (HA1.out.below hb2 HA1.out.lt)
        clear hb2
        obtain ⟨x0, x1, x2, x3, x4, x5⟩ := arr6 HA2.out
        go_wp2_with (go_at_call 71; (refine (c3.out _).mono ?_); rintro e w3 ⟨rfl, rfl⟩)
        go_ret
        exact ⟨by rw [HF.out]; rfl, HB2.out⟩
end Go.Proofs.YtfenjincbhkodaaGreatDoor

namespace Go.Proofs.YtfenjincbhkodaaGreatDoor
set_option maxRecDepth 100000
set_option linter.unusedVariables false
set_option linter.unusedSimpArgs false
open Go.RowKit
end Go.Proofs.YtfenjincbhkodaaGreatDoor

namespace Go.Proofs.YtfenjincbhkodaaGreatDoor.Ai
set_option maxRecDepth 100000
set_option linter.unusedVariables false
set_option linter.unusedSimpArgs false
open Go.RowKit

/-- The number that a whole text is, and the error. -/
def nmE (s : ByteArray) : Int := if (gn s.data.toList).2.2 ≠ 0 then ((gn s.data.toList).2.2 : Int) else if (gn s.data.toList).2.1 < s.size then 6 else 0
def nmV (s : ByteArray) : Nat := if nmE s = 0 then (gn s.data.toList).1 else 0
def inE (s : ByteArray) (m : Nat) : Int := if nmE s = 0 then (if m < nmV s then 1 else 0) else nmE s
def inV (s : ByteArray) (m : Nat) : Nat := if inE s m = 0 then nmV s else 0

set_option maxHeartbeats 4000000 in
theorem allNumW_any (w : World) (s : ByteArray) (hs : s.size ≤ 281474976710656) :
    Calls Tryz.prog 41 #[.string s] w fun e w' => e = .returned (.tuple #[.int .u64 (nmV s), .int .i64 (nmE s)]) ∧ w = w' := by
  have cg := hidp (fun W => getNum_any W s hs)
  have hb := gn_bd s.data.toList
  obtain ⟨⟨n, j, c⟩, hr⟩ : ∃ r, gn s.data.toList = r := ⟨_, rfl⟩
  have dE : nmE s = if c ≠ 0 then (c : Int) else if j < s.size then 6 else 0 := by unfold nmE; rw [hr]
  have dV : nmV s = if nmE s = 0 then n else 0 := by unfold nmV; rw [hr]
  rw [hr] at cg hb
  clear hr
  simp only [tup3] at cg hb
  by_cases h0 : c = 0
  · subst h0
    by_cases hj : j < s.size
    · have e1 : decide ((j : Int) < (s.size : Int)) = true := by simp; omega
      have g1 : decide (j < s.size) = true := decide_eq_true hj
      have HE := hidp (show nmE s = 6 from by rw [dE, if_neg (by simp), if_pos hj])
      have HV := hidp (show nmV s = 0 from by rw [dV, HE.out]; rfl)
      clear dE dV hj hb
      go_enter Tryz.func41, Tryz.ntmps41
      go_wp2_with (go_at_call 54; refine (cg.out _).mono ?_; rintro e w' ⟨rfl, rfl⟩)
      go_ret2
      exact ⟨by rw [HE.out, HV.out]; rfl, rfl⟩
    · have e1 : decide ((j : Int) < (s.size : Int)) = false := by simp; omega
      have g1 : decide (j < s.size) = false := decide_eq_false hj
      have HE := hidp (show nmE s = 0 from by rw [dE, if_neg (by simp), if_neg hj])
      have HV := hidp (show nmV s = n from by rw [dV, HE.out]; rfl)
      clear dE dV hj hb
      go_enter Tryz.func41, Tryz.ntmps41
      go_wp2_with (go_at_call 54; refine (cg.out _).mono ?_; rintro e w' ⟨rfl, rfl⟩)
      go_ret2
      exact ⟨by rw [HE.out, HV.out]; rfl, rfl⟩
  · have e0 : ((c : Int) != 0) = true := by simp; omega
    have n0 : ¬ (c : Int) = 0 := by omega
    have HE := hidp (show nmE s = c from by rw [dE, if_pos h0])
    have HV := hidp (show nmV s = 0 from by rw [dV, HE.out, if_neg (by omega)])
    clear dE dV hb h0
    go_enter Tryz.func41, Tryz.ntmps41
    go_wp2_with (go_at_call 54; refine (cg.out _).mono ?_; rintro e w' ⟨rfl, rfl⟩)
    go_ret2
    exact ⟨by rw [HE.out, HV.out]; rfl, rfl⟩

theorem allNum_any (w : World) (s : ByteArray) (hs : s.size ≤ 281474976710656) :
    Calls Tryz.prog 41 #[.string s] w fun e w' => e = .returned (.tuple #[.int .u64 (nmV s), .int .i64 (nmE s)]) ∧ Below w.heap.size w w' :=
  (allNumW_any w s hs).mono fun e w' h => ⟨h.1, h.2 ▸ Below.refl _ _⟩
set_option maxHeartbeats 4000000 in
theorem allInt_any (w : World) (s : ByteArray) (m : Nat) (hm : m ≤ 1048576) (hs : s.size ≤ 281474976710656) :
    Calls Tryz.prog 26 #[.string s, .int .i64 (m : Int)] w fun e w' => e = .returned (.tuple #[.int .i64 (inV s m), .int .i64 (inE s m)]) ∧ Below w.heap.size w w' := by
  have cg := hidp (fun W => allNum_any W s hs)
  have dE : inE s m = if nmE s = 0 then (if m < nmV s then 1 else 0) else nmE s := rfl
  have dV : inV s m = if inE s m = 0 then nmV s else 0 := rfl
  have hV : nmV s ≤ 281474976710656 := by
    have hb := gn_bd s.data.toList
    unfold nmV; split <;> omega
  obtain ⟨E, hE⟩ : ∃ E, nmE s = E := ⟨_, rfl⟩
  obtain ⟨n, hn⟩ : ∃ n, nmV s = n := ⟨_, rfl⟩
  rw [hE, hn] at cg dE
  rw [hn] at dV hV
  clear hE hn
  have w1 : IntKind.u64.wrap (m : Int) = (m : Int) := by unfold IntKind.wrap; simp [IntKind.bits, IntKind.signed]; omega
  have w2 : IntKind.i64.wrap (n : Int) = (n : Int) := by unfold IntKind.wrap; simp [IntKind.bits, IntKind.signed]; omega
  have e2 : decide ((m : Int) < 0) = false := by simp
  by_cases h0 : E = 0
  · subst h0
    by_cases hj : m < n
    · have e1 : decide ((n : Int) > (m : Int)) = true := by simp; omega
      have n1 : (m : Int) < (n : Int) := by omega
      have g1 : decide (m < n) = true := decide_eq_true hj
      have HE := hidp (show inE s m = 1 from by rw [dE, if_pos rfl, if_pos hj])
      have HV := hidp (show inV s m = 0 from by rw [dV, HE.out]; rfl)
      clear dE dV hj
      go_enter Tryz.func26, Tryz.ntmps26
      go_wp2_with (go_at_call 41; refine (cg.out _).mono ?_; rintro e w' ⟨rfl, hb⟩)
      go_ret2
      exact ⟨by rw [HE.out, HV.out]; rfl, hb⟩
    · have e1 : decide ((n : Int) > (m : Int)) = false := by simp; omega
      have n1 : ¬ (m : Int) < (n : Int) := by omega
      have g1 : decide (m < n) = false := decide_eq_false hj
      have HE := hidp (show inE s m = 0 from by rw [dE, if_pos rfl, if_neg hj])
      have HV := hidp (show inV s m = n from by rw [dV, HE.out]; rfl)
      clear dE dV hj
      go_enter Tryz.func26, Tryz.ntmps26
      go_wp2_with (go_at_call 41; refine (cg.out _).mono ?_; rintro e w' ⟨rfl, hb⟩)
      go_ret2
      exact ⟨by rw [HE.out, HV.out]; rfl, hb⟩
  · have e0 : (E != 0) = true := by simpa using h0
    have HE := hidp (show inE s m = E from by rw [dE, if_neg h0])
    have HV := hidp (show inV s m = 0 from by rw [dV, HE.out, if_neg h0])
    clear dE dV
    go_enter Tryz.func26, Tryz.ntmps26
    go_wp2_with (go_at_call 41; refine (cg.out _).mono ?_; rintro e w' ⟨rfl, hb⟩)
    go_ret2
    exact ⟨by rw [HE.out, HV.out]; rfl, hb⟩
end Go.Proofs.YtfenjincbhkodaaGreatDoor.Ai

namespace Go.Proofs.YtfenjincbhkodaaGreatDoor.Ai
set_option maxRecDepth 100000
set_option linter.unusedVariables false
set_option linter.unusedSimpArgs false
open Go.RowKit

theorem nm_some {s : ByteArray} {n : Nat} (h : numOf s = some n) : nmE s = 0 ∧ nmV s = n := by
  unfold numOf at h
  split at h
  · rename_i hh
    have e : nmE s = 0 := by unfold nmE; rw [if_neg (by simp [hh.1]), if_neg (by omega)]
    refine ⟨e, ?_⟩
    unfold nmV; rw [if_pos e]; simpa using h
  · cases h
theorem nm_none {s : ByteArray} (h : numOf s = none) : nmE s ≠ 0 := by
  have hb := gn_bd s.data.toList
  have hz := size_toList s
  unfold numOf at h
  split at h
  · cases h
  · rename_i hh
    unfold nmE
    by_cases h0 : (gn s.data.toList).2.2 = 0
    · rw [if_neg (by simp [h0]), if_pos (by have : ¬ (gn s.data.toList).2.1 = s.size := fun g => hh ⟨h0, g⟩; omega)]; decide
    · rw [if_pos h0]; omega
end Go.Proofs.YtfenjincbhkodaaGreatDoor.Ai
