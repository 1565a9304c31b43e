
/-
  The document's ident: names, texts, Parse, User, Room.
-/
import Derived.Test.YtglfdenlgglccaaDoorIdF
namespace Go.Proofs.YtglfdenlgglccaaDoor
set_option maxRecDepth 100000
set_option linter.unusedVariables false
set_option linter.unusedSimpArgs false
open Go.RowKit

set_option maxHeartbeats 4000000 in
theorem rname_any (w : World) (s : ByteArray) (hs : s.size ≤ 281474976710656) :
    Calls Tryd.prog 72 #[.string s] w fun e w' => e = .returned (.bool (nameL s.data.toList)) ∧ w' = w := by
  obtain ⟨R, hR⟩ : ∃ R, nameL s.data.toList = R := ⟨_, rfl⟩
  rw [hR]
  have HR := hidp hR; clear hR
  go_enter Tryd.func72, Tryd.ntmps72
  go_wp2
  go_loop [3] (fun t3 => ∃ (i : Nat), t3 = .int .i64 i ∧ i ≤ s.size ∧ (∀ j (hj : j < s.size), j < i → nameN (s[j]'hj).toNat = true)) (fun t3 => s.size - (intOf t3).toNat)
  case atStart => exact ⟨0, rfl, by omega, fun j hj h => by omega⟩
  case round =>
    obtain ⟨i, rfl, hi, hall⟩ := hrel
    have HALL := hidp hall; clear hall
    by_cases hl : i < s.size
    · obtain ⟨bn, hbn⟩ : ∃ bn, (s[i]'hl).toNat = bn := ⟨_, rfl⟩
      have hb : bn < 256 := by rw [← hbn]; exact UInt8.toNat_lt _
      have HBN := hidp hbn
      have C := hidp (fun W => letter_any W bn hb)
      cases hq : nameN bn with
      | true =>
        rw [hq] at C
        go_wp2_with (go_at_call 84; (refine (C.out _).mono ?_); rintro e w' ⟨rfl, rfl⟩)
        refine ⟨⟨i + 1, by go_num, by omega, fun j hj h => ?_⟩, by simp [intOf]; omega⟩
        by_cases hji : j = i
        · subst hji; have e2 := HBN.out; rw [e2]; exact hq
        · exact HALL.out j hj (by omega)
      | false =>
        rw [hq] at C
        have HF := hidp (HR.out.symm.trans (name_bad i hl (by rw [HBN.out]; exact hq)))
        go_wp2_with (go_at_call 84; (refine (C.out _).mono ?_); rintro e w' ⟨rfl, rfl⟩)
        go_ret
        exact ⟨by rw [HF.out]; rfl, rfl⟩
    · by_cases h0 : s.size = 0
      · have e0 : decide ((1 : Int) ≤ (s.size : Int)) = false := by simp; omega
        have n0 : ¬ (1 : Int) ≤ (s.size : Int) := by omega
        have n1 : ¬ 1 ≤ s.size := by omega
        have HF := hidp (HR.out.symm.trans (name_short (.inl h0)))
        clear h0
        go_wp2
        go_ret
        exact ⟨by rw [HF.out]; rfl, rfl⟩
      · have e0 : decide ((1 : Int) ≤ (s.size : Int)) = true := by simp; omega
        have n0 : (1 : Int) ≤ (s.size : Int) := by omega
        have n1 : 1 ≤ s.size := by omega
        by_cases h16 : 16 < s.size
        · have e1 : decide ((s.size : Int) ≤ 16) = false := by simp; omega
          have n2 : ¬ (s.size : Int) ≤ 16 := by omega
          have HF := hidp (HR.out.symm.trans (name_short (.inr h16)))
          go_wp2
          go_ret
          exact ⟨by rw [HF.out]; rfl, rfl⟩
        · have e1 : decide ((s.size : Int) ≤ 16) = true := by simp; omega
          have n2 : (s.size : Int) ≤ 16 := by omega
          have HF := hidp (HR.out.symm.trans (name_yes (by omega) (by omega) fun j hj => HALL.out j hj (by omega)))
          go_wp2
          go_ret
          exact ⟨by rw [HF.out]; rfl, rfl⟩

set_option maxHeartbeats 8000000 in
theorem rtext_any (w : World) (k : Nat) (hk : k < 256) (nm : ByteArray) (hs : nm.size ≤ 281474976710656) (s : Int) :
    Calls Tryd.prog 59 #[.agg #[.int .u8 (k : Int), .string nm, .int .i64 s]] w fun e w' => e = .returned (.tuple #[.string (idT k nm s), .int .i64 (idE k nm s)]) ∧ Below w.heap.size w w' := by
  have C := hidp (fun W => rname_any W nm hs)
  have hb := hidp ((Below.refl w.heap.size w).alloc (Nat.le_refl _) (.cells #[.int .u8 (k : Int), .string nm, .int .i64 s] 38))
  by_cases h1 : k = 1
  · subst h1
    cases hn : nameL nm.data.toList with
    | false =>
      have HF := hidp (idOk_n (k := 1) s hn)
      rw [hn] at C
      rw [show idT 1 nm s = ByteArray.empty from by unfold idT; rw [HF.out]; rfl, show idE 1 nm s = 2 from by unfold idE; rw [HF.out]; rfl]
      go_enter Tryd.func59, Tryd.ntmps59
      go_wp2_with (go_at_call 72; (refine (C.out _).mono ?_); rintro e w' ⟨rfl, rfl⟩)
      go_ret2
      exact ⟨rfl, hb.out⟩
    | true =>
      rw [hn] at C
      by_cases h0 : s < 0
      · have e3 : decide (s < 0) = true := by simp; omega
        have HF := hidp (idOk_s (k := 1) (nm := nm) (.inl h0))
        clear h0
        rw [show idT 1 nm s = ByteArray.empty from by unfold idT; rw [HF.out]; rfl, show idE 1 nm s = 2 from by unfold idE; rw [HF.out]; rfl]
        go_enter Tryd.func59, Tryd.ntmps59
        go_wp2_with (go_at_call 72; (refine (C.out _).mono ?_); rintro e w' ⟨rfl, rfl⟩)
        go_ret2
        exact ⟨rfl, hb.out⟩
      · have e3 : decide (s < 0) = false := by simp; omega
        by_cases h1 : 63 < s
        · have e4 : decide (63 < s) = true := by simp; omega
          have HF := hidp (idOk_s (k := 1) (nm := nm) (.inr h1))
          clear h0 h1
          rw [show idT 1 nm s = ByteArray.empty from by unfold idT; rw [HF.out]; rfl, show idE 1 nm s = 2 from by unfold idE; rw [HF.out]; rfl]
          go_enter Tryd.func59, Tryd.ntmps59
          go_wp2_with (go_at_call 72; (refine (C.out _).mono ?_); rintro e w' ⟨rfl, rfl⟩)
          go_ret2
          exact ⟨rfl, hb.out⟩
        · have e4 : decide (63 < s) = false := by simp; omega
          have hok := idOk_yes (k := 1) (by omega) hn (by omega : 0 ≤ s) (by omega)
          have hsz := idOk_size hok
          obtain ⟨n, rfl⟩ : ∃ n : Nat, s = n := ⟨s.toNat, by omega⟩
          have hn63 : n ≤ 63 := by omega
          obtain ⟨D, hD⟩ : ∃ D, mkS (dig n) = D := ⟨_, rfl⟩
          have hDs : D.size ≤ 2 := by rw [← hD]; exact dig_size n
          have hcs : (⟨#[58]⟩ : ByteArray).size = 1 := rfl
          have hms : (⟨#[64]⟩ : ByteArray).size = 1 := rfl
          have hT : (⟨#[64]⟩ : ByteArray) ++ nm ++ ⟨#[58]⟩ ++ D = idT 1 nm n := by rw [← hD]; exact idT_app hok ⟨#[64]⟩ rfl
          have CN := hidp (show ∀ W, Calls Tryd.prog 71 #[.int .i64 (n : Int)] W fun e w' => e = .returned (.string D) ∧ w' = W from fun W => by
            rw [← hD]; exact rnumber_any W n (by omega))
          rw [← hT, show idE 1 nm n = 0 from by unfold idE; rw [hok]; rfl]
          clear hT hD hok h0 h1 hn63
          go_enter Tryd.func59, Tryd.ntmps59
          go_wp2_with (go_at_call 72; (refine (C.out _).mono ?_); rintro e w' ⟨rfl, rfl⟩)
          go_quiet ((go_at_call 71; exact Calls.quiet_of_same (CN.out _)))
          go_wp2
          go_ret2
          exact ⟨rfl, below_drewN hb.out _⟩
  · by_cases h2 : k = 2
    · subst h2
      cases hn : nameL nm.data.toList with
      | false =>
        have HF := hidp (idOk_n (k := 2) s hn)
        rw [hn] at C
        rw [show idT 2 nm s = ByteArray.empty from by unfold idT; rw [HF.out]; rfl, show idE 2 nm s = 2 from by unfold idE; rw [HF.out]; rfl]
        go_enter Tryd.func59, Tryd.ntmps59
        go_wp2_with (go_at_call 72; (refine (C.out _).mono ?_); rintro e w' ⟨rfl, rfl⟩)
        go_ret2
        exact ⟨rfl, hb.out⟩
      | true =>
        rw [hn] at C
        by_cases h0 : s < 0
        · have e3 : decide (s < 0) = true := by simp; omega
          have HF := hidp (idOk_s (k := 2) (nm := nm) (.inl h0))
          clear h0
          rw [show idT 2 nm s = ByteArray.empty from by unfold idT; rw [HF.out]; rfl, show idE 2 nm s = 2 from by unfold idE; rw [HF.out]; rfl]
          go_enter Tryd.func59, Tryd.ntmps59
          go_wp2_with (go_at_call 72; (refine (C.out _).mono ?_); rintro e w' ⟨rfl, rfl⟩)
          go_ret2
          exact ⟨rfl, hb.out⟩
        · have e3 : decide (s < 0) = false := by simp; omega
          by_cases h1 : 63 < s
          · have e4 : decide (63 < s) = true := by simp; omega
            have HF := hidp (idOk_s (k := 2) (nm := nm) (.inr h1))
            clear h0 h1
            rw [show idT 2 nm s = ByteArray.empty from by unfold idT; rw [HF.out]; rfl, show idE 2 nm s = 2 from by unfold idE; rw [HF.out]; rfl]
            go_enter Tryd.func59, Tryd.ntmps59
            go_wp2_with (go_at_call 72; (refine (C.out _).mono ?_); rintro e w' ⟨rfl, rfl⟩)
            go_ret2
            exact ⟨rfl, hb.out⟩
          · have e4 : decide (63 < s) = false := by simp; omega
            have hok := idOk_yes (k := 2) (by omega) hn (by omega : 0 ≤ s) (by omega)
            have hsz := idOk_size hok
            obtain ⟨n, rfl⟩ : ∃ n : Nat, s = n := ⟨s.toNat, by omega⟩
            have hn63 : n ≤ 63 := by omega
            obtain ⟨D, hD⟩ : ∃ D, mkS (dig n) = D := ⟨_, rfl⟩
            have hDs : D.size ≤ 2 := by rw [← hD]; exact dig_size n
            have hcs : (⟨#[58]⟩ : ByteArray).size = 1 := rfl
            have hms : (⟨#[33]⟩ : ByteArray).size = 1 := rfl
            have hT : (⟨#[33]⟩ : ByteArray) ++ nm ++ ⟨#[58]⟩ ++ D = idT 2 nm n := by rw [← hD]; exact idT_app hok ⟨#[33]⟩ rfl
            have CN := hidp (show ∀ W, Calls Tryd.prog 71 #[.int .i64 (n : Int)] W fun e w' => e = .returned (.string D) ∧ w' = W from fun W => by
              rw [← hD]; exact rnumber_any W n (by omega))
            rw [← hT, show idE 2 nm n = 0 from by unfold idE; rw [hok]; rfl]
            clear hT hD hok h0 h1 hn63
            go_enter Tryd.func59, Tryd.ntmps59
            go_wp2_with (go_at_call 72; (refine (C.out _).mono ?_); rintro e w' ⟨rfl, rfl⟩)
            go_quiet ((go_at_call 71; exact Calls.quiet_of_same (CN.out _)))
            go_wp2
            go_ret2
            exact ⟨rfl, below_drewN hb.out _⟩
    · have HF := hidp (idOk_k nm s (fun h => by omega) : idOk k nm s = false)
      have e1 : ((k : Int) == 1) = false := by simp; omega
      have m1 : ((k : Int) != 1) = true := by simp; omega
      have x1 : ¬ k = 1 := by omega
      have e2 : ((k : Int) == 2) = false := by simp; omega
      have m2 : ((k : Int) != 2) = true := by simp; omega
      have x2 : ¬ k = 2 := by omega
      rw [show idT k nm s = ByteArray.empty from by unfold idT; rw [HF.out]; rfl, show idE k nm s = 2 from by unfold idE; rw [HF.out]; rfl]
      go_enter Tryd.func59, Tryd.ntmps59
      go_wp2_with fail
      go_ret2
      exact ⟨rfl, hb.out⟩
end Go.Proofs.YtglfdenlgglccaaDoor
