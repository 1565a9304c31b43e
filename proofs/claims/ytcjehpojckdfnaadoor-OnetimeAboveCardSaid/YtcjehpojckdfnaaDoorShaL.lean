/-
  palaverref02.Hex, Mid.
-/
import Derived.Test.YtcjehpojckdfnaaDoorShaK
namespace Go.Proofs.YtcjehpojckdfnaaDoor
set_option linter.unusedVariables false
set_option linter.unusedSimpArgs false
open Go.RowKit

theorem arr_drewN {w : World} {b t : Nat} {xs : List Value} (h : Arr w b t xs) (n : Nat) : Arr (w.drewN n) b t xs :=
  Arr.grown h (row := none) (grownBy_drewN ⟨rfl, rfl, rfl, Nat.le_refl _, fun _ _ _ => rfl⟩ n) (by simp)
theorem hexcut (q : Nat) (h : q < 16) : (ByteArray.mk #[48, 49, 50, 51, 52, 53, 54, 55, 56, 57, 97, 98, 99, 100, 101, 102]).extract q (q + 1) = mkS [hexc q] := by
  rcases (by omega : q = 0 ∨ q = 1 ∨ q = 2 ∨ q = 3 ∨ q = 4 ∨ q = 5 ∨ q = 6 ∨ q = 7 ∨ q = 8 ∨ q = 9 ∨ q = 10 ∨ q = 11 ∨ q = 12 ∨ q = 13 ∨ q = 14 ∨ q = 15) with rfl | rfl | rfl | rfl | rfl | rfl | rfl | rfl | rfl | rfl | rfl | rfl | rfl | rfl | rfl | rfl <;> rfl
set_option maxRecDepth 100000 in
set_option maxHeartbeats 8000000 in
theorem rhex_any (w : World) (l : List UInt8) (hl : l.length = 32) :
    Calls Tryd.prog 25 #[.agg (u8s l).toArray] w fun e w' => e = .returned (.string (mkS (hexL l))) ∧ Below w.heap.size w w' := by
  obtain ⟨xs, hxs⟩ : ∃ xs, (u8s l).toArray = xs := ⟨_, rfl⟩
  have HA0 := hidp (show Arr (w.alloc (.cells xs 24)) w.heap.size 24 (u8s l) from by rw [← hxs]; exact Arr.new w 24 (u8s l))
  have HB0 := hidp (show Below w.heap.size w (w.alloc (.cells xs 24)) from (Below.refl _ w).alloc (Nat.le_refl _) _)
  have HE := hidp (show (ByteArray.mk #[]) = mkS (hexL (l.take 0)) from rfl)
  rw [hxs]
  clear hxs
  go_enter Tryd.func25, Tryd.ntmps25
  go_wp2_with fail
  obtain ⟨W0, hW0⟩ : ∃ W, w.alloc (.cells xs 24) = W := ⟨_, rfl⟩
  rw [hW0] at HA0 HB0 ⊢
  clear hW0
  go_loopw [3, 4] (fun t3 t4 wr => ∃ i : Nat, t4 = .int .i64 (i : Int) ∧ i ≤ 32 ∧ t3 = .string (mkS (hexL (l.take i))) ∧ Arr wr w.heap.size 24 (u8s l) ∧ Below w.heap.size w wr) (fun _ t4 _ => 32 - (intOf t4).toNat)
  case atStart => exact ⟨0, rfl, by omega, rfl, HA0.out, HB0.out⟩
  case round =>
    obtain ⟨i, rfl, hi32, rfl, hA, hbw⟩ := hrel
    have HA := hidp hA; have HBW := hidp hbw
    clear hA hbw HA0 HB0
    have hlr := HA.out.lt
    by_cases hi : i < 32
    · obtain ⟨b, hb⟩ : ∃ b : UInt8, l[i]? = some b := ⟨l[i]'(by omega), List.getElem?_eq_getElem _⟩
      obtain ⟨n, hn⟩ : ∃ n, b.toNat = n := ⟨_, rfl⟩
      have hbl : n < 256 := hn ▸ b.toNat_lt
      have hc : wr.cell? ⟨w.heap.size, i, none⟩ = some (.int .u8 (n : Int)) := by
        rw [HA.out.cell i (by rw [u8s_length, hl]; exact hi), u8s_get, List.getD_eq_getElem?_getD, hb]; simp [hn]
      obtain ⟨S, hS⟩ : ∃ S, mkS (hexL (l.take i)) = S := ⟨_, rfl⟩
      rw [hS]
      have HS := hidp hS; have HBB := hidp hb; have HN := hidp hn
      clear hS hb hn HE
      go_wp2_with fail
      obtain ⟨q, hq⟩ : ∃ q, n / 16 = q := ⟨_, rfl⟩
      obtain ⟨r, hr⟩ : ∃ r, n % 16 = r := ⟨_, rfl⟩
      have hql : q < 16 := by omega
      have hrl : r < 16 := by omega
      have e1 : IntKind.u8.wrap ((n : Int) / 16) = (q : Int) := by rw [IntWalk.u8_in _ (by omega)]; omega
      have e2 : IntKind.u8.wrap ((n : Int) % 16) = (r : Int) := by rw [IntWalk.u8_in _ (by omega)]; omega
      have e3 : IntKind.u8.wrap ((q : Int) + 1) = (q : Int) + 1 := IntWalk.u8_in _ (by omega)
      have e4 : IntKind.u8.wrap ((r : Int) + 1) = (r : Int) + 1 := IntWalk.u8_in _ (by omega)
      have e5 : ((q : Int) + 1).toNat = q + 1 := by omega
      have e6 : ((r : Int) + 1).toNat = r + 1 := by omega
      have HQ := hidp hq; have HR := hidp hr
      clear hq hr
      have hsz : S.size ≤ 64 := by rw [← HS.out, mkS_size, hexL_len, List.length_take]; omega
      have e7 : ¬ (9223372036854775807 < S.size + (min (q + 1) 16 - q + (min (n % 16 + 1) 16 - n % 16))) := by omega
      go_quiet (fail)
      rw [hexcut q hql, hexcut (n % 16) (by omega)]
      clear e1 e2 e3 e4 e5 e6 e7
      have hw2 : ∃ W, wr.drewN nq = W := ⟨_, rfl⟩
      have HA2 := hidp (arr_drewN HA.out nq)
      have HB2 := hidp (below_drewN HBW.out nq)
      have hst := hidp (show S ++ (mkS [hexc q] ++ mkS [hexc (n % 16)]) = mkS (hexL (l.take (i + 1))) from by
        rw [← HS.out, mkS_append, mkS_append, List.take_add_one, HBB.out, hexL_app, ← HQ.out, ← HN.out]; rfl)
      go_wp2
      rw [hst.out]
      exact ⟨⟨i + 1, by simp, by omega, rfl, HA2.out, HB2.out⟩, by simp [intOf]; omega⟩
    · obtain rfl : i = 32 := by omega
      have hst := hidp (show l.take 32 = l from List.take_of_length_le (by omega))
      rw [hst.out]
      go_wp2
      go_ret
      exact ⟨rfl, HBW.out⟩
end Go.Proofs.YtcjehpojckdfnaaDoor
