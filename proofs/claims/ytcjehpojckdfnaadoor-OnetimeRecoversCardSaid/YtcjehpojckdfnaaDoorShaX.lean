/-
  Layer 2: the walks of ShaSums, ShaTurns.
-/
import Derived.Test.YtcjehpojckdfnaaDoorShaU
namespace Go.Proofs.YtcjehpojckdfnaaDoor
set_option linter.unusedVariables false
set_option linter.unusedSimpArgs false
open Go.RowKit

theorem eq_row (xs : List UInt8) (hl : xs.length = 32) (A : List Value) (hA : u8s xs = A) : ∀ W, (Op.equalIn 10000 24 (.agg A.toArray) (.agg A.toArray)).run Tryd.prog W = .ok true W := by
  intro W; rw [← hA, eqin_hash W _ _ hl hl, decide_eq_true rfl]
set_option maxRecDepth 100000 in
set_option maxHeartbeats 8000000 in
theorem walk_shaSums (w : World) (s : ByteArray) (hs : s.size ≤ 140737488351232) (hK : KT w) :
    Calls Tryd.prog 3 #[.string s] w fun e w' => e = .returned (.bool true) ∧ Below w.heap.size w w' := by
  have L := hidp (fun W (h : KT W) => lives_any W h)
  have HK := hidp hK
  have hkp := hK.pos
  clear hK
  by_cases h16 : 65536 < s.size
  · go_enter Tryd.func3, Tryd.ntmps3
    go_wp2_with fail
    refine (L.out _ HK.out).mono ?_
    rintro e w1 ⟨rfl, hb1⟩
    go_wp2_with fail
    go_ret
    exact ⟨rfl, hb1⟩
  · obtain ⟨A, hA⟩ : ∃ A, u8s (shaL s.data.toList) = A := ⟨_, rfl⟩
    have hq := hidp (eq_row (shaL s.data.toList) (shaL_len _) A hA)
    obtain ⟨M, hM⟩ : ∃ M, mkS ((shaL s.data.toList).take 16) = M := ⟨_, rfl⟩
    have c1 := hidp (show ∀ W, KT W → Calls Tryd.prog 18 #[.string s] W fun e w' => e = .returned (.agg A.toArray) ∧ Below W.heap.size W w' from fun W h => by rw [← hA]; exact sum_any W s (by omega) h)
    have c2 := hidp (show ∀ W, Calls Tryd.prog 19 #[.string s] W fun e w' => e = .returned (.agg A.toArray) ∧ Below W.heap.size W w' from fun W => by rw [← hA]; exact rsum_any W s (by omega))
    have c3 := hidp (show ∀ W, KT W → Calls Tryd.prog 20 #[.string s] W fun e w' => e = .returned (.string M) ∧ Below W.heap.size W w' from fun W h => by rw [← hM]; exact mid_any W s (by omega) h)
    have c4 := hidp (show ∀ W, Calls Tryd.prog 21 #[.string s] W fun e w' => e = .returned (.string M) ∧ Below W.heap.size W w' from fun W => by rw [← hM]; exact rmid_any W s (by omega))
    clear hA hM
    go_enter Tryd.func3, Tryd.ntmps3
    go_wp2_with fail
    refine (L.out _ HK.out).mono ?_
    rintro e w1 ⟨rfl, hb1⟩
    have HB1 := hidp hb1; clear hb1
    go_wp2_with fail
    refine (c1.out _ (HK.out.below HB1.out hkp)).mono ?_
    rintro e w2 ⟨rfl, hb2⟩
    have HB2 := hidp (HB1.out.trans (hb2.mono HB1.out.size)); clear hb2
    go_wp2_with fail
    refine (c2.out _).mono ?_
    rintro e w3 ⟨rfl, hb3⟩
    have HB3 := hidp (HB2.out.trans (hb3.mono HB2.out.size)); clear hb3
    have hq1 := hq.out w3
    go_wp2_with fail
    refine (c3.out _ (HK.out.below HB3.out hkp)).mono ?_
    clear hq1
    rintro e w4 ⟨rfl, hb4⟩
    have HB4 := hidp (HB3.out.trans (hb4.mono HB3.out.size)); clear hb4
    go_wp2_with fail
    refine (c4.out _).mono ?_
    rintro e w5 ⟨rfl, hb5⟩
    have HB5 := hidp (HB4.out.trans (hb5.mono HB4.out.size)); clear hb5
    go_wp2_with fail
    go_ret
    exact ⟨rfl, HB5.out⟩
end Go.Proofs.YtcjehpojckdfnaaDoor
