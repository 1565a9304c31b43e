/-
  The walks of CrcSums and CrcNought.
-/
import Derived.Test.YtibipoecbcjcmaaCrcB
namespace Go.Proofs.Ytibipoecbcjcmaa
set_option maxRecDepth 100000
set_option linter.unusedVariables false
set_option linter.unusedSimpArgs false
open Go.RowKit

set_option maxHeartbeats 4000000 in
theorem walk_crcSums (w : World) (s : ByteArray) (hs : s.size ≤ 140737488351232) :
    Calls Try.prog 3 #[.string s] w fun e w' => e = .returned (.bool true) ∧ Below w.heap.size w w' := by
  have hs' : s.size ≤ maxLen := by unfold maxLen; omega
  have c0 := hidp lives7_any
  by_cases hbig : 1048576 < s.size
  · have hd : decide ((1048576 : Int) < (s.size : Int)) = true := by simp; omega
    clear hbig
    go_enter Try.func3, Try.ntmps3
    go_wp2_with fail
    refine (c0.out _).mono ?_
    rintro e w1 ⟨rfl, hb1⟩
    go_wp2_with fail
    go_ret
    exact ⟨rfl, hb1⟩
  · have hd : decide ((1048576 : Int) < (s.size : Int)) = false := by simp; omega
    clear hbig
    have c1 := hidp (fun W => crc_any W s hs')
    have c2 := hidp (fun W => rcrc_any W s hs')
    have c3 := hidp (fun W => cbytes_any W s hs')
    have c4 := hidp (fun W => rcbytes_any W s hs')
    have c5 := hidp (fun W => good_any W s hs')
    have c6 := hidp (fun W => rgood_any W s hs')
    generalize sumL s.data.toList = x at c1 c2 c3 c4
    generalize mkS (bytesL x) = Y at c3 c4
    generalize goodL s.data.toList = g at c5 c6
    have hg : (g == g) = true := by simp
    go_enter Try.func3, Try.ntmps3
    go_wp2_with fail
    refine (c0.out _).mono ?_
    rintro e w1 ⟨rfl, hb1⟩
    have HB1 := hidp hb1; clear hb1
    go_wp2_with fail
    refine (c1.out _).mono ?_
    rintro e w2 ⟨rfl, rfl⟩
    clear c1
    go_wp2_with fail
    refine (c2.out _).mono ?_
    rintro e w2 ⟨rfl, rfl⟩
    clear c2
    go_wp2_with fail
    refine (c3.out _).mono ?_
    rintro e w2 ⟨rfl, hb2⟩
    have HB2 := hidp (HB1.out.trans (hb2.mono HB1.out.size)); clear hb2 c3
    go_wp2_with fail
    refine (c4.out _).mono ?_
    rintro e w3 ⟨rfl, hb3⟩
    have HB3 := hidp (HB2.out.trans (hb3.mono HB2.out.size)); clear hb3 c4
    go_wp2_with fail
    refine (c5.out _).mono ?_
    rintro e w4 ⟨rfl, hb4⟩
    have HB4 := hidp (HB3.out.trans (hb4.mono HB3.out.size)); clear hb4 c5
    go_wp2_with fail
    refine (c6.out _).mono ?_
    rintro e w5 ⟨rfl, hb5⟩
    have HB5 := hidp (HB4.out.trans (hb5.mono HB4.out.size)); clear hb5 c6
    go_wp2_with fail
    go_ret
    exact ⟨rfl, HB5.out⟩

set_option maxHeartbeats 4000000 in
theorem walk_crcNought (w : World) (s : ByteArray) (hs : s.size ≤ 140737488351232) :
    Calls Try.prog 4 #[.string s] w fun e w' => e = .returned (.bool true) ∧ Below w.heap.size w w' := by
  have hs' : s.size ≤ maxLen := by unfold maxLen; omega
  have c0 := hidp lives7_any
  by_cases hbig : 1048576 < s.size
  · have hd : decide ((1048576 : Int) < (s.size : Int)) = true := by simp; omega
    clear hbig
    go_enter Try.func4, Try.ntmps4
    go_wp2_with fail
    refine (c0.out _).mono ?_
    rintro e w1 ⟨rfl, hb1⟩
    go_wp2_with fail
    go_ret
    exact ⟨rfl, hb1⟩
  · have hd : decide ((1048576 : Int) < (s.size : Int)) = false := by simp; omega
    have hlen : (s ++ mkS (bytesL (sumL s.data.toList))).size ≤ 1048580 := by rw [ByteArray.size_append, mkS_size, bytesL_len]; omega
    have hlen' : (s ++ mkS (bytesL (sumL s.data.toList))).size ≤ maxLen := by unfold maxLen; omega
    have hl : (s ++ mkS (bytesL (sumL s.data.toList))).data.toList = s.data.toList ++ bytesL (sumL s.data.toList) := by simp [mkS]
    have hs1 : s.size ≤ 1048576 := by omega
    have hYs : (mkS (bytesL (sumL s.data.toList))).size ≤ 4 := by rw [mkS_size, bytesL_len]; omega
    clear hbig
    have c1 := hidp (fun W => crc_any W s hs')
    have c3 := hidp (fun W => cbytes_any W s hs')
    have c5 := hidp (fun W => good_any W s hs')
    have d1 := hidp (fun W => crc_any W _ hlen')
    have d5 := hidp (fun W => good_any W _ hlen')
    rw [hl, nought] at d1
    rw [hl, goodL_app] at d5
    have hng := nought_good s.data.toList
    clear hl hlen'
    generalize mkS (bytesL (sumL s.data.toList)) = Y at c3 d1 d5 hlen hYs
    generalize sumL s.data.toList = x at c1 c3 hng
    generalize goodL s.data.toList = g at c5 hng
    have hsz : s.data.toList.length = s.size := by simp
    rw [hsz] at hng
    clear hsz
    obtain ⟨T, hT⟩ : ∃ T, s ++ Y = T := ⟨_, rfl⟩
    rw [hT] at d1 d5 hlen
    have HT := hidp hT
    clear hT
    have d1 := hidp (show ∀ W, Calls Try.prog 10 #[.string T] W fun e w' => e = .returned (.int .u32 0) ∧ W = w' from d1.out)
    by_cases h4 : 4 ≤ s.size
    · have hd4 : decide ((s.size : Int) < 4) = false := by simp; omega
      have hng := hng h4
      have hx0 : ((x : Int) == 0) = g := by rw [← hng, Bool.eq_iff_iff, beq_iff_eq, decide_eq_true_iff]; omega
      have hgg : (g == g) = true := by simp
      clear h4 hng
      go_enter Try.func4, Try.ntmps4
      go_wp2_with fail
      refine (c0.out _).mono ?_
      rintro e w1 ⟨rfl, hb1⟩
      have HB1 := hidp hb1; clear hb1
      go_wp2_with fail
      refine (c3.out _).mono ?_
      rintro e w2 ⟨rfl, hb2⟩
      have HB2 := hidp (HB1.out.trans (hb2.mono HB1.out.size)); clear hb2 c3
      go_wp2_with fail
      rw [HT.out]
      refine (d1.out _).mono ?_
      rintro e w3 ⟨rfl, rfl⟩
      go_wp2_with fail
      refine (d5.out _).mono ?_
      rintro e w3 ⟨rfl, hb3⟩
      have HB3 := hidp (HB2.out.trans (hb3.mono HB2.out.size)); clear hb3 d5
      go_wp2_with fail
      refine (c1.out _).mono ?_
      rintro e w4 ⟨rfl, rfl⟩
      go_wp2_with fail
      refine (c5.out _).mono ?_
      rintro e w4 ⟨rfl, hb4⟩
      have HB4 := hidp (HB3.out.trans (hb4.mono HB3.out.size)); clear hb4 c5
      go_wp2_with fail
      go_ret
      exact ⟨rfl, HB4.out⟩
    · have hd4 : decide ((s.size : Int) < 4) = true := by simp; omega
      clear h4 hng
      go_enter Try.func4, Try.ntmps4
      go_wp2_with fail
      refine (c0.out _).mono ?_
      rintro e w1 ⟨rfl, hb1⟩
      have HB1 := hidp hb1; clear hb1
      go_wp2_with fail
      refine (c3.out _).mono ?_
      rintro e w2 ⟨rfl, hb2⟩
      have HB2 := hidp (HB1.out.trans (hb2.mono HB1.out.size)); clear hb2 c3
      go_wp2_with fail
      rw [HT.out]
      refine (d1.out _).mono ?_
      rintro e w3 ⟨rfl, rfl⟩
      go_wp2_with fail
      refine (d5.out _).mono ?_
      rintro e w3 ⟨rfl, hb3⟩
      have HB3 := hidp (HB2.out.trans (hb3.mono HB2.out.size)); clear hb3 d5
      go_wp2_with fail
      go_ret
      exact ⟨rfl, HB3.out⟩
end Go.Proofs.Ytibipoecbcjcmaa
