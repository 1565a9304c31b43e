/-
  The walk of CrcFound.
-/
import Derived.Test.YtibipoecbcjcmaaCrcB
import Derived.Lib.ConvBytes
import Derived.IntWalk
namespace Go.Proofs.Ytibipoecbcjcmaa
set_option maxRecDepth 100000
set_option linter.unusedVariables false
set_option linter.unusedSimpArgs false
open Go.RowKit

theorem and_one (bys i : Nat) (h : bys < 4294967296) : bits .and .u32 ((bys : Int) / 2 ^ i) 1 = ((bys / 2 ^ i % 2 : Nat) : Int) := by
  have h1 : bys / 2 ^ i < 4294967296 := Nat.lt_of_le_of_lt (Nat.div_le_self _ _) h
  have := Go.u32_and_nat (bys / 2 ^ i) 1 h1 (by omega)
  rw [Nat.and_one_is_mod] at this
  rw [← this]; congr 1
theorem and_one_yes (bys i : Nat) (h : bys < 4294967296) (h1 : bys / 2 ^ i % 2 = 1) : bits .and .u32 ((bys : Int) / 2 ^ i) 1 = 1 := by rw [and_one bys i h, h1]; rfl
theorem and_one_no (bys i : Nat) (h : bys < 4294967296) (h1 : ¬ bys / 2 ^ i % 2 = 1) : bits .and .u32 ((bys : Int) / 2 ^ i) 1 = 0 := by rw [and_one bys i h, show bys / 2 ^ i % 2 = 0 from by omega]; rfl
theorem turn_step (bit bys i : Nat) (l : List UInt8) (L : List UInt8) (hL : turnL bit bys i l = L) (h1 : bys / 2 ^ i % 2 = 1) (h2 : bit + i < 8 * L.length) :
    turnL bit bys (i + 1) l = L.set ((bit + i) / 8) (L.getD ((bit + i) / 8) 0 ^^^ UInt8.ofNat (2 ^ (7 - (bit + i) % 8))) := by
  unfold turnL; rw [hL]; unfold turn1; rw [if_pos ⟨h1, h2⟩]
theorem turn_skip (bit bys i : Nat) (l : List UInt8) (L : List UInt8) (hL : turnL bit bys i l = L) (h : ¬ bys / 2 ^ i % 2 = 1 ∨ ¬ bit + i < 8 * L.length) : turnL bit bys (i + 1) l = L := by
  unfold turnL; rw [hL]; unfold turn1; rw [if_neg (by rintro ⟨h1, h2⟩; exact h.elim (fun h => h h1) (fun h => h h2))]
theorem xor_bit (c : UInt8) (r : Nat) (hr : r < 8) : bits .xor .u8 (c.toNat : Int) (128 / 2 ^ r) = ((c ^^^ UInt8.ofNat (2 ^ (7 - r))).toNat : Int) := by
  have hp : (2 : Nat) ^ (7 - r) < 256 := by
    have : (2 : Nat) ^ (7 - r) ≤ 2 ^ 7 := Nat.pow_le_pow_right (by omega) (by omega)
    omega
  rw [UInt8.toNat_xor, u8n _ hp, ← Go.u8_xor_nat _ _ c.toNat_lt hp]
  congr 1
  rcases (by omega : r = 0 ∨ r = 1 ∨ r = 2 ∨ r = 3 ∨ r = 4 ∨ r = 5 ∨ r = 6 ∨ r = 7) with rfl | rfl | rfl | rfl | rfl | rfl | rfl | rfl <;> rfl
set_option maxHeartbeats 4000000 in
theorem turned_any (w : World) (s : ByteArray) (bit bys : Nat) (hs : s.size ≤ 65536) (hbit : bit < 8 * s.size) (hbys : bys < 4294967296) :
    Calls Try.prog 16 #[.string s, .int .i64 bit, .int .u32 bys] w fun e w' => e = .returned (.string (mkS (turnL bit bys 32 s.data.toList))) ∧ Below w.heap.size w w' := by
  have hcv := Lib.run_convert_string_bytes (P := Try.prog) w 9 29 5 s Try.underlying9 Try.underlying29 Try.underlying5
  have HM := hidp (bytes_mut w s)
  have HB1 := hidp (bytes_below w s)
  obtain ⟨l, hl⟩ : ∃ l, s.data.toList = l := ⟨_, rfl⟩
  have hll := hidp (show l.length = s.size from by rw [← hl]; simp)
  obtain ⟨cap, hcap⟩ : ∃ c, grownCap w s.size 0 5 = c := ⟨_, rfl⟩
  obtain ⟨W1, hW1⟩ : ∃ W, Lib.bytesWorld w 5 s = W := ⟨_, rfl⟩
  rw [hl, hW1] at HM
  rw [hW1] at HB1
  rw [hcap, hW1] at hcv
  rw [hl]
  clear hcap hW1 hl
  go_enter Try.func16, Try.ntmps16
  go_wp2_with fail
  go_loopw [8] (fun t8 wr => ∃ i : Nat, t8 = .int .i64 i ∧ i ≤ 32 ∧ MutB wr w.heap.size (turnL bit bys i l) ∧ Below w.heap.size w wr) (fun t8 _ => 32 - (intOf t8).toNat)
  case atStart => exact ⟨0, rfl, by omega, by rw [show turnL bit bys 0 l = l from by unfold turnL; rfl]; exact HM.out, HB1.out⟩
  case round =>
    obtain ⟨i, rfl, hi, hM, hbw⟩ := hrel
    have HMr := hidp hM; have HBW := hidp hbw; have hbs := hbw.size
    have hlen := hidp (turnL_len bit bys i l)
    clear hM hbw
    by_cases h32 : i < 32
    · by_cases hb1 : bys / 2 ^ i % 2 = 1
      · have hand := and_one_yes bys i hbys hb1
        by_cases hin : bit + i < 8 * s.size
        · have hd : decide ((bit : Int) + (i : Int) < 8 * (s.size : Int)) = true := by simp; omega
          have ht := hidp (turn_step bit bys i l _ rfl hb1 (by rw [hlen.out, hll.out]; exact hin))
          have hj : (bit + i) / 8 < (turnL bit bys i l).length := by rw [hlen.out, hll.out]; omega
          obtain ⟨hc, hf⟩ := HMr.out.2 ((bit + i) / 8) hj
          have hset := hidp (HMr.out.set ((bit + i) / 8) ((turnL bit bys i l).getD ((bit + i) / 8) 0 ^^^ UInt8.ofNat (2 ^ (7 - (bit + i) % 8))) hj)
          have hx := xor_bit ((turnL bit bys i l).getD ((bit + i) / 8) 0) ((bit + i) % 8) (by omega)
          have e1 : ((bit : Int) + (i : Int)) / 8 = (((bit + i) / 8 : Nat) : Int) := by omega
          have e2 : ((bit : Int) + (i : Int)) % 8 = (((bit + i) % 8 : Nat) : Int) := by omega
          have hjs : (bit + i) / 8 < s.size := by omega
          have hr8 : (bit + i) % 8 < 8 := by omega
          rw [← ht.out] at hset
          generalize hcv' : ((turnL bit bys i l).getD ((bit + i) / 8) 0 ^^^ UInt8.ofNat (2 ^ (7 - (bit + i) % 8))).toNat = cn at hset hx
          generalize hco : ((turnL bit bys i l).getD ((bit + i) / 8) 0).toNat = co at hc hx
          have hco8 : co < 256 := by rw [← hco]; exact UInt8.toNat_lt _
          clear hcv' hco hj
          generalize (bit + i) / 8 = j at *
          generalize (bit + i) % 8 = r at *
          go_wp2_with fail
          go_region
          all_goals
            go_wp2_with fail
            exact ⟨⟨i + 1, by go_num, by omega, hset.out, (HBW.out.setCell (p := ⟨w.heap.size, j, none⟩) (Nat.le_refl _) _).drew⟩, by simp [intOf]; omega⟩
        · have hd : decide ((bit : Int) + (i : Int) < 8 * (s.size : Int)) = false := by simp; omega
          have ht := hidp (turn_skip bit bys i l _ rfl (.inr (by rw [hlen.out, hll.out]; exact hin)))
          go_wp2_with fail
          exact ⟨⟨i + 1, by go_num, by omega, by rw [ht.out]; exact HMr.out, HBW.out⟩, by simp [intOf]; omega⟩
      · have hand := and_one_no bys i hbys hb1
        have ht := hidp (turn_skip bit bys i l _ rfl (.inl hb1))
        clear hb1
        go_wp2_with fail
        exact ⟨⟨i + 1, by go_num, by omega, by rw [ht.out]; exact HMr.out, HBW.out⟩, by simp [intOf]; omega⟩
    · obtain rfl : i = 32 := by omega
      have hstr := str_mut wr w.heap.size cap _ HMr.out
      rw [hlen.out, hll.out] at hstr
      go_wp2_with fail
      go_ret
      exact ⟨rfl, HBW.out⟩

theorem found_bool (s : ByteArray) (bit bys : Nat) (hb : bit < 8 * s.size) : ∃ B : Bool, ((mkS (turnL bit bys 32 s.data.toList)).toList == s.toList) = B ∧ (((sumL (turnL bit bys 32 s.data.toList) : Nat) : Int) == ((sumL s.data.toList : Nat) : Int)) = B := by
  have h := found bit bys s.data.toList (by simpa using hb)
  refine ⟨decide (turnL bit bys 32 s.data.toList = s.data.toList), ?_, ?_⟩
  · rw [mkS_toList, ByteArray.toList_eq, Bool.eq_iff_iff, beq_iff_eq, decide_eq_true_iff]
  · rw [h, Bool.eq_iff_iff, beq_iff_eq, decide_eq_true_iff]; omega
set_option maxHeartbeats 4000000 in
theorem walk_crcFound (w : World) (s : ByteArray) (hs : s.size ≤ 140737488351232) (bit : Int) (hbit : (Lit.int .i64 bit).wf = true) (bys : Int) (hbys : (Lit.int .u32 bys).wf = true) :
    Calls Try.prog 5 #[.string s, .int .i64 bit, .int .u32 bys] w fun e w' => e = .returned (.bool true) ∧ Below w.heap.size w w' := by
  have hs' : s.size ≤ maxLen := by unfold maxLen; omega
  have c0 := hidp lives7_any
  have hbd : -9223372036854775808 ≤ bit ∧ bit ≤ 9223372036854775807 := by simpa [Lit.wf, IntKind.min, IntKind.max, IntKind.signed, IntKind.bits] using hbit
  have hbs : 0 ≤ bys ∧ bys ≤ 4294967295 := by simpa [Lit.wf, IntKind.min, IntKind.max, IntKind.signed, IntKind.bits] using hbys
  have HBD := hidp hbd
  clear hbd hbit hbys
  by_cases hbig : 65536 < s.size
  · have hd : decide ((65536 : Int) < (s.size : Int)) = true := by simp; omega
    clear hbig
    go_enter Try.func5, Try.ntmps5
    go_wp2_with fail
    refine (c0.out _).mono ?_
    rintro e w1 ⟨rfl, hb1⟩
    go_wp2_with fail
    go_ret
    exact ⟨rfl, hb1⟩
  · have hd : decide ((65536 : Int) < (s.size : Int)) = false := by simp; omega
    by_cases hneg : bit < 0
    · have hd2 : decide (bit < 0) = true := by simpa using hneg
      clear hbig
      go_enter Try.func5, Try.ntmps5
      go_wp2_with fail
      refine (c0.out _).mono ?_
      rintro e w1 ⟨rfl, hb1⟩
      go_wp2_with fail
      go_ret
      exact ⟨rfl, hb1⟩
    · have hd2 : decide (bit < 0) = false := by simpa using hneg
      have hsb : s.size ≤ 65536 := by omega
      by_cases hge : 8 * (s.size : Int) ≤ bit
      · have hd3 : decide (8 * (s.size : Int) ≤ bit) = true := by simpa using hge
        clear hbig
        go_enter Try.func5, Try.ntmps5
        go_wp2_with fail
        refine (c0.out _).mono ?_
        rintro e w1 ⟨rfl, hb1⟩
        go_wp2_with fail
        go_ret
        exact ⟨rfl, hb1⟩
      · obtain ⟨n, rfl⟩ : ∃ n : Nat, bit = n := ⟨bit.toNat, by omega⟩
        obtain ⟨m, rfl⟩ : ∃ m : Nat, bys = m := ⟨bys.toNat, by omega⟩
        have hd3 : decide (8 * (s.size : Int) ≤ (n : Int)) = false := by simpa using hge
        have hn : n < 8 * s.size := by omega
        have hm : m < 4294967296 := by omega
        obtain ⟨B, hB1, hB2⟩ := found_bool s n m hn
        have c1 := hidp (fun W => turned_any W s n m hsb hn hm)
        have c2 := hidp (fun W => crc_any W (mkS (turnL n m 32 s.data.toList)) (by rw [mkS_size, turnL_len]; simpa using hs'))
        have c3 := hidp (fun W => crc_any W s hs')
        rw [mkS_data] at c2
        generalize sumL (turnL n m 32 s.data.toList) = x at c2 hB2
        generalize mkS (turnL n m 32 s.data.toList) = T at c1 c2 hB1
        generalize sumL s.data.toList = y at c3 hB2
        have hBB : (B == B) = true := by simp
        clear hbig hneg hge hn hm HBD hbs
        go_enter Try.func5, Try.ntmps5
        go_wp2_with fail
        refine (c0.out _).mono ?_
        rintro e w1 ⟨rfl, hb1⟩
        have HB1 := hidp hb1; clear hb1
        go_wp2_with fail
        refine (c1.out _).mono ?_
        rintro e w2 ⟨rfl, hb2⟩
        have HB2 := hidp (HB1.out.trans (hb2.mono HB1.out.size)); clear hb2 c1
        go_wp2_with fail
        refine (c2.out _).mono ?_
        rintro e w3 ⟨rfl, rfl⟩
        clear c2
        go_wp2_with fail
        refine (c3.out _).mono ?_
        rintro e w3 ⟨rfl, rfl⟩
        go_wp2_with fail
        go_ret
        exact ⟨rfl, HB2.out⟩
end Go.Proofs.Ytibipoecbcjcmaa
