/-
  TopTorn: the walk.
-/
import Derived.Test.YtibipoecbcjcmabCrcB
import Derived.Test.YtibipoecbcjcmabOcN
import Derived.Test.YtibipoecbcjcmabDskE
namespace Go.Proofs.Ytibipoecbcjcmab
set_option linter.unusedVariables false
set_option linter.unusedSimpArgs false
set_option maxRecDepth 100000
open Go.RowKit

theorem tail_take (l : List UInt8) (s : List UInt8) (n : Nat) (h : l.length = n) (b : UInt8) (hb : b ≠ 0) (i : Nat) (hi : n ≤ i + 1) (hi2 : i < n) (h4 : 4 ≤ n) (e : l.drop (n - 4) = s) : (l.set i (l.getD i 0 ^^^ b)).drop (n - 4) ≠ s := by
  intro h2
  obtain rfl : i = n - 1 := by omega
  have h3 := h2.trans e.symm
  have := congrArg (fun z => z[3]?) h3
  simp only [List.getElem?_drop] at this
  rw [show n - 4 + 3 = n - 1 from by omega] at this
  rw [List.getElem?_set_self (by omega), List.getElem?_eq_getElem (by omega)] at this
  have h5 := Option.some.inj this
  have h6 : l.getD (n - 1) 0 = l[n - 1]'(by omega) := by simp [List.getD_eq_getElem?_getD, show n - 1 < l.length from by omega]
  rw [h6] at h5
  have : b = 0 := by
    have := congrArg (fun z => l[n - 1]'(by omega) ^^^ z) h5
    simpa [← UInt8.xor_assoc] using this
  exact hb this
theorem torn_good (l : List UInt8) (b : UInt8) : goodL (failL (l ++ bytesL (sumL l)) 0 (l.length + 4) b) = decide (b = 0) := by
  have h4 := bytesL_len (sumL l)
  have hlen : (l ++ bytesL (sumL l)).length = l.length + 4 := by rw [List.length_append, h4]
  unfold failL
  rw [if_pos (by omega), Nat.zero_add, List.take_of_length_le (by omega)]
  by_cases hb : b = 0
  · subst hb
    have e : (l ++ bytesL (sumL l)).set (l.length + 4 - 1) ((l ++ bytesL (sumL l)).getD (l.length + 4 - 1) 0 ^^^ 0) = l ++ bytesL (sumL l) := by
      rw [List.getD_eq_getElem?_getD, List.getElem?_eq_getElem (by omega)]; simp
    rw [e, goodL_app]; rfl
  · rw [decide_eq_false hb]
    unfold goodL
    have hl2 : ((l ++ bytesL (sumL l)).set (l.length + 4 - 1) ((l ++ bytesL (sumL l)).getD (l.length + 4 - 1) 0 ^^^ b)).length = l.length + 4 := by rw [List.length_set, hlen]
    rw [hl2, decide_eq_true (by omega), Bool.true_and]
    rw [decide_eq_false_iff_not]
    have ht : ((l ++ bytesL (sumL l)).set (l.length + 4 - 1) ((l ++ bytesL (sumL l)).getD (l.length + 4 - 1) 0 ^^^ b)).take (l.length + 4 - 4) = l := by
      rw [List.take_set_of_le (by omega), show l.length + 4 - 4 = l.length from by omega, List.take_left]
    rw [ht]
    exact tail_take _ _ (l.length + 4) hlen b hb (l.length + 4 - 1) (by omega) (by omega) (by omega) (by rw [show l.length + 4 - 4 = l.length from by omega, List.drop_left])
theorem torn_take (l : List UInt8) (q : Nat) (b : UInt8) (hq : 0 < q) : (failL l 0 q b).take (q - 1) = l.take (q - 1) := by
  unfold failL
  rw [if_pos hq, Nat.zero_add, List.take_set_of_le (by omega), List.take_take, Nat.min_eq_left (by omega)]
theorem minT (W : World) (ts : Array TypeId) (x n : Nat) : (Builtin.min_ ts 3 #[.int .i64 (x : Int), .int .i64 (n : Int)]).run Try.prog W = .ok (.int .i64 ((min x n : Nat) : Int)) W := by
  go_simp
  first | done | (congr 2; first | done | omega | (split <;> omega))

set_option maxHeartbeats 8000000 in
theorem walk_topTorn (w : World) (room : Int) (hroom : (Lit.int .i64 room).wf = true) (s : ByteArray) (hs : s.size ≤ 140737488351232) (keep : Int) (hkeep : (Lit.int .i64 keep).wf = true) (b : Int) (hb : (Lit.int .u8 b).wf = true) :
    Calls Try.prog 4 #[.int .i64 room, .string s, .int .i64 keep, .int .u8 b] w fun e w' => e = .returned (.bool true) ∧ Below w.heap.size w w' := by
  have hs' : s.size ≤ maxLen := by unfold maxLen; omega
  have hnil : (⟨#[]⟩ : ByteArray).size = 0 := rfl
  have c0 := hidp begins_any
  by_cases hbig : 65536 < s.size
  · have hd : decide ((65536 : Int) < (s.size : Int)) = true := by simp; omega
    clear hbig
    go_enter Try.func4, Try.ntmps4
    go_wp2_with fail
    refine (c0.out _).mono ?_
    rintro e w1 ⟨rfl, hb1⟩
    go_wp2_with fail
    go_ret
    exact ⟨rfl, hb1⟩
  · have hd : decide ((65536 : Int) < (s.size : Int)) = false := by simp; omega
    have hs1 : s.size ≤ 65536 := by omega
    have c2 := hidp (fun W => cbytes_any W s hs')
    have hYs : (mkS (bytesL (sumL s.data.toList))).size ≤ 4 := by rw [mkS_size, bytesL_len]; omega
    have hTs : (s ++ mkS (bytesL (sumL s.data.toList))).size = s.size + 4 := by rw [ByteArray.size_append, mkS_size, bytesL_len]
    have hTl := hidp (show (s ++ mkS (bytesL (sumL s.data.toList))).data.toList = s.data.toList ++ bytesL (sumL s.data.toList) from by simp [mkS])
    obtain ⟨Y, hY⟩ : ∃ Y, mkS (bytesL (sumL s.data.toList)) = Y := ⟨_, rfl⟩
    rw [hY] at c2 hYs hTs hTl
    obtain ⟨T, hT⟩ : ∃ T, s ++ Y = T := ⟨_, rfl⟩
    rw [hT] at hTs hTl
    have HT := hidp hT
    have HTS := hidp hTs
    have hT4 : s.size + 4 ≤ T.size := by omega
    have hT5 : T.size ≤ s.size + 4 := by omega
    clear hY hT hTs hbig
    by_cases hr : 0 ≤ room ∧ room ≤ 1048576
    · obtain ⟨hr0, hr1⟩ := hr
      have c1 := hidp (fun W => new_ok W room hr0 hr1)
      by_cases hfit : (T.size : Int) ≤ room
      · have hq := minT
        obtain ⟨bb, rfl⟩ : ∃ c : UInt8, b = c.toNat := ⟨UInt8.ofNat b.toNat, by
          have hbb : 0 ≤ b ∧ b ≤ 255 := by simpa [Lit.wf, IntKind.min, IntKind.max, IntKind.signed, IntKind.bits] using hb
          rw [u8n _ (by omega)]; omega⟩
        have c3 := hidp (show ∀ W, Calls Try.prog 7 #[.agg #[.string ⟨#[]⟩, .int .i64 0, .int .i64 room], .string T] W fun e w' => e = .returned (.tuple #[.agg #[.string T, .int .i64 0, .int .i64 room], .int .i64 0]) ∧ Below W.heap.size W w' from fun W => by
          have := write_ok W ⟨#[]⟩ 0 room T ⟨by omega, by rw [hnil]; omega, by rw [hnil]; omega, hr1⟩ (by rw [hnil]; omega)
          rw [show (⟨#[]⟩ : ByteArray) ++ T = T from by apply ByteArray.ext; simp] at this
          exact this)
        have hok : okD T ((0 : Nat) : Int) room := ⟨by omega, by omega, hfit, hr1⟩
        have c4 := hidp (show ∀ W, Calls Try.prog 9 #[.agg #[.string T, .int .i64 0, .int .i64 room], .int .i64 keep, .int .u8 bb.toNat] W fun e w' => e = .returned (.tuple #[.agg #[.string (mkS (failL T.data.toList 0 (keepN T.size 0 keep) bb)), .int .i64 ((keepN T.size 0 keep : Nat) : Int), .int .i64 room], .int .i64 0]) ∧ Below W.heap.size W w' from fun W => by
          have := fail_ok W T 0 room keep bb hok
          rw [Nat.zero_add] at this
          exact this)
        have hmx := fun W ts => max0 W ts keep
        have hmn := fun W ts => minT W ts keep.toNat T.size
        have hqd : keepN T.size 0 keep = min keep.toNat T.size := rfl
        rw [← hqd] at hmn
        obtain ⟨q, hqq⟩ : ∃ q, keepN T.size 0 keep = q := ⟨_, rfl⟩
        have hqT : q ≤ T.size := by rw [← hqq, hqd]; omega
        have hmq : min (max keep 0) (T.size : Int) = (q : Int) := by rw [← hqq, hqd]; omega
        rw [hqq] at c4 hmn
        clear hqd hq
        have hFs : (mkS (failL T.data.toList 0 q bb)).size = q := by rw [mkS_size, failL_len _ _ _ _ (by simp; omega)]; omega
        have htk := hidp (show 0 < q → (mkS (failL T.data.toList 0 q bb)).extract 0 (q - 1) = T.extract 0 (q - 1) from fun h0 => by
          apply ByteArray.ext; apply Array.toList_inj.1
          have := torn_take T.data.toList q bb h0
          simpa [mkS] using this)
        have hgd := hidp (show q = T.size → goodL (failL T.data.toList 0 q bb) = decide (bb = 0) from fun h0 => by
          rw [h0, HTS.out, hTl.out]
          have := torn_good s.data.toList bb
          rw [show s.data.toList.length + 4 = s.size + 4 from by simp] at this
          exact this)
        have hgc := hidp (show ∀ W, Calls Try.prog 13 #[.string (mkS (failL T.data.toList 0 q bb))] W fun e w' => e = .returned (.bool (goodL (failL T.data.toList 0 q bb))) ∧ Below W.heap.size W w' from fun W => good_any W _ (by rw [hFs]; unfold maxLen; omega))
        obtain ⟨F, hF⟩ : ∃ F, mkS (failL T.data.toList 0 q bb) = F := ⟨_, rfl⟩
        rw [hF] at c4 hFs htk hgc
        clear hF
        have hF1 : F.size ≤ q := by omega
        have hF2 : q ≤ F.size := by omega
        have HFS := hidp hFs
        clear hFs hqq hok hb
        go_enter Try.func4, Try.ntmps4
        go_wp2_with fail
        refine (c0.out _).mono ?_
        rintro e w1 ⟨rfl, hb1⟩
        have HB1 := hidp hb1; clear hb1
        go_wp2_with fail
        refine (c1.out _).mono ?_
        rintro e w2 ⟨rfl, hb2⟩
        have HB2 := hidp (HB1.out.trans (hb2.mono HB1.out.size)); clear hb2
        have hle2 := HB2.out.size
        go_wp2_with fail
        have HX2 := hidp (HB2.out.alloc hle2 (.cells #[.string ⟨#[]⟩, .int .i64 0, .int .i64 room] 25))
        have Gd2 := hidp (Arr.new w2 25 [.string ⟨#[]⟩, .int .i64 0, .int .i64 room])
        generalize hW2 : (w2.alloc (.cells #[.string ⟨#[]⟩, .int .i64 0, .int .i64 room] 25)) = W2 at HX2 Gd2 ⊢
        clear hW2
        refine (c2.out _).mono ?_
        rintro e w3 ⟨rfl, hb3⟩
        have HB3 := hidp (HX2.out.trans (hb3.mono HX2.out.size))
        have Hd3 := hidp (Gd2.out.below hb3 Gd2.out.lt)
        have hltd := Hd3.out.lt
        clear hb3
        obtain ⟨x0, x1, x2, xf⟩ := arr3 Hd3.out
        clear xf
        have hTT := HT.out
        go_wp2_with fail
        clear x0 x1 x2
        refine (c3.out _).mono ?_
        rintro e w4 ⟨rfl, hb4⟩
        have HB4 := hidp (HB3.out.trans (hb4.mono HB3.out.size))
        have hle4 := HB4.out.size
        have Hd4 := hidp (Hd3.out.below hb4 Hd3.out.lt)
        clear hb4
        have hlt4 := Hd4.out.lt
        obtain ⟨x0, x1, x2, xf⟩ := arr3 Hd4.out
        clear xf
        go_wp2_with fail
        clear x0 x1 x2 hlt4
        have HX4 := hidp (HB4.out.alloc hle4 (.cells #[.string T, .int .i64 0, .int .i64 room] 25))
        have Ge4 := hidp (Arr.new w4 25 [.string T, .int .i64 0, .int .i64 room])
        generalize hW4 : (w4.alloc (.cells #[.string T, .int .i64 0, .int .i64 room] 25)) = W4 at HX4 Ge4 ⊢
        clear hW4
        refine (c4.out _).mono ?_
        rintro e w5 ⟨rfl, hb5⟩
        have HB5 := hidp (HX4.out.trans (hb5.mono HX4.out.size))
        have hle5 := HB5.out.size
        clear hb5
        go_wp2_with fail
        have HX5 := hidp (HB5.out.alloc hle5 (.cells #[.string F, .int .i64 q, .int .i64 room] 25))
        have Gf5 := hidp (Arr.new w5 25 [.string F, .int .i64 q, .int .i64 room])
        generalize hW5 : (w5.alloc (.cells #[.string F, .int .i64 q, .int .i64 room] 25)) = W5 at HX5 Gf5 ⊢
        clear hW5
        obtain ⟨x0, x1, x2, xf⟩ := arr3 Gf5.out
        clear xf
        have v1 : ((F.size : Int) != (q : Int)) = false := by simp; omega
        have v2 : ((q : Int) != (q : Int)) = false := by simp
        by_cases hq0 : 0 < q
        · have hd0 : decide (0 < (q : Int)) = true := by simp; omega
          have e1 : ((q : Int) - 1).toNat = q - 1 := by omega
          have e2 : (0 : Int) ≤ (q : Int) - 1 := by omega
          have e3 : (q : Int) - 1 ≤ F.size := by omega
          have e4 : (q : Int) - 1 ≤ T.size := by omega
          have e5 : (1 : Int) ≤ (q : Int) := by omega
          have e6 : (q : Int) ≤ (F.size : Int) + 1 := by omega
          have e7 : (q : Int) ≤ (T.size : Int) + 1 := by omega
          have e11 : IntKind.i64.wrap ((q : Int) - 1) = (q : Int) - 1 := IntWalk.i64_in _ (by omega)
          have e8 : 1 ≤ q := by omega
          have e9 : q ≤ F.size + 1 := by omega
          have e10 : q ≤ T.size + 1 := by omega
          have htk := htk.out hq0
          have hgc0 := hgc
          clear c0 c1 c2 c3 c4 hmx hmn
          have ca := hidp (show ∀ W, Cls W5.heap.size W5 W → W.cell? ⟨w5.heap.size, 0, none⟩ = some (.string F) ∧ W.cell? ⟨w5.heap.size, 1, none⟩ = some (.int .i64 (q : Int)) from fun W h => by
            have h2 := arr3 (Gf5.out.below h Gf5.out.lt)
            exact ⟨h2.1, h2.2.1⟩)
          refine wp_region_quiet (C := Cls W5.heap.size W5) (by kernel_rfl) (by kernel_rfl) (Cls.start _ _) ?_
          simp only []
          repeat (first
            | (apply q_val
               · rfl
               · intro w hw; obtain ⟨hx, hy⟩ := ca.out w hw; go_simp; first | done | with_reducible rfl | rfl
               simp only [Act.put, List.setIfInBounds_toArray, List.set_cons_zero, List.set_cons_succ])
            | (refine q_skip ?_ ?_
               · rfl
               simp only [Act.put, List.setIfInBounds_toArray, List.set_cons_zero, List.set_cons_succ]))
          refine wpQuiet_nil ?_
          intro w6 hC
          have hs5 := HX5.out.size
          have HB6 := hidp (HX5.out.trans (Below.mono hC hs5))
          have Gf6 := hidp (Gf5.out.below hC Gf5.out.lt)
          clear hC ca
          obtain ⟨x0, x1, x2, xf⟩ := arr3 Gf6.out
          clear xf
          by_cases hqT2 : q < T.size
          · have hdq : decide ((q : Int) < (T.size : Int)) = true := by simp; omega
            go_wp2_with fail
            go_ret
            exact ⟨rfl, HB6.out⟩
          · have hdq : decide ((q : Int) < (T.size : Int)) = false := by simp; omega
            have hgd := hgd.out (by omega)
            have hbz : ((bb.toNat : Int) == 0) = decide (bb = 0) := by
              rw [Bool.eq_iff_iff, beq_iff_eq, decide_eq_true_iff, ← UInt8.toNat_inj]; first | (simp; done) | (simp; omega)
            have hgc := hgc0
            rw [hgd] at hgc
            generalize decide (bb = 0) = g at hgc hbz
            have hgg : (g == g) = true := by simp
            clear hgd
            go_wp2_with fail
            refine (hgc.out _).mono ?_
            rintro e w7 ⟨rfl, hb7⟩
            go_wp2_with fail
            go_ret
            exact ⟨rfl, HB6.out.trans (hb7.mono HB6.out.size)⟩
        · have hd0 : decide (0 < (q : Int)) = false := by simp; omega
          have hdq : decide ((q : Int) < (T.size : Int)) = true := by simp; omega
          clear c0 c1 c2 c3 c4 hmx hmn hmq hgc hgd htk
          go_quiet (fail)
          have HB6 := hidp (below_drewN HX5.out nq)
          go_wp2_with fail
          go_ret
          exact ⟨rfl, HB6.out⟩
      · have c3 := hidp (show ∀ W, Calls Try.prog 7 #[.agg #[.string ⟨#[]⟩, .int .i64 0, .int .i64 room], .string T] W fun e w' => e = .returned (.tuple #[.agg #[.string ⟨#[]⟩, .int .i64 0, .int .i64 room], .int .i64 8]) ∧ Below W.heap.size W w' from fun W =>
          write_full W ⟨#[]⟩ 0 room T ⟨by omega, by rw [hnil]; omega, by rw [hnil]; omega, hr1⟩ (by rw [hnil]; omega))
        have hdr : decide (room < (T.size : Int)) = true := by simp; omega
        have q1 := fun W => eq_disk W ⟨#[]⟩ 0 room
        clear hfit
        go_enter Try.func4, Try.ntmps4
        go_wp2_with fail
        refine (c0.out _).mono ?_
        rintro e w1 ⟨rfl, hb1⟩
        have HB1 := hidp hb1; clear hb1
        go_wp2_with fail
        refine (c1.out _).mono ?_
        rintro e w2 ⟨rfl, hb2⟩
        have HB2 := hidp (HB1.out.trans (hb2.mono HB1.out.size)); clear hb2
        have hle2 := HB2.out.size
        go_wp2_with fail
        have HX2 := hidp (HB2.out.alloc hle2 (.cells #[.string ⟨#[]⟩, .int .i64 0, .int .i64 room] 25))
        have Gd2 := hidp (Arr.new w2 25 [.string ⟨#[]⟩, .int .i64 0, .int .i64 room])
        generalize hW2 : (w2.alloc (.cells #[.string ⟨#[]⟩, .int .i64 0, .int .i64 room] 25)) = W2 at HX2 Gd2 ⊢
        clear hW2
        refine (c2.out _).mono ?_
        rintro e w3 ⟨rfl, hb3⟩
        have HB3 := hidp (HX2.out.trans (hb3.mono HX2.out.size))
        have Hd3 := hidp (Gd2.out.below hb3 Gd2.out.lt)
        have hltd := Hd3.out.lt
        clear hb3
        obtain ⟨x0, x1, x2, xf⟩ := arr3 Hd3.out
        clear xf
        have hTT := HT.out
        go_wp2_with fail
        clear x0 x1 x2
        refine (c3.out _).mono ?_
        rintro e w4 ⟨rfl, hb4⟩
        have HB4 := hidp (HB3.out.trans (hb4.mono HB3.out.size))
        have hle4 := HB4.out.size
        have Hd4 := hidp (Hd3.out.below hb4 Hd3.out.lt)
        clear hb4
        obtain ⟨x0, x1, x2, xf⟩ := arr3 Hd4.out
        clear xf
        have hlt4 := Hd4.out.lt
        go_wp2_with fail
        go_ret
        exact ⟨rfl, HB4.out.alloc hle4 _⟩
    · have c1 := hidp (fun W => new_no W room (by omega))
      have c3 := hidp (show ∀ W, Calls Try.prog 7 #[.agg #[.string ⟨#[]⟩, .int .i64 0, .int .i64 0], .string T] W fun e w' => e = .returned (.tuple #[.agg #[.string ⟨#[]⟩, .int .i64 0, .int .i64 0], .int .i64 8]) ∧ Below W.heap.size W w' from fun W =>
          write_full W ⟨#[]⟩ 0 0 T ⟨by omega, by rw [hnil]; omega, by rw [hnil]; omega, by omega⟩ (by rw [hnil]; omega))
      clear hr
      go_enter Try.func4, Try.ntmps4
      go_wp2_with fail
      refine (c0.out _).mono ?_
      rintro e w1 ⟨rfl, hb1⟩
      have HB1 := hidp hb1; clear hb1
      go_wp2_with fail
      refine (c1.out _).mono ?_
      rintro e w2 ⟨rfl, hb2⟩
      have HB2 := hidp (HB1.out.trans (hb2.mono HB1.out.size)); clear hb2
      have hle2 := HB2.out.size
      go_wp2_with fail
      have HX2 := hidp (HB2.out.alloc hle2 (.cells #[.string ⟨#[]⟩, .int .i64 0, .int .i64 0] 25))
      have Gd2 := hidp (Arr.new w2 25 [.string ⟨#[]⟩, .int .i64 0, .int .i64 0])
      generalize hW2 : (w2.alloc (.cells #[.string ⟨#[]⟩, .int .i64 0, .int .i64 0] 25)) = W2 at HX2 Gd2 ⊢
      clear hW2
      refine (c2.out _).mono ?_
      rintro e w3 ⟨rfl, hb3⟩
      have HB3 := hidp (HX2.out.trans (hb3.mono HX2.out.size))
      have Hd3 := hidp (Gd2.out.below hb3 Gd2.out.lt)
      have hltd := Hd3.out.lt
      clear hb3
      obtain ⟨x0, x1, x2, xf⟩ := arr3 Hd3.out
      clear xf
      have hTT := HT.out
      go_wp2_with fail
      clear x0 x1 x2
      refine (c3.out _).mono ?_
      rintro e w4 ⟨rfl, hb4⟩
      have HB4 := hidp (HB3.out.trans (hb4.mono HB3.out.size))
      have hle4 := HB4.out.size
      have Hd4 := hidp (Hd3.out.below hb4 Hd3.out.lt)
      clear hb4
      obtain ⟨x0, x1, x2, xf⟩ := arr3 Hd4.out
      clear xf
      have hlt4 := Hd4.out.lt
      go_wp2_with fail
      go_ret
      exact ⟨rfl, HB4.out.alloc hle4 _⟩
end Go.Proofs.Ytibipoecbcjcmab
