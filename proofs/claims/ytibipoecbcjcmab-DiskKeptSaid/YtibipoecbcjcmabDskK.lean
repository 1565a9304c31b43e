/-
  DiskKept: the walk.
-/
import Derived.Test.YtibipoecbcjcmabDskE
namespace Go.Proofs.Ytibipoecbcjcmab
set_option maxRecDepth 100000
set_option linter.unusedVariables false
set_option linter.unusedSimpArgs false
open Go.RowKit

/-- Acts in memory, four cells each. -/
def ActAt (w : World) (B o : Nat) (k : Int) (t : ByteArray) (n : Int) (b : UInt8) : Prop :=
  w.cell? ⟨B, o, none⟩ = some (.int .i64 k) ∧ w.cell? ⟨B, o + 1, none⟩ = some (.string t) ∧ w.cell? ⟨B, o + 2, none⟩ = some (.int .i64 n) ∧ w.cell? ⟨B, o + 3, none⟩ = some (.int .u8 (b.toNat : Int))
def ActsAt (w : World) (v : Value) (len : Nat) : Prop :=
  (v = .slice none 0 0 ∧ len = 0) ∨ ∃ B o c, v = .slice (some ⟨B, o, none⟩) len c ∧ len ≤ c ∧ B < w.heap.size ∧ ∀ i, i < len → ∃ k t n b, ActAt w B (o + i * 4) k t n b
theorem ActAt.below {w w' : World} {B o C : Nat} {k : Int} {t : ByteArray} {n : Int} {b : UInt8} (h : ActAt w B o k t n b) (hb : Below C w w') (hB : B < C) : ActAt w' B o k t n b :=
  ⟨(hb.cell (p := ⟨B, o, none⟩) hB).trans h.1, (hb.cell (p := ⟨B, o + 1, none⟩) hB).trans h.2.1, (hb.cell (p := ⟨B, o + 2, none⟩) hB).trans h.2.2.1, (hb.cell (p := ⟨B, o + 3, none⟩) hB).trans h.2.2.2⟩

theorem arr4 {w : World} {b T : Nat} {x0 x1 x2 x3 : Value} (h : Arr w b T [x0, x1, x2, x3]) : w.cell? ⟨b, 0, none⟩ = some x0 ∧ w.cell? ⟨b, 1, none⟩ = some x1 ∧ w.cell? ⟨b, 2, none⟩ = some x2 ∧ w.cell? ⟨b, 3, none⟩ = some x3 :=
  ⟨h.cell 0 (by simp), h.cell 1 (by simp), h.cell 2 (by simp), h.cell 3 (by simp)⟩
/-- What holds at a round's head. -/
def KptI (w : World) (b5 : Nat) (room : Int) (len : Nat) (t7 t8 t37 : Value) (wr : World) : Prop := ∃ (i n : Nat) (A K : ByteArray), t37 = .int .i64 i ∧ i ≤ len ∧ t7 = .string K ∧ t8 = .string A ∧ A.extract 0 n = K ∧ K.size = n ∧ n ≤ A.size ∧ (A.size : Int) ≤ room ∧ Arr wr b5 25 [.string A, .int .i64 (n : Int), .int .i64 room] ∧ Below w.heap.size w wr
theorem ext_self (A : ByteArray) : A.extract 0 A.size = A := by
  apply ByteArray.ext; apply Array.toList_inj.1; simp
theorem ext_app (A t : ByteArray) (n : Nat) (h : n ≤ A.size) : (A ++ t).extract 0 n = A.extract 0 n := by
  apply ByteArray.ext; apply Array.toList_inj.1; simp
  first | done | (left; omega)
theorem kept_take (l : List UInt8) (n q : Nat) (b : UInt8) (hq : 0 < q) : (failL l n q b).take (n + q - 1) = l.take (n + q - 1) := by
  unfold failL
  rw [if_pos hq, List.take_set_of_le (by omega), List.take_take, Nat.min_eq_left (by omega)]
set_option maxHeartbeats 8000000 in
theorem kept_some (w : World) (room : Int) (h0 : 0 ≤ room) (h1 : room ≤ 1048576) (B o c len : Nat) (hlen : len ≤ 100) (hc : len ≤ c) (hB : B < w.heap.size) (hl : Hid (∀ i, i < len → ∃ k t n b, ActAt w B (o + i * 4) k t n b)) :
    Calls Try.prog 3 #[.int .i64 room, .slice (some ⟨B, o, none⟩) len c] w fun e w' => e = .returned (.bool true) ∧ Below w.heap.size w w' := by
  have c0 := hidp lives8_any
  have c1 := hidp (fun W => new_ok W room h0 h1)
  have hd : decide ((100 : Int) < (len : Int)) = false := by simp; omega
  go_enter Try.func3, Try.ntmps3
  go_wp2_with fail
  refine (c0.out _).mono ?_
  rintro e w1 ⟨rfl, hb1⟩
  have HB1 := hidp hb1; clear hb1
  go_wp2_with fail
  refine (c1.out _).mono ?_
  rintro e w2 ⟨rfl, hb2⟩
  have HB2 := hidp (HB1.out.trans (hb2.mono HB1.out.size)); clear hb2
  have hle2 := HB2.out.size
  go_wp2_with fail
  have HX2 := hidp (HB2.out.alloc hle2 (.cells #[.string ⟨#[]⟩, .int .i64 0, .int .i64 room] 25))
  have Gd2 := hidp (Arr.new w2 25 [.string ⟨#[]⟩, .int .i64 0, .int .i64 room])
  generalize hW2 : (w2.alloc (.cells #[.string ⟨#[]⟩, .int .i64 0, .int .i64 room] 25)) = W2 at HX2 Gd2 ⊢
  clear hW2
  go_loopw [7, 8, 37] (fun t7 t8 t37 wr => KptI w w2.heap.size room len t7 t8 t37 wr) (fun _ _ t37 _ => len - (intOf t37).toNat)
  case atStart => exact ⟨0, 0, ⟨#[]⟩, ⟨#[]⟩, rfl, by omega, rfl, rfl, rfl, rfl, Nat.le_refl _, h0, Gd2.out, HX2.out⟩
  case round =>
    obtain ⟨i, n, A, K, rfl, hi, rfl, rfl, hK, hKs, hnA, hAr, hArr, hbw⟩ := hrel
    have HA := hidp hArr; have HBW := hidp hbw; have hle := hbw.size
    have HK := hidp hK; have HKS := hidp hKs
    clear hArr hbw hK hKs c0 c1
    have hltA := HA.out.lt
    have hne1 : w2.heap.size ≠ wr.heap.size + 1 := by omega
    have hne2 : wr.heap.size ≠ wr.heap.size + 1 := by omega
    have hne3 : wr.heap.size ≠ w2.heap.size := by omega
    have hne4 : wr.heap.size + 1 ≠ w2.heap.size := by omega
    have hle1 : w.heap.size ≤ wr.heap.size + 1 := by omega
    have okd : Hid (okD A (n : Int) room) := ⟨by omega, by omega, hAr, h1⟩
    have q1 := fun W => neq_disk W A n room
    by_cases hlt : i < len
    · obtain ⟨k, t, m, bb, ha⟩ := hl.out i hlt
      have ha := ha.below HBW.out hB
      obtain ⟨y0, y1, y2, y3⟩ := ha
      obtain ⟨x0, x1, x2, xf⟩ := arr3 HA.out
      clear xf
      by_cases hk0 : k = 0
      · have e0 : (k == 0) = true := by simpa using hk0
        clear hk0
        by_cases ht : (t.size : Int) ≤ room - A.size
        · have cc := hidp (fun W => write_ok W A n room t okd.out ht)
          obtain ⟨U, hU⟩ : ∃ U, A ++ t = U := ⟨_, rfl⟩
          have hUs : U.size = A.size + t.size := by rw [← hU, ByteArray.size_append]
          have hUx : Hid (U.extract 0 n = K) := by rw [← hU, ext_app A t n hnA]; exact HK.out
          rw [hU] at cc
          have hts : t.size ≤ 1048576 := by omega
          have hAs : A.size ≤ 1048576 := by omega
          go_wp2_with fail
          clear x0 x1 x2 y0 y1 y2 y3
          refine (cc.out _).mono ?_
          rintro e w3 ⟨rfl, hb3⟩
          have Hd3 := hidp (((HA.out.alloc (.cells #[.int .i64 k, .string t, .int .i64 m, .int .u8 (bb.toNat : Int)] 30)).alloc (.cells #[.string A, .int .i64 (n : Int), .int .i64 room] 25)).below hb3 (by simp; omega))
          have He3 := hidp (show Arr w3 (wr.heap.size + 1) 25 [.string A, .int .i64 (n : Int), .int .i64 room] from by
            have h := Arr.new (wr.alloc (.cells #[.int .i64 k, .string t, .int .i64 m, .int .u8 (bb.toNat : Int)] 30)) 25 [.string A, .int .i64 (n : Int), .int .i64 room]
            rw [heap_size_alloc] at h
            exact h.below hb3 (by simp))
          have Hx3 := hidp (((Arr.new wr 30 [.int .i64 k, .string t, .int .i64 m, .int .u8 (bb.toNat : Int)]).alloc (.cells #[.string A, .int .i64 (n : Int), .int .i64 room] 25)).below hb3 (by simp; omega))
          have HB3 := hidp (((HBW.out.alloc hle (.cells #[.int .i64 k, .string t, .int .i64 m, .int .u8 (bb.toNat : Int)] 30)).alloc (by simp; omega) (.cells #[.string A, .int .i64 (n : Int), .int .i64 room] 25)).trans (hb3.mono (by simp; omega)))
          clear hb3
          obtain ⟨x0, x1, x2, xf⟩ := arr3 Hd3.out
          have f0 := xf 0; have f1 := xf 1; have f2 := xf 2
          obtain ⟨z0, z1, z2, zf⟩ := arr3 He3.out
          have g0 := zf 0; have g1 := zf 1; have g2 := zf 2
          obtain ⟨y0, y1, y2, y3⟩ := arr4 Hx3.out
          clear xf zf
          have HE := hUx
          have HS := HKS
          have HN := hidp (show n ≤ U.size by omega)
          have HR := hidp (show (U.size : Int) ≤ room by omega)
          clear hUs
          have t1 : (((n : Nat) : Int) != (K.size : Int)) = false := by rw [HS.out]; simp
          have t2 : (0 : Int) ≤ (K.size : Int) := by omega
          have t3 : (K.size : Int) ≤ (U.size : Int) := by have := HS.out; have := HN.out; omega
          have t4 : U.extract 0 K.size = K := by rw [HS.out]; exact HE.out
          have t5 : decide (room < (U.size : Int)) = false := by have := HR.out; simp; omega
          have HD4 := hidp (((Hd3.out.other ⟨wr.heap.size + 1, 0, none⟩ hne1 (.string U)).other ⟨wr.heap.size + 1, 1, none⟩ hne1 (.int .i64 (n : Int))).other ⟨wr.heap.size + 1, 2, none⟩ hne1 (.int .i64 room))
          have HB4 := hidp (((HB3.out.setCell (p := ⟨wr.heap.size + 1, 0, none⟩) hle1 (.string U)).setCell (p := ⟨wr.heap.size + 1, 1, none⟩) hle1 (.int .i64 (n : Int))).setCell (p := ⟨wr.heap.size + 1, 2, none⟩) hle1 (.int .i64 room))
          have HD5 := hidp (arr3_set HD4.out (.string U) (.int .i64 (n : Int)) (.int .i64 room))
          have HB5 := hidp (((HB4.out.setCell (p := ⟨w2.heap.size, 0, none⟩) hle2 (.string U)).setCell (p := ⟨w2.heap.size, 1, none⟩) hle2 (.int .i64 (n : Int))).setCell (p := ⟨w2.heap.size, 2, none⟩) hle2 (.int .i64 room))
          go_wp2_with fail
          exact ⟨⟨i + 1, n, U, K, by go_num, by omega, rfl, rfl, HE.out, HS.out, HN.out, HR.out, HD5.out, HB5.out⟩, by simp [intOf]; omega⟩
        · have cc := hidp (fun W => write_full W A n room t okd.out (by omega))
          clear ht
          go_wp2_with fail
          clear x0 x1 x2 y0 y1 y2 y3
          refine (cc.out _).mono ?_
          rintro e w3 ⟨rfl, hb3⟩
          have Hd3 := hidp (((HA.out.alloc (.cells #[.int .i64 k, .string t, .int .i64 m, .int .u8 (bb.toNat : Int)] 30)).alloc (.cells #[.string A, .int .i64 (n : Int), .int .i64 room] 25)).below hb3 (by simp; omega))
          have He3 := hidp (show Arr w3 (wr.heap.size + 1) 25 [.string A, .int .i64 (n : Int), .int .i64 room] from by
            have h := Arr.new (wr.alloc (.cells #[.int .i64 k, .string t, .int .i64 m, .int .u8 (bb.toNat : Int)] 30)) 25 [.string A, .int .i64 (n : Int), .int .i64 room]
            rw [heap_size_alloc] at h
            exact h.below hb3 (by simp))
          have Hx3 := hidp (((Arr.new wr 30 [.int .i64 k, .string t, .int .i64 m, .int .u8 (bb.toNat : Int)]).alloc (.cells #[.string A, .int .i64 (n : Int), .int .i64 room] 25)).below hb3 (by simp; omega))
          have HB3 := hidp (((HBW.out.alloc hle (.cells #[.int .i64 k, .string t, .int .i64 m, .int .u8 (bb.toNat : Int)] 30)).alloc (by simp; omega) (.cells #[.string A, .int .i64 (n : Int), .int .i64 room] 25)).trans (hb3.mono (by simp; omega)))
          clear hb3
          obtain ⟨x0, x1, x2, xf⟩ := arr3 Hd3.out
          have f0 := xf 0; have f1 := xf 1; have f2 := xf 2
          obtain ⟨z0, z1, z2, zf⟩ := arr3 He3.out
          have g0 := zf 0; have g1 := zf 1; have g2 := zf 2
          obtain ⟨y0, y1, y2, y3⟩ := arr4 Hx3.out
          clear xf zf
          have HE := HK
          have HS := HKS
          have HN := hidp hnA
          have HR := hidp hAr
          have t1 : (((n : Nat) : Int) != (K.size : Int)) = false := by rw [HS.out]; simp
          have t2 : (0 : Int) ≤ (K.size : Int) := by omega
          have t3 : (K.size : Int) ≤ (A.size : Int) := by have := HS.out; have := HN.out; omega
          have t4 : A.extract 0 K.size = K := by rw [HS.out]; exact HE.out
          have t5 : decide (room < (A.size : Int)) = false := by have := HR.out; simp; omega
          have HD4 := hidp (((Hd3.out.other ⟨wr.heap.size + 1, 0, none⟩ hne1 (.string A)).other ⟨wr.heap.size + 1, 1, none⟩ hne1 (.int .i64 (n : Int))).other ⟨wr.heap.size + 1, 2, none⟩ hne1 (.int .i64 room))
          have HB4 := hidp (((HB3.out.setCell (p := ⟨wr.heap.size + 1, 0, none⟩) hle1 (.string A)).setCell (p := ⟨wr.heap.size + 1, 1, none⟩) hle1 (.int .i64 (n : Int))).setCell (p := ⟨wr.heap.size + 1, 2, none⟩) hle1 (.int .i64 room))
          have HD5 := hidp (arr3_set HD4.out (.string A) (.int .i64 (n : Int)) (.int .i64 room))
          have HB5 := hidp (((HB4.out.setCell (p := ⟨w2.heap.size, 0, none⟩) hle2 (.string A)).setCell (p := ⟨w2.heap.size, 1, none⟩) hle2 (.int .i64 (n : Int))).setCell (p := ⟨w2.heap.size, 2, none⟩) hle2 (.int .i64 room))
          go_wp2_with fail
          exact ⟨⟨i + 1, n, A, K, by go_num, by omega, rfl, rfl, HE.out, HS.out, HN.out, HR.out, HD5.out, HB5.out⟩, by simp [intOf]; omega⟩
      · have e0 : (k == 0) = false := by simpa using hk0
        clear hk0
        by_cases hk1 : k = 1
        · have e1 : (k == 1) = true := by simpa using hk1
          clear hk1
          have cc := hidp (fun W => sync_ok W A n room okd.out)
          go_wp2_with fail
          clear x0 x1 x2 y0 y1 y2 y3
          refine (cc.out _).mono ?_
          rintro e w3 ⟨rfl, hb3⟩
          have Hd3 := hidp (((HA.out.alloc (.cells #[.int .i64 k, .string t, .int .i64 m, .int .u8 (bb.toNat : Int)] 30)).alloc (.cells #[.string A, .int .i64 (n : Int), .int .i64 room] 25)).below hb3 (by simp; omega))
          have He3 := hidp (show Arr w3 (wr.heap.size + 1) 25 [.string A, .int .i64 (n : Int), .int .i64 room] from by
            have h := Arr.new (wr.alloc (.cells #[.int .i64 k, .string t, .int .i64 m, .int .u8 (bb.toNat : Int)] 30)) 25 [.string A, .int .i64 (n : Int), .int .i64 room]
            rw [heap_size_alloc] at h
            exact h.below hb3 (by simp))
          have Hx3 := hidp (((Arr.new wr 30 [.int .i64 k, .string t, .int .i64 m, .int .u8 (bb.toNat : Int)]).alloc (.cells #[.string A, .int .i64 (n : Int), .int .i64 room] 25)).below hb3 (by simp; omega))
          have HB3 := hidp (((HBW.out.alloc hle (.cells #[.int .i64 k, .string t, .int .i64 m, .int .u8 (bb.toNat : Int)] 30)).alloc (by simp; omega) (.cells #[.string A, .int .i64 (n : Int), .int .i64 room] 25)).trans (hb3.mono (by simp; omega)))
          clear hb3
          obtain ⟨x0, x1, x2, xf⟩ := arr3 Hd3.out
          have f0 := xf 0; have f1 := xf 1; have f2 := xf 2
          obtain ⟨z0, z1, z2, zf⟩ := arr3 He3.out
          have g0 := zf 0; have g1 := zf 1; have g2 := zf 2
          obtain ⟨y0, y1, y2, y3⟩ := arr4 Hx3.out
          clear xf zf
          have HE := hidp (ext_self A)
          have HS := hidp (rfl : A.size = A.size)
          have HN := hidp (Nat.le_refl A.size)
          have HR := hidp hAr
          have t1 : (((A.size : Nat) : Int) != (A.size : Int)) = false := by rw [HS.out]; simp
          have t2 : (0 : Int) ≤ (A.size : Int) := by omega
          have t3 : (A.size : Int) ≤ (A.size : Int) := by have := HS.out; have := HN.out; omega
          have t4 : A.extract 0 A.size = A := by rw [HS.out]; exact HE.out
          have t5 : decide (room < (A.size : Int)) = false := by have := HR.out; simp; omega
          have HD4 := hidp (((Hd3.out.other ⟨wr.heap.size + 1, 0, none⟩ hne1 (.string A)).other ⟨wr.heap.size + 1, 1, none⟩ hne1 (.int .i64 (A.size : Int))).other ⟨wr.heap.size + 1, 2, none⟩ hne1 (.int .i64 room))
          have HB4 := hidp (((HB3.out.setCell (p := ⟨wr.heap.size + 1, 0, none⟩) hle1 (.string A)).setCell (p := ⟨wr.heap.size + 1, 1, none⟩) hle1 (.int .i64 (A.size : Int))).setCell (p := ⟨wr.heap.size + 1, 2, none⟩) hle1 (.int .i64 room))
          have HD5 := hidp (arr3_set HD4.out (.string A) (.int .i64 (A.size : Int)) (.int .i64 room))
          have HB5 := hidp (((HB4.out.setCell (p := ⟨w2.heap.size, 0, none⟩) hle2 (.string A)).setCell (p := ⟨w2.heap.size, 1, none⟩) hle2 (.int .i64 (A.size : Int))).setCell (p := ⟨w2.heap.size, 2, none⟩) hle2 (.int .i64 room))
          go_wp2_with fail
          exact ⟨⟨i + 1, A.size, A, A, by go_num, by omega, rfl, rfl, HE.out, rfl, HN.out, HR.out, HD5.out, HB5.out⟩, by simp [intOf]; omega⟩
        · have e1 : (k == 1) = false := by simpa using hk1
          clear hk1
          by_cases hk2 : k = 2
          · have e2 : (k == 2) = true := by simpa using hk2
            clear hk2
            have cc := hidp (fun W => fail_ok W A n room m bb okd.out)
            obtain ⟨q, hq⟩ : ∃ q, keepN A.size n m = q := ⟨_, rfl⟩
            have hqA : n + q ≤ A.size := by have : keepN A.size n m ≤ A.size - n := by unfold keepN; omega
                                            omega
            rw [hq] at cc
            have hFs := failL_len A.data.toList n q bb (by simpa using hqA)
            have hFt := hidp (show 0 < q → (mkS (failL A.data.toList n q bb)).extract 0 (n + q - 1) = A.extract 0 (n + q - 1) from fun h0 => by
              apply ByteArray.ext; apply Array.toList_inj.1
              have := kept_take A.data.toList n q bb h0
              simpa [mkS] using this)
            rw [← mkS_size] at hFs
            obtain ⟨F, hF⟩ : ∃ F, mkS (failL A.data.toList n q bb) = F := ⟨_, rfl⟩
            rw [hF] at cc hFs hFt
            obtain ⟨N, hN⟩ : ∃ N, n + q = N := ⟨_, rfl⟩
            rw [hN] at cc hFs hFt
            have hFS := hidp hFs
            have hAs : A.size ≤ 1048576 := by omega
            have hNA : N ≤ A.size := by omega
            have hF1 : F.size ≤ N := by omega
            have hF2 : N ≤ F.size := by omega
            have hK1 : K.size ≤ n := by have := HKS.out; omega
            have hK2 : n ≤ K.size := by have := HKS.out; omega
            have u1 : decide ((F.size : Int) < (K.size : Int)) = false := by simp; omega
            have u2 : decide ((A.size : Int) < (F.size : Int)) = false := by simp; omega
            have u1n : decide (F.size < K.size) = false := by simp; omega
            have u2n : decide (A.size < F.size) = false := by simp; omega
            clear hF hq hFs
            go_wp2_with fail
            clear x0 x1 x2 y0 y1 y2 y3
            refine (cc.out _).mono ?_
            rintro e w3 ⟨rfl, hb3⟩
            have Hd3 := hidp (((HA.out.alloc (.cells #[.int .i64 k, .string t, .int .i64 m, .int .u8 (bb.toNat : Int)] 30)).alloc (.cells #[.string A, .int .i64 (n : Int), .int .i64 room] 25)).below hb3 (by simp; omega))
            have He3 := hidp (show Arr w3 (wr.heap.size + 1) 25 [.string A, .int .i64 (n : Int), .int .i64 room] from by
              have h := Arr.new (wr.alloc (.cells #[.int .i64 k, .string t, .int .i64 m, .int .u8 (bb.toNat : Int)] 30)) 25 [.string A, .int .i64 (n : Int), .int .i64 room]
              rw [heap_size_alloc] at h
              exact h.below hb3 (by simp))
            have Hx3 := hidp (((Arr.new wr 30 [.int .i64 k, .string t, .int .i64 m, .int .u8 (bb.toNat : Int)]).alloc (.cells #[.string A, .int .i64 (n : Int), .int .i64 room] 25)).below hb3 (by simp; omega))
            have HB3 := hidp (((HBW.out.alloc hle (.cells #[.int .i64 k, .string t, .int .i64 m, .int .u8 (bb.toNat : Int)] 30)).alloc (by simp; omega) (.cells #[.string A, .int .i64 (n : Int), .int .i64 room] 25)).trans (hb3.mono (by simp; omega)))
            clear hb3
            obtain ⟨x0, x1, x2, xf⟩ := arr3 Hd3.out
            have f0 := xf 0; have f1 := xf 1; have f2 := xf 2
            obtain ⟨z0, z1, z2, zf⟩ := arr3 He3.out
            have g0 := zf 0; have g1 := zf 1; have g2 := zf 2
            obtain ⟨y0, y1, y2, y3⟩ := arr4 Hx3.out
            clear xf zf
            go_wp2_with fail
            clear x0 x1 x2 f0 f1 f2 z0 z1 z2 g0 g1 g2 y0 y1 y2 y3
            have He4 := hidp (arr3_set He3.out (.string F) (.int .i64 (N : Int)) (.int .i64 room))
            have Hd4 := hidp (((Hd3.out.other ⟨wr.heap.size + 1, 0, none⟩ hne1 (.string F)).other ⟨wr.heap.size + 1, 1, none⟩ hne1 (.int .i64 (N : Int))).other ⟨wr.heap.size + 1, 2, none⟩ hne1 (.int .i64 room))
            have Hx4 := hidp (((Hx3.out.other ⟨wr.heap.size + 1, 0, none⟩ hne2 (.string F)).other ⟨wr.heap.size + 1, 1, none⟩ hne2 (.int .i64 (N : Int))).other ⟨wr.heap.size + 1, 2, none⟩ hne2 (.int .i64 room))
            have HB4 := hidp (((HB3.out.setCell (p := ⟨wr.heap.size + 1, 0, none⟩) hle1 (.string F)).setCell (p := ⟨wr.heap.size + 1, 1, none⟩) hle1 (.int .i64 (N : Int))).setCell (p := ⟨wr.heap.size + 1, 2, none⟩) hle1 (.int .i64 room))
            generalize hW4 : (((w3.setCell ⟨wr.heap.size + 1, 0, none⟩ (.string F)).setCell ⟨wr.heap.size + 1, 1, none⟩ (.int .i64 (N : Int))).setCell ⟨wr.heap.size + 1, 2, none⟩ (.int .i64 room)) = W4 at He4 Hd4 Hx4 HB4 ⊢
            clear hW4
            by_cases hq0 : 0 < q
            · have u3 : decide ((K.size : Int) < (F.size : Int)) = true := by simp; omega
              have u3n : decide (K.size < F.size) = true := by simp; omega
              have v11 : IntKind.i64.wrap ((F.size : Int) - 1) = (F.size : Int) - 1 := IntWalk.i64_in _ (by omega)
              have v1 : (0 : Int) ≤ (F.size : Int) - 1 := by omega
              have v2 : (1 : Int) ≤ (F.size : Int) := by omega
              have v3 : (F.size : Int) - 1 ≤ (F.size : Int) := by omega
              have v4 : (F.size : Int) - 1 ≤ (A.size : Int) := by omega
              have v5 : (F.size : Int) ≤ (A.size : Int) + 1 := by omega
              have v6 : ((F.size : Int) - 1).toNat = F.size - 1 := by omega
              have hFt := hFt.out hq0
              rw [← hFS.out] at hFt
              have ca := hidp (show ∀ W, Cls W4.heap.size W4 W → W.cell? ⟨wr.heap.size + 1, 0, none⟩ = some (.string F) from fun W h => (arr3 (He4.out.below h He4.out.lt)).1)
              obtain ⟨z0, z1, z2, zf⟩ := arr3 He4.out
              clear zf
              refine wp_region_quiet (C := Cls W4.heap.size W4) (by kernel_rfl) (by kernel_rfl) (Cls.start _ _) ?_
              simp only []
              repeat (first
                | (apply q_val
                   · rfl
                   · intro w hw; have hx := ca.out w hw; go_simp; first | done | with_reducible rfl | rfl
                   simp only [Act.put, List.setIfInBounds_toArray, List.set_cons_zero, List.set_cons_succ])
                | (refine q_skip ?_ ?_
                   · rfl
                   simp only [Act.put, List.setIfInBounds_toArray, List.set_cons_zero, List.set_cons_succ]))
              refine wpQuiet_nil ?_
              intro W5 hC
              have hs5 := HB4.out.size
              have He5 := hidp (He4.out.below hC He4.out.lt)
              have Hd5 := hidp (Hd4.out.below hC Hd4.out.lt)
              have Hx5 := hidp (Hx4.out.below hC Hx4.out.lt)
              have HB5 := hidp (HB4.out.trans (Below.mono hC hs5))
              clear hC ca z0 z1 z2
              obtain ⟨z0, z1, z2, zf⟩ := arr3 He5.out
              clear zf
              go_wp2_with fail
              go_quiet (fail)
              clear z0 z1 z2
              obtain ⟨W6, hW6⟩ : ∃ W, W5.drewN nq = W := ⟨_, rfl⟩
              have bd := below_drewN (Below.refl W5.heap.size W5) nq
              rw [hW6] at bd ⊢
              have He6 := hidp (He5.out.below bd He5.out.lt)
              have Hd6 := hidp (Hd5.out.below bd Hd5.out.lt)
              have Hx6 := hidp (Hx5.out.below bd Hx5.out.lt)
              have HB6 := hidp (HB5.out.trans (bd.mono HB5.out.size))
              clear hW6 bd nq
              have HE := hidp (show F.extract 0 N = F from by rw [← hFS.out]; exact ext_self F)
              have HS := hFS
              have HN := hidp (show N ≤ F.size by omega)
              have HR := hidp (show (F.size : Int) ≤ room by omega)
              have t1 : (((N : Nat) : Int) != (F.size : Int)) = false := by rw [HS.out]; simp
              have t2 : (0 : Int) ≤ (F.size : Int) := by omega
              have t3 : (F.size : Int) ≤ (F.size : Int) := by have := HS.out; have := HN.out; omega
              have t4 : F.extract 0 F.size = F := by rw [HS.out]; exact HE.out
              have t5 : decide (room < (F.size : Int)) = false := by have := HR.out; simp; omega
              obtain ⟨x0, x1, x2, xf⟩ := arr3 Hd6.out
              have f0 := xf 0; have f1 := xf 1; have f2 := xf 2
              obtain ⟨z0, z1, z2, zf⟩ := arr3 He6.out
              have g0 := zf 0; have g1 := zf 1; have g2 := zf 2
              obtain ⟨y0, y1, y2, y3⟩ := arr4 Hx6.out
              clear xf zf
              have HD5 := hidp (arr3_set Hd6.out (.string F) (.int .i64 (N : Int)) (.int .i64 room))
              have HB5 := hidp (((HB6.out.setCell (p := ⟨w2.heap.size, 0, none⟩) hle2 (.string F)).setCell (p := ⟨w2.heap.size, 1, none⟩) hle2 (.int .i64 (N : Int))).setCell (p := ⟨w2.heap.size, 2, none⟩) hle2 (.int .i64 room))
              go_wp2_with fail
              exact ⟨⟨i + 1, N, F, F, by go_num, by omega, rfl, rfl, HE.out, HS.out, HN.out, HR.out, HD5.out, HB5.out⟩, by simp [intOf]; omega⟩
            · have u3 : decide ((K.size : Int) < (F.size : Int)) = false := by simp; omega
              have u3n : decide (K.size < F.size) = false := by simp; omega
              obtain ⟨z0, z1, z2, zf⟩ := arr3 He4.out
              clear zf hFt
              go_quiet (fail)
              clear z0 z1 z2
              obtain ⟨W5, hW5⟩ : ∃ W, W4.drewN nq = W := ⟨_, rfl⟩
              have bd := below_drewN (Below.refl W4.heap.size W4) nq
              rw [hW5] at bd ⊢
              have He5 := hidp (He4.out.below bd He4.out.lt)
              have Hd5 := hidp (Hd4.out.below bd Hd4.out.lt)
              have Hx5 := hidp (Hx4.out.below bd Hx4.out.lt)
              have HB5 := hidp (HB4.out.trans (bd.mono HB4.out.size))
              clear hW5 bd nq
              obtain ⟨z0, z1, z2, zf⟩ := arr3 He5.out
              clear zf
              go_wp2_with fail
              go_quiet (fail)
              clear z0 z1 z2
              obtain ⟨W6, hW6⟩ : ∃ W, W5.drewN nq = W := ⟨_, rfl⟩
              have bd := below_drewN (Below.refl W5.heap.size W5) nq
              rw [hW6] at bd ⊢
              have He6 := hidp (He5.out.below bd He5.out.lt)
              have Hd6 := hidp (Hd5.out.below bd Hd5.out.lt)
              have Hx6 := hidp (Hx5.out.below bd Hx5.out.lt)
              have HB6 := hidp (HB5.out.trans (bd.mono HB5.out.size))
              clear hW6 bd nq
              have HE := hidp (show F.extract 0 N = F from by rw [← hFS.out]; exact ext_self F)
              have HS := hFS
              have HN := hidp (show N ≤ F.size by omega)
              have HR := hidp (show (F.size : Int) ≤ room by omega)
              have t1 : (((N : Nat) : Int) != (F.size : Int)) = false := by rw [HS.out]; simp
              have t2 : (0 : Int) ≤ (F.size : Int) := by omega
              have t3 : (F.size : Int) ≤ (F.size : Int) := by have := HS.out; have := HN.out; omega
              have t4 : F.extract 0 F.size = F := by rw [HS.out]; exact HE.out
              have t5 : decide (room < (F.size : Int)) = false := by have := HR.out; simp; omega
              obtain ⟨x0, x1, x2, xf⟩ := arr3 Hd6.out
              have f0 := xf 0; have f1 := xf 1; have f2 := xf 2
              obtain ⟨z0, z1, z2, zf⟩ := arr3 He6.out
              have g0 := zf 0; have g1 := zf 1; have g2 := zf 2
              obtain ⟨y0, y1, y2, y3⟩ := arr4 Hx6.out
              clear xf zf
              have HD5 := hidp (arr3_set Hd6.out (.string F) (.int .i64 (N : Int)) (.int .i64 room))
              have HB5 := hidp (((HB6.out.setCell (p := ⟨w2.heap.size, 0, none⟩) hle2 (.string F)).setCell (p := ⟨w2.heap.size, 1, none⟩) hle2 (.int .i64 (N : Int))).setCell (p := ⟨w2.heap.size, 2, none⟩) hle2 (.int .i64 room))
              go_wp2_with fail
              exact ⟨⟨i + 1, N, F, F, by go_num, by omega, rfl, rfl, HE.out, HS.out, HN.out, HR.out, HD5.out, HB5.out⟩, by simp [intOf]; omega⟩
          · have e2 : (k == 2) = false := by simpa using hk2
            clear hk2
            by_cases hk3 : k = 3
            · have e3 : (k == 3) = true := by simpa using hk3
              clear hk3
              by_cases ht : (t.size : Int) ≤ room
              · have cc := hidp (fun W => swap_ok W A n room t okd.out ht)
                have hts : t.size ≤ 1048576 := by omega
                go_wp2_with fail
                clear x0 x1 x2 y0 y1 y2 y3
                refine (cc.out _).mono ?_
                rintro e w3 ⟨rfl, hb3⟩
                have Hd3 := hidp (((HA.out.alloc (.cells #[.int .i64 k, .string t, .int .i64 m, .int .u8 (bb.toNat : Int)] 30)).alloc (.cells #[.string A, .int .i64 (n : Int), .int .i64 room] 25)).below hb3 (by simp; omega))
                have He3 := hidp (show Arr w3 (wr.heap.size + 1) 25 [.string A, .int .i64 (n : Int), .int .i64 room] from by
                  have h := Arr.new (wr.alloc (.cells #[.int .i64 k, .string t, .int .i64 m, .int .u8 (bb.toNat : Int)] 30)) 25 [.string A, .int .i64 (n : Int), .int .i64 room]
                  rw [heap_size_alloc] at h
                  exact h.below hb3 (by simp))
                have Hx3 := hidp (((Arr.new wr 30 [.int .i64 k, .string t, .int .i64 m, .int .u8 (bb.toNat : Int)]).alloc (.cells #[.string A, .int .i64 (n : Int), .int .i64 room] 25)).below hb3 (by simp; omega))
                have HB3 := hidp (((HBW.out.alloc hle (.cells #[.int .i64 k, .string t, .int .i64 m, .int .u8 (bb.toNat : Int)] 30)).alloc (by simp; omega) (.cells #[.string A, .int .i64 (n : Int), .int .i64 room] 25)).trans (hb3.mono (by simp; omega)))
                clear hb3
                obtain ⟨x0, x1, x2, xf⟩ := arr3 Hd3.out
                have f0 := xf 0; have f1 := xf 1; have f2 := xf 2
                obtain ⟨z0, z1, z2, zf⟩ := arr3 He3.out
                have g0 := zf 0; have g1 := zf 1; have g2 := zf 2
                obtain ⟨y0, y1, y2, y3⟩ := arr4 Hx3.out
                clear xf zf
                go_wp2_with fail
                clear x0 x1 x2 f0 f1 f2 z0 z1 z2 g0 g1 g2 y0 y1 y2 y3
                have He4 := hidp (arr3_set He3.out (.string t) (.int .i64 (t.size : Int)) (.int .i64 room))
                have Hd4 := hidp (((Hd3.out.other ⟨wr.heap.size + 1, 0, none⟩ hne1 (.string t)).other ⟨wr.heap.size + 1, 1, none⟩ hne1 (.int .i64 (t.size : Int))).other ⟨wr.heap.size + 1, 2, none⟩ hne1 (.int .i64 room))
                have Hx4 := hidp (((Hx3.out.other ⟨wr.heap.size + 1, 0, none⟩ hne2 (.string t)).other ⟨wr.heap.size + 1, 1, none⟩ hne2 (.int .i64 (t.size : Int))).other ⟨wr.heap.size + 1, 2, none⟩ hne2 (.int .i64 room))
                have HB4 := hidp (((HB3.out.setCell (p := ⟨wr.heap.size + 1, 0, none⟩) hle1 (.string t)).setCell (p := ⟨wr.heap.size + 1, 1, none⟩) hle1 (.int .i64 (t.size : Int))).setCell (p := ⟨wr.heap.size + 1, 2, none⟩) hle1 (.int .i64 room))
                generalize hW4 : (((w3.setCell ⟨wr.heap.size + 1, 0, none⟩ (.string t)).setCell ⟨wr.heap.size + 1, 1, none⟩ (.int .i64 (t.size : Int))).setCell ⟨wr.heap.size + 1, 2, none⟩ (.int .i64 room)) = W4 at He4 Hd4 Hx4 HB4 ⊢
                clear hW4
                obtain ⟨y0, y1, y2, y3⟩ := arr4 Hx4.out
                go_quiet (fail)
                clear y0 y1 y2 y3
                obtain ⟨W5, hW5⟩ : ∃ W, W4.drewN nq = W := ⟨_, rfl⟩
                have bd := below_drewN (Below.refl W4.heap.size W4) nq
                rw [hW5] at bd ⊢
                have He5 := hidp (He4.out.below bd He4.out.lt)
                have Hd5 := hidp (Hd4.out.below bd Hd4.out.lt)
                have Hx5 := hidp (Hx4.out.below bd Hx4.out.lt)
                have HB5 := hidp (HB4.out.trans (bd.mono HB4.out.size))
                clear hW5 bd nq
                have HE := hidp (ext_self t)
                have HS := hidp (rfl : t.size = t.size)
                have HN := hidp (Nat.le_refl t.size)
                have HR := hidp ht
                have t1 : (((t.size : Nat) : Int) != (t.size : Int)) = false := by rw [HS.out]; simp
                have t2 : (0 : Int) ≤ (t.size : Int) := by omega
                have t3 : (t.size : Int) ≤ (t.size : Int) := by have := HS.out; have := HN.out; omega
                have t4 : t.extract 0 t.size = t := by rw [HS.out]; exact HE.out
                have t5 : decide (room < (t.size : Int)) = false := by have := HR.out; simp; omega
                obtain ⟨x0, x1, x2, xf⟩ := arr3 Hd5.out
                have f0 := xf 0; have f1 := xf 1; have f2 := xf 2
                obtain ⟨z0, z1, z2, zf⟩ := arr3 He5.out
                have g0 := zf 0; have g1 := zf 1; have g2 := zf 2
                obtain ⟨y0, y1, y2, y3⟩ := arr4 Hx5.out
                clear xf zf
                have HD5 := hidp (arr3_set Hd5.out (.string t) (.int .i64 (t.size : Int)) (.int .i64 room))
                have HB5 := hidp (((HB5.out.setCell (p := ⟨w2.heap.size, 0, none⟩) hle2 (.string t)).setCell (p := ⟨w2.heap.size, 1, none⟩) hle2 (.int .i64 (t.size : Int))).setCell (p := ⟨w2.heap.size, 2, none⟩) hle2 (.int .i64 room))
                go_wp2_with fail
                exact ⟨⟨i + 1, t.size, t, t, by go_num, by omega, rfl, rfl, HE.out, rfl, HN.out, HR.out, HD5.out, HB5.out⟩, by simp [intOf]; omega⟩
              · have cc := hidp (fun W => swap_full W A n room t okd.out (by omega))
                clear ht
                go_wp2_with fail
                clear x0 x1 x2 y0 y1 y2 y3
                refine (cc.out _).mono ?_
                rintro e w3 ⟨rfl, hb3⟩
                have Hd3 := hidp (((HA.out.alloc (.cells #[.int .i64 k, .string t, .int .i64 m, .int .u8 (bb.toNat : Int)] 30)).alloc (.cells #[.string A, .int .i64 (n : Int), .int .i64 room] 25)).below hb3 (by simp; omega))
                have He3 := hidp (show Arr w3 (wr.heap.size + 1) 25 [.string A, .int .i64 (n : Int), .int .i64 room] from by
                  have h := Arr.new (wr.alloc (.cells #[.int .i64 k, .string t, .int .i64 m, .int .u8 (bb.toNat : Int)] 30)) 25 [.string A, .int .i64 (n : Int), .int .i64 room]
                  rw [heap_size_alloc] at h
                  exact h.below hb3 (by simp))
                have Hx3 := hidp (((Arr.new wr 30 [.int .i64 k, .string t, .int .i64 m, .int .u8 (bb.toNat : Int)]).alloc (.cells #[.string A, .int .i64 (n : Int), .int .i64 room] 25)).below hb3 (by simp; omega))
                have HB3 := hidp (((HBW.out.alloc hle (.cells #[.int .i64 k, .string t, .int .i64 m, .int .u8 (bb.toNat : Int)] 30)).alloc (by simp; omega) (.cells #[.string A, .int .i64 (n : Int), .int .i64 room] 25)).trans (hb3.mono (by simp; omega)))
                clear hb3
                obtain ⟨x0, x1, x2, xf⟩ := arr3 Hd3.out
                have f0 := xf 0; have f1 := xf 1; have f2 := xf 2
                obtain ⟨z0, z1, z2, zf⟩ := arr3 He3.out
                have g0 := zf 0; have g1 := zf 1; have g2 := zf 2
                obtain ⟨y0, y1, y2, y3⟩ := arr4 Hx3.out
                clear xf zf
                have HE := HK
                have HS := HKS
                have HN := hidp hnA
                have HR := hidp hAr
                have t1 : (((n : Nat) : Int) != (K.size : Int)) = false := by rw [HS.out]; simp
                have t2 : (0 : Int) ≤ (K.size : Int) := by omega
                have t3 : (K.size : Int) ≤ (A.size : Int) := by have := HS.out; have := HN.out; omega
                have t4 : A.extract 0 K.size = K := by rw [HS.out]; exact HE.out
                have t5 : decide (room < (A.size : Int)) = false := by have := HR.out; simp; omega
                have HD4 := hidp (((Hd3.out.other ⟨wr.heap.size + 1, 0, none⟩ hne1 (.string A)).other ⟨wr.heap.size + 1, 1, none⟩ hne1 (.int .i64 (n : Int))).other ⟨wr.heap.size + 1, 2, none⟩ hne1 (.int .i64 room))
                have HB4 := hidp (((HB3.out.setCell (p := ⟨wr.heap.size + 1, 0, none⟩) hle1 (.string A)).setCell (p := ⟨wr.heap.size + 1, 1, none⟩) hle1 (.int .i64 (n : Int))).setCell (p := ⟨wr.heap.size + 1, 2, none⟩) hle1 (.int .i64 room))
                have HD5 := hidp (arr3_set HD4.out (.string A) (.int .i64 (n : Int)) (.int .i64 room))
                have HB5 := hidp (((HB4.out.setCell (p := ⟨w2.heap.size, 0, none⟩) hle2 (.string A)).setCell (p := ⟨w2.heap.size, 1, none⟩) hle2 (.int .i64 (n : Int))).setCell (p := ⟨w2.heap.size, 2, none⟩) hle2 (.int .i64 room))
                go_wp2_with fail
                exact ⟨⟨i + 1, n, A, K, by go_num, by omega, rfl, rfl, HE.out, HS.out, HN.out, HR.out, HD5.out, HB5.out⟩, by simp [intOf]; omega⟩
            · have e3 : (k == 3) = false := by simpa using hk3
              clear hk3
              have HE := HK
              have HS := HKS
              have HN := hidp hnA
              have HR := hidp hAr
              have t1 : (((n : Nat) : Int) != (K.size : Int)) = false := by rw [HS.out]; simp
              have t2 : (0 : Int) ≤ (K.size : Int) := by omega
              have t3 : (K.size : Int) ≤ (A.size : Int) := by have := HS.out; have := HN.out; omega
              have t4 : A.extract 0 K.size = K := by rw [HS.out]; exact HE.out
              have t5 : decide (room < (A.size : Int)) = false := by have := HR.out; simp; omega
              have f0 := HA.out.frozen 0
              have f1 := HA.out.frozen 1
              have f2 := HA.out.frozen 2
              have HD5 := hidp (((arr3_set HA.out (.string A) (.int .i64 (n : Int)) (.int .i64 room)).alloc (.cells #[.int .i64 k, .string t, .int .i64 m, .int .u8 (bb.toNat : Int)] 30)).alloc (.cells #[.string A, .int .i64 (n : Int), .int .i64 room] 25))
              have HB5 := hidp (((((HBW.out.setCell (p := ⟨w2.heap.size, 0, none⟩) hle2 (.string A)).setCell (p := ⟨w2.heap.size, 1, none⟩) hle2 (.int .i64 (n : Int))).setCell (p := ⟨w2.heap.size, 2, none⟩) hle2 (.int .i64 room)).alloc (by simp; omega) (.cells #[.int .i64 k, .string t, .int .i64 m, .int .u8 (bb.toNat : Int)] 30)).alloc (by simp; omega) (.cells #[.string A, .int .i64 (n : Int), .int .i64 room] 25))
              go_wp2_with fail
              exact ⟨⟨i + 1, n, A, K, by go_num, by omega, rfl, rfl, HE.out, HS.out, HN.out, HR.out, HD5.out, HB5.out⟩, by simp [intOf]; omega⟩
    · obtain rfl : i = len := by omega
      go_wp2_with fail
      go_ret
      exact ⟨rfl, HBW.out⟩
end Go.Proofs.Ytibipoecbcjcmab
