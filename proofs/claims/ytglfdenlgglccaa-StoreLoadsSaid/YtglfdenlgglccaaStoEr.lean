
/-
  the document's Compact.
-/
import Derived.Test.YtglfdenlgglccaaStoDr
namespace Go.Proofs.Ytglfdenlgglccaa
set_option maxRecDepth 100000
set_option linter.unusedVariables false
set_option linter.unusedSimpArgs false
open Go.RowKit

set_option maxHeartbeats 4000000 in
theorem rcomp_no (w : World) (s : ByteArray) (y r : Int) (h : ¬ okD s y r) :
    Calls Try.prog 12 #[.agg #[.string s, .int .i64 y, .int .i64 r]] w fun e w' => e = .returned (.tuple #[.agg #[.string ⟨#[]⟩, .int .i64 0, .int .i64 0], .int .i64 2]) ∧ Below w.heap.size w w' := by
  have c1 := hidp (fun W => rmend_no W s y r h)
  go_enter Try.func12, Try.ntmps12
  go_wp2_with fail
  refine (c1.out _).mono ?_
  rintro e w1 ⟨rfl, hb1⟩
  obtain ⟨hA, hR, hB⟩ := after2 [.string s, .int .i64 y, .int .i64 r] [.string ⟨#[]⟩, .int .i64 0, .int .i64 0] _ _ hb1
  have HR := hidp (hR.alloc (.cells #[.string ⟨#[]⟩, .int .i64 0, .int .i64 0] 23)); have HB := hidp (hB.alloc hB.size (.cells #[.string ⟨#[]⟩, .int .i64 0, .int .i64 0] 23))
  clear hb1 hA hR hB
  obtain ⟨r0, r1, r2, rf⟩ := arr3 HR.out
  have g0 := rf 0; have g1 := rf 1; have g2 := rf 2
  clear rf
  go_wp2_with fail
  refine bodyPost_ret (v := .tuple #[.agg #[.string ⟨#[]⟩, .int .i64 0, .int .i64 0], .int .i64 2]) (by simp [results, Try.results12, go_sem, r0, r1, r2]) rfl ⟨rfl, ?_⟩
  repeat (refine Below.setCell ?_ (by first | (simp; done) | (simp; omega)) _)
  all_goals first | exact HB.out | omega
set_option maxHeartbeats 4000000 in
theorem rcomp_bad (w : World) (s : ByteArray) (y r : Int) (h : okD s y r) (es : List ByteArray) (c e0 : Nat) (hR : ld (rdT s.data.toList) = (es, c, e0)) (he : e0 ≠ 0) :
    Calls Try.prog 12 #[.agg #[.string s, .int .i64 y, .int .i64 r]] w fun e w' => e = .returned (.tuple #[.agg #[.string s, .int .i64 y, .int .i64 r], .int .i64 (e0 : Int)]) ∧ Below w.heap.size w w' := by
  have hsz := okD_nat h
  have c1 := hidp (fun W => rmend_ok W s y r h)
  have h8 := rdT_small s.data.toList
  have hN : (cat (rdT s.data.toList)).length = rdN s.data.toList := rfl
  have hNs := rdN_le s.data.toList
  rw [size_toList] at hNs
  obtain ⟨rs, hrs⟩ : ∃ x, rdT s.data.toList = x := ⟨_, rfl⟩
  obtain ⟨N, hNN⟩ : ∃ x, rdN s.data.toList = x := ⟨_, rfl⟩
  rw [hrs] at c1 h8 hN hR
  rw [hNN] at c1 hN hNs
  obtain ⟨Z, hZ⟩ : ∃ x, mkS (cat rs) = x := ⟨_, rfl⟩
  have hZs : Z.size = N := by rw [← hZ, mkS_size]; exact hN
  have c2 := hidp (fun W => rload_any W s (by omega))
  rw [hrs, hR] at c2
  rw [hZ] at c1
  have heb := errB he
  have c3 := hidp (fun W => sowned_any W s y r (by omega))
  clear hZ hN hNs hZs hR he h8 hrs hNN
  go_enter Try.func12, Try.ntmps12
  go_wp2_with fail
  refine (c1.out _).mono ?_
  rintro e w1 ⟨rfl, hb1⟩
  obtain ⟨hA, hR, hB⟩ := after2 [.string s, .int .i64 y, .int .i64 r] [.string ⟨#[]⟩, .int .i64 0, .int .i64 0] _ _ hb1
  have HA := hidp hA; have HR := hidp hR; have HB := hidp hB
  clear hb1 hA hR hB
  have HAz := hidp (HA.out.alloc (.cells #[.string Z, .int .i64 (N : Int), .int .i64 r] 23))
  obtain ⟨a0, a1, a2, af⟩ := arr3 HAz.out
  clear af
  go_wp2_with fail
  clear a0 a1 a2 HAz
  have HX := hidp (HB.out.alloc HB.out.size (.cells #[.string Z, .int .i64 (N : Int), .int .i64 r] 23)); have HRX := hidp (HR.out.alloc (.cells #[.string Z, .int .i64 (N : Int), .int .i64 r] 23)); have HAX := hidp (HA.out.alloc (.cells #[.string Z, .int .i64 (N : Int), .int .i64 r] 23))
  have HEX := hidp (Arr.new w1 23 [.string Z, .int .i64 (N : Int), .int .i64 r])
  obtain ⟨be, hbe⟩ : ∃ b, w1.heap.size = b := ⟨_, rfl⟩
  generalize hWX : (w1.alloc (.cells #[.string Z, .int .i64 (N : Int), .int .i64 r] 23)) = WX at HX HRX HAX HEX ⊢
  rw [hbe] at HEX ⊢
  clear hWX hbe
  refine (c2.out _).mono ?_
  rintro e w2 ⟨v, rfl, hv, hb2⟩
  obtain ⟨va, vc, hve, -⟩ := hv.formS
  subst hve
  have HR2 := hidp (HRX.out.below hb2 HRX.out.lt); have HA2 := hidp (HAX.out.below hb2 HAX.out.lt); have HE2 := hidp (HEX.out.below hb2 HEX.out.lt); have HB2 := hidp (HX.out.trans (hb2.mono HX.out.size))
  have HV2 := hidp (hv.base HX.out.size)
  clear hb2 hv
  obtain ⟨ll, hll⟩ : ∃ q, es.length = q := ⟨_, rfl⟩
  rw [show (es, c, e0).1.length = ll from hll]
  clear hll HV2
  have HAy := hidp (HA2.out.alloc (.cells #[.slice va ll vc, .int .i64 (c : Int)] 33))
  have HR3 := hidp (HR2.out.alloc (.cells #[.slice va ll vc, .int .i64 (c : Int)] 33)); have HB3 := hidp (HB2.out.alloc HB2.out.size (.cells #[.slice va ll vc, .int .i64 (c : Int)] 33))
  obtain ⟨a0, a1, a2, af⟩ := arr3 HAy.out
  clear af
  obtain ⟨r0, r1, r2, rf⟩ := arr3 HR3.out
  have g0 := rf 0; have g1 := rf 1; have g2 := rf 2
  clear rf
  go_wp2_with fail
  refine bodyPost_ret (v := .tuple #[.agg #[.string s, .int .i64 y, .int .i64 r], .int .i64 (e0 : Int)]) (by simp [results, Try.results12, go_sem, r0, r1, r2]) rfl ⟨rfl, ?_⟩
  repeat (refine Below.setCell ?_ (by first | (simp; done) | (simp; omega)) _)
  all_goals first | exact HB3.out | omega
set_option maxHeartbeats 8000000 in
theorem rcomp_ok (w : World) (s : ByteArray) (y r : Int) (h : okD s y r) (es : List ByteArray) (c : Nat) (hR : ld (rdT s.data.toList) = (es, c, 0)) :
    Calls Try.prog 12 #[.agg #[.string s, .int .i64 y, .int .i64 r]] w fun e w' => e = .returned (.tuple #[.agg #[.string (mkS (datB es c)), .int .i64 (((datB es c).length : Nat) : Int), .int .i64 r], .int .i64 0]) ∧ Below w.heap.size w w' := by
  have hsz := okD_nat h
  have c1 := hidp (fun W => rmend_ok W s y r h)
  have h8 := rdT_small s.data.toList
  have hN : (cat (rdT s.data.toList)).length = rdN s.data.toList := rfl
  have hNs := rdN_le s.data.toList
  rw [size_toList] at hNs
  obtain ⟨rs, hrs⟩ : ∃ x, rdT s.data.toList = x := ⟨_, rfl⟩
  obtain ⟨N, hNN⟩ : ∃ x, rdN s.data.toList = x := ⟨_, rfl⟩
  rw [hrs] at c1 h8 hN hR
  rw [hNN] at c1 hN hNs
  obtain ⟨Z, hZ⟩ : ∃ x, mkS (cat rs) = x := ⟨_, rfl⟩
  have hZs : Z.size = N := by rw [← hZ, mkS_size]; exact hN
  have c2 := hidp (fun W => rload_any W s (by omega))
  rw [hrs, hR] at c2
  rw [hZ] at c1
  have hdl := dat_le h8 hR
  rw [hN] at hdl
  have hbd := ld_bd rs
  rw [hR] at hbd
  obtain ⟨hel, he8, hc20, -⟩ := hbd
  simp only at hel he8 hc20
  have hcnt := cat_count rs
  rw [hN] at hcnt
  obtain ⟨h1, h2, h3, h4⟩ := h
  have hH := datH_le c hc20
  have c3 := hidp (fun W => rcnt_ok W c hc20)
  have hcs := cntR_size hc20
  have c4 := hidp (fun W => rjbytes_any W (cntR c) (by omega))
  rw [jbS_yes (by omega), textE_yes (by omega)] at c4
  have HDL := hidp (fun k => show (datH c ++ (es.take k).flatMap fun t => jbL (entR t)).length ≤ 8206 + 8206 * 1048576 by
    rw [List.length_append]
    have := ents_le (es.take k)
    have h2 : (es.take k).length ≤ 1048576 := by rw [List.length_take]; omega
    omega)
  have hE1048 : es.length ≤ 1048576 := by omega
  have HE8 := hidp he8
  clear hZ hN hNs hZs hR h8 hrs hNN hdl hcnt he8 hel
  go_enter Try.func12, Try.ntmps12
  go_wp2_with fail
  refine (c1.out _).mono ?_
  rintro e w1 ⟨rfl, hb1⟩
  obtain ⟨hA, hR, hB⟩ := after2 [.string s, .int .i64 y, .int .i64 r] [.string ⟨#[]⟩, .int .i64 0, .int .i64 0] _ _ hb1
  have HA := hidp hA; have HR := hidp hR; have HB := hidp hB
  clear hb1 hA hR hB
  have HAz := hidp (HA.out.alloc (.cells #[.string Z, .int .i64 (N : Int), .int .i64 r] 23))
  obtain ⟨a0, a1, a2, af⟩ := arr3 HAz.out
  clear af
  go_wp2_with fail
  clear a0 a1 a2 HAz
  have HX := hidp (HB.out.alloc HB.out.size (.cells #[.string Z, .int .i64 (N : Int), .int .i64 r] 23)); have HRX := hidp (HR.out.alloc (.cells #[.string Z, .int .i64 (N : Int), .int .i64 r] 23)); have HAX := hidp (HA.out.alloc (.cells #[.string Z, .int .i64 (N : Int), .int .i64 r] 23))
  have HEX := hidp (Arr.new w1 23 [.string Z, .int .i64 (N : Int), .int .i64 r])
  obtain ⟨be, hbe⟩ : ∃ b, w1.heap.size = b := ⟨_, rfl⟩
  generalize hWX : (w1.alloc (.cells #[.string Z, .int .i64 (N : Int), .int .i64 r] 23)) = WX at HX HRX HAX HEX ⊢
  rw [hbe] at HEX ⊢
  clear hWX hbe
  refine (c2.out _).mono ?_
  rintro e w2 ⟨v, rfl, hv, hb2⟩
  obtain ⟨va, vc, hve, -⟩ := hv.formS
  subst hve
  have HR2 := hidp (HRX.out.below hb2 HRX.out.lt); have HA2 := hidp (HAX.out.below hb2 HAX.out.lt); have HE2 := hidp (HEX.out.below hb2 HEX.out.lt); have HB2 := hidp (HX.out.trans (hb2.mono HX.out.size))
  have HV2 := hidp (hv.base HX.out.size)
  clear hb2 hv
  obtain ⟨ll, hll⟩ : ∃ q, es.length = q := ⟨_, rfl⟩
  rw [show (es, c, 0).1.length = ll from hll] at HV2 ⊢
  have HLN := hidp hll
  rw [hll] at hE1048
  clear hll
  have HB3 := hidp (HB2.out.alloc HB2.out.size (.cells #[.slice va ll vc, .int .i64 (c : Int)] 33)); have HR3 := hidp (HR2.out.alloc (.cells #[.slice va ll vc, .int .i64 (c : Int)] 33)); have HA3 := hidp (HA2.out.alloc (.cells #[.slice va ll vc, .int .i64 (c : Int)] 33)); have HV3 := hidp (HV2.out.alloc (.cells #[.slice va ll vc, .int .i64 (c : Int)] 33))
  have HF3 := hidp (Arr.new w2 33 [.slice va ll vc, .int .i64 (c : Int)])
  obtain ⟨bf, hbf⟩ : ∃ b, w2.heap.size = b := ⟨_, rfl⟩
  have hgef : w.heap.size ≤ bf := by rw [← hbf]; exact HB2.out.size
  obtain ⟨W3, hW3⟩ : ∃ W3, W3 = w2.alloc (.cells #[.slice va ll vc, .int .i64 (c : Int)] 33) := ⟨_, rfl⟩
  rw [← hW3] at HB3 HR3 HA3 HV3 HF3
  rw [hbf] at HF3
  have HW3 := hidp hW3
  clear hW3
  by_cases hc0 : 0 < c
  · have e1 : decide (0 < (c : Int)) = true := by simpa using hc0
    have hHc : datH c = recB (cntR c) := by unfold datH; rw [if_pos hc0]
    have hHs : ((⟨#[]⟩ : ByteArray) ++ mkS (recB (cntR c))) = mkS (datH c) := by rw [hHc]; exact mkS_append [] _
    have hrl : (mkS (recB (cntR c))).size ≤ 8206 := by rw [mkS_size]; exact recB_le _ (by omega)
    obtain ⟨Xr, hXr⟩ : ∃ X, mkS (recB (cntR c)) = X := ⟨_, rfl⟩
    rw [hXr] at c4 hHs hrl
    obtain ⟨H, hHH⟩ : ∃ H, mkS (datH c) = H := ⟨_, rfl⟩
    rw [hHH] at hHs
    obtain ⟨cr, hcr⟩ : ∃ x, cntR c = x := ⟨_, rfl⟩
    rw [hcr] at c3 c4
    have HHH := hidp hHH
    clear hHc hXr hHH hcr hcs
    go_wp2_with fail
    rw [← HW3.out]
    refine (c3.out _).mono ?_
    rintro e w5 ⟨rfl, hb5⟩
    have HB5 := hidp (HB3.out.trans (hb5.mono HB3.out.size)); have HR5 := hidp (HR3.out.below hb5 HR3.out.lt); have HA5 := hidp (HA3.out.below hb5 HA3.out.lt); have HF5 := hidp (HF3.out.below hb5 HF3.out.lt); have HV5 := hidp (HV3.out.kept hb5 (Nat.le_refl _))
    clear hb5
    go_wp2_with fail
    refine (c4.out _).mono ?_
    rintro e w6 ⟨rfl, hb6⟩
    have HB6 := hidp (HB5.out.trans (hb6.mono HB5.out.size)); have HR6 := hidp (HR5.out.below hb6 HR5.out.lt); have HA6 := hidp (HA5.out.below hb6 HA5.out.lt); have HF6 := hidp (HF5.out.below hb6 HF5.out.lt); have HV6 := hidp (HV5.out.kept hb6 (Nat.le_refl _))
    clear hb6
    obtain ⟨p0, p1, pf⟩ := arr2 HF6.out
    clear pf
    go_wp2_with fail
    go_loopw [8, 58] (fun t8 t58 wr => ∃ k : Nat, t58 = .int .i64 k ∧ k ≤ ll ∧ t8 = .string (mkS (datH c ++ (es.take k).flatMap fun t => jbL (entR t))) ∧ Below w.heap.size w wr ∧ Arr wr (w.heap.size + 1) 23 [.string ⟨#[]⟩, .int .i64 0, .int .i64 0] ∧ Arr wr w.heap.size 23 [.string s, .int .i64 y, .int .i64 r] ∧ OwnV wr w.heap.size 9 (.slice va ll vc) (strV es)) (fun _ t58 _ => ll - (intOf t58).toNat)
    case atStart => exact ⟨0, rfl, by omega, by rw [List.take_zero]; simp only [List.flatMap_nil, List.append_nil]; rw [HHH.out], HB6.out, HR6.out, HA6.out, HV6.out⟩
    case round =>
      obtain ⟨k, rfl, hk, rfl, hb, hr, ha, hv⟩ := hrel
      have HB := hidp hb; have HR := hidp hr; have HA := hidp ha; have HV := hidp hv
      clear hb hr ha hv
      by_cases hlt : k < ll
      · have hlt' : k < es.length := by rw [HLN.out]; exact hlt
        obtain ⟨b0, o0, eb, hcx⟩ : ∃ b o, va = some ⟨b, o, none⟩ ∧ wr.cell? ⟨b, o + k, none⟩ = some (.string es[k]) := by
          obtain ⟨a', c', e', hc'⟩ := HV.out.strs
          simp only [Value.slice.injEq] at e'
          obtain ⟨rfl, -, -⟩ := e'
          exact hc' k hlt'
        subst eb
        obtain ⟨t, ht⟩ : ∃ t, es[k] = t := ⟨_, rfl⟩
        have ht8 : t.size ≤ 8192 := by rw [← ht]; exact HE8.out _ (List.getElem_mem hlt')
        rw [ht] at hcx
        have HN := hidp (show mkS (datH c ++ (es.take k).flatMap (fun t => jbL (entR t))) ++ mkS (jbL (entR t)) = mkS (datH c ++ (es.take (k + 1)).flatMap fun t => jbL (entR t)) from by
          rw [mkS_append, List.take_succ_eq_append_getElem hlt', List.flatMap_append, ht, List.append_assoc]; simp)
        have hdl := HDL.out k
        rw [← mkS_size] at hdl
        obtain ⟨D, hD⟩ : ∃ D, mkS (datH c ++ (es.take k).flatMap fun t => jbL (entR t)) = D := ⟨_, rfl⟩
        rw [hD] at HN hdl ⊢
        have k3 := hidp (fun W => rentry_any W t (by omega))
        rw [listS_yes (okE ht8), listE_yes (okE ht8), show mkS (encL [tE, t]) = entR t from rfl] at k3
        have hes := entR_size ht8
        have k4 := hidp (fun W => rjbytes_any W (entR t) (by omega))
        rw [jbS_L] at k4
        have hjl := jbL_le (entR t)
        rw [← mkS_size] at hjl
        obtain ⟨J, hJ⟩ : ∃ X, mkS (jbL (entR t)) = X := ⟨_, rfl⟩
        rw [hJ] at k4 HN hjl
        obtain ⟨E, hE⟩ : ∃ E, textE (entR t) = E := ⟨_, rfl⟩
        rw [hE] at k4
        obtain ⟨X, hX⟩ : ∃ X, entR t = X := ⟨_, rfl⟩
        rw [hX] at k3 k4
        clear hD hX hJ ht hE hes
        go_wp2_with fail
        clear hcx
        refine (k3.out _).mono ?_
        rintro e w7 ⟨rfl, hb7⟩
        have HB7 := hidp (HB.out.trans (hb7.mono HB.out.size)); have HR7 := hidp (HR.out.below hb7 HR.out.lt); have HA7 := hidp (HA.out.below hb7 HA.out.lt); have HV7 := hidp (HV.out.kept hb7 (Nat.le_refl _))
        clear hb7
        go_wp2_with fail
        refine (k4.out _).mono ?_
        rintro e w8 ⟨rfl, hb8⟩
        have HB8 := hidp (HB7.out.trans (hb8.mono HB7.out.size)); have HR8 := hidp (HR7.out.below hb8 HR7.out.lt); have HA8 := hidp (HA7.out.below hb8 HA7.out.lt); have HV8 := hidp (HV7.out.kept hb8 (Nat.le_refl _))
        clear hb8
        go_wp2_with fail
        exact ⟨⟨k + 1, by go_num, by omega, by rw [HN.out], HB8.out, HR8.out, HA8.out, HV8.out⟩, by simp [intOf]; omega⟩
      · obtain rfl : k = ll := by omega
        rw [List.take_of_length_le (by rw [HLN.out]; exact Nat.le_refl _)]
        obtain ⟨X, hX⟩ : ∃ X, mkS (datH c ++ es.flatMap fun t => jbL (entR t)) = X := ⟨_, rfl⟩
        have hXs : X.size = (datB es c).length := by rw [← hX, mkS_size]; rfl
        have HXE := hidp (show mkS (datB es c) = X from hX)
        rw [hX]
        obtain ⟨M, hM⟩ : ∃ M, (datB es c).length = M := ⟨_, rfl⟩
        rw [hM] at hXs
        have HMM := hidp hM
        clear hX hM
        obtain ⟨r0, r1, r2, rf⟩ := arr3 HR.out
        have g0 := rf 0; have g1 := rf 1; have g2 := rf 2
        obtain ⟨a0, a1, a2, af⟩ := arr3 HA.out
        clear rf af
        go_wp2_with fail
        refine bodyPost_ret (v := .tuple #[.agg #[.string X, .int .i64 (M : Int), .int .i64 r], .int .i64 0]) (by simp [results, Try.results12, go_sem, r0, r1, r2]) rfl ⟨by rw [HXE.out, HMM.out], ?_⟩
        repeat (refine Below.setCell ?_ (by simp) _)
        exact HB.out
  · have e1 : decide (0 < (c : Int)) = false := by simpa using hc0
    have hHs : (⟨#[]⟩ : ByteArray) = mkS (datH c) := by unfold datH; rw [if_neg hc0]; rfl
    obtain ⟨H, hHH⟩ : ∃ H, mkS (datH c) = H := ⟨_, rfl⟩
    rw [hHH] at hHs
    have HHH := hidp hHH
    have HHS := hidp hHs
    clear hHH hHs
    have HB6 := HB3; have HR6 := HR3; have HA6 := HA3; have HF6 := HF3; have HV6 := HV3
    go_wp2_with fail
    rw [← HW3.out]
    go_loopw [8, 58] (fun t8 t58 wr => ∃ k : Nat, t58 = .int .i64 k ∧ k ≤ ll ∧ t8 = .string (mkS (datH c ++ (es.take k).flatMap fun t => jbL (entR t))) ∧ Below w.heap.size w wr ∧ Arr wr (w.heap.size + 1) 23 [.string ⟨#[]⟩, .int .i64 0, .int .i64 0] ∧ Arr wr w.heap.size 23 [.string s, .int .i64 y, .int .i64 r] ∧ OwnV wr w.heap.size 9 (.slice va ll vc) (strV es)) (fun _ t58 _ => ll - (intOf t58).toNat)
    case atStart => exact ⟨0, rfl, by omega, by rw [List.take_zero]; simp only [List.flatMap_nil, List.append_nil]; rw [HHH.out, ← HHS.out], HB6.out, HR6.out, HA6.out, HV6.out⟩
    case round =>
      obtain ⟨k, rfl, hk, rfl, hb, hr, ha, hv⟩ := hrel
      have HB := hidp hb; have HR := hidp hr; have HA := hidp ha; have HV := hidp hv
      clear hb hr ha hv
      by_cases hlt : k < ll
      · have hlt' : k < es.length := by rw [HLN.out]; exact hlt
        obtain ⟨b0, o0, eb, hcx⟩ : ∃ b o, va = some ⟨b, o, none⟩ ∧ wr.cell? ⟨b, o + k, none⟩ = some (.string es[k]) := by
          obtain ⟨a', c', e', hc'⟩ := HV.out.strs
          simp only [Value.slice.injEq] at e'
          obtain ⟨rfl, -, -⟩ := e'
          exact hc' k hlt'
        subst eb
        obtain ⟨t, ht⟩ : ∃ t, es[k] = t := ⟨_, rfl⟩
        have ht8 : t.size ≤ 8192 := by rw [← ht]; exact HE8.out _ (List.getElem_mem hlt')
        rw [ht] at hcx
        have HN := hidp (show mkS (datH c ++ (es.take k).flatMap (fun t => jbL (entR t))) ++ mkS (jbL (entR t)) = mkS (datH c ++ (es.take (k + 1)).flatMap fun t => jbL (entR t)) from by
          rw [mkS_append, List.take_succ_eq_append_getElem hlt', List.flatMap_append, ht, List.append_assoc]; simp)
        have hdl := HDL.out k
        rw [← mkS_size] at hdl
        obtain ⟨D, hD⟩ : ∃ D, mkS (datH c ++ (es.take k).flatMap fun t => jbL (entR t)) = D := ⟨_, rfl⟩
        rw [hD] at HN hdl ⊢
        have k3 := hidp (fun W => rentry_any W t (by omega))
        rw [listS_yes (okE ht8), listE_yes (okE ht8), show mkS (encL [tE, t]) = entR t from rfl] at k3
        have hes := entR_size ht8
        have k4 := hidp (fun W => rjbytes_any W (entR t) (by omega))
        rw [jbS_L] at k4
        have hjl := jbL_le (entR t)
        rw [← mkS_size] at hjl
        obtain ⟨J, hJ⟩ : ∃ X, mkS (jbL (entR t)) = X := ⟨_, rfl⟩
        rw [hJ] at k4 HN hjl
        obtain ⟨E, hE⟩ : ∃ E, textE (entR t) = E := ⟨_, rfl⟩
        rw [hE] at k4
        obtain ⟨X, hX⟩ : ∃ X, entR t = X := ⟨_, rfl⟩
        rw [hX] at k3 k4
        clear hD hX hJ ht hE hes
        go_wp2_with fail
        clear hcx
        refine (k3.out _).mono ?_
        rintro e w7 ⟨rfl, hb7⟩
        have HB7 := hidp (HB.out.trans (hb7.mono HB.out.size)); have HR7 := hidp (HR.out.below hb7 HR.out.lt); have HA7 := hidp (HA.out.below hb7 HA.out.lt); have HV7 := hidp (HV.out.kept hb7 (Nat.le_refl _))
        clear hb7
        go_wp2_with fail
        refine (k4.out _).mono ?_
        rintro e w8 ⟨rfl, hb8⟩
        have HB8 := hidp (HB7.out.trans (hb8.mono HB7.out.size)); have HR8 := hidp (HR7.out.below hb8 HR7.out.lt); have HA8 := hidp (HA7.out.below hb8 HA7.out.lt); have HV8 := hidp (HV7.out.kept hb8 (Nat.le_refl _))
        clear hb8
        go_wp2_with fail
        exact ⟨⟨k + 1, by go_num, by omega, by rw [HN.out], HB8.out, HR8.out, HA8.out, HV8.out⟩, by simp [intOf]; omega⟩
      · obtain rfl : k = ll := by omega
        rw [List.take_of_length_le (by rw [HLN.out]; exact Nat.le_refl _)]
        obtain ⟨X, hX⟩ : ∃ X, mkS (datH c ++ es.flatMap fun t => jbL (entR t)) = X := ⟨_, rfl⟩
        have hXs : X.size = (datB es c).length := by rw [← hX, mkS_size]; rfl
        have HXE := hidp (show mkS (datB es c) = X from hX)
        rw [hX]
        obtain ⟨M, hM⟩ : ∃ M, (datB es c).length = M := ⟨_, rfl⟩
        rw [hM] at hXs
        have HMM := hidp hM
        clear hX hM
        obtain ⟨r0, r1, r2, rf⟩ := arr3 HR.out
        have g0 := rf 0; have g1 := rf 1; have g2 := rf 2
        obtain ⟨a0, a1, a2, af⟩ := arr3 HA.out
        clear rf af
        go_wp2_with fail
        refine bodyPost_ret (v := .tuple #[.agg #[.string X, .int .i64 (M : Int), .int .i64 r], .int .i64 0]) (by simp [results, Try.results12, go_sem, r0, r1, r2]) rfl ⟨by rw [HXE.out, HMM.out], ?_⟩
        repeat (refine Below.setCell ?_ (by simp) _)
        exact HB.out
end Go.Proofs.Ytglfdenlgglccaa
