
/-
  store.Compact, of both sides.
-/
import Derived.Test.YtbgooppmhgaicabStoD
namespace Go.Proofs.Ytbgooppmhgaicab
set_option maxRecDepth 100000
set_option linter.unusedVariables false
set_option linter.unusedSimpArgs false
open Go.RowKit

set_option maxHeartbeats 4000000 in
theorem comp_no (w : World) (s : ByteArray) (y r : Int) (h : ¬ okD s y r) :
    Calls Try.prog 11 #[.agg #[.string s, .int .i64 y, .int .i64 r]] w fun e w' => e = .returned (.tuple #[.agg #[.string ⟨#[]⟩, .int .i64 0, .int .i64 0], .int .i64 2]) ∧ Below w.heap.size w w' := by
  have c1 := hidp (fun W => mend_no W s y r h)
  go_enter Try.func11, Try.ntmps11
  go_wp2_with fail
  refine (c1.out _).mono ?_
  rintro e w1 ⟨rfl, hb1⟩
  obtain ⟨hA, hR, hB⟩ := after2 [.string s, .int .i64 y, .int .i64 r] [.string ⟨#[]⟩, .int .i64 0, .int .i64 0] _ _ hb1
  have HR := hidp (hR.alloc (.cells #[.string ⟨#[]⟩, .int .i64 0, .int .i64 0] 26)); have HB := hidp (hB.alloc hB.size (.cells #[.string ⟨#[]⟩, .int .i64 0, .int .i64 0] 26))
  clear hb1 hA hR hB
  obtain ⟨r0, r1, r2, rf⟩ := arr3 HR.out
  have g0 := rf 0; have g1 := rf 1; have g2 := rf 2
  clear rf
  go_wp2_with fail
  refine bodyPost_ret (v := .tuple #[.agg #[.string ⟨#[]⟩, .int .i64 0, .int .i64 0], .int .i64 2]) (by simp [results, Try.results11, go_sem, r0, r1, r2]) rfl ⟨rfl, ?_⟩
  repeat (refine Below.setCell ?_ (by first | (simp; done) | (simp; omega)) _)
  all_goals first | exact HB.out | omega
set_option maxHeartbeats 4000000 in
theorem comp_bad (w : World) (s : ByteArray) (y r : Int) (h : okD s y r) (es : List ByteArray) (c e0 : Nat) (hR : ld (rdT s.data.toList) = (es, c, e0)) (he : e0 ≠ 0) :
    Calls Try.prog 11 #[.agg #[.string s, .int .i64 y, .int .i64 r]] w fun e w' => e = .returned (.tuple #[.agg #[.string s, .int .i64 y, .int .i64 r], .int .i64 (e0 : Int)]) ∧ Below w.heap.size w w' := by
  have hsz := okD_nat h
  have c1 := hidp (fun W => mend_ok W s y r h)
  have h8 := rdT_small s.data.toList
  have hN : (cat (rdT s.data.toList)).length = rdN s.data.toList := rfl
  have hNs := rdN_le s.data.toList
  rw [size_toList] at hNs
  obtain ⟨rs, hrs⟩ : ∃ x, rdT s.data.toList = x := ⟨_, rfl⟩
  obtain ⟨N, hNN⟩ : ∃ x, rdN s.data.toList = x := ⟨_, rfl⟩
  rw [hrs] at c1 h8 hN hR
  rw [hNN] at c1 hN hNs
  obtain ⟨Z, hZ⟩ : ∃ x, mkS (cat rs) = x := ⟨_, rfl⟩
  have hZs : Z.size = N := by rw [← hZ, mkS_size]; exact hN
  have c2 := hidp (fun W => load_cat W rs h8 _ hR Z hZ (load_any W Z (by omega)))
  rw [hZ] at c1
  have heb := errB he
  have c3 := hidp (fun W => sowned_any W s y r (by omega))
  clear hZ hN hNs hZs hR he h8 hrs hNN
  go_enter Try.func11, Try.ntmps11
  go_wp2_with fail
  refine (c1.out _).mono ?_
  rintro e w1 ⟨rfl, hb1⟩
  obtain ⟨hA, hR, hB⟩ := after2 [.string s, .int .i64 y, .int .i64 r] [.string ⟨#[]⟩, .int .i64 0, .int .i64 0] _ _ hb1
  have HA := hidp hA; have HR := hidp hR; have HB := hidp hB
  clear hb1 hA hR hB
  go_wp2_with fail
  have HX := hidp (HB.out.alloc HB.out.size (.cells #[.string Z, .int .i64 (N : Int), .int .i64 r] 26)); have HRX := hidp (HR.out.alloc (.cells #[.string Z, .int .i64 (N : Int), .int .i64 r] 26)); have HAX := hidp (HA.out.alloc (.cells #[.string Z, .int .i64 (N : Int), .int .i64 r] 26))
  have HEX := hidp (Arr.new w1 26 [.string Z, .int .i64 (N : Int), .int .i64 r])
  obtain ⟨be, hbe⟩ : ∃ b, w1.heap.size = b := ⟨_, rfl⟩
  generalize hWX : (w1.alloc (.cells #[.string Z, .int .i64 (N : Int), .int .i64 r] 26)) = WX at HX HRX HAX HEX ⊢
  rw [hbe] at HEX ⊢
  clear hWX hbe
  refine (c2.out _).mono ?_
  rintro e w2 ⟨v, rfl, hv, hb2⟩
  obtain ⟨va, vc, hve, -⟩ := hv.formS
  subst hve
  have HR2 := hidp (HRX.out.below hb2 HRX.out.lt); have HA2 := hidp (HAX.out.below hb2 HAX.out.lt); have HE2 := hidp (HEX.out.below hb2 HEX.out.lt); have HB2 := hidp (HX.out.trans (hb2.mono HX.out.size))
  have HV2 := hidp (hv.base HX.out.size)
  clear hb2 hv
  obtain ⟨ll, hll⟩ : ∃ q, es.length = q := ⟨_, rfl⟩
  rw [show (es, c, e0).1.length = ll from hll]
  clear hll HV2
  have HAy := hidp (HA2.out.alloc (.cells #[.slice va ll vc, .int .i64 (c : Int)] 35))
  have HRy := hidp (HR2.out.alloc (.cells #[.slice va ll vc, .int .i64 (c : Int)] 35)); have HBy := hidp (HB2.out.alloc HB2.out.size (.cells #[.slice va ll vc, .int .i64 (c : Int)] 35))
  obtain ⟨a0, a1, a2, af⟩ := arr3 HAy.out
  clear af
  go_wp2_with fail
  clear a0 a1 a2
  refine (c3.out _).mono ?_
  rintro e w3 ⟨rfl, hb3⟩
  have HR3 := hidp (HRy.out.below hb3 HRy.out.lt); have HB3 := hidp (HBy.out.trans (hb3.mono HBy.out.size))
  clear hb3
  obtain ⟨r0, r1, r2, rf⟩ := arr3 HR3.out
  have g0 := rf 0; have g1 := rf 1; have g2 := rf 2
  clear rf
  go_wp2_with fail
  refine bodyPost_ret (v := .tuple #[.agg #[.string s, .int .i64 y, .int .i64 r], .int .i64 (e0 : Int)]) (by simp [results, Try.results11, go_sem, r0, r1, r2]) rfl ⟨rfl, ?_⟩
  repeat (refine Below.setCell ?_ (by first | (simp; done) | (simp; omega)) _)
  all_goals first | exact HB3.out | omega
set_option maxHeartbeats 8000000 in
theorem comp_ok (w : World) (s : ByteArray) (y r : Int) (h : okD s y r) (es : List ByteArray) (c : Nat) (hR : ld (rdT s.data.toList) = (es, c, 0)) :
    Calls Try.prog 11 #[.agg #[.string s, .int .i64 y, .int .i64 r]] w fun e w' => e = .returned (.tuple #[.agg #[.string (mkS (datB es c)), .int .i64 (((datB es c).length : Nat) : Int), .int .i64 r], .int .i64 0]) ∧ Below w.heap.size w w' := by
  have hsz := okD_nat h
  have c1 := hidp (fun W => mend_ok W s y r h)
  have h8 := rdT_small s.data.toList
  have hN : (cat (rdT s.data.toList)).length = rdN s.data.toList := rfl
  have hNs := rdN_le s.data.toList
  rw [size_toList] at hNs
  obtain ⟨rs, hrs⟩ : ∃ x, rdT s.data.toList = x := ⟨_, rfl⟩
  obtain ⟨N, hNN⟩ : ∃ x, rdN s.data.toList = x := ⟨_, rfl⟩
  rw [hrs] at c1 h8 hN hR
  rw [hNN] at c1 hN hNs
  obtain ⟨Z, hZ⟩ : ∃ x, mkS (cat rs) = x := ⟨_, rfl⟩
  have hZs : Z.size = N := by rw [← hZ, mkS_size]; exact hN
  have c2 := hidp (fun W => load_cat W rs h8 _ hR Z hZ (load_any W Z (by omega)))
  rw [hZ] at c1
  have hdl := dat_le h8 hR
  rw [hN] at hdl
  have hbd := ld_bd rs
  rw [hR] at hbd
  obtain ⟨hel, he8, hc20, -⟩ := hbd
  simp only at hel he8 hc20
  have hcnt := cat_count rs
  rw [hN] at hcnt
  obtain ⟨h1, h2, h3, h4⟩ := h
  have okz : okD Z (N : Int) r := ⟨by omega, by omega, by omega, by omega⟩
  have hDs : (mkS (datB es c)).size = (datB es c).length := mkS_size _
  have c4 := hidp (fun W => swap_ok W Z N r (mkS (datB es c)) okz (by rw [hDs]; omega))
  rw [hDs] at c4
  have c3 := hidp (fun (W : World) (v : Value) (hv : StrsAt W v es) => data_any W v es c hv he8 hc20 (by omega))
  obtain ⟨X, hX⟩ : ∃ X, mkS (datB es c) = X := ⟨_, rfl⟩
  obtain ⟨M, hM⟩ : ∃ M, (datB es c).length = M := ⟨_, rfl⟩
  rw [hX] at c3 c4 ⊢
  rw [hM] at c4 ⊢
  clear hZ hN hNs hZs hR h8 hrs hNN hX hM hDs okz hdl he8 hcnt
  go_enter Try.func11, Try.ntmps11
  go_wp2_with fail
  refine (c1.out _).mono ?_
  rintro e w1 ⟨rfl, hb1⟩
  obtain ⟨hA, hR, hB⟩ := after2 [.string s, .int .i64 y, .int .i64 r] [.string ⟨#[]⟩, .int .i64 0, .int .i64 0] _ _ hb1
  have HA := hidp hA; have HR := hidp hR; have HB := hidp hB
  clear hb1 hA hR hB
  go_wp2_with fail
  have HX := hidp (HB.out.alloc HB.out.size (.cells #[.string Z, .int .i64 (N : Int), .int .i64 r] 26)); have HRX := hidp (HR.out.alloc (.cells #[.string Z, .int .i64 (N : Int), .int .i64 r] 26)); have HAX := hidp (HA.out.alloc (.cells #[.string Z, .int .i64 (N : Int), .int .i64 r] 26))
  have HEX := hidp (Arr.new w1 26 [.string Z, .int .i64 (N : Int), .int .i64 r])
  obtain ⟨be, hbe⟩ : ∃ b, w1.heap.size = b := ⟨_, rfl⟩
  generalize hWX : (w1.alloc (.cells #[.string Z, .int .i64 (N : Int), .int .i64 r] 26)) = WX at HX HRX HAX HEX ⊢
  rw [hbe] at HEX ⊢
  clear hWX hbe
  refine (c2.out _).mono ?_
  rintro e w2 ⟨v, rfl, hv, hb2⟩
  obtain ⟨va, vc, hve, -⟩ := hv.formS
  subst hve
  have HR2 := hidp (HRX.out.below hb2 HRX.out.lt); have HA2 := hidp (HAX.out.below hb2 HAX.out.lt); have HE2 := hidp (HEX.out.below hb2 HEX.out.lt); have HB2 := hidp (HX.out.trans (hb2.mono HX.out.size))
  have HV2 := hidp (hv.base HX.out.size)
  clear hb2 hv
  obtain ⟨ll, hll⟩ : ∃ q, es.length = q := ⟨_, rfl⟩
  rw [show (es, c, 0).1.length = ll from hll] at HV2 ⊢
  clear hll hel
  go_wp2_with fail
  have HB3 := hidp (HB2.out.alloc HB2.out.size (.cells #[.slice va ll vc, .int .i64 (c : Int)] 35)); have HR3 := hidp (HR2.out.alloc (.cells #[.slice va ll vc, .int .i64 (c : Int)] 35)); have HE3 := hidp (HE2.out.alloc (.cells #[.slice va ll vc, .int .i64 (c : Int)] 35)); have HV3 := hidp (HV2.out.alloc (.cells #[.slice va ll vc, .int .i64 (c : Int)] 35))
  have HF3 := hidp (Arr.new w2 35 [.slice va ll vc, .int .i64 (c : Int)])
  obtain ⟨bf, hbf⟩ : ∃ b, w2.heap.size = b := ⟨_, rfl⟩
  generalize hW3 : (w2.alloc (.cells #[.slice va ll vc, .int .i64 (c : Int)] 35)) = W3 at HB3 HR3 HE3 HV3 HF3 ⊢
  rw [hbf] at HF3 ⊢
  clear hW3 hbf
  have cr := hidp (show ∀ W, Cls W3.heap.size W3 W → W.cell? ⟨be, 0, none⟩ = some (.string Z) ∧ W.cell? ⟨be, 1, none⟩ = some (.int .i64 (N : Int)) ∧ W.cell? ⟨be, 2, none⟩ = some (.int .i64 r) ∧ W.cell? ⟨bf, 0, none⟩ = some (.slice va ll vc) ∧ W.cell? ⟨bf, 1, none⟩ = some (.int .i64 (c : Int)) from fun W h => by
    obtain ⟨q0, q1, q2, _⟩ := arr3 (HE3.out.below h HE3.out.lt)
    obtain ⟨p0, p1, _⟩ := arr2 (HF3.out.below h HF3.out.lt)
    exact ⟨q0, q1, q2, p0, p1⟩)
  have cd := hidp (show ∀ W, Cls W3.heap.size W3 W → Calls Try.prog 23 #[.agg #[.slice va ll vc, .int .i64 (c : Int)]] W fun e w' => e = .returned (.string X) ∧ Cls W3.heap.size W3 w' from fun W h => (c3.out W _ ((HV3.out.kept h (Nat.le_refl _)).strs)).mono fun e w' ⟨h1, h2⟩ => ⟨h1, h.step (Nat.le_refl _) h2⟩)
  have cs := hidp (show ∀ W, Cls W3.heap.size W3 W → Calls Try.prog 22 #[.agg #[.string Z, .int .i64 (N : Int), .int .i64 r], .string X] W fun e w' => e = .returned (.tuple #[.agg #[.string X, .int .i64 (M : Int), .int .i64 r], .int .i64 0]) ∧ Cls W3.heap.size W3 w' from fun W h => (c4.out W).mono fun e w' ⟨h1, h2⟩ => ⟨h1, h.step (Nat.le_refl _) h2⟩)
  refine wp_region_then (C := Cls W3.heap.size W3) 6 (by kernel_rfl) (by kernel_rfl) (Cls.start _ _) ?_
  simp only [List.take, List.drop]
  repeat (first
    | (refine q_call ?_ 23 _ ?_ cd.out ?_
       · rfl
       · intro w; go_simp; done
       simp only [Act.put, List.setIfInBounds_toArray, List.set_cons_zero, List.set_cons_succ])
    | (refine q_call ?_ 22 _ ?_ cs.out ?_
       · rfl
       · intro w; go_simp; done
       simp only [Act.put, List.setIfInBounds_toArray, List.set_cons_zero, List.set_cons_succ])
    | (apply q_val
       · rfl
       · intro w hw; obtain ⟨x0, x1, x2, x3, x4⟩ := cr.out w hw; go_simp; first | done | with_reducible rfl | rfl
       simp only [Act.put, List.setIfInBounds_toArray, List.set_cons_zero, List.set_cons_succ]))
  refine wpQuiet_nil ?_
  intro w4 hC
  have HR4 := hidp (HR3.out.below hC HR3.out.lt); have HB4 := hidp (HB3.out.trans (Below.mono hC HB3.out.size))
  clear hC cr cd cs
  obtain ⟨r0, r1, r2, rf⟩ := arr3 HR4.out
  have g0 := rf 0; have g1 := rf 1; have g2 := rf 2
  clear rf
  go_wp2_with fail
  refine bodyPost_ret (v := .tuple #[.agg #[.string X, .int .i64 (M : Int), .int .i64 r], .int .i64 0]) (by simp [results, Try.results11, go_sem, r0, r1, r2]) rfl ⟨rfl, ?_⟩
  repeat (refine Below.setCell ?_ (by simp) _)
  exact HB4.out
end Go.Proofs.Ytbgooppmhgaicab
