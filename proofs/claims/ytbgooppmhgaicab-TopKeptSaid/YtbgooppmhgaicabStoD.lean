
/-
  store.Restart, store.Compact, of both sides.
-/
import Derived.Test.YtbgooppmhgaicabStoC
namespace Go.Proofs.Ytbgooppmhgaicab
set_option maxRecDepth 100000
set_option linter.unusedVariables false
set_option linter.unusedSimpArgs false
open Go.RowKit

theorem after3 {w w1 : World} (A R S : List Value) (T T' T'' : Nat) (hb : Below (((w.alloc (.cells A.toArray T)).alloc (.cells R.toArray T')).alloc (.cells S.toArray T'')).heap.size (((w.alloc (.cells A.toArray T)).alloc (.cells R.toArray T')).alloc (.cells S.toArray T'')) w1) :
    Arr w1 w.heap.size T A ∧ Arr w1 (w.heap.size + 1) T' R ∧ Arr w1 (w.heap.size + 1 + 1) T'' S ∧ Below w.heap.size w w1 := by
  refine ⟨(((Arr.new w T A).alloc _).alloc _).below hb (by first | (simp; done) | (simp; omega)), ?_, ?_, ((((Below.refl _ w).alloc (Nat.le_refl _) _).alloc (by first | (simp; done) | (simp; omega)) _).alloc (by first | (simp; done) | (simp; omega)) _).trans (hb.mono (by first | (simp; done) | (simp; omega)))⟩
  · have h := Arr.new (w.alloc (.cells A.toArray T)) T' R
    rw [heap_size_alloc] at h
    exact (h.alloc _).below hb (by first | (simp; done) | (simp; omega))
  · have h := Arr.new ((w.alloc (.cells A.toArray T)).alloc (.cells R.toArray T')) T'' S
    rw [heap_size_alloc, heap_size_alloc] at h
    exact h.below hb (by first | (simp; done) | (simp; omega))
theorem load_cat {F : Nat} (W : World) (rs : List ByteArray) (h8 : ∀ t ∈ rs, t.size ≤ 8192) (R : List ByteArray × Nat × Nat) (hR : ld rs = R) (Z : ByteArray) (hZ : mkS (cat rs) = Z)
    (h : Calls Try.prog F #[.string Z] W fun e w' => ∃ v, e = .returned (.tuple #[.agg #[v, .int .i64 (((ld (rdT Z.data.toList)).2.1 : Nat) : Int)], .int .i64 (((ld (rdT Z.data.toList)).2.2 : Nat) : Int)]) ∧ OwnV w' W.heap.size 9 v (strV (ld (rdT Z.data.toList)).1) ∧ Below W.heap.size W w') :
    Calls Try.prog F #[.string Z] W fun e w' => ∃ v, e = .returned (.tuple #[.agg #[v, .int .i64 ((R.2.1 : Nat) : Int)], .int .i64 ((R.2.2 : Nat) : Int)]) ∧ OwnV w' W.heap.size 9 v (strV R.1) ∧ Below W.heap.size W w' := by
  rw [← hZ, mkS_data, rdT_whole rs h8, hR] at h
  rw [← hZ]; exact h

set_option maxHeartbeats 4000000 in
theorem rst_no (w : World) (s : ByteArray) (y r : Int) (h : ¬ okD s y r) :
    Calls Try.prog 10 #[.agg #[.string s, .int .i64 y, .int .i64 r]] w fun e w' => e = .returned (.tuple #[.agg #[.string ⟨#[]⟩, .int .i64 0, .int .i64 0], .agg #[.slice none 0 0, .int .i64 0], .int .i64 2]) ∧ Below w.heap.size w w' := by
  have c1 := hidp (fun W => mend_no W s y r h)
  go_enter Try.func10, Try.ntmps10
  go_wp2_with fail
  refine (c1.out _).mono ?_
  rintro e w1 ⟨rfl, hb1⟩
  obtain ⟨hA, hR, hS, hB⟩ := after3 [.string s, .int .i64 y, .int .i64 r] [.string ⟨#[]⟩, .int .i64 0, .int .i64 0] [.slice none 0 0, .int .i64 0] _ _ _ hb1
  have HR := hidp (hR.alloc (.cells #[.string ⟨#[]⟩, .int .i64 0, .int .i64 0] 26)); have HS := hidp (hS.alloc (.cells #[.string ⟨#[]⟩, .int .i64 0, .int .i64 0] 26)); have HB := hidp (hB.alloc hB.size (.cells #[.string ⟨#[]⟩, .int .i64 0, .int .i64 0] 26))
  clear hb1 hA hR hS hB
  obtain ⟨r0, r1, r2, rf⟩ := arr3 HR.out
  obtain ⟨s0, s1, sf⟩ := arr2 HS.out
  have g0 := rf 0; have g1 := rf 1; have g2 := rf 2; have k0 := sf 0; have k1 := sf 1
  clear rf sf
  go_wp2_with fail
  refine bodyPost_ret (v := .tuple #[.agg #[.string ⟨#[]⟩, .int .i64 0, .int .i64 0], .agg #[.slice none 0 0, .int .i64 0], .int .i64 2]) (by simp [results, Try.results10, go_sem, r0, r1, r2, s0, s1]) rfl ⟨rfl, ?_⟩
  repeat (refine Below.setCell ?_ (by first | (simp; done) | (simp; omega)) _)
  all_goals first | exact HB.out | omega
set_option maxHeartbeats 4000000 in
theorem rst_bad (w : World) (s : ByteArray) (y r : Int) (h : okD s y r) (es : List ByteArray) (c e0 : Nat) (hR : ld (rdT s.data.toList) = (es, c, e0)) (he : e0 ≠ 0) :
    Calls Try.prog 10 #[.agg #[.string s, .int .i64 y, .int .i64 r]] w fun e w' => e = .returned (.tuple #[.agg #[.string ⟨#[]⟩, .int .i64 0, .int .i64 0], .agg #[.slice none 0 0, .int .i64 0], .int .i64 (e0 : Int)]) ∧ Below w.heap.size w w' := by
  have hsz := okD_nat h
  have c1 := hidp (fun W => mend_ok W s y r h)
  have h8 := rdT_small s.data.toList
  have hN : (cat (rdT s.data.toList)).length = rdN s.data.toList := rfl
  have hNs := rdN_le s.data.toList
  rw [size_toList] at hNs
  obtain ⟨rs, hrs⟩ : ∃ x, rdT s.data.toList = x := ⟨_, rfl⟩
  obtain ⟨N, hNN⟩ : ∃ x, rdN s.data.toList = x := ⟨_, rfl⟩
  rw [hrs] at c1 h8 hN hR
  rw [hNN] at c1 hN hNs
  obtain ⟨Z, hZ⟩ : ∃ x, mkS (cat rs) = x := ⟨_, rfl⟩
  have hZs : Z.size = N := by rw [← hZ, mkS_size]; exact hN
  have c2 := hidp (fun W => load_cat W rs h8 _ hR Z hZ (load_any W Z (by omega)))
  rw [hZ] at c1
  have heb := errB he
  clear hZ hN hNs hZs hR he h8 hrs hNN
  go_enter Try.func10, Try.ntmps10
  go_wp2_with fail
  refine (c1.out _).mono ?_
  rintro e w1 ⟨rfl, hb1⟩
  obtain ⟨hA, hR, hS, hB⟩ := after3 [.string s, .int .i64 y, .int .i64 r] [.string ⟨#[]⟩, .int .i64 0, .int .i64 0] [.slice none 0 0, .int .i64 0] _ _ _ hb1
  have HR := hidp hR; have HS := hidp hS; have HB := hidp hB
  clear hb1 hA hR hS hB
  go_wp2_with fail
  have HX := hidp (HB.out.alloc HB.out.size (.cells #[.string Z, .int .i64 (N : Int), .int .i64 r] 26)); have HRX := hidp (HR.out.alloc (.cells #[.string Z, .int .i64 (N : Int), .int .i64 r] 26)); have HSX := hidp (HS.out.alloc (.cells #[.string Z, .int .i64 (N : Int), .int .i64 r] 26))
  generalize hWX : (w1.alloc (.cells #[.string Z, .int .i64 (N : Int), .int .i64 r] 26)) = WX at HX HRX HSX ⊢
  clear hWX
  refine (c2.out _).mono ?_
  rintro e w2 ⟨v, rfl, hv, hb2⟩
  obtain ⟨va, vc, hve, -⟩ := hv.formS
  subst hve
  have HR2 := hidp (HRX.out.below hb2 HRX.out.lt); have HS2 := hidp (HSX.out.below hb2 HSX.out.lt); have HB2 := hidp (HX.out.trans (hb2.mono HX.out.size))
  clear hb2 hv
  obtain ⟨ll, hll⟩ : ∃ q, es.length = q := ⟨_, rfl⟩
  rw [show (es, c, e0).1.length = ll from hll]
  clear hll
  have HR3 := hidp (HR2.out.alloc (.cells #[.slice va ll vc, .int .i64 (c : Int)] 35)); have HS3 := hidp (HS2.out.alloc (.cells #[.slice va ll vc, .int .i64 (c : Int)] 35)); have HB3 := hidp (HB2.out.alloc HB2.out.size (.cells #[.slice va ll vc, .int .i64 (c : Int)] 35))
  clear HR2 HS2 HB2
  obtain ⟨r0, r1, r2, rf⟩ := arr3 HR3.out
  obtain ⟨s0, s1, sf⟩ := arr2 HS3.out
  have g0 := rf 0; have g1 := rf 1; have g2 := rf 2; have k0 := sf 0; have k1 := sf 1
  clear rf sf
  go_wp2_with fail
  refine bodyPost_ret (v := .tuple #[.agg #[.string ⟨#[]⟩, .int .i64 0, .int .i64 0], .agg #[.slice none 0 0, .int .i64 0], .int .i64 (e0 : Int)]) (by simp [results, Try.results10, go_sem, r0, r1, r2, s0, s1]) rfl ⟨rfl, ?_⟩
  repeat (refine Below.setCell ?_ (by first | (simp; done) | (simp; omega)) _)
  all_goals first | exact HB3.out | omega
set_option maxHeartbeats 4000000 in
theorem rst_ok (w : World) (s : ByteArray) (y r : Int) (h : okD s y r) (es : List ByteArray) (c : Nat) (hR : ld (rdT s.data.toList) = (es, c, 0)) :
    Calls Try.prog 10 #[.agg #[.string s, .int .i64 y, .int .i64 r]] w fun e w' => ∃ v, e = .returned (.tuple #[.agg #[.string (mkS (cat (rdT s.data.toList))), .int .i64 ((rdN s.data.toList : Nat) : Int), .int .i64 r], .agg #[v, .int .i64 (c : Int)], .int .i64 0]) ∧ OwnV w' w.heap.size 9 v (strV es) ∧ Below w.heap.size w w' := by
  have hsz := okD_nat h
  have c1 := hidp (fun W => mend_ok W s y r h)
  have h8 := rdT_small s.data.toList
  have hN : (cat (rdT s.data.toList)).length = rdN s.data.toList := rfl
  have hNs := rdN_le s.data.toList
  rw [size_toList] at hNs
  obtain ⟨rs, hrs⟩ : ∃ x, rdT s.data.toList = x := ⟨_, rfl⟩
  obtain ⟨N, hNN⟩ : ∃ x, rdN s.data.toList = x := ⟨_, rfl⟩
  rw [hrs] at c1 h8 hN hR
  rw [hNN] at c1 hN hNs
  rw [hrs, hNN]
  obtain ⟨Z, hZ⟩ : ∃ x, mkS (cat rs) = x := ⟨_, rfl⟩
  have hZs : Z.size = N := by rw [← hZ, mkS_size]; exact hN
  have c2 := hidp (fun W => load_cat W rs h8 _ hR Z hZ (load_any W Z (by omega)))
  rw [hZ] at c1
  rw [hZ]
  clear hZ hN hNs hZs hR h8 hrs hNN
  go_enter Try.func10, Try.ntmps10
  go_wp2_with fail
  refine (c1.out _).mono ?_
  rintro e w1 ⟨rfl, hb1⟩
  obtain ⟨hA, hR, hS, hB⟩ := after3 [.string s, .int .i64 y, .int .i64 r] [.string ⟨#[]⟩, .int .i64 0, .int .i64 0] [.slice none 0 0, .int .i64 0] _ _ _ hb1
  have HR := hidp hR; have HS := hidp hS; have HB := hidp hB
  clear hb1 hA hR hS hB
  go_wp2_with fail
  have HX := hidp (HB.out.alloc HB.out.size (.cells #[.string Z, .int .i64 (N : Int), .int .i64 r] 26)); have HRX := hidp (HR.out.alloc (.cells #[.string Z, .int .i64 (N : Int), .int .i64 r] 26)); have HSX := hidp (HS.out.alloc (.cells #[.string Z, .int .i64 (N : Int), .int .i64 r] 26))
  have HEX := hidp (Arr.new w1 26 [.string Z, .int .i64 (N : Int), .int .i64 r])
  obtain ⟨be, hbe⟩ : ∃ b, w1.heap.size = b := ⟨_, rfl⟩
  have n0 := HS.out.lt
  have n1 : be ≠ w.heap.size + 1 := by omega
  have n2 : be ≠ w.heap.size + 1 + 1 := by omega
  generalize hWX : (w1.alloc (.cells #[.string Z, .int .i64 (N : Int), .int .i64 r] 26)) = WX at HX HRX HSX HEX ⊢
  rw [hbe] at HEX ⊢
  clear hWX hbe
  refine (c2.out _).mono ?_
  rintro e w2 ⟨v, rfl, hv, hb2⟩
  obtain ⟨va, vc, hve, -⟩ := hv.formS
  subst hve
  have HR2 := hidp (HRX.out.below hb2 HRX.out.lt); have HS2 := hidp (HSX.out.below hb2 HSX.out.lt); have HE2 := hidp (HEX.out.below hb2 HEX.out.lt); have HB2 := hidp (HX.out.trans (hb2.mono HX.out.size))
  have HV2 := hidp (hv.base HX.out.size)
  clear hb2 hv
  obtain ⟨ll, hll⟩ : ∃ q, es.length = q := ⟨_, rfl⟩
  rw [show (es, c, 0).1.length = ll from hll] at HV2 ⊢
  clear hll
  go_wp2_with fail
  have HB3 := hidp (HB2.out.alloc HB2.out.size (.cells #[.slice va ll vc, .int .i64 (c : Int)] 35)); have HR3 := hidp (HR2.out.alloc (.cells #[.slice va ll vc, .int .i64 (c : Int)] 35)); have HS3 := hidp (HS2.out.alloc (.cells #[.slice va ll vc, .int .i64 (c : Int)] 35)); have HE3 := hidp (HE2.out.alloc (.cells #[.slice va ll vc, .int .i64 (c : Int)] 35)); have HV3 := hidp (HV2.out.alloc (.cells #[.slice va ll vc, .int .i64 (c : Int)] 35))
  have HF3 := hidp (Arr.new w2 35 [.slice va ll vc, .int .i64 (c : Int)])
  obtain ⟨bf, hbf⟩ : ∃ b, w2.heap.size = b := ⟨_, rfl⟩
  have m0 := HS2.out.lt
  have m1 : bf ≠ w.heap.size + 1 := by omega
  have m2 : bf ≠ w.heap.size + 1 + 1 := by omega
  clear n0 m0
  generalize hW3 : (w2.alloc (.cells #[.slice va ll vc, .int .i64 (c : Int)] 35)) = W3 at HB3 HR3 HS3 HE3 HV3 HF3 ⊢
  rw [hbf] at HF3 ⊢
  clear hW3 hbf
  obtain ⟨q0, q1, q2, qf⟩ := arr3 HE3.out
  obtain ⟨p0, p1, pf⟩ := arr2 HF3.out
  obtain ⟨r0, r1, r2, rf⟩ := arr3 HR3.out
  obtain ⟨s0, s1, sf⟩ := arr2 HS3.out
  have g0 := rf 0; have g1 := rf 1; have g2 := rf 2; have k0 := sf 0; have k1 := sf 1
  clear rf sf qf pf
  have HD3 := hidp (fun (n : Nat) => below_drewN (Below.refl W3.heap.size W3) n)
  have HV5 := hidp (HV3.out.put3 HR3.out (by decide) (.string Z) (.int .i64 (N : Int)) (.int .i64 r))
  have HS5 := hidp (HS3.out.put3 (g := w.heap.size + 1) (by simp) (.string Z) (.int .i64 (N : Int)) (.int .i64 r))
  have HV6 := hidp ((HV5.out.put HS5.out (by decide) 0 (.slice va ll vc)).put (HS5.out.set 0 (.slice va ll vc)) (by decide) 1 (.int .i64 (c : Int)))
  have HB6 := hidp (((below_put3 HB3.out (show w.heap.size ≤ w.heap.size + 1 by omega) (.string Z) (.int .i64 (N : Int)) (.int .i64 r)).setCell (p := ⟨w.heap.size + 1 + 1, 0, none⟩) (by simp; omega) (.slice va ll vc)).setCell (p := ⟨w.heap.size + 1 + 1, 1, none⟩) (by simp; omega) (.int .i64 (c : Int)))
  go_region
  all_goals go_wp2_with fail
  all_goals refine bodyPost_ret (v := .tuple #[.agg #[.string Z, .int .i64 (N : Int), .int .i64 r], .agg #[.slice va ll vc, .int .i64 (c : Int)], .int .i64 0]) (by simp [results, Try.results10, go_sem, r0, r1, r2, s0, s1]) rfl ⟨_, rfl, ?_, ?_⟩
  all_goals first | exact HV6.out | exact HB6.out | exact HB6.out.drew | (refine HV6.out.kept ((Below.refl _ _).drew) (Nat.le_refl _))
end Go.Proofs.Ytbgooppmhgaicab
