
/-
  journal.Add, journal.Mend, of both sides.
-/
import Derived.Test.YtbgooppmhgaicabJrnD
import Derived.Test.YtbgooppmhgaicabDskR
namespace Go.Proofs.Ytbgooppmhgaicab
set_option maxRecDepth 100000
set_option linter.unusedVariables false
set_option linter.unusedSimpArgs false
open Go.RowKit

set_option maxHeartbeats 4000000 in
theorem add_no (w : World) (s : ByteArray) (y r : Int) (t : ByteArray) (h : ¬ okD s y r) :
    Calls Try.prog 17 #[.agg #[.string s, .int .i64 y, .int .i64 r], .string t] w fun e w' => e = .returned (.tuple #[.agg #[.string ⟨#[]⟩, .int .i64 0, .int .i64 0], .int .i64 2]) ∧ Below w.heap.size w w' := by
  have c1 := hidp (fun W => check_no W s y r h)
  go_enter Try.func17, Try.ntmps17
  go_wp2_with fail
  refine (c1.out _).mono ?_
  rintro e w1 ⟨rfl, hb1⟩
  obtain ⟨hA, hR, hB⟩ := after2 [.string s, .int .i64 y, .int .i64 r] [.string ⟨#[]⟩, .int .i64 0, .int .i64 0] _ _ hb1
  have HA := hidp hA; have HR := hidp hR; have HB := hidp hB
  clear hb1 hA hR hB
  obtain ⟨r0, r1, r2, rf⟩ := arr3 HR.out
  have g0 := rf 0; have g1 := rf 1; have g2 := rf 2
  clear rf
  go_wp2_with fail
  refine bodyPost_ret (v := .tuple #[.agg #[.string ⟨#[]⟩, .int .i64 0, .int .i64 0], .int .i64 2]) (by simp [results, Try.results17, go_sem, r0, r1, r2]) rfl ⟨rfl, ?_⟩
  repeat (refine Below.setCell ?_ (by simp) _)
  exact HB.out
set_option maxHeartbeats 4000000 in
theorem add_write (w : World) (s : ByteArray) (y r : Int) (t : ByteArray) (h : okD s y r) (ht : t.size ≤ 8192) (D : ByteArray) (Y R E : Int)
    (c3 : ∀ W, Calls Try.prog 31 #[.agg #[.string s, .int .i64 y, .int .i64 r], .string (mkS (recB t))] W fun e w' => e = .returned (.tuple #[.agg #[.string D, .int .i64 Y, .int .i64 R], .int .i64 E]) ∧ Below W.heap.size W w') :
    Calls Try.prog 17 #[.agg #[.string s, .int .i64 y, .int .i64 r], .string t] w fun e w' => e = .returned (.tuple #[.agg #[.string D, .int .i64 Y, .int .i64 R], .int .i64 E]) ∧ Below w.heap.size w w' := by
  have c1 := hidp (fun W => check_ok W s y r h)
  have c2 := hidp (fun W => jbytes_any W t (by omega))
  rw [jbS_yes ht, textE_yes ht] at c2
  have c3 := hidp c3
  obtain ⟨X, hX⟩ : ∃ X, mkS (recB t) = X := ⟨_, rfl⟩
  rw [hX] at c2 c3
  clear hX
  go_enter Try.func17, Try.ntmps17
  go_wp2_with fail
  refine (c1.out _).mono ?_
  rintro e w1 ⟨rfl, hb1⟩
  obtain ⟨hA, hR, hB⟩ := after2 [.string s, .int .i64 y, .int .i64 r] [.string ⟨#[]⟩, .int .i64 0, .int .i64 0] _ _ hb1
  have HA := hidp hA; have HR := hidp hR; have HB := hidp hB
  clear hb1 hA hR hB
  go_wp2_with fail
  refine (c2.out _).mono ?_
  rintro e w2 ⟨rfl, hb2⟩
  have HA2 := hidp (HA.out.below hb2 HA.out.lt); have HR2 := hidp (HR.out.below hb2 HR.out.lt); have HB2 := hidp (HB.out.trans (hb2.mono HB.out.size))
  clear hb2
  obtain ⟨a0, a1, a2, af⟩ := arr3 HA2.out
  clear af
  go_wp2_with fail
  refine (c3.out _).mono ?_
  rintro e w3 ⟨rfl, hb3⟩
  have HR3 := hidp (HR2.out.below hb3 HR2.out.lt); have HB3 := hidp (HB2.out.trans (hb3.mono HB2.out.size))
  clear hb3 a0 a1 a2
  obtain ⟨r0, r1, r2, rf⟩ := arr3 HR3.out
  have g0 := rf 0; have g1 := rf 1; have g2 := rf 2
  clear rf
  go_wp2_with fail
  refine bodyPost_ret (v := .tuple #[.agg #[.string D, .int .i64 Y, .int .i64 R], .int .i64 E]) (by simp [results, Try.results17, go_sem, r0, r1, r2]) rfl ⟨rfl, ?_⟩
  repeat (refine Below.setCell ?_ (by simp) _)
  exact HB3.out
theorem add_full (w : World) (s : ByteArray) (y r : Int) (t : ByteArray) (h : okD s y r) (ht : t.size ≤ 8192) (hf : r - s.size < (recB t).length) :
    Calls Try.prog 17 #[.agg #[.string s, .int .i64 y, .int .i64 r], .string t] w fun e w' => e = .returned (.tuple #[.agg #[.string s, .int .i64 y, .int .i64 r], .int .i64 8]) ∧ Below w.heap.size w w' :=
  add_write w s y r t h ht s y r 8 (fun W => write_full W s y r (mkS (recB t)) h (by rw [mkS_size]; exact hf))
theorem add_ok (w : World) (s : ByteArray) (y r : Int) (t : ByteArray) (h : okD s y r) (ht : t.size ≤ 8192) (hf : (recB t).length ≤ r - s.size) :
    Calls Try.prog 17 #[.agg #[.string s, .int .i64 y, .int .i64 r], .string t] w fun e w' => e = .returned (.tuple #[.agg #[.string (s ++ mkS (recB t)), .int .i64 y, .int .i64 r], .int .i64 0]) ∧ Below w.heap.size w w' :=
  add_write w s y r t h ht _ y r 0 (fun W => write_ok W s y r (mkS (recB t)) h (by rw [mkS_size]; exact hf))
set_option maxHeartbeats 4000000 in
theorem add_long (w : World) (s : ByteArray) (y r : Int) (t : ByteArray) (h : okD s y r) (ht : ¬ t.size ≤ 8192) (hts : t.size ≤ 140737488351232) :
    Calls Try.prog 17 #[.agg #[.string s, .int .i64 y, .int .i64 r], .string t] w fun e w' => e = .returned (.tuple #[.agg #[.string s, .int .i64 y, .int .i64 r], .int .i64 7]) ∧ Below w.heap.size w w' := by
  have hsz := okD_nat h
  have c1 := hidp (fun W => check_ok W s y r h)
  have c2 := hidp (fun W => jbytes_any W t hts)
  rw [jbS_no ht, textE_no ht] at c2
  have c3 := hidp (fun W => clone_any s W (by omega))
  go_enter Try.func17, Try.ntmps17
  go_wp2_with fail
  refine (c1.out _).mono ?_
  rintro e w1 ⟨rfl, hb1⟩
  obtain ⟨hA, hR, hB⟩ := after2 [.string s, .int .i64 y, .int .i64 r] [.string ⟨#[]⟩, .int .i64 0, .int .i64 0] _ _ hb1
  have HA := hidp hA; have HR := hidp hR; have HB := hidp hB
  clear hb1 hA hR hB
  go_wp2_with fail
  refine (c2.out _).mono ?_
  rintro e w2 ⟨rfl, hb2⟩
  have HA2 := hidp (HA.out.below hb2 HA.out.lt); have HR2 := hidp (HR.out.below hb2 HR.out.lt); have HB2 := hidp (HB.out.trans (hb2.mono HB.out.size))
  clear hb2
  obtain ⟨a0, a1, a2, af⟩ := arr3 HA2.out
  clear af
  go_wp2_with fail
  refine (c3.out _).mono ?_
  rintro e w3 ⟨rfl, hb3⟩
  have HA3 := hidp (HA2.out.below hb3 HA2.out.lt); have HR3 := hidp (HR2.out.below hb3 HR2.out.lt); have HB3 := hidp (HB2.out.trans (hb3.mono HB2.out.size))
  clear hb3 a0 a1 a2
  obtain ⟨a0, a1, a2, af⟩ := arr3 HA3.out
  have f0 := af 0; have f1 := af 1; have f2 := af 2
  clear af
  obtain ⟨r0, r1, r2, rf⟩ := arr3 HR3.out
  have g0 := rf 0; have g1 := rf 1; have g2 := rf 2
  clear rf
  go_wp2_with fail
  refine bodyPost_ret (v := .tuple #[.agg #[.string s, .int .i64 y, .int .i64 r], .int .i64 7]) (by simp [results, Try.results17, go_sem, r0, r1, r2]) rfl ⟨rfl, ?_⟩
  repeat (refine Below.setCell ?_ (by simp) _)
  exact HB3.out

set_option maxHeartbeats 4000000 in
theorem mend_no (w : World) (s : ByteArray) (y r : Int) (h : ¬ okD s y r) :
    Calls Try.prog 21 #[.agg #[.string s, .int .i64 y, .int .i64 r]] w fun e w' => e = .returned (.tuple #[.agg #[.string ⟨#[]⟩, .int .i64 0, .int .i64 0], .int .i64 2]) ∧ Below w.heap.size w w' := by
  have c1 := hidp (fun W => check_no W s y r h)
  go_enter Try.func21, Try.ntmps21
  go_wp2_with fail
  refine (c1.out _).mono ?_
  rintro e w1 ⟨rfl, hb1⟩
  obtain ⟨hA, hR, hB⟩ := after2 [.string s, .int .i64 y, .int .i64 r] [.string ⟨#[]⟩, .int .i64 0, .int .i64 0] _ _ hb1
  have HA := hidp hA; have HR := hidp hR; have HB := hidp hB
  clear hb1 hA hR hB
  obtain ⟨r0, r1, r2, rf⟩ := arr3 HR.out
  have g0 := rf 0; have g1 := rf 1; have g2 := rf 2
  clear rf
  go_wp2_with fail
  refine bodyPost_ret (v := .tuple #[.agg #[.string ⟨#[]⟩, .int .i64 0, .int .i64 0], .int .i64 2]) (by simp [results, Try.results21, go_sem, r0, r1, r2]) rfl ⟨rfl, ?_⟩
  repeat (refine Below.setCell ?_ (by simp) _)
  exact HB.out

set_option maxHeartbeats 4000000 in
theorem mend_ok (w : World) (s : ByteArray) (y r : Int) (h : okD s y r) :
    Calls Try.prog 21 #[.agg #[.string s, .int .i64 y, .int .i64 r]] w fun e w' => e = .returned (.tuple #[.agg #[.string (mkS (cat (rdT s.data.toList))), .int .i64 ((rdN s.data.toList : Nat) : Int), .int .i64 r], .int .i64 0]) ∧ Below w.heap.size w w' := by
  have hsz := okD_nat h
  have c1 := hidp (fun W => check_ok W s y r h)
  have c2 := hidp (fun W => read_any W s (by omega))
  have hX : s.extract 0 (rdN s.data.toList) = mkS (cat (rdT s.data.toList)) := by
    apply ba_ext; rw [extract_toList, mkS_data, List.drop_zero, Nat.sub_zero]; exact rdT_take _
  have hn := rdN_le s.data.toList
  rw [size_toList] at hn
  have hXs : (mkS (cat (rdT s.data.toList))).size = rdN s.data.toList := by rw [mkS_size]; rfl
  obtain ⟨k, hk⟩ : ∃ k, rdN s.data.toList = k := ⟨_, rfl⟩
  obtain ⟨X, hXX⟩ : ∃ X, mkS (cat (rdT s.data.toList)) = X := ⟨_, rfl⟩
  rw [hXX, hk] at hX hXs
  rw [hk] at hn c2
  rw [hXX, hk]
  clear hXX hk
  have hkt : ((k : Int)).toNat = k := by omega
  have k1 : (0 : Int) ≤ (k : Int) := by omega
  have k2 : (k : Int) ≤ (s.size : Int) := by omega
  have c3 := hidp (fun W => swap_ok W s y r X h (by obtain ⟨_, _, h3, _⟩ := h; omega))
  rw [hXs] at c3
  go_enter Try.func21, Try.ntmps21
  go_wp2_with fail
  refine (c1.out _).mono ?_
  rintro e w1 ⟨rfl, hb1⟩
  obtain ⟨hA, hR, hB⟩ := after2 [.string s, .int .i64 y, .int .i64 r] [.string ⟨#[]⟩, .int .i64 0, .int .i64 0] _ _ hb1
  have HA := hidp hA; have HR := hidp hR; have HB := hidp hB
  clear hb1 hA hR hB
  obtain ⟨a0, a1, a2, af⟩ := arr3 HA.out
  clear af
  go_wp2_with fail
  refine (c2.out _).mono ?_
  rintro e w2 ⟨v2, rfl, hv2, hb2⟩
  have HA2 := hidp (HA.out.below hb2 HA.out.lt); have HR2 := hidp (HR.out.below hb2 HR.out.lt); have HB2 := hidp (HB.out.trans (hb2.mono HB.out.size))
  clear hb2 hv2 a0 a1 a2
  go_wp2_with fail
  have cr := hidp (show ∀ W, Cls w2.heap.size w2 W → W.cell? ⟨w.heap.size, 0, none⟩ = some (.string s) ∧ W.cell? ⟨w.heap.size, 1, none⟩ = some (.int .i64 y) ∧ W.cell? ⟨w.heap.size, 2, none⟩ = some (.int .i64 r) from fun W h => by
    obtain ⟨q0, q1, q2, _⟩ := arr3 (HA2.out.below h HA2.out.lt); exact ⟨q0, q1, q2⟩)
  have cc := hidp (show ∀ W, Cls w2.heap.size w2 W → Calls Try.prog 22 #[.agg #[.string s, .int .i64 y, .int .i64 r], .string X] W fun e w' => e = .returned (.tuple #[.agg #[.string X, .int .i64 (k : Int), .int .i64 r], .int .i64 0]) ∧ Cls w2.heap.size w2 w' from fun W h => (c3.out W).mono fun e w' ⟨h1, h2⟩ => ⟨h1, h.step (Nat.le_refl _) h2⟩)
  refine wp_region_then (C := Cls w2.heap.size w2) 8 (by kernel_rfl) (by kernel_rfl) (Cls.start _ _) ?_
  simp only [List.take, List.drop]
  repeat (first
    | (refine q_call ?_ 22 _ ?_ cc.out ?_
       · rfl
       · intro w; go_simp; done
       simp only [Act.put, List.setIfInBounds_toArray, List.set_cons_zero, List.set_cons_succ])
    | (apply q_val
       · rfl
       · intro w hw; obtain ⟨x0, x1, x2⟩ := cr.out w hw; go_simp; first | done | with_reducible rfl | rfl
       simp only [Act.put, List.setIfInBounds_toArray, List.set_cons_zero, List.set_cons_succ]))
  refine wpQuiet_nil ?_
  intro w3 hC
  have HR3 := hidp (HR2.out.below hC HR2.out.lt); have HB3 := hidp (HB2.out.trans (Below.mono hC HB2.out.size))
  clear hC cr cc
  obtain ⟨r0, r1, r2, rf⟩ := arr3 HR3.out
  have g0 := rf 0; have g1 := rf 1; have g2 := rf 2
  clear rf
  go_wp2_with fail
  refine bodyPost_ret (v := .tuple #[.agg #[.string X, .int .i64 (k : Int), .int .i64 r], .int .i64 0]) (by simp [results, Try.results21, go_sem, r0, r1, r2]) rfl ⟨rfl, ?_⟩
  repeat (refine Below.setCell ?_ (by simp) _)
  exact HB3.out

end Go.Proofs.Ytbgooppmhgaicab
