
/-
  disk: Write, Sync, Swap.
-/
import Derived.Test.YtbgooppmhgaicabDskB
namespace Go.Proofs.Ytbgooppmhgaicab
set_option maxRecDepth 100000
set_option linter.unusedVariables false
set_option linter.unusedSimpArgs false
open Go.RowKit

theorem after2 {w w1 : World} (A R : List Value) (T T' : Nat) (hb : Below ((w.alloc (.cells A.toArray T)).alloc (.cells R.toArray T')).heap.size ((w.alloc (.cells A.toArray T)).alloc (.cells R.toArray T')) w1) :
    Arr w1 w.heap.size T A ∧ Arr w1 (w.heap.size + 1) T' R ∧ Below w.heap.size w w1 := by
  refine ⟨((Arr.new w T A).alloc _).below hb (by simp; omega), ?_, (((Below.refl _ w).alloc (Nat.le_refl _) _).alloc (by simp) _).trans (hb.mono (by simp; omega))⟩
  have h := Arr.new (w.alloc (.cells A.toArray T)) T' R
  rw [heap_size_alloc] at h
  exact h.below hb (by simp)
theorem okD_nat {s : ByteArray} {y r : Int} (h : okD s y r) : s.size ≤ 1048576 := by obtain ⟨h1, h2, h3, h4⟩ := h; omega

set_option maxHeartbeats 4000000 in
theorem write_no (w : World) (s : ByteArray) (y r : Int) (t : ByteArray) (h : ¬ okD s y r) :
    Calls Try.prog 31 #[.agg #[.string s, .int .i64 y, .int .i64 r], .string t] w fun e w' => e = .returned (.tuple #[.agg #[.string ⟨#[]⟩, .int .i64 0, .int .i64 0], .int .i64 2]) ∧ Below w.heap.size w w' := by
  have c1 := hidp (fun W => check_no W s y r h)
  go_enter Try.func31, Try.ntmps31
  go_wp2_with fail
  refine (c1.out _).mono ?_
  rintro e w1 ⟨rfl, hb1⟩
  obtain ⟨hA, hR, hB⟩ := after2 [.string s, .int .i64 y, .int .i64 r] [.string ⟨#[]⟩, .int .i64 0, .int .i64 0] _ _ hb1
  have HA := hidp hA; have HR := hidp hR; have HB := hidp hB
  clear hb1 hA hR hB
  obtain ⟨a0, a1, a2, af⟩ := arr3 HA.out
  obtain ⟨r0, r1, r2, rf⟩ := arr3 HR.out
  have f0 := af 0; have f1 := af 1; have f2 := af 2
  have g0 := rf 0; have g1 := rf 1; have g2 := rf 2
  clear af rf
  go_wp2_with fail
  refine bodyPost_ret (v := .tuple #[.agg #[.string ⟨#[]⟩, .int .i64 0, .int .i64 0], .int .i64 2]) (by simp [results, Try.results31, go_sem, r0, r1, r2]) rfl ⟨rfl, ?_⟩
  repeat (refine Below.setCell ?_ (by simp) _)
  exact HB.out
set_option maxHeartbeats 4000000 in
theorem write_full (w : World) (s : ByteArray) (y r : Int) (t : ByteArray) (h : okD s y r) (ht : r - s.size < t.size) :
    Calls Try.prog 31 #[.agg #[.string s, .int .i64 y, .int .i64 r], .string t] w fun e w' => e = .returned (.tuple #[.agg #[.string s, .int .i64 y, .int .i64 r], .int .i64 8]) ∧ Below w.heap.size w w' := by
  have c1 := hidp (fun W => check_ok W s y r h)
  have hsz := okD_nat h
  have c2 := hidp (fun W => owned_any W s y r (by omega))
  obtain ⟨h1, h2, h3, h4⟩ := h
  have hd : decide (r - (s.size : Int) < (t.size : Int)) = true := by simpa using ht
  have k1 : 0 ≤ r := by omega
  clear ht
  go_enter Try.func31, Try.ntmps31
  go_wp2_with fail
  refine (c1.out _).mono ?_
  rintro e w1 ⟨rfl, hb1⟩
  obtain ⟨hA, hR, hB⟩ := after2 [.string s, .int .i64 y, .int .i64 r] [.string ⟨#[]⟩, .int .i64 0, .int .i64 0] _ _ hb1
  have HA := hidp hA; have HR := hidp hR; have HB := hidp hB
  clear hb1 hA hR hB
  obtain ⟨a0, a1, a2, af⟩ := arr3 HA.out
  clear af
  go_wp2_with fail
  refine (c2.out _).mono ?_
  rintro e w2 ⟨rfl, hb2⟩
  have HR2 := hidp (HR.out.below hb2 HR.out.lt); have HB2 := hidp (HB.out.trans (hb2.mono HB.out.size))
  clear hb2 a0 a1 a2
  obtain ⟨r0, r1, r2, rf⟩ := arr3 HR2.out
  have g0 := rf 0; have g1 := rf 1; have g2 := rf 2
  clear rf
  go_wp2_with fail
  refine bodyPost_ret (v := .tuple #[.agg #[.string s, .int .i64 y, .int .i64 r], .int .i64 8]) (by simp [results, Try.results31, go_sem, r0, r1, r2]) rfl ⟨rfl, ?_⟩
  repeat (refine Below.setCell ?_ (by simp) _)
  exact HB2.out
set_option maxHeartbeats 4000000 in
theorem write_ok (w : World) (s : ByteArray) (y r : Int) (t : ByteArray) (h : okD s y r) (ht : t.size ≤ r - s.size) :
    Calls Try.prog 31 #[.agg #[.string s, .int .i64 y, .int .i64 r], .string t] w fun e w' => e = .returned (.tuple #[.agg #[.string (s ++ t), .int .i64 y, .int .i64 r], .int .i64 0]) ∧ Below w.heap.size w w' := by
  have c1 := hidp (fun W => check_ok W s y r h)
  have hsz := okD_nat h
  obtain ⟨h1, h2, h3, h4⟩ := h
  have c2 := hidp (fun W => joined_any W s t (by omega))
  have hd : decide (r - (s.size : Int) < (t.size : Int)) = false := by simp; omega
  have k1 : 0 ≤ r := by omega
  clear ht
  go_enter Try.func31, Try.ntmps31
  go_wp2_with fail
  refine (c1.out _).mono ?_
  rintro e w1 ⟨rfl, hb1⟩
  obtain ⟨hA, hR, hB⟩ := after2 [.string s, .int .i64 y, .int .i64 r] [.string ⟨#[]⟩, .int .i64 0, .int .i64 0] _ _ hb1
  have HA := hidp hA; have HR := hidp hR; have HB := hidp hB
  clear hb1 hA hR hB
  obtain ⟨a0, a1, a2, af⟩ := arr3 HA.out
  clear af
  go_wp2_with fail
  refine (c2.out _).mono ?_
  rintro e w2 ⟨rfl, hb2⟩
  have HR2 := hidp (HR.out.below hb2 HR.out.lt); have HA2 := hidp (HA.out.below hb2 HA.out.lt); have HB2 := hidp (HB.out.trans (hb2.mono HB.out.size))
  clear hb2 a0 a1 a2
  obtain ⟨a0, a1, a2, af⟩ := arr3 HA2.out
  obtain ⟨r0, r1, r2, rf⟩ := arr3 HR2.out
  have f0 := af 0; have f1 := af 1; have f2 := af 2
  have g0 := rf 0; have g1 := rf 1; have g2 := rf 2
  clear af rf
  obtain ⟨u, hu⟩ : ∃ u, s ++ t = u := ⟨_, rfl⟩
  rw [hu]
  go_wp2_with fail
  refine bodyPost_ret (v := .tuple #[.agg #[.string u, .int .i64 y, .int .i64 r], .int .i64 0]) (by simp [results, Try.results31, go_sem, r0, r1, r2]) rfl ⟨by rw [hu], ?_⟩
  repeat (refine Below.setCell ?_ (by simp) _)
  exact HB2.out

set_option maxHeartbeats 4000000 in
theorem sync_no (w : World) (s : ByteArray) (y r : Int) (h : ¬ okD s y r) :
    Calls Try.prog 8 #[.agg #[.string s, .int .i64 y, .int .i64 r]] w fun e w' => e = .returned (.tuple #[.agg #[.string ⟨#[]⟩, .int .i64 0, .int .i64 0], .int .i64 2]) ∧ Below w.heap.size w w' := by
  have c1 := hidp (fun W => check_no W s y r h)
  go_enter Try.func8, Try.ntmps8
  go_wp2_with fail
  refine (c1.out _).mono ?_
  rintro e w1 ⟨rfl, hb1⟩
  obtain ⟨hA, hR, hB⟩ := after2 [.string s, .int .i64 y, .int .i64 r] [.string ⟨#[]⟩, .int .i64 0, .int .i64 0] _ _ hb1
  have HA := hidp hA; have HR := hidp hR; have HB := hidp hB
  clear hb1 hA hR hB
  obtain ⟨a0, a1, a2, af⟩ := arr3 HA.out
  obtain ⟨r0, r1, r2, rf⟩ := arr3 HR.out
  have f0 := af 0; have f1 := af 1; have f2 := af 2
  have g0 := rf 0; have g1 := rf 1; have g2 := rf 2
  clear af rf
  go_wp2_with fail
  refine bodyPost_ret (v := .tuple #[.agg #[.string ⟨#[]⟩, .int .i64 0, .int .i64 0], .int .i64 2]) (by simp [results, Try.results8, go_sem, r0, r1, r2]) rfl ⟨rfl, ?_⟩
  repeat (refine Below.setCell ?_ (by simp) _)
  exact HB.out

set_option maxHeartbeats 4000000 in
theorem sync_ok (w : World) (s : ByteArray) (y r : Int) (h : okD s y r) :
    Calls Try.prog 8 #[.agg #[.string s, .int .i64 y, .int .i64 r]] w fun e w' => e = .returned (.tuple #[.agg #[.string s, .int .i64 s.size, .int .i64 r], .int .i64 0]) ∧ Below w.heap.size w w' := by
  have c1 := hidp (fun W => check_ok W s y r h)
  have hsz := okD_nat h
  have c2 := hidp (fun W => owned_any W s s.size r (by omega))
  go_enter Try.func8, Try.ntmps8
  go_wp2_with fail
  refine (c1.out _).mono ?_
  rintro e w1 ⟨rfl, hb1⟩
  obtain ⟨hA, hR, hB⟩ := after2 [.string s, .int .i64 y, .int .i64 r] [.string ⟨#[]⟩, .int .i64 0, .int .i64 0] _ _ hb1
  have HA := hidp hA; have HR := hidp hR; have HB := hidp hB
  clear hb1 hA hR hB
  obtain ⟨a0, a1, a2, af⟩ := arr3 HA.out
  have f0 := af 0; have f1 := af 1; have f2 := af 2
  clear af
  go_wp2_with fail
  refine (c2.out _).mono ?_
  rintro e w2 ⟨rfl, hb2⟩
  have HR2 := hidp ((HR.out.other ⟨w.heap.size, 1, none⟩ (by simp) (.int .i64 s.size)).below hb2 (by have := HR.out.lt; simpa using this))
  have HB2 := hidp ((HB.out.setCell (p := ⟨w.heap.size, 1, none⟩) (by simp) (.int .i64 s.size)).trans (hb2.mono (by have := HB.out.size; simpa using this)))
  clear hb2 a0 a1 a2 f0 f1 f2
  obtain ⟨r0, r1, r2, rf⟩ := arr3 HR2.out
  have g0 := rf 0; have g1 := rf 1; have g2 := rf 2
  clear rf
  go_wp2_with fail
  refine bodyPost_ret (v := .tuple #[.agg #[.string s, .int .i64 s.size, .int .i64 r], .int .i64 0]) (by simp [results, Try.results8, go_sem, r0, r1, r2]) rfl ⟨rfl, ?_⟩
  repeat (refine Below.setCell ?_ (by simp) _)
  exact HB2.out

set_option maxHeartbeats 4000000 in
theorem swap_no (w : World) (s : ByteArray) (y r : Int) (t : ByteArray) (h : ¬ okD s y r) :
    Calls Try.prog 22 #[.agg #[.string s, .int .i64 y, .int .i64 r], .string t] w fun e w' => e = .returned (.tuple #[.agg #[.string ⟨#[]⟩, .int .i64 0, .int .i64 0], .int .i64 2]) ∧ Below w.heap.size w w' := by
  have c1 := hidp (fun W => check_no W s y r h)
  go_enter Try.func22, Try.ntmps22
  go_wp2_with fail
  refine (c1.out _).mono ?_
  rintro e w1 ⟨rfl, hb1⟩
  obtain ⟨hA, hR, hB⟩ := after2 [.string s, .int .i64 y, .int .i64 r] [.string ⟨#[]⟩, .int .i64 0, .int .i64 0] _ _ hb1
  have HA := hidp hA; have HR := hidp hR; have HB := hidp hB
  clear hb1 hA hR hB
  obtain ⟨a0, a1, a2, af⟩ := arr3 HA.out
  obtain ⟨r0, r1, r2, rf⟩ := arr3 HR.out
  have f0 := af 0; have f1 := af 1; have f2 := af 2
  have g0 := rf 0; have g1 := rf 1; have g2 := rf 2
  clear af rf
  go_wp2_with fail
  refine bodyPost_ret (v := .tuple #[.agg #[.string ⟨#[]⟩, .int .i64 0, .int .i64 0], .int .i64 2]) (by simp [results, Try.results22, go_sem, r0, r1, r2]) rfl ⟨rfl, ?_⟩
  repeat (refine Below.setCell ?_ (by simp) _)
  exact HB.out

set_option maxHeartbeats 4000000 in
theorem swap_full (w : World) (s : ByteArray) (y r : Int) (t : ByteArray) (h : okD s y r) (ht : r < t.size) :
    Calls Try.prog 22 #[.agg #[.string s, .int .i64 y, .int .i64 r], .string t] w fun e w' => e = .returned (.tuple #[.agg #[.string s, .int .i64 y, .int .i64 r], .int .i64 8]) ∧ Below w.heap.size w w' := by
  have c1 := hidp (fun W => check_ok W s y r h)
  have hsz := okD_nat h
  have c2 := hidp (fun W => owned_any W s y r (by omega))
  have hd : decide (r < (t.size : Int)) = true := by simpa using ht
  clear ht h
  go_enter Try.func22, Try.ntmps22
  go_wp2_with fail
  refine (c1.out _).mono ?_
  rintro e w1 ⟨rfl, hb1⟩
  obtain ⟨hA, hR, hB⟩ := after2 [.string s, .int .i64 y, .int .i64 r] [.string ⟨#[]⟩, .int .i64 0, .int .i64 0] _ _ hb1
  have HA := hidp hA; have HR := hidp hR; have HB := hidp hB
  clear hb1 hA hR hB
  obtain ⟨a0, a1, a2, af⟩ := arr3 HA.out
  clear af
  go_wp2_with fail
  refine (c2.out _).mono ?_
  rintro e w2 ⟨rfl, hb2⟩
  have HR2 := hidp (HR.out.below hb2 HR.out.lt); have HB2 := hidp (HB.out.trans (hb2.mono HB.out.size))
  clear hb2 a0 a1 a2
  obtain ⟨r0, r1, r2, rf⟩ := arr3 HR2.out
  have g0 := rf 0; have g1 := rf 1; have g2 := rf 2
  clear rf
  go_wp2_with fail
  refine bodyPost_ret (v := .tuple #[.agg #[.string s, .int .i64 y, .int .i64 r], .int .i64 8]) (by simp [results, Try.results22, go_sem, r0, r1, r2]) rfl ⟨rfl, ?_⟩
  repeat (refine Below.setCell ?_ (by simp) _)
  exact HB2.out
set_option maxHeartbeats 4000000 in
theorem swap_ok (w : World) (s : ByteArray) (y r : Int) (t : ByteArray) (h : okD s y r) (ht : t.size ≤ r) :
    Calls Try.prog 22 #[.agg #[.string s, .int .i64 y, .int .i64 r], .string t] w fun e w' => e = .returned (.tuple #[.agg #[.string t, .int .i64 t.size, .int .i64 r], .int .i64 0]) ∧ Below w.heap.size w w' := by
  have c1 := hidp (fun W => check_ok W s y r h)
  have hsz := okD_nat h
  obtain ⟨h1, h2, h3, h4⟩ := h
  have c2 := hidp (fun W => clone_any t W (by omega))
  have hd : decide (r < (t.size : Int)) = false := by simp; omega
  have hts : t.size ≤ 1048576 := by omega
  clear ht
  go_enter Try.func22, Try.ntmps22
  go_wp2_with fail
  refine (c1.out _).mono ?_
  rintro e w1 ⟨rfl, hb1⟩
  obtain ⟨hA, hR, hB⟩ := after2 [.string s, .int .i64 y, .int .i64 r] [.string ⟨#[]⟩, .int .i64 0, .int .i64 0] _ _ hb1
  have HA := hidp hA; have HR := hidp hR; have HB := hidp hB
  clear hb1 hA hR hB
  obtain ⟨a0, a1, a2, af⟩ := arr3 HA.out
  clear af
  go_wp2_with fail
  clear a0 a1 a2
  have cr := hidp (show ∀ W, Cls w1.heap.size w1 W → W.cell? ⟨w.heap.size, 2, none⟩ = some (.int .i64 r) from fun W h => (arr3 (HA.out.below h HA.out.lt)).2.2.1)
  have cc := hidp (show ∀ W, Cls w1.heap.size w1 W → Calls Try.prog 29 #[.string t] W fun e w' => e = .returned (.string t) ∧ Cls w1.heap.size w1 w' from fun W h => (c2.out W).mono fun e w' ⟨h1, h2⟩ => ⟨h1, h.step (Nat.le_refl _) h2⟩)
  refine wp_region_then (C := Cls w1.heap.size w1) 7 (by kernel_rfl) (by kernel_rfl) (Cls.start _ _) ?_
  simp only [List.take, List.drop]
  repeat (first
    | (refine q_call ?_ 29 _ ?_ cc.out ?_
       · rfl
       · intro w; go_simp; done
       simp only [Act.put, List.setIfInBounds_toArray, List.set_cons_zero, List.set_cons_succ])
    | (apply q_val
       · rfl
       · intro w hw; have hx := cr.out w hw; go_simp; first | done | with_reducible rfl | rfl
       simp only [Act.put, List.setIfInBounds_toArray, List.set_cons_zero, List.set_cons_succ]))
  refine wpQuiet_nil ?_
  intro w2 hC
  have HR2 := hidp (HR.out.below hC HR.out.lt); have HB2 := hidp (HB.out.trans (Below.mono hC HB.out.size))
  clear hC cr cc
  obtain ⟨r0, r1, r2, rf⟩ := arr3 HR2.out
  have g0 := rf 0; have g1 := rf 1; have g2 := rf 2
  clear rf
  go_wp2_with fail
  refine bodyPost_ret (v := .tuple #[.agg #[.string t, .int .i64 t.size, .int .i64 r], .int .i64 0]) (by simp [results, Try.results22, go_sem, r0, r1, r2]) rfl ⟨rfl, ?_⟩
  repeat (refine Below.setCell ?_ (by simp) _)
  exact HB2.out
end Go.Proofs.Ytbgooppmhgaicab
