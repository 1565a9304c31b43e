
/-
  disk: Fail.
-/
import Derived.Test.YtbgooppmhgaicabDskC
namespace Go.Proofs.Ytbgooppmhgaicab
set_option maxRecDepth 100000
set_option linter.unusedVariables false
set_option linter.unusedSimpArgs false
open Go.RowKit

/-- How many bytes stay of what was not synced. -/
def keepN (size y : Nat) (k : Int) : Nat := min k.toNat (size - y)
/-- What stays: a beginning, the last byte turned. -/
def failL (l : List UInt8) (y k : Nat) (b : UInt8) : List UInt8 := if 0 < k then (l.take (y + k)).set (y + k - 1) ((l.take (y + k)).getD (y + k - 1) 0 ^^^ b) else l.take y
theorem failL_len (l : List UInt8) (y k : Nat) (b : UInt8) (h : y + k ≤ l.length) : (failL l y k b).length = y + k := by unfold failL; split <;> simp <;> omega
theorem max0 (W : World) (ts : Array TypeId) (x : Int) : (Builtin.max_ ts 3 #[.int .i64 x, .int .i64 0]).run Try.prog W = .ok (.int .i64 ((x.toNat : Nat) : Int)) W := by
  go_simp
  first | done | (congr 2; first | done | omega | (split <;> omega))
theorem minK (W : World) (ts : Array TypeId) (x n y : Nat) (h : y ≤ n) : (Builtin.min_ ts 3 #[.int .i64 (x : Int), .int .i64 ((n : Int) - (y : Int))]).run Try.prog W = .ok (.int .i64 ((min x (n - y) : Nat) : Int)) W := by
  go_simp
  congr 2
  first | omega | (split <;> omega)

set_option maxHeartbeats 4000000 in
theorem fail_no (w : World) (s : ByteArray) (y r : Int) (k b : Int) (h : ¬ okD s y r) :
    Calls Try.prog 9 #[.agg #[.string s, .int .i64 y, .int .i64 r], .int .i64 k, .int .u8 b] w fun e w' => e = .returned (.tuple #[.agg #[.string ⟨#[]⟩, .int .i64 0, .int .i64 0], .int .i64 2]) ∧ Below w.heap.size w w' := by
  have c1 := hidp (fun W => check_no W s y r h)
  go_enter Try.func9, Try.ntmps9
  go_wp2_with fail
  refine (c1.out _).mono ?_
  rintro e w1 ⟨rfl, hb1⟩
  obtain ⟨hA, hR, hB⟩ := after2 [.string s, .int .i64 y, .int .i64 r] [.string ⟨#[]⟩, .int .i64 0, .int .i64 0] _ _ hb1
  have HA := hidp hA; have HR := hidp hR; have HB := hidp hB
  clear hb1 hA hR hB
  obtain ⟨a0, a1, a2, af⟩ := arr3 HA.out
  obtain ⟨r0, r1, r2, rf⟩ := arr3 HR.out
  have g0 := rf 0; have g1 := rf 1; have g2 := rf 2
  clear af rf
  go_wp2_with fail
  refine bodyPost_ret (v := .tuple #[.agg #[.string ⟨#[]⟩, .int .i64 0, .int .i64 0], .int .i64 2]) (by simp [results, Try.results9, go_sem, r0, r1, r2]) rfl ⟨rfl, ?_⟩
  repeat (refine Below.setCell ?_ (by simp) _)
  exact HB.out

set_option maxHeartbeats 4000000 in
theorem fail_ok (w : World) (s : ByteArray) (y : Nat) (r : Int) (k : Int) (b : UInt8) (h : okD s y r) :
    Calls Try.prog 9 #[.agg #[.string s, .int .i64 y, .int .i64 r], .int .i64 k, .int .u8 b.toNat] w fun e w' =>
      e = .returned (.tuple #[.agg #[.string (mkS (failL s.data.toList y (keepN s.size y k) b)), .int .i64 ((y + keepN s.size y k : Nat) : Int), .int .i64 r], .int .i64 0]) ∧ Below w.heap.size w w' := by
  have c1 := hidp (fun W => check_ok W s y r h)
  have hsz := okD_nat h
  obtain ⟨h1, h2, h3, h4⟩ := h
  have hys : y ≤ s.size := by omega
  have hmx := fun W ts => max0 W ts k
  have hmn := fun W ts => minK W ts k.toNat s.size y hys
  obtain ⟨m, hm⟩ : ∃ m, k.toNat = m := ⟨_, rfl⟩
  obtain ⟨q, hq⟩ : ∃ q, keepN s.size y k = q := ⟨_, rfl⟩
  have hqn : min m (s.size - y) = q := by rw [← hq, ← hm]; rfl
  have hqs : y + q ≤ s.size := by omega
  rw [hm] at hmx hmn
  rw [hqn] at hmn
  rw [hq]
  clear hm hq hqn
  have k1 : (0 : Int) ≤ (y : Int) + (q : Int) := by omega
  have k2 : (y : Int) + (q : Int) ≤ (s.size : Int) := by omega
  have k3 : ((y : Int) + (q : Int)).toNat = y + q := by omega
  have k4 : (y : Int) ≤ (s.size : Int) := by omega
  go_enter Try.func9, Try.ntmps9
  go_wp2_with fail
  refine (c1.out _).mono ?_
  rintro e w1 ⟨rfl, hb1⟩
  obtain ⟨hA, hR, hB⟩ := after2 [.string s, .int .i64 y, .int .i64 r] [.string ⟨#[]⟩, .int .i64 0, .int .i64 0] _ _ hb1
  have HA := hidp hA; have HR := hidp hR; have HB := hidp hB
  clear hb1 hA hR hB
  obtain ⟨a0, a1, a2, af⟩ := arr3 HA.out
  clear af
  obtain ⟨S, hS⟩ : ∃ S, s.extract 0 (y + q) = S := ⟨_, rfl⟩
  have hSs : S.size = y + q := by rw [← hS]; simp; omega
  have hSl := hidp (show S.data.toList = s.data.toList.take (y + q) from by rw [← hS]; simp)
  have hcv := Lib.run_convert_string_bytes (P := Try.prog) w1 9 50 5 S Try.underlying9 Try.underlying50 Try.underlying5
  have HM := hidp (bytes_mut w1 S)
  have HB1 := hidp (bytes_below w1 S)
  obtain ⟨cap, hcap⟩ : ∃ c, grownCap w1 S.size 0 5 = c := ⟨_, rfl⟩
  obtain ⟨W1, hW1⟩ : ∃ W, Lib.bytesWorld w1 5 S = W := ⟨_, rfl⟩
  rw [hSl.out, hW1] at HM
  rw [hW1] at HB1
  rw [hcap, hW1, hSs] at hcv
  have HX := hidp hS
  clear hcap hW1 hS hSs
  have HA2 := hidp (HA.out.below HB1.out HA.out.lt); have HR2 := hidp (HR.out.below HB1.out HR.out.lt); have HB2 := hidp (HB.out.trans (HB1.out.mono HB.out.size))
  rw [← HX.out] at hcv
  by_cases hq0 : 0 < q
  · have hd : decide (0 < (q : Int)) = true := by simp; omega
    have hl := hidp (show (s.data.toList.take (y + q)).length = y + q from by simp; omega)
    have hj : y + q - 1 < (s.data.toList.take (y + q)).length := by rw [hl.out]; omega
    obtain ⟨hc, hf⟩ := HM.out.2 (y + q - 1) hj
    have hset := hidp (HM.out.set (y + q - 1) ((s.data.toList.take (y + q)).getD (y + q - 1) 0 ^^^ b) hj)
    have hfl := hidp (show failL s.data.toList y q b = (s.data.toList.take (y + q)).set (y + q - 1) ((s.data.toList.take (y + q)).getD (y + q - 1) 0 ^^^ b) from by unfold failL; rw [if_pos hq0])
    rw [← hfl.out] at hset
    have hx := Go.u8_xor_nat ((s.data.toList.take (y + q)).getD (y + q - 1) 0).toNat b.toNat (UInt8.toNat_lt _) (UInt8.toNat_lt _)
    rw [← UInt8.toNat_xor] at hx
    generalize hcn : ((s.data.toList.take (y + q)).getD (y + q - 1) 0 ^^^ b).toNat = cn at hset hx
    generalize hco : ((s.data.toList.take (y + q)).getD (y + q - 1) 0).toNat = co at hc hx
    generalize b.toNat = bn at hx ⊢
    have hlf := hidp (failL_len s.data.toList y q b (by simpa using hqs))
    obtain ⟨L, hL⟩ : ∃ L, failL s.data.toList y q b = L := ⟨_, rfl⟩
    rw [hL] at hset hlf
    have HL := hidp hL
    clear hL
    have e1 : ((y : Int) + (q : Int) - 1).toNat = y + q - 1 := by omega
    have e2 : (0 : Int) ≤ (y : Int) + (q : Int) - 1 := by omega
    have e3 : (y : Int) + (q : Int) - 1 < (y : Int) + (q : Int) := by omega
    have e4 : y + q - 1 < y + q := by omega
    clear hcn hco hfl hj
    have HA3 := hidp (HA2.out.other ⟨w1.heap.size, y + q - 1, none⟩ (by have := HA.out.lt; simp; omega) (.int .u8 (cn : Int)))
    have HR3 := hidp (HR2.out.other ⟨w1.heap.size, y + q - 1, none⟩ (by have := HR.out.lt; simp; omega) (.int .u8 (cn : Int)))
    have HB3 := hidp (HB2.out.setCell (p := ⟨w1.heap.size, y + q - 1, none⟩) (by have := HB.out.size; simpa using this) (.int .u8 (cn : Int)))
    have hstr := str_mut _ w1.heap.size cap L hset.out
    rw [hlf.out] at hstr
    obtain ⟨x0, x1, x2, af⟩ := arr3 HA3.out
    obtain ⟨r0, r1, r2, rf⟩ := arr3 HR3.out
    have HS := hidp (arr3 HR2.out)
    have hne : w1.heap.size ≠ w.heap.size + 1 := by have := HR.out.lt; omega
    have HNE := hidp hne
    clear hne
    have g0 := rf 0; have g1 := rf 1; have g2 := rf 2
    clear af rf
    go_wp2_with fail
    refine bodyPost_ret (v := .tuple #[.agg #[.string (mkS L), .int .i64 ((y : Int) + (q : Int)), .int .i64 r], .int .i64 0]) (by
      obtain ⟨s0, s1, s2, _⟩ := HS.out
      have hne := HNE.out
      simp [results, Try.results9, go_sem, r0, r1, r2, s0, s1, s2, hne]) rfl ⟨by rw [HL.out, Int.natCast_add], ?_⟩
    have hle := HB.out.size
    repeat (refine Below.setCell ?_ (by first | (simp; done) | (simp; omega)) _)
    exact HB2.out
  · obtain rfl : q = 0 := by omega
    have hd : decide (0 < ((0 : Nat) : Int)) = false := by simp
    have hfl := hidp (show failL s.data.toList y 0 b = s.data.toList.take y from by unfold failL; rw [if_neg (by omega)])
    have hstr := str_mut _ w1.heap.size cap _ HM.out
    rw [show (s.data.toList.take (y + 0)).length = y + 0 from by simp; omega] at hstr
    obtain ⟨x0, x1, x2, af⟩ := arr3 HA2.out
    obtain ⟨r0, r1, r2, rf⟩ := arr3 HR2.out
    have g0 := rf 0; have g1 := rf 1; have g2 := rf 2
    clear af rf
    simp only [Nat.add_zero, Int.natCast_zero, Int.add_zero] at hcv hstr hmn k1 k2 k3
    go_wp2_with fail
    refine bodyPost_ret (v := .tuple #[.agg #[.string (mkS (s.data.toList.take y)), .int .i64 (y : Int), .int .i64 r], .int .i64 0]) (by simp [results, Try.results9, go_sem, r0, r1, r2]) rfl ⟨by rw [hfl.out, Nat.add_zero], ?_⟩
    repeat (refine Below.setCell ?_ (by simp) _)
    exact HB2.out
end Go.Proofs.Ytbgooppmhgaicab
