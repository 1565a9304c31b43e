
/-
  power: how a text is cut at blanks (strings.SplitN with 38).
-/
import Derived.Test.YtiakfopdohcigaaGreatDoorPwE
namespace Go.Proofs.YtiakfopdohcigaaGreatDoor
set_option maxRecDepth 100000
set_option linter.unusedVariables false
set_option linter.unusedSimpArgs false
open Go.RowKit Rw


/-- A text cut at the first k blanks. -/
def cutB : Nat → ByteArray → List ByteArray
  | 0, s => [s]
  | k + 1, s => if Lib.indexByte s.data.toList 32 < 0 then [s] else s.extract 0 (Lib.indexByte s.data.toList 32).toNat :: cutB k (s.extract ((Lib.indexByte s.data.toList 32).toNat + 1) s.size)
theorem cutB_miss {k : Nat} {s : ByteArray} (h : Lib.indexByte s.data.toList 32 < 0) : cutB k s = [s] := by
  cases k with
  | zero => rfl
  | succ k => rw [cutB, if_pos h]
theorem cutB_hit {k i : Nat} {s : ByteArray} (h : Lib.indexByte s.data.toList 32 = (i : Int)) : cutB (k + 1) s = s.extract 0 i :: cutB k (s.extract (i + 1) s.size) := by
  rw [cutB, if_neg (by omega), h]; simp
theorem cutB_len : ∀ (k : Nat) (s : ByteArray), (cutB k s).length ≤ k + 1
  | 0, s => by simp [cutB]
  | k + 1, s => by
    rw [cutB]; split
    · simp
    · have := cutB_len k (s.extract ((Lib.indexByte s.data.toList 32).toNat + 1) s.size); simp; omega
theorem cutB_size : ∀ (k : Nat) (s : ByteArray), ∀ x ∈ cutB k s, x.size ≤ s.size
  | 0, s => by simp [cutB]
  | k + 1, s => by
    rw [cutB]; split
    · simp
    · intro x hx
      rcases List.mem_cons.1 hx with rfl | hx
      · simp; omega
      · have := cutB_size k _ x hx; simp at this; omega
/-- The words of a text. -/
def spl (s : ByteArray) : List ByteArray := cutB (min 38 (s.size + 1) - 1) s
theorem spl_len (s : ByteArray) : (spl s).length ≤ 38 := by have := cutB_len (min 38 (s.size + 1) - 1) s; unfold spl; omega
set_option maxHeartbeats 4000000 in
theorem index1_any (w : World) (s : ByteArray) : Calls Tryz.prog 151 #[.string s, .string (⟨#[32]⟩ : ByteArray)] w fun e w' => e = .returned (.int .i64 (Lib.indexByte s.data.toList 32)) ∧ w' = w := by
  have C := hidp (fun W => Tryz.stringslite_Index_one s 32 W)
  go_enter Tryz.func151, Tryz.ntmps151
  go_wp2_with (go_at_call 187; refine (C.out _).mono ?_; rintro e w1 ⟨rfl, rfl⟩)
  go_ret
  exact ⟨rfl, rfl⟩
/-- The row that the words come into. -/
def rowW (done : List ByteArray) (N : Nat) : List Value := strV done ++ List.replicate (N - done.length) (.string ByteArray.empty)
theorem rowW_len {done : List ByteArray} {N : Nat} (h : done.length ≤ N) : (rowW done N).length = N := by unfold rowW; rw [List.length_append, strV_length, List.length_replicate]; omega
theorem rowW_set {done : List ByteArray} {N : Nat} (h : done.length < N) (x : ByteArray) : (rowW done N).set done.length (.string x) = rowW (done ++ [x]) N := by
  unfold rowW
  obtain ⟨m, hm⟩ : ∃ m, N - done.length = m + 1 := ⟨N - done.length - 1, by omega⟩
  rw [hm, List.replicate_succ, ← strV_length done, List.set_append_right _ _ (Nat.le_refl _), Nat.sub_self]
  simp [strV, show N - (done.length + 1) = m from by omega]
theorem mkN (w : World) (N : Nat) (hN : N ≤ 38) : (Instr.makeSlice 31 (.int .i64 (N : Int)) (.int .i64 (N : Int))).run Tryz.prog w = .ok (.slice (some ⟨w.heap.size, 0, none⟩) N N) (w.alloc (.cells (rowW [] N).toArray 9)) := by
  have h := run_make_row' (P := Tryz.prog) 31 9 (.string ByteArray.empty) 16 Tryz.underlying31 info_str rfl .i64 .i64 N (by omega) (by omega) w
  rw [h]
  congr 2
  apply congrArg (fun c => Obj.cells c 9 (0, 0))
  unfold rowW madeCells
  simp [strV]
  apply Array.ext
  · simp
  · intro i h1 h2; simp [Nat.mod_one]
set_option maxHeartbeats 16000000 in
theorem genSplit_any (w : World) (s : ByteArray) (hs : s.size ≤ 281474976710656) :
    Calls Tryz.prog 115 #[.string s, .string (⟨#[32]⟩ : ByteArray), .int .i64 0, .int .i64 38] w fun e w' => ∃ g N, e = .returned (.slice (some ⟨g, 0, none⟩) (spl s).length N) ∧ (spl s).length ≤ N ∧ Arr w' g 9 (rowW (spl s) N) ∧ Below w.heap.size w w' := by
  obtain ⟨N, hN⟩ : ∃ N, min 38 (s.size + 1) = N := ⟨_, rfl⟩
  have hN38 : N ≤ 38 := by omega
  have hN1 : 1 ≤ N := by omega
  have hmin : ∀ W ts, (Builtin.min_ ts 3 #[.int .i64 38, .int .i64 ((s.size : Int) + 1)]).run Tryz.prog W = .ok (.int .i64 (N : Int)) W := fun W ts => by
    rw [run_min_int2]; congr 2
    by_cases h : (s.size : Int) + 1 < 38 <;> simp [h] <;> omega
  have hmk := mkN w N hN38
  have HP := hidp (show spl s = cutB (N - 1) s from by unfold spl; rw [hN])
  have e1 : ((⟨#[32]⟩ : ByteArray).toList.isEmpty) = false := by simp [ByteArray.toList_eq]
  have e2 : ((⟨#[32]⟩ : ByteArray).toList == []) = false := by simp [ByteArray.toList_eq]
  have hw1 : (N : Int) - 1 = ((N - 1 : Nat) : Int) := by omega
  have C := hidp (fun W x => index1_any W x)
  have HAR := hidp (Arr.new w 9 (rowW [] N)); have HBR := hidp ((Below.refl w.heap.size w).alloc (Nat.le_refl _) (.cells (rowW [] N).toArray 9))
  clear hN
  go_enter Tryz.func115, Tryz.ntmps115
  go_wp2_with fail
  obtain ⟨g, hg⟩ : ∃ g, w.heap.size = g := ⟨_, rfl⟩
  have HG := hidp hg
  obtain ⟨W0, hW0⟩ : ∃ W, w.alloc (.cells (rowW [] N).toArray 9) = W := ⟨_, rfl⟩
  rw [hg] at HAR ⊢
  rw [hW0] at HAR HBR ⊢
  clear hmk hmin hg hW0
  have hgW := hidp (show w.heap.size ≤ g from by rw [HG.out]; exact Nat.le_refl _)
  go_loopw [0, 10] (fun t0 t10 wr => ∃ (i : Nat) (rest : ByteArray) (done : List ByteArray), t0 = .string rest ∧ t10 = .int .i64 (i : Int) ∧ i ≤ N - 1 ∧ done.length = i ∧ rest.size ≤ s.size ∧ Arr wr g 9 (rowW done N) ∧ Below w.heap.size w wr ∧ cutB (N - 1) s = done ++ cutB (N - 1 - i) rest) (fun _ t10 _ => N - 1 - (intOf t10).toNat)
  case atStart => exact ⟨0, s, [], rfl, rfl, by omega, rfl, Nat.le_refl _, HAR.out, HBR.out, rfl⟩
  case round =>
    obtain ⟨i, rest, done, rfl, rfl, hi, hd, hrs, ha, hb, hc⟩ := hrel
    have HA := hidp ha; have HB := hidp hb; have HC := hidp hc; have HD := hidp hd
    clear ha hb hc hd HAR HBR
    have hfin := hidp (show cutB (N - 1 - i) rest = [rest] → (spl s).length = i + 1 ∧ (rowW done N).set i (.string rest) = rowW (spl s) N from fun h => by
      have e : spl s = done ++ [rest] := by rw [HP.out, HC.out, h]
      refine ⟨by rw [e]; simp [HD.out], ?_⟩
      rw [e]
      have := rowW_set (done := done) (N := N) (by rw [HD.out]; omega) rest
      rw [HD.out] at this
      exact this)
    by_cases hlt : i < N - 1
    · have d1 : decide ((i : Int) < ((N - 1 : Nat) : Int)) = true := by simp; omega
      have d2 : decide ((i : Int) < (N : Int) - 1) = true := by simp; omega
      have d3 : (i : Int) < (N : Int) - 1 := by omega
      rcases Int.lt_or_le (Lib.indexByte rest.data.toList 32) 0 with h | h
      · have hm : Lib.indexByte rest.data.toList 32 = -1 := by have := Lib.indexByte_ge rest.data.toList 32; omega
        have CR := hidp (fun W => C.out W rest)
        rw [hm] at CR
        obtain ⟨f1, f2⟩ := hfin.out (cutB_miss h)
        have HF1 := hidp f1; have HF2 := hidp f2
        have hiN : i < (rowW done N).length := by rw [rowW_len (by rw [HD.out]; omega)]; omega
        clear h hm f1 f2 hfin
        go_wp2_with (first | (go_at_call 151; refine (CR.out _).mono ?_; rintro e w1 ⟨rfl, rfl⟩) | (refine Rt.wpL_putF rfl 9 (.tmp 61) _ rfl g i (.string rest) rfl rfl (by kernel_rfl) rfl (rowW done N) HA.out hiN ?_; intro wz ha hp; have HBZ := hidp (hp.below' HB.out hgW.out); have HAZ := hidp ha; clear ha hp))
        go_ret
        exact ⟨g, N, by rw [HF1.out]; rfl, by rw [HF1.out]; omega, by rw [← HF2.out]; exact HAZ.out, HBZ.out⟩
      · obtain ⟨j, hj⟩ : ∃ j : Nat, Lib.indexByte rest.data.toList 32 = (j : Int) := ⟨_, (Int.toNat_of_nonneg h).symm⟩
        have hjs : j < rest.size := by
          have := (List.getElem?_eq_some_iff.1 (Lib.indexByte_some hj).1).1
          rw [size_toList] at this; exact this
        have CR := hidp (fun W => C.out W rest)
        rw [hj] at CR
        obtain ⟨m, hm⟩ : ∃ m, N - 1 - i = m + 1 := ⟨N - 1 - i - 1, by omega⟩
        have HN := hidp (show cutB (N - 1) s = (done ++ [rest.extract 0 j]) ++ cutB (N - 1 - (i + 1)) (rest.extract (j + 1) rest.size) from by
          rw [HC.out, hm, cutB_hit hj, show N - 1 - (i + 1) = m from by omega]; simp)
        have HST := hidp (show (rowW done N).set i (.string (rest.extract 0 j)) = rowW (done ++ [rest.extract 0 j]) N from by
          have := rowW_set (done := done) (N := N) (by rw [HD.out]; omega) (rest.extract 0 j)
          rw [HD.out] at this
          exact this)
        have hiN : i < (rowW done N).length := by rw [rowW_len (by rw [HD.out]; omega)]; omega
        have c0 : ¬ ((j : Int) < 0) := by omega
        have c0' : decide ((j : Int) < 0) = false := by simp
        have c1 : (0 : Int) ≤ (j : Int) := by omega
        have c2 : (j : Int) ≤ (rest.size : Int) := by omega
        have c3 : (0 : Int) ≤ (j : Int) + 1 := by omega
        have c4 : (j : Int) + 1 ≤ (rest.size : Int) := by omega
        have cs : ((⟨#[32]⟩ : ByteArray)).size = 1 := rfl
        clear h hj hm hfin
        go_wp2_with (first | (go_at_call 151; refine (CR.out _).mono ?_; rintro e w1 ⟨rfl, rfl⟩) | (refine Rt.wpL_putF rfl 9 (.tmp 49) _ rfl g i (.string (rest.extract 0 j)) rfl rfl (by kernel_rfl) rfl (rowW done N) HA.out hiN ?_; intro wz ha hp; have HBZ := hidp (hp.below' HB.out hgW.out); have HAZ := hidp ha; clear ha hp))
        exact ⟨⟨i + 1, rest.extract (j + 1) rest.size, done ++ [rest.extract 0 j], rfl, by go_num, by omega, by simp [HD.out], by simp; omega, by rw [← HST.out]; exact HAZ.out, HBZ.out, HN.out⟩, by simp [intOf]; omega⟩
    · have d1 : decide ((i : Int) < ((N - 1 : Nat) : Int)) = false := by simp; omega
      have d2 : decide ((i : Int) < (N : Int) - 1) = false := by simp; omega
      have d3 : ¬ (i : Int) < (N : Int) - 1 := by omega
      obtain ⟨f1, f2⟩ := hfin.out (by rw [show N - 1 - i = 0 from by omega]; rfl)
      have HF1 := hidp f1; have HF2 := hidp f2
      have hiN : i < (rowW done N).length := by rw [rowW_len (by rw [HD.out]; omega)]; omega
      clear f1 f2 hfin
      go_wp2_with (refine Rt.wpL_putF rfl 9 (.tmp 61) _ rfl g i (.string rest) rfl rfl (by kernel_rfl) rfl (rowW done N) HA.out hiN ?_; intro wz ha hp; have HBZ := hidp (hp.below' HB.out hgW.out); have HAZ := hidp ha; clear ha hp)
      go_ret
      exact ⟨g, N, by rw [HF1.out]; rfl, by rw [HF1.out]; omega, by rw [← HF2.out]; exact HAZ.out, HBZ.out⟩
set_option maxHeartbeats 4000000 in
theorem splitN_any (w : World) (s : ByteArray) (hs : s.size ≤ 281474976710656) :
    Calls Tryz.prog 65 #[.string s, .string (⟨#[32]⟩ : ByteArray), .int .i64 38] w fun e w' => ∃ g N, e = .returned (.slice (some ⟨g, 0, none⟩) (spl s).length N) ∧ (spl s).length ≤ N ∧ Arr w' g 9 (rowW (spl s) N) ∧ Below w.heap.size w w' := by
  have c := hidp (genSplit_any w s hs)
  go_enter Tryz.func65, Tryz.ntmps65
  go_wp2_with fail
  refine c.out.mono ?_
  rintro e w1 ⟨g, N, rfl, h1, h2, h3⟩
  have H := hidp (And.intro h1 (And.intro h2 h3))
  clear h1 h2 h3
  go_wp2_with fail
  go_ret
  exact ⟨g, N, rfl, H.out⟩
end Go.Proofs.YtiakfopdohcigaaGreatDoor
