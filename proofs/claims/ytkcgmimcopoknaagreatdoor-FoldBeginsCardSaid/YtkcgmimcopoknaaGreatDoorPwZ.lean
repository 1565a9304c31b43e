/-
  Joined: PwH PwI.
-/
import Derived.Test.YtkcgmimcopoknaaGreatDoorPwX
import Derived.Test.YtkcgmimcopoknaaGreatDoorPwG
namespace Go.Proofs.YtkcgmimcopoknaaGreatDoor
set_option maxRecDepth 100000
set_option linter.unusedVariables false
set_option linter.unusedSimpArgs false
open Go.RowKit Rw


/-- A text cut at the first k blanks. -/
def cutB : Nat → ByteArray → List ByteArray
  | 0, s => [s]
  | k + 1, s => if Lib.indexByte s.data.toList 32 < 0 then [s] else s.extract 0 (Lib.indexByte s.data.toList 32).toNat :: cutB k (s.extract ((Lib.indexByte s.data.toList 32).toNat + 1) s.size)
theorem cutB_miss {k : Nat} {s : ByteArray} (h : Lib.indexByte s.data.toList 32 < 0) : cutB k s = [s] := by
  cases k with
  | zero => rfl
  | succ k => rw [cutB, if_pos h]
theorem cutB_hit {k i : Nat} {s : ByteArray} (h : Lib.indexByte s.data.toList 32 = (i : Int)) : cutB (k + 1) s = s.extract 0 i :: cutB k (s.extract (i + 1) s.size) := by
  rw [cutB, if_neg (by omega), h]; simp
theorem cutB_len : ∀ (k : Nat) (s : ByteArray), (cutB k s).length ≤ k + 1
  | 0, s => by simp [cutB]
  | k + 1, s => by
    rw [cutB]; split
    · simp
    · have := cutB_len k (s.extract ((Lib.indexByte s.data.toList 32).toNat + 1) s.size); simp; omega
theorem cutB_size : ∀ (k : Nat) (s : ByteArray), ∀ x ∈ cutB k s, x.size ≤ s.size
  | 0, s => by simp [cutB]
  | k + 1, s => by
    rw [cutB]; split
    · simp
    · intro x hx
      rcases List.mem_cons.1 hx with rfl | hx
      · simp; omega
      · have := cutB_size k _ x hx; simp at this; omega
/-- The words of a text. -/
def spl (s : ByteArray) : List ByteArray := cutB (min 38 (s.size + 1) - 1) s
theorem spl_len (s : ByteArray) : (spl s).length ≤ 38 := by have := cutB_len (min 38 (s.size + 1) - 1) s; unfold spl; omega
set_option maxHeartbeats 4000000 in
theorem index1_any (w : World) (s : ByteArray) : Calls Tryz.prog 163 #[.string s, .string (⟨#[32]⟩ : ByteArray)] w fun e w' => e = .returned (.int .i64 (Lib.indexByte s.data.toList 32)) ∧ w' = w := by
  have C := hidp (fun W => Tryz.stringslite_Index_one s 32 W)
  go_enter Tryz.func163, Tryz.ntmps163
  go_wp2_with (go_at_call 153; refine (C.out _).mono ?_; rintro e w1 ⟨rfl, rfl⟩)
  go_ret
  exact ⟨rfl, rfl⟩
/-- The row that the words come into. -/
def rowW (done : List ByteArray) (N : Nat) : List Value := strV done ++ List.replicate (N - done.length) (.string ByteArray.empty)
theorem rowW_len {done : List ByteArray} {N : Nat} (h : done.length ≤ N) : (rowW done N).length = N := by unfold rowW; rw [List.length_append, strV_length, List.length_replicate]; omega
theorem rowW_set {done : List ByteArray} {N : Nat} (h : done.length < N) (x : ByteArray) : (rowW done N).set done.length (.string x) = rowW (done ++ [x]) N := by
  unfold rowW
  obtain ⟨m, hm⟩ : ∃ m, N - done.length = m + 1 := ⟨N - done.length - 1, by omega⟩
  rw [hm, List.replicate_succ, ← strV_length done, List.set_append_right _ _ (Nat.le_refl _), Nat.sub_self]
  simp [strV, show N - (done.length + 1) = m from by omega]
theorem mkN (w : World) (N : Nat) (hN : N ≤ 38) : (Instr.makeSlice 51 (.int .i64 (N : Int)) (.int .i64 (N : Int))).run Tryz.prog w = .ok (.slice (some ⟨w.heap.size, 0, none⟩) N N) (w.alloc (.cells (rowW [] N).toArray 9)) := by
  have h := run_make_row' (P := Tryz.prog) 51 9 (.string ByteArray.empty) 16 Tryz.underlying51 info_str rfl .i64 .i64 N (by omega) (by omega) w
  rw [h]
  congr 2
  apply congrArg (fun c => Obj.cells c 9 (0, 0))
  unfold rowW madeCells
  simp [strV]
  apply Array.ext
  · simp
  · intro i h1 h2; simp [Nat.mod_one]
set_option maxHeartbeats 16000000 in
theorem genSplit_any (w : World) (s : ByteArray) (hs : s.size ≤ 281474976710656) :
    Calls Tryz.prog 140 #[.string s, .string (⟨#[32]⟩ : ByteArray), .int .i64 0, .int .i64 38] w fun e w' => ∃ g N, e = .returned (.slice (some ⟨g, 0, none⟩) (spl s).length N) ∧ (spl s).length ≤ N ∧ Arr w' g 9 (rowW (spl s) N) ∧ Below w.heap.size w w' := by
  obtain ⟨N, hN⟩ : ∃ N, min 38 (s.size + 1) = N := ⟨_, rfl⟩
  have hN38 : N ≤ 38 := by omega
  have hN1 : 1 ≤ N := by omega
  have hmin : ∀ W ts, (Builtin.min_ ts 3 #[.int .i64 38, .int .i64 ((s.size : Int) + 1)]).run Tryz.prog W = .ok (.int .i64 (N : Int)) W := fun W ts => by
    rw [run_min_int2]; congr 2
    by_cases h : (s.size : Int) + 1 < 38 <;> simp [h] <;> omega
  have hmk := mkN w N hN38
  have HP := hidp (show spl s = cutB (N - 1) s from by unfold spl; rw [hN])
  have e1 : ((⟨#[32]⟩ : ByteArray).toList.isEmpty) = false := by simp [ByteArray.toList_eq]
  have e2 : ((⟨#[32]⟩ : ByteArray).toList == []) = false := by simp [ByteArray.toList_eq]
  have hw1 : (N : Int) - 1 = ((N - 1 : Nat) : Int) := by omega
  have C := hidp (fun W x => index1_any W x)
  have HAR := hidp (Arr.new w 9 (rowW [] N)); have HBR := hidp ((Below.refl w.heap.size w).alloc (Nat.le_refl _) (.cells (rowW [] N).toArray 9))
  clear hN
  go_enter Tryz.func140, Tryz.ntmps140
  go_wp2_with fail
  obtain ⟨g, hg⟩ : ∃ g, w.heap.size = g := ⟨_, rfl⟩
  have HG := hidp hg
  obtain ⟨W0, hW0⟩ : ∃ W, w.alloc (.cells (rowW [] N).toArray 9) = W := ⟨_, rfl⟩
  rw [hg] at HAR ⊢
  rw [hW0] at HAR HBR ⊢
  clear hmk hmin hg hW0
  have hgW := hidp (show w.heap.size ≤ g from by rw [HG.out]; exact Nat.le_refl _)
  go_loopw [0, 10] (fun t0 t10 wr => ∃ (i : Nat) (rest : ByteArray) (done : List ByteArray), t0 = .string rest ∧ t10 = .int .i64 (i : Int) ∧ i ≤ N - 1 ∧ done.length = i ∧ rest.size ≤ s.size ∧ Arr wr g 9 (rowW done N) ∧ Below w.heap.size w wr ∧ cutB (N - 1) s = done ++ cutB (N - 1 - i) rest) (fun _ t10 _ => N - 1 - (intOf t10).toNat)
  case atStart => exact ⟨0, s, [], rfl, rfl, by omega, rfl, Nat.le_refl _, HAR.out, HBR.out, rfl⟩
  case round =>
    obtain ⟨i, rest, done, rfl, rfl, hi, hd, hrs, ha, hb, hc⟩ := hrel
    have HA := hidp ha; have HB := hidp hb; have HC := hidp hc; have HD := hidp hd
    clear ha hb hc hd HAR HBR
    have hfin := hidp (show cutB (N - 1 - i) rest = [rest] → (spl s).length = i + 1 ∧ (rowW done N).set i (.string rest) = rowW (spl s) N from fun h => by
      have e : spl s = done ++ [rest] := by rw [HP.out, HC.out, h]
      refine ⟨by rw [e]; simp [HD.out], ?_⟩
      rw [e]
      have := rowW_set (done := done) (N := N) (by rw [HD.out]; omega) rest
      rw [HD.out] at this
      exact this)
    by_cases hlt : i < N - 1
    · have d1 : decide ((i : Int) < ((N - 1 : Nat) : Int)) = true := by simp; omega
      have d2 : decide ((i : Int) < (N : Int) - 1) = true := by simp; omega
      have d3 : (i : Int) < (N : Int) - 1 := by omega
      rcases Int.lt_or_le (Lib.indexByte rest.data.toList 32) 0 with h | h
      · have hm : Lib.indexByte rest.data.toList 32 = -1 := by have := Lib.indexByte_ge rest.data.toList 32; omega
        have CR := hidp (fun W => C.out W rest)
        rw [hm] at CR
        obtain ⟨f1, f2⟩ := hfin.out (cutB_miss h)
        have HF1 := hidp f1; have HF2 := hidp f2
        have hiN : i < (rowW done N).length := by rw [rowW_len (by rw [HD.out]; omega)]; omega
        clear h hm f1 f2 hfin
        go_wp2_with (first | (go_at_call 163; refine (CR.out _).mono ?_; rintro e w1 ⟨rfl, rfl⟩) | (refine Rt.wpL_putF rfl 9 (.tmp 61) _ rfl g i (.string rest) rfl rfl (by kernel_rfl) rfl (rowW done N) HA.out hiN ?_; intro wz ha hp; have HBZ := hidp (hp.below' HB.out hgW.out); have HAZ := hidp ha; clear ha hp))
        go_ret
        exact ⟨g, N, by rw [HF1.out]; rfl, by rw [HF1.out]; omega, by rw [← HF2.out]; exact HAZ.out, HBZ.out⟩
      · obtain ⟨j, hj⟩ : ∃ j : Nat, Lib.indexByte rest.data.toList 32 = (j : Int) := ⟨_, (Int.toNat_of_nonneg h).symm⟩
        have hjs : j < rest.size := by
          have := (List.getElem?_eq_some_iff.1 (Lib.indexByte_some hj).1).1
          rw [size_toList] at this; exact this
        have CR := hidp (fun W => C.out W rest)
        rw [hj] at CR
        obtain ⟨m, hm⟩ : ∃ m, N - 1 - i = m + 1 := ⟨N - 1 - i - 1, by omega⟩
        have HN := hidp (show cutB (N - 1) s = (done ++ [rest.extract 0 j]) ++ cutB (N - 1 - (i + 1)) (rest.extract (j + 1) rest.size) from by
          rw [HC.out, hm, cutB_hit hj, show N - 1 - (i + 1) = m from by omega]; simp)
        have HST := hidp (show (rowW done N).set i (.string (rest.extract 0 j)) = rowW (done ++ [rest.extract 0 j]) N from by
          have := rowW_set (done := done) (N := N) (by rw [HD.out]; omega) (rest.extract 0 j)
          rw [HD.out] at this
          exact this)
        have hiN : i < (rowW done N).length := by rw [rowW_len (by rw [HD.out]; omega)]; omega
        have c0 : ¬ ((j : Int) < 0) := by omega
        have c0' : decide ((j : Int) < 0) = false := by simp
        have c1 : (0 : Int) ≤ (j : Int) := by omega
        have c2 : (j : Int) ≤ (rest.size : Int) := by omega
        have c3 : (0 : Int) ≤ (j : Int) + 1 := by omega
        have c4 : (j : Int) + 1 ≤ (rest.size : Int) := by omega
        have cs : ((⟨#[32]⟩ : ByteArray)).size = 1 := rfl
        clear h hj hm hfin
        go_wp2_with (first | (go_at_call 163; refine (CR.out _).mono ?_; rintro e w1 ⟨rfl, rfl⟩) | (refine Rt.wpL_putF rfl 9 (.tmp 49) _ rfl g i (.string (rest.extract 0 j)) rfl rfl (by kernel_rfl) rfl (rowW done N) HA.out hiN ?_; intro wz ha hp; have HBZ := hidp (hp.below' HB.out hgW.out); have HAZ := hidp ha; clear ha hp))
        exact ⟨⟨i + 1, rest.extract (j + 1) rest.size, done ++ [rest.extract 0 j], rfl, by go_num, by omega, by simp [HD.out], by simp; omega, by rw [← HST.out]; exact HAZ.out, HBZ.out, HN.out⟩, by simp [intOf]; omega⟩
    · have d1 : decide ((i : Int) < ((N - 1 : Nat) : Int)) = false := by simp; omega
      have d2 : decide ((i : Int) < (N : Int) - 1) = false := by simp; omega
      have d3 : ¬ (i : Int) < (N : Int) - 1 := by omega
      obtain ⟨f1, f2⟩ := hfin.out (by rw [show N - 1 - i = 0 from by omega]; rfl)
      have HF1 := hidp f1; have HF2 := hidp f2
      have hiN : i < (rowW done N).length := by rw [rowW_len (by rw [HD.out]; omega)]; omega
      clear f1 f2 hfin
      go_wp2_with (refine Rt.wpL_putF rfl 9 (.tmp 61) _ rfl g i (.string rest) rfl rfl (by kernel_rfl) rfl (rowW done N) HA.out hiN ?_; intro wz ha hp; have HBZ := hidp (hp.below' HB.out hgW.out); have HAZ := hidp ha; clear ha hp)
      go_ret
      exact ⟨g, N, by rw [HF1.out]; rfl, by rw [HF1.out]; omega, by rw [← HF2.out]; exact HAZ.out, HBZ.out⟩
set_option maxHeartbeats 4000000 in
theorem splitN_any (w : World) (s : ByteArray) (hs : s.size ≤ 281474976710656) :
    Calls Tryz.prog 106 #[.string s, .string (⟨#[32]⟩ : ByteArray), .int .i64 38] w fun e w' => ∃ g N, e = .returned (.slice (some ⟨g, 0, none⟩) (spl s).length N) ∧ (spl s).length ≤ N ∧ Arr w' g 9 (rowW (spl s) N) ∧ Below w.heap.size w w' := by
  have c := hidp (genSplit_any w s hs)
  go_enter Tryz.func106, Tryz.ntmps106
  go_wp2_with fail
  refine c.out.mono ?_
  rintro e w1 ⟨g, N, rfl, h1, h2, h3⟩
  have H := hidp (And.intro h1 (And.intro h2 h3))
  clear h1 h2 h3
  go_wp2_with fail
  go_ret
  exact ⟨g, N, rfl, H.out⟩
end Go.Proofs.YtkcgmimcopoknaaGreatDoor

namespace Go.Proofs.YtkcgmimcopoknaaGreatDoor
set_option maxRecDepth 100000
set_option linter.unusedVariables false
set_option linter.unusedSimpArgs false
open Go.RowKit Rw Go.Shelf
attribute [local go_sem] Oper.semAt_some


theorem run_fromW (g o n c i : Nat) (hi : i ≤ n) (w : World) : (Instr.sliceAt 51 (.slice (some ⟨g, o, none⟩) n c) (some (.int .i64 (i : Int))) none none).run Tryz.prog w = .ok (.slice (some ⟨g, if c = i then o else o + i, none⟩) (n - i) (c - i)) w := by
  have hu : Tryz.prog.underlying 51 = some (.slice (Tryz.prog.elem 51)) := by kernel_rfl
  have he : Tryz.prog.elem 51 = 9 := by kernel_rfl
  obtain ⟨i0, hi0, hz0, hz1, hz2⟩ := info_parts info_str
  rw [run_sliceAt_slice (P := Tryz.prog) (w := w) 51 _ _ _ _ hu]
  rw [run_slice_l (P := Tryz.prog) (w := w) 51 (some ⟨g, o, none⟩) n c hu .i64 (i : Int) (by omega) (by omega), he]
  have hsz : ∀ w, (sizeOf 9).run Tryz.prog w = .ok 1 w := fun w => by simp [sizeOf, typeInfo, hi0, hz1]
  simp only [hsz, Result.andThen, sliced, Int.toNat_natCast]
  split <;> simp [addr_addR]
theorem run_pieceW (g o n c i : Nat) (hi : i + 2 ≤ n) (hc : n ≤ c) (w : World) : (Instr.sliceAt 51 (.slice (some ⟨g, o, none⟩) n c) (some (.int .i64 (i : Int))) (some (.int .i64 ((i : Int) + 2))) (some (.int .i64 ((i : Int) + 2)))).run Tryz.prog w = .ok (.slice (some ⟨g, o + i, none⟩) 2 2) w := by
  have hu : Tryz.prog.underlying 51 = some (.slice (Tryz.prog.elem 51)) := by kernel_rfl
  have he : Tryz.prog.elem 51 = 9 := by kernel_rfl
  obtain ⟨i0, hi0, hz0, hz1, hz2⟩ := info_parts info_str
  have e2 : ((i : Int) + 2).toNat = i + 2 := by omega
  rw [run_sliceAt_slice (P := Tryz.prog) (w := w) 51 _ _ _ _ hu]
  rw [run_slice_lhm (P := Tryz.prog) (w := w) 51 (some ⟨g, o, none⟩) n c hu .i64 .i64 .i64 (i : Int) ((i : Int) + 2) ((i : Int) + 2) (by omega) (by omega) (by omega) (by omega), he]
  simp only [e2, Int.toNat_natCast]
  simp [sizeOf, typeInfo, hi0, hz1, Result.andThen, sliced, addr_addR]
set_option maxHeartbeats 4000000 in
theorem chunk_any (w : World) (v : Value) (hv : v.cells = #[v]) :
    Calls Tryz.prog 109 #[v, .int .i64 2] w fun e w' => ∃ bs bn, e = .returned (.func (.func 141) #[] #[.pointer (some ⟨bs, 0, none⟩), .pointer (some ⟨bn, 0, none⟩)]) ∧ Arr w' bs 51 [v] ∧ Arr w' bn 3 [.int .i64 2] ∧ Below w.heap.size w w' := by
  go_enter Tryz.func109, Tryz.ntmps109
  go_wp2_with (first | (refine Rt.wpL_box1 51 rfl (.tmp 0) rfl v rfl hv ?_; intro b1 w1 n1) | (refine Rt.wpL_box1 3 rfl (.tmp 1) rfl (.int .i64 2) rfl rfl ?_; intro b2 w2 n2; have HA := hidp (n2.old n1.arr); have HN := hidp n2.arr; have HB := hidp (n1.below.trans (n2.below.mono n1.below.size)); clear n1 n2; have xn := arr1 HN.out))
  go_ret
  exact ⟨_, _, rfl, HA.out, HN.out, HB.out⟩
def encC (g o : Nat) {m : Nat} (j : Fin m) : Array Value := #[.slice (some ⟨g, o + 2 * j.1, none⟩) 2 2]
theorem fr_take {m j : Nat} (h : j < m) : (List.finRange m).take (j + 1) = (List.finRange m).take j ++ [⟨j, h⟩] := by
  rw [List.take_add_one, List.getElem?_eq_getElem (by simpa using h)]
  simp
theorem fr_all (m : Nat) : (List.finRange m).take m = List.finRange m := List.take_of_length_le (by simp)

set_option maxHeartbeats 16000000 in
theorem chunk1_in (n : Nat) (hn : 2 ≤ n) (l : Nat) (bs bn g o m L C : Nat) (hL : L = 2 * m) (hC : L ≤ C) (hm : m ≤ 16) (Kp : World → World → Prop)
    (hKs : ∀ X Y, Kp X Y → Arr X bs 51 [.slice (some ⟨g, o, none⟩) L C] → Arr Y bs 51 [.slice (some ⟨g, o, none⟩) L C]) (hKn : ∀ X Y, Kp X Y → Arr X bn 3 [.int .i64 2] → Arr Y bn 3 [.int .i64 2])
    (hKz : ∀ X Y, Kp X Y → X.heap.size ≤ Y.heap.size) (J Jx : List (Fin m) → World → Prop) (W : World) (hs : Arr W bs 51 [.slice (some ⟨g, o, none⟩) L C]) (hbn : Arr W bn 3 [.int .i64 2]) (hJ : AbidesFrom W.heap.size J)
    (hY : ∀ pre x W1, J pre W1 → pre.length < m → YieldAt Fence.wide (n - 1) Tryz.prog l (encC g o x) W1 fun e W' =>
      (e = .returned (.bool true) ∧ J (pre ++ [x]) W' ∧ Kp W1 W') ∨ (e = .returned (.bool false) ∧ Jx (pre ++ [x]) W'))
    (h0 : J [] W) :
    CallsIn Fence.wide n Tryz.prog 141 #[.func (.yield l) #[] #[], .pointer (some ⟨bs, 0, none⟩), .pointer (some ⟨bn, 0, none⟩)] W fun e W' => (∃ v, e = .returned v) ∧
      ((∃ ys, ys = List.finRange m ∧ J ys W') ∨ (∃ pre, pre <+: List.finRange m ∧ Jx pre W')) := by
  have HY := hidp hY; have HKs := hidp hKs; have HKn := hidp hKn; have HKz := hidp hKz; have HL := hidp hL
  clear hY hKs hKn hKz hL
  refine callsIn_of_wp Tryz.func141 rfl trivial ?_ rfl
  simp only [Tryz.ntmps141, List.size_toArray, List.length_cons, List.length_nil, Nat.reduceAdd, Nat.reduceSub, Array.replicate_succ, Array.replicate_zero, List.push_toArray, List.append_toArray, List.nil_append, List.cons_append]
  gi_wp2
  have HS0 := hidp hs; have HN0 := hidp hbn
  clear hs hbn
  gi_loopw [4] (fun t4 wr => ∃ i j : Nat, t4 = .int .i64 (i : Int) ∧ i = 2 * j ∧ j ≤ m ∧ J ((List.finRange m).take j) wr ∧ Arr wr bs 51 [.slice (some ⟨g, o, none⟩) L C] ∧ Arr wr bn 3 [.int .i64 2] ∧ W.heap.size ≤ wr.heap.size) (fun t4 _ => L - (intOf t4).toNat)
  case atStart => exact ⟨0, 0, rfl, rfl, by omega, h0, HS0.out, HN0.out, Nat.le_refl _⟩
  case round =>
    obtain ⟨i, j, rfl, hij, hj, hJs, hs, hbn, hsz⟩ := hrel
    have HJs := hidp hJs; have HS := hidp hs; have HN := hidp hbn; have HIJ := hidp hij
    clear hJs hs hbn HS0 HN0 hij
    have x1 := arr1 HS.out; have x2 := arr1 HN.out
    by_cases hlt : i < L
    · have e1 : decide ((i : Int) < (L : Int)) = true := by simp; omega
      have hjm : j < m := by have := HL.out; have := HIJ.out; omega
      have hs1 := fun W => run_fromW g o L C i (by omega) W
      have hs2 := fun W => run_pieceW g o L C i (by have := HL.out; have := HIJ.out; omega) hC W
      have hmin : ∀ W ts, (Builtin.min_ ts 3 #[.int .i64 2, .int .i64 ((L - i : Nat) : Int)]).run Tryz.prog W = .ok (.int .i64 2) W := fun W ts => by
        rw [run_min_int2]; congr 2; rw [if_neg (by have := HL.out; have := HIJ.out; omega)]
      have hpx := hidp (show (List.finRange m).take j ++ [⟨j, hjm⟩] <+: List.finRange m from by rw [← fr_take hjm]; exact List.take_prefix _ _)
      have hi64 : (i : Int) + 2 ≤ 64 := by have := HL.out; have := HIJ.out; omega
      have hi0 : (0 : Int) ≤ (i : Int) := by omega
      have hw2 : IntKind.i64.wrap ((i : Int) + 2) = (i : Int) + 2 := by rw [IntKind.wrap_i64]; omega
      have hci : ¬ C = i := by have := HL.out; have := HIJ.out; omega
      gi_wp2_with fail
      obtain ⟨U, hU⟩ : ∃ U, ({ wr with drawn := wr.drawn + 1 } : World) = U := ⟨_, rfl⟩
      have bU : Below wr.heap.size wr U := by rw [← hU]; exact (Below.refl _ _).drew
      have HBU := hidp bU; have HSU := hidp (HS.out.below bU HS.out.lt); have HNU := hidp (HN.out.below bU HN.out.lt)
      have HCU := hidp (show U.cell? ⟨bs, 0, none⟩ = some (.slice (some ⟨g, o, none⟩) L C) ∧ U.cell? ⟨bn, 0, none⟩ = some (.int .i64 2) from ⟨arr1 HSU.out, arr1 HNU.out⟩)
      clear bU
      refine Rnd.in_region_scr0 (S := fun W => W.cell? ⟨bs, 0, none⟩ = some (.slice (some ⟨g, o, none⟩) L C) ∧ W.cell? ⟨bn, 0, none⟩ = some (.int .i64 2)) (.take 0 (.take 1 (.take 2 (.take 3 (.take 4 (.take 5 (.take 6 .done))))))) Rnd.wideF (by kernel_rfl) (by kernel_rfl) (by kernel_rfl) (by simp [Scr.depth]) (by kernel_rfl) (by rw [hU]; exact HCU.out) ?_
      simp only [hU]
      clear hU
      apply s_val
      case ho => rfl
      case hw => rfl
      case hv => intro w hw; obtain ⟨z0, z1⟩ := hw; go_simp; first | done | with_reducible rfl | rfl
      simp only [Act.put, List.getElem_toArray, List.getElem_cons_zero, List.getElem_cons_succ, List.setIfInBounds_toArray, List.set_cons_zero, List.set_cons_succ]
      apply s_val
      case ho => rfl
      case hw => rfl
      case hv => intro w hw; obtain ⟨z0, z1⟩ := hw; go_simp; first | done | with_reducible rfl | rfl
      simp only [Act.put, List.getElem_toArray, List.getElem_cons_zero, List.getElem_cons_succ, List.setIfInBounds_toArray, List.set_cons_zero, List.set_cons_succ]
      apply s_val
      case ho => rfl
      case hw => rfl
      case hv => intro w hw; obtain ⟨z0, z1⟩ := hw; go_simp; first | done | with_reducible rfl | rfl
      simp only [Act.put, List.getElem_toArray, List.getElem_cons_zero, List.getElem_cons_succ, List.setIfInBounds_toArray, List.set_cons_zero, List.set_cons_succ]
      apply s_val (v := .slice (some ⟨g, (if C = i then o else o + i), none⟩) (L - i) (C - i))
      case ho => rfl
      case hw => rfl
      case hv => intro w hw; obtain ⟨z0, z1⟩ := hw; have q := hs1; go_simp; first | done | with_reducible rfl | rfl
      simp only [Act.put, List.getElem_toArray, List.getElem_cons_zero, List.getElem_cons_succ, List.setIfInBounds_toArray, List.set_cons_zero, List.set_cons_succ]
      apply s_val
      case ho => rfl
      case hw => rfl
      case hv => intro w hw; obtain ⟨z0, z1⟩ := hw; go_simp; first | done | with_reducible rfl | rfl
      simp only [Act.put, List.getElem_toArray, List.getElem_cons_zero, List.getElem_cons_succ, List.setIfInBounds_toArray, List.set_cons_zero, List.set_cons_succ]
      apply s_val (v := .int .i64 2)
      case ho => rfl
      case hw => rfl
      case hv => intro w hw; have q := hmin; go_simp; first | done | with_reducible rfl | rfl
      simp only [Act.put, List.getElem_toArray, List.getElem_cons_zero, List.getElem_cons_succ, List.setIfInBounds_toArray, List.set_cons_zero, List.set_cons_succ]
      apply s_val
      case ho => rfl
      case hw => rfl
      case hv => intro w hw; obtain ⟨z0, z1⟩ := hw; go_simp; first | done | with_reducible rfl | rfl
      simp only [Act.put, List.getElem_toArray, List.getElem_cons_zero, List.getElem_cons_succ, List.setIfInBounds_toArray, List.set_cons_zero, List.set_cons_succ]
      refine Rnd.scr_done0 ?_
      have x3 := arr1 HSU.out; have x4 := arr1 HNU.out
      have hUs := hidp HBU.out.size
      have hJ2 := hJ _ wr U none HJs.out (grown_of_below HBU.out) (fun r e => by cases e)
      obtain ⟨fn, tmps, assign, body, hy, hR⟩ := HY.out _ ⟨j, hjm⟩ U hJ2 (by simp; omega)
      simp only [encC] at hy hR
      rw [show o + 2 * j = o + i from by rw [HIJ.out]] at hy
      clear hJ2
      gi_wp2
      refine ⟨fun _ => by omega, hR.mono ?_⟩
      rintro e1 W3 (⟨rfl, hJ3, hk3⟩ | ⟨rfl, hJx3⟩)
      · have HS3 := hidp (HKs.out _ _ hk3 HSU.out); have HN3 := hidp (HKn.out _ _ hk3 HNU.out); have HJ3 := hidp (show J ((List.finRange m).take (j + 1)) W3 from by rw [fr_take hjm]; exact hJ3)
        have x5 := arr1 HS3.out; have x6 := arr1 HN3.out
        have hs3 := hidp (HKz.out _ _ hk3)
        clear hk3 hJ3 x1 x2 x3 x4
        gi_wp2
        exact ⟨⟨i + 2, j + 1, by go_num, by have := HIJ.out; omega, by omega, HJ3.out, HS3.out, HN3.out, by have := hUs.out; have := hs3.out; omega⟩, by simp [intOf]; omega⟩
      · gi_wp2
        refine bodyPost_ret (results_none rfl _ _ _) rfl ?_
        exact ⟨⟨_, rfl⟩, .inr ⟨_, hpx.out, hJx3⟩⟩
    · have e1 : decide ((i : Int) < (L : Int)) = false := by simp; omega
      obtain rfl : m = j := by have := HL.out; have := HIJ.out; omega
      gi_wp2
      go_end0
      exact ⟨⟨_, rfl⟩, .inl ⟨_, rfl, by have := HJs.out; rwa [fr_all] at this⟩⟩
end Go.Proofs.YtkcgmimcopoknaaGreatDoor
