
/-
  power: slices.Chunk at pairs of words.
-/
import Derived.Test.YtiakfopdohcigaaGreatDoorPwH
import Derived.Test.YtiakfopdohcigaaGreatDoorPwG
namespace Go.Proofs.YtiakfopdohcigaaGreatDoor
set_option maxRecDepth 100000
set_option linter.unusedVariables false
set_option linter.unusedSimpArgs false
open Go.RowKit Rw Go.Shelf
attribute [local go_sem] Oper.semAt_some


theorem run_fromW (g o n c i : Nat) (hi : i ≤ n) (w : World) : (Instr.sliceAt 31 (.slice (some ⟨g, o, none⟩) n c) (some (.int .i64 (i : Int))) none none).run Tryz.prog w = .ok (.slice (some ⟨g, if c = i then o else o + i, none⟩) (n - i) (c - i)) w := by
  have hu : Tryz.prog.underlying 31 = some (.slice (Tryz.prog.elem 31)) := by kernel_rfl
  have he : Tryz.prog.elem 31 = 9 := by kernel_rfl
  obtain ⟨i0, hi0, hz0, hz1, hz2⟩ := info_parts info_str
  rw [run_sliceAt_slice (P := Tryz.prog) (w := w) 31 _ _ _ _ hu]
  rw [run_slice_l (P := Tryz.prog) (w := w) 31 (some ⟨g, o, none⟩) n c hu .i64 (i : Int) (by omega) (by omega), he]
  have hsz : ∀ w, (sizeOf 9).run Tryz.prog w = .ok 1 w := fun w => by simp [sizeOf, typeInfo, hi0, hz1]
  simp only [hsz, Result.andThen, sliced, Int.toNat_natCast]
  split <;> simp [addr_addR]
theorem run_pieceW (g o n c i : Nat) (hi : i + 2 ≤ n) (hc : n ≤ c) (w : World) : (Instr.sliceAt 31 (.slice (some ⟨g, o, none⟩) n c) (some (.int .i64 (i : Int))) (some (.int .i64 ((i : Int) + 2))) (some (.int .i64 ((i : Int) + 2)))).run Tryz.prog w = .ok (.slice (some ⟨g, o + i, none⟩) 2 2) w := by
  have hu : Tryz.prog.underlying 31 = some (.slice (Tryz.prog.elem 31)) := by kernel_rfl
  have he : Tryz.prog.elem 31 = 9 := by kernel_rfl
  obtain ⟨i0, hi0, hz0, hz1, hz2⟩ := info_parts info_str
  have e2 : ((i : Int) + 2).toNat = i + 2 := by omega
  rw [run_sliceAt_slice (P := Tryz.prog) (w := w) 31 _ _ _ _ hu]
  rw [run_slice_lhm (P := Tryz.prog) (w := w) 31 (some ⟨g, o, none⟩) n c hu .i64 .i64 .i64 (i : Int) ((i : Int) + 2) ((i : Int) + 2) (by omega) (by omega) (by omega) (by omega), he]
  simp only [e2, Int.toNat_natCast]
  simp [sizeOf, typeInfo, hi0, hz1, Result.andThen, sliced, addr_addR]
set_option maxHeartbeats 4000000 in
theorem chunk_any (w : World) (v : Value) (hv : v.cells = #[v]) :
    Calls Tryz.prog 68 #[v, .int .i64 2] w fun e w' => ∃ bs bn, e = .returned (.func (.func 116) #[] #[.pointer (some ⟨bs, 0, none⟩), .pointer (some ⟨bn, 0, none⟩)]) ∧ Arr w' bs 31 [v] ∧ Arr w' bn 3 [.int .i64 2] ∧ Below w.heap.size w w' := by
  go_enter Tryz.func68, Tryz.ntmps68
  go_wp2_with (first | (refine Rt.wpL_box1 31 rfl (.tmp 0) rfl v rfl hv ?_; intro b1 w1 n1) | (refine Rt.wpL_box1 3 rfl (.tmp 1) rfl (.int .i64 2) rfl rfl ?_; intro b2 w2 n2; have HA := hidp (n2.old n1.arr); have HN := hidp n2.arr; have HB := hidp (n1.below.trans (n2.below.mono n1.below.size)); clear n1 n2; have xn := arr1 HN.out))
  go_ret
  exact ⟨_, _, rfl, HA.out, HN.out, HB.out⟩
def encC (g o : Nat) {m : Nat} (j : Fin m) : Array Value := #[.slice (some ⟨g, o + 2 * j.1, none⟩) 2 2]
theorem fr_take {m j : Nat} (h : j < m) : (List.finRange m).take (j + 1) = (List.finRange m).take j ++ [⟨j, h⟩] := by
  rw [List.take_add_one, List.getElem?_eq_getElem (by simpa using h)]
  simp
theorem fr_all (m : Nat) : (List.finRange m).take m = List.finRange m := List.take_of_length_le (by simp)

set_option maxHeartbeats 16000000 in
theorem chunk1_in (n : Nat) (hn : 2 ≤ n) (l : Nat) (bs bn g o m L C : Nat) (hL : L = 2 * m) (hC : L ≤ C) (hm : m ≤ 16) (Kp : World → World → Prop)
    (hKs : ∀ X Y, Kp X Y → Arr X bs 31 [.slice (some ⟨g, o, none⟩) L C] → Arr Y bs 31 [.slice (some ⟨g, o, none⟩) L C]) (hKn : ∀ X Y, Kp X Y → Arr X bn 3 [.int .i64 2] → Arr Y bn 3 [.int .i64 2])
    (hKz : ∀ X Y, Kp X Y → X.heap.size ≤ Y.heap.size) (J Jx : List (Fin m) → World → Prop) (W : World) (hs : Arr W bs 31 [.slice (some ⟨g, o, none⟩) L C]) (hbn : Arr W bn 3 [.int .i64 2]) (hJ : AbidesFrom W.heap.size J)
    (hY : ∀ pre x W1, J pre W1 → pre.length < m → YieldAt Fence.wide (n - 1) Tryz.prog l (encC g o x) W1 fun e W' =>
      (e = .returned (.bool true) ∧ J (pre ++ [x]) W' ∧ Kp W1 W') ∨ (e = .returned (.bool false) ∧ Jx (pre ++ [x]) W'))
    (h0 : J [] W) :
    CallsIn Fence.wide n Tryz.prog 116 #[.func (.yield l) #[] #[], .pointer (some ⟨bs, 0, none⟩), .pointer (some ⟨bn, 0, none⟩)] W fun e W' => (∃ v, e = .returned v) ∧
      ((∃ ys, ys = List.finRange m ∧ J ys W') ∨ (∃ pre, pre <+: List.finRange m ∧ Jx pre W')) := by
  have HY := hidp hY; have HKs := hidp hKs; have HKn := hidp hKn; have HKz := hidp hKz; have HL := hidp hL
  clear hY hKs hKn hKz hL
  refine callsIn_of_wp Tryz.func116 rfl trivial ?_ rfl
  simp only [Tryz.ntmps116, List.size_toArray, List.length_cons, List.length_nil, Nat.reduceAdd, Nat.reduceSub, Array.replicate_succ, Array.replicate_zero, List.push_toArray, List.append_toArray, List.nil_append, List.cons_append]
  gi_wp2
  have HS0 := hidp hs; have HN0 := hidp hbn
  clear hs hbn
  gi_loopw [4] (fun t4 wr => ∃ i j : Nat, t4 = .int .i64 (i : Int) ∧ i = 2 * j ∧ j ≤ m ∧ J ((List.finRange m).take j) wr ∧ Arr wr bs 31 [.slice (some ⟨g, o, none⟩) L C] ∧ Arr wr bn 3 [.int .i64 2] ∧ W.heap.size ≤ wr.heap.size) (fun t4 _ => L - (intOf t4).toNat)
  case atStart => exact ⟨0, 0, rfl, rfl, by omega, h0, HS0.out, HN0.out, Nat.le_refl _⟩
  case round =>
    obtain ⟨i, j, rfl, hij, hj, hJs, hs, hbn, hsz⟩ := hrel
    have HJs := hidp hJs; have HS := hidp hs; have HN := hidp hbn; have HIJ := hidp hij
    clear hJs hs hbn HS0 HN0 hij
    have x1 := arr1 HS.out; have x2 := arr1 HN.out
    by_cases hlt : i < L
    · have e1 : decide ((i : Int) < (L : Int)) = true := by simp; omega
      have hjm : j < m := by have := HL.out; have := HIJ.out; omega
      have hs1 := fun W => run_fromW g o L C i (by omega) W
      have hs2 := fun W => run_pieceW g o L C i (by have := HL.out; have := HIJ.out; omega) hC W
      have hmin : ∀ W ts, (Builtin.min_ ts 3 #[.int .i64 2, .int .i64 ((L - i : Nat) : Int)]).run Tryz.prog W = .ok (.int .i64 2) W := fun W ts => by
        rw [run_min_int2]; congr 2; rw [if_neg (by have := HL.out; have := HIJ.out; omega)]
      have hpx := hidp (show (List.finRange m).take j ++ [⟨j, hjm⟩] <+: List.finRange m from by rw [← fr_take hjm]; exact List.take_prefix _ _)
      have hi64 : (i : Int) + 2 ≤ 64 := by have := HL.out; have := HIJ.out; omega
      have hi0 : (0 : Int) ≤ (i : Int) := by omega
      have hw2 : IntKind.i64.wrap ((i : Int) + 2) = (i : Int) + 2 := by rw [IntKind.wrap_i64]; omega
      have hci : ¬ C = i := by have := HL.out; have := HIJ.out; omega
      gi_wp2_with fail
      obtain ⟨U, hU⟩ : ∃ U, ({ wr with drawn := wr.drawn + 1 } : World) = U := ⟨_, rfl⟩
      have bU : Below wr.heap.size wr U := by rw [← hU]; exact (Below.refl _ _).drew
      have HBU := hidp bU; have HSU := hidp (HS.out.below bU HS.out.lt); have HNU := hidp (HN.out.below bU HN.out.lt)
      have HCU := hidp (show U.cell? ⟨bs, 0, none⟩ = some (.slice (some ⟨g, o, none⟩) L C) ∧ U.cell? ⟨bn, 0, none⟩ = some (.int .i64 2) from ⟨arr1 HSU.out, arr1 HNU.out⟩)
      clear bU
      refine Rnd.in_region_scr0 (S := fun W => W.cell? ⟨bs, 0, none⟩ = some (.slice (some ⟨g, o, none⟩) L C) ∧ W.cell? ⟨bn, 0, none⟩ = some (.int .i64 2)) (.take 0 (.take 1 (.take 2 (.take 3 (.take 4 (.take 5 (.take 6 .done))))))) Rnd.wideF (by kernel_rfl) (by kernel_rfl) (by kernel_rfl) (by simp [Scr.depth]) (by kernel_rfl) (by rw [hU]; exact HCU.out) ?_
      simp only [hU]
      clear hU
      apply s_val
      case ho => rfl
      case hw => rfl
      case hv => intro w hw; obtain ⟨z0, z1⟩ := hw; go_simp; first | done | with_reducible rfl | rfl
      simp only [Act.put, List.getElem_toArray, List.getElem_cons_zero, List.getElem_cons_succ, List.setIfInBounds_toArray, List.set_cons_zero, List.set_cons_succ]
      apply s_val
      case ho => rfl
      case hw => rfl
      case hv => intro w hw; obtain ⟨z0, z1⟩ := hw; go_simp; first | done | with_reducible rfl | rfl
      simp only [Act.put, List.getElem_toArray, List.getElem_cons_zero, List.getElem_cons_succ, List.setIfInBounds_toArray, List.set_cons_zero, List.set_cons_succ]
      apply s_val
      case ho => rfl
      case hw => rfl
      case hv => intro w hw; obtain ⟨z0, z1⟩ := hw; go_simp; first | done | with_reducible rfl | rfl
      simp only [Act.put, List.getElem_toArray, List.getElem_cons_zero, List.getElem_cons_succ, List.setIfInBounds_toArray, List.set_cons_zero, List.set_cons_succ]
      apply s_val (v := .slice (some ⟨g, (if C = i then o else o + i), none⟩) (L - i) (C - i))
      case ho => rfl
      case hw => rfl
      case hv => intro w hw; obtain ⟨z0, z1⟩ := hw; have q := hs1; go_simp; first | done | with_reducible rfl | rfl
      simp only [Act.put, List.getElem_toArray, List.getElem_cons_zero, List.getElem_cons_succ, List.setIfInBounds_toArray, List.set_cons_zero, List.set_cons_succ]
      apply s_val
      case ho => rfl
      case hw => rfl
      case hv => intro w hw; obtain ⟨z0, z1⟩ := hw; go_simp; first | done | with_reducible rfl | rfl
      simp only [Act.put, List.getElem_toArray, List.getElem_cons_zero, List.getElem_cons_succ, List.setIfInBounds_toArray, List.set_cons_zero, List.set_cons_succ]
      apply s_val (v := .int .i64 2)
      case ho => rfl
      case hw => rfl
      case hv => intro w hw; have q := hmin; go_simp; first | done | with_reducible rfl | rfl
      simp only [Act.put, List.getElem_toArray, List.getElem_cons_zero, List.getElem_cons_succ, List.setIfInBounds_toArray, List.set_cons_zero, List.set_cons_succ]
      apply s_val
      case ho => rfl
      case hw => rfl
      case hv => intro w hw; obtain ⟨z0, z1⟩ := hw; go_simp; first | done | with_reducible rfl | rfl
      simp only [Act.put, List.getElem_toArray, List.getElem_cons_zero, List.getElem_cons_succ, List.setIfInBounds_toArray, List.set_cons_zero, List.set_cons_succ]
      refine Rnd.scr_done0 ?_
      have x3 := arr1 HSU.out; have x4 := arr1 HNU.out
      have hUs := hidp HBU.out.size
      have hJ2 := hJ _ wr U none HJs.out (grown_of_below HBU.out) (fun r e => by cases e)
      obtain ⟨fn, tmps, assign, body, hy, hR⟩ := HY.out _ ⟨j, hjm⟩ U hJ2 (by simp; omega)
      simp only [encC] at hy hR
      rw [show o + 2 * j = o + i from by rw [HIJ.out]] at hy
      clear hJ2
      gi_wp2
      refine ⟨fun _ => by omega, hR.mono ?_⟩
      rintro e1 W3 (⟨rfl, hJ3, hk3⟩ | ⟨rfl, hJx3⟩)
      · have HS3 := hidp (HKs.out _ _ hk3 HSU.out); have HN3 := hidp (HKn.out _ _ hk3 HNU.out); have HJ3 := hidp (show J ((List.finRange m).take (j + 1)) W3 from by rw [fr_take hjm]; exact hJ3)
        have x5 := arr1 HS3.out; have x6 := arr1 HN3.out
        have hs3 := hidp (HKz.out _ _ hk3)
        clear hk3 hJ3 x1 x2 x3 x4
        gi_wp2
        exact ⟨⟨i + 2, j + 1, by go_num, by have := HIJ.out; omega, by omega, HJ3.out, HS3.out, HN3.out, by have := hUs.out; have := hs3.out; omega⟩, by simp [intOf]; omega⟩
      · gi_wp2
        refine bodyPost_ret (results_none rfl _ _ _) rfl ?_
        exact ⟨⟨_, rfl⟩, .inr ⟨_, hpx.out, hJx3⟩⟩
    · have e1 : decide ((i : Int) < (L : Int)) = false := by simp; omega
      obtain rfl : m = j := by have := HL.out; have := HIJ.out; omega
      gi_wp2
      go_end0
      exact ⟨⟨_, rfl⟩, .inl ⟨_, rfl, by have := HJs.out; rwa [fr_all] at this⟩⟩
end Go.Proofs.YtiakfopdohcigaaGreatDoor
