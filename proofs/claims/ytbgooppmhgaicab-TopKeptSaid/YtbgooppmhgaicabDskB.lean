
/-
  disk: owned, joined, Write, Sync, Swap.
-/
import Derived.Test.YtbgooppmhgaicabDskA
namespace Go.Proofs.Ytbgooppmhgaicab
set_option maxRecDepth 100000
set_option linter.unusedVariables false
set_option linter.unusedSimpArgs false
open Go.RowKit

theorem bcell {W w1 : World} (hb : Below W.heap.size W w1) : (∀ b o, b < W.heap.size → w1.cell? ⟨b, o, none⟩ = W.cell? ⟨b, o, none⟩) ∧ (∀ b o, b < W.heap.size → w1.frozen? ⟨b, o, none⟩ = W.frozen? ⟨b, o, none⟩) :=
  ⟨fun b o h => hb.cell (p := ⟨b, o, none⟩) h, fun b o h => hb.frozen (p := ⟨b, o, none⟩) h⟩

theorem arr3 {w : World} {b T : Nat} {x0 x1 x2 : Value} (h : Arr w b T [x0, x1, x2]) : w.cell? ⟨b, 0, none⟩ = some x0 ∧ w.cell? ⟨b, 1, none⟩ = some x1 ∧ w.cell? ⟨b, 2, none⟩ = some x2 ∧ ∀ i, w.frozen? ⟨b, i, none⟩ = false :=
  ⟨h.cell 0 (by simp), h.cell 1 (by simp), h.cell 2 (by simp), h.frozen⟩
set_option maxHeartbeats 4000000 in
theorem owned_any (w : World) (s : ByteArray) (y r : Int) (hs : s.size ≤ 281474976710656) :
    Calls Try.prog 20 #[.agg #[.string s, .int .i64 y, .int .i64 r]] w fun e w' => e = .returned (.agg #[.string s, .int .i64 y, .int .i64 r]) ∧ Below w.heap.size w w' := by
  go_enter Try.func20, Try.ntmps20
  go_wp2_with fail
  refine (clone_any s _ hs).mono ?_
  rintro e w1 ⟨rfl, hb1⟩
  have hA := hidp (show Arr w1 w.heap.size 26 [.string s, .int .i64 y, .int .i64 r] from ((Arr.new w 26 [.string s, .int .i64 y, .int .i64 r]).alloc _).below hb1 (by simp; omega))
  have hR := hidp (show Arr w1 (w.heap.size + 1) 26 [.string ⟨#[]⟩, .int .i64 0, .int .i64 0] from by
    have h := Arr.new (w.alloc (.cells #[.string s, .int .i64 y, .int .i64 r] 26)) 26 [.string ⟨#[]⟩, .int .i64 0, .int .i64 0]
    rw [heap_size_alloc] at h
    exact h.below hb1 (by simp))
  have HB := hidp (show Below w.heap.size w w1 from (((Below.refl _ w).alloc (Nat.le_refl _) _).alloc (by simp) _).trans (hb1.mono (by simp; omega)))
  clear hb1
  obtain ⟨a0, a1, a2, af⟩ := arr3 hA.out
  obtain ⟨r0, r1, r2, rf⟩ := arr3 hR.out
  have f0 := af 0; have f1 := af 1; have f2 := af 2
  have g0 := rf 0; have g1 := rf 1; have g2 := rf 2
  clear af rf
  go_wp2_with fail
  refine bodyPost_ret (v := .agg #[.string s, .int .i64 y, .int .i64 r]) (by simp [results, Try.results20, go_sem, r0, r1, r2]) rfl ⟨rfl, ?_⟩
  repeat (refine Below.setCell ?_ (by simp) _)
  exact HB.out

set_option maxHeartbeats 4000000 in
theorem joined_any (w : World) (a b : ByteArray) (h : a.size + b.size ≤ 140737488355328) :
    Calls Try.prog 41 #[.string a, .string b] w fun e w' => e = .returned (.string (a ++ b)) ∧ Below w.heap.size w w' := by
  have hj := hidp (show (⟨(a.data.toList ++ b.data.toList).toArray⟩ : ByteArray) = a ++ b from by
    show mkS (a.data.toList ++ b.data.toList) = a ++ b
    rw [← mkS_append]; rfl)
  have c1 := hidp (fun (W : World) (hb : W.heap[w.heap.size]? = some (.cells #[.pointer none, .slice none 0 0] 65 (0, 0))) (hw : w.heap.size ≤ W.heap.size) => by
    have := grow_fresh w.heap.size w.heap.size (a.size + b.size) W (Nat.le_refl _) hb hw (by omega)
    rw [Int.natCast_add] at this
    exact this)
  go_enter Try.func41, Try.ntmps41
  go_wp2_with fail
  refine (c1.out _ (heap_alloc_new w _) (by simp)).mono ?_
  rintro e w1 ⟨rfl, h1, hb1⟩
  have HB1 := hidp (((Below.refl _ w).alloc (Nat.le_refl _) _).trans hb1); have H1 := hidp h1
  clear h1 hb1 c1
  have hs1 := HB1.out.size
  go_wp2_with fail
  refine (write_string w.heap.size w.heap.size [] a w1 (.inr H1.out) (by simp; omega) hs1).mono ?_
  rintro e w2 ⟨rfl, h2, hb2⟩
  have HB2 := hidp (HB1.out.trans hb2); have H2 := hidp h2
  clear h2 hb2
  have hs2 := HB2.out.size
  go_wp2_with fail
  refine (write_string w.heap.size w.heap.size _ b w2 (.inr H2.out) (by simp [Lib.strCells, Lib.byteCells]; omega) hs2).mono ?_
  rintro e w3 ⟨rfl, h3, hb3⟩
  have HB3 := hidp (HB2.out.trans hb3)
  have H3 := hidp (show Lib.BuilderAt 65 5 w.heap.size w.heap.size (.pointer (some ⟨w.heap.size, 0, none⟩)) (Lib.byteCells (a.data.toList ++ b.data.toList)) w3 from by
    have e : Lib.byteCells (a.data.toList ++ b.data.toList) = [] ++ Lib.strCells a ++ Lib.strCells b := by simp [Lib.byteCells, Lib.strCells]
    rw [e]; exact h3)
  clear h3 hb3
  have hs3 := HB3.out.size
  go_wp2_with fail
  refine (string_any w.heap.size w.heap.size _ w3 (.inr H3.out) hs3).mono ?_
  rintro e w4 ⟨rfl, hb4⟩
  have HB4 := hidp (HB3.out.trans hb4)
  rw [hj.out]
  clear hb4
  go_wp2_with fail
  go_ret
  exact ⟨rfl, HB4.out⟩
end Go.Proofs.Ytbgooppmhgaicab
