
/-
  octet.GetList: a range over the iterator.
-/
import Derived.Test.YtokakgjcegmabaaOctJ
import Derived.Maps.AppendAt
namespace Go.Proofs.Ytokakgjcegmabaa
set_option linter.unusedVariables false
set_option linter.unusedSimpArgs false
open Go.RowKit Go.Shelf
attribute [local go_sem] Oper.semAt_some

/-- The first error of the pieces; 0: none. -/
def fe : List Pc → Nat
  | [] => 0
  | x :: r => if x.1.2.2 ≠ 0 then x.1.2.2 else fe r
def txs (l : List Pc) : List ByteArray := l.map fun x => x.1.1
def szs : List Pc → Nat
  | [] => 0
  | x :: r => x.1.2.1 + szs r
theorem fe_snoc (l : List Pc) (x : Pc) (h : fe l = 0) : fe (l ++ [x]) = x.1.2.2 := by
  induction l with
  | nil => by_cases hx : x.1.2.2 = 0 <;> simp [fe, hx]
  | cons y r ih =>
    by_cases hy : y.1.2.2 = 0
    · simp only [List.cons_append, fe, hy, ne_eq, not_true_eq_false, if_false] at h ⊢; exact ih h
    · simp only [fe, ne_eq, hy, not_false_eq_true, if_true] at h
theorem fe_append (l m : List Pc) (h : fe l ≠ 0) : fe (l ++ m) = fe l := by
  induction l with
  | nil => simp [fe] at h
  | cons y r ih =>
    by_cases hy : y.1.2.2 = 0
    · simp only [List.cons_append, fe, hy, ne_eq, not_true_eq_false, if_false] at h ⊢; exact ih h
    · simp only [List.cons_append, fe, ne_eq, hy, not_false_eq_true, if_true]
theorem szs_snoc (l : List Pc) (x : Pc) : szs (l ++ [x]) = szs l + x.1.2.1 := by
  induction l with
  | nil => simp [szs]
  | cons y r ih => simp only [List.cons_append, szs, ih]; omega
theorem txs_snoc (l : List Pc) (x : Pc) : txs (l ++ [x]) = txs l ++ [x.1.1] := by simp [txs]
theorem szs_bd (l : List Pc) : szs l ≤ 8199 * l.length := by
  induction l with
  | nil => simp [szs]
  | cons y r ih => have := y.2.2.1; simp only [szs, List.length_cons]; omega
theorem pcs_len (k : Nat) (s : ByteArray) : (pcs k s).length ≤ k := by
  induction k generalizing s with
  | zero => simp [pcs]
  | succ k ih =>
    rw [pcs, List.length_cons]
    split
    · simp
    · have := ih (s.extract (gt s).2.1 s.size); omega
theorem ext_ext (s : ByteArray) (p q : Nat) (h : p + q ≤ s.size) : (s.extract p s.size).extract q (s.extract p s.size).size = s.extract (p + q) s.size := by
  apply ByteArray.ext
  simp only [ByteArray.data_extract, Array.extract_extract, ByteArray.size_extract]
  congr 1
  omega
theorem glGo_pcs (s : ByteArray) (k p : Nat) (xs : List ByteArray) (hp : p ≤ s.size) :
    glGo s k p xs = if fe (pcs k (s.extract p s.size)) ≠ 0 then ([], 0, fe (pcs k (s.extract p s.size))) else (xs ++ txs (pcs k (s.extract p s.size)), p + szs (pcs k (s.extract p s.size)), 0) := by
  induction k generalizing p xs with
  | zero => simp [glGo, pcs, fe, txs, szs]
  | succ k ih =>
    rw [glGo, pcs]
    have hb := (gt_bd (s.extract p s.size)).1
    have hq : p + (gt (s.extract p s.size)).2.1 ≤ s.size := by simp at hb; omega
    by_cases he : (gt (s.extract p s.size)).2.2 = 0
    · have hg : (gtP (s.extract p s.size)).1 = gt (s.extract p s.size) := rfl
      have hc : ¬ ((gt (s.extract p s.size)).2.2 ≠ 0) := by simpa using he
      rw [if_neg hc, if_neg hc, ih _ _ hq, ext_ext s p _ hq]
      simp only [fe, hg, he, ne_eq, not_true_eq_false, if_false, szs]
      have e1 : txs (gtP (s.extract p s.size) :: pcs k (s.extract (p + (gt (s.extract p s.size)).2.1) s.size)) = (gt (s.extract p s.size)).1 :: txs (pcs k (s.extract (p + (gt (s.extract p s.size)).2.1) s.size)) := rfl
      rw [e1]
      split
      · rfl
      · simp [Nat.add_assoc]
    · have hg : (gtP (s.extract p s.size)).1 = gt (s.extract p s.size) := rfl
      rw [if_pos he, if_pos he]
      simp only [fe, hg, ne_eq, he, not_false_eq_true, if_true]

theorem gl_yes (s : ByteArray) (n k : Nat) (h : gn s.data.toList = (n, k, 0)) (hn : n ≤ 256) (hk : k ≤ s.size) (hf : fe (pcs n (s.extract k s.size)) = 0) :
    gl s = (txs (pcs n (s.extract k s.size)), k + szs (pcs n (s.extract k s.size)), 0) := by
  unfold gl; rw [h]; simp only [ne_eq, not_true_eq_false, if_false]
  rw [if_neg (by omega), glGo_pcs s n k [] hk, if_neg (by simpa using hf)]; simp
theorem gl_err (s : ByteArray) (n k : Nat) (h : gn s.data.toList = (n, k, 0)) (hn : n ≤ 256) (hk : k ≤ s.size) (pre : List Pc) (hp : pre <+: pcs n (s.extract k s.size)) (hf : fe pre ≠ 0) :
    gl s = ([], 0, fe pre) := by
  have hf2 : fe (pcs n (s.extract k s.size)) = fe pre := by
    obtain ⟨t, ht⟩ := hp; rw [← ht]; exact fe_append _ _ hf
  unfold gl; rw [h]; simp only [ne_eq, not_true_eq_false, if_false]
  rw [if_neg (by omega), glGo_pcs s n k [] hk, if_pos (by rw [hf2]; exact hf), hf2]

theorem size8 (w : World) (o1 o2 o3 o4 o5 o6 o7 o8 : Obj) : ((((((((w.alloc o1).alloc o2).alloc o3).alloc o4).alloc o5).alloc o6).alloc o7).alloc o8).heap.size = w.heap.size + 8 := by simp

theorem OwnAnd {β : Type} {I I' : β → World → Prop} (h : Go.Own I) (h' : Go.Own I') : Go.Own (fun s W => I s W ∧ I' s W) := fun s W W' row hs hg hr => ⟨h s W W' row hs.1 hg hr, h' s W W' row hs.2 hg hr⟩
theorem OwnPure {β : Type} (p : β → Prop) : Go.Own (fun s (_ : World) => p s) := fun _ _ _ _ hs _ _ => hs
theorem not_row_cells {W : World} {B : Nat} {t e : TypeId} {c : Array Value} {fz : Nat × Nat} (h : W.heap[B]? = some (.cells c t fz)) (hte : t ≠ e) {base size k : Nat} {v : Value} {xs : List Value} (hr : W.ownsRow base e size v k xs) : some B ≠ v.ownBlock := by
  rcases hr.2 with ⟨rfl, _⟩ | ⟨g, cap, cur, rfl, _, hgb, _⟩
  · simp [Value.ownBlock]
  · intro e'
    obtain rfl : B = g := by simpa [Value.ownBlock] using e'
    rw [h] at hgb; cases hgb; exact hte rfl
theorem OwnSize {β : Type} (m : Nat) : Go.Own (fun (_ : β) (W : World) => m ≤ W.heap.size) := fun _ _ _ _ hs hg _ => Nat.le_trans hs hg.size
/-- Between two rounds: what the loop's cells hold. -/
def IGL (w : World) (m0 p : Nat) (pre : List Pc) (W : World) : Prop :=
  (((((∃ v, Boxed W (w.heap.size + 1 + 1 + 1 + 1 + 1) 28 v ∧ W.ownsRow w.heap.size 9 1 v (strV (txs pre)).length (strV (txs pre)) ∧ True) ∧ Boxed W (w.heap.size + 1 + 1 + 1) 3 (.int .i64 ((p + szs pre : Nat) : Int))) ∧
    (Boxed W w.heap.size 28 (.slice none 0 0) ∧ Boxed W (w.heap.size + 1) 3 (.int .i64 0))) ∧ (Boxed W (w.heap.size + 1 + 1) 25 (.int .i64 0) ∧ fe pre = 0)) ∧ m0 ≤ W.heap.size) ∧ Below w.heap.size w W
/-- Where a round has left with an error. -/
def IxGL (w : World) (c : Code) (pre : List Pc) (W : World) : Prop :=
  (((c = .ret ∧ fe pre ≠ 0) ∧ (Boxed W w.heap.size 28 (.slice none 0 0) ∧ Boxed W (w.heap.size + 1) 3 (.int .i64 0))) ∧ Boxed W (w.heap.size + 1 + 1) 25 (.int .i64 ((fe pre : Nat) : Int))) ∧ Below w.heap.size w W
theorem IGL_own (w : World) (m0 p B : Nat) (hB : w.heap.size ≤ B) : OwnFrom B (IGL w m0 p) :=
  OwnFrom.and (Go.Own.from (OwnAnd (OwnAnd (OwnAnd (OwnAnd (holdsRow_own w.heap.size _ _ _ 1 (fun pre => (strV (txs pre)).length) (fun pre => strV (txs pre)) (fun _ _ => True)) (boxed_own _ _ _)) (OwnAnd (boxed_own _ _ _) (boxed_own _ _ _))) (OwnAnd (boxed_own _ _ _) (OwnPure fun pre => fe pre = 0))) (OwnSize m0)) _) (ownFrom_below (Nat.le_refl _) hB)
theorem IxGL_own (w : World) (c : Code) (B : Nat) (hB : w.heap.size ≤ B) : OwnFrom B (IxGL w c) :=
  OwnFrom.and (Go.Own.from (OwnAnd (OwnAnd (OwnPure fun pre => c = .ret ∧ fe pre ≠ 0) (OwnAnd (boxed_own _ _ _) (boxed_own _ _ _))) (boxed_own _ _ _)) _) (ownFrom_below (Nat.le_refl _) hB)
theorem at8 (w : World) (o1 o2 o3 o4 o5 o6 o7 o8 : Obj) (W : World) (hW : W = (((((((w.alloc o1).alloc o2).alloc o3).alloc o4).alloc o5).alloc o6).alloc o7).alloc o8) :
    W.heap[w.heap.size]? = some o1 ∧ W.heap[w.heap.size + 1]? = some o2 ∧ W.heap[w.heap.size + 1 + 1]? = some o3 ∧ W.heap[w.heap.size + 1 + 1 + 1]? = some o4 ∧ W.heap[w.heap.size + 1 + 1 + 1 + 1]? = some o5 ∧
    W.heap[w.heap.size + 1 + 1 + 1 + 1 + 1]? = some o6 ∧ W.heap[w.heap.size + 1 + 1 + 1 + 1 + 1 + 1]? = some o7 ∧ W.heap[w.heap.size + 1 + 1 + 1 + 1 + 1 + 1 + 1]? = some o8 ∧ W.heap.size = w.heap.size + 8 ∧ Below w.heap.size w W := by
  subst hW
  refine ⟨?_, ?_, ?_, ?_, ?_, ?_, ?_, ?_, ?_, ?_⟩
  all_goals first
    | exact ((((((((Below.refl _ w).alloc (Nat.le_refl _) _).alloc (by simp) _).alloc (by simp; omega) _).alloc (by simp; omega) _).alloc (by simp; omega) _).alloc (by simp; omega) _).alloc (by simp; omega) _).alloc (by simp; omega) _
    | (simp; done)
    | (simp only [World.alloc, Array.getElem?_push, Array.size_push]; (repeat rw [if_neg (by omega)]); first | rfl | (rw [if_pos (by omega)]) | (rw [if_pos rfl]))

end Go.Proofs.Ytokakgjcegmabaa
