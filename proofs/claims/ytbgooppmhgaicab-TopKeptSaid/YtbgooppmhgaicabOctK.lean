
/-
  octet.GetList: a range over the iterator.
-/
import Derived.Test.YtbgooppmhgaicabOctJ
import Derived.Maps.AppendAt
namespace Go.Proofs.Ytbgooppmhgaicab
set_option linter.unusedVariables false
set_option linter.unusedSimpArgs false
set_option maxRecDepth 100000
open Go.RowKit Go.Shelf
attribute [local go_sem] Oper.semAt_some

/-- The first error of the pieces; 0: none. -/
def fe : List Pc → Nat
  | [] => 0
  | x :: r => if x.1.2.2 ≠ 0 then x.1.2.2 else fe r
def txs (l : List Pc) : List ByteArray := l.map fun x => x.1.1
def szs : List Pc → Nat
  | [] => 0
  | x :: r => x.1.2.1 + szs r
theorem fe_snoc (l : List Pc) (x : Pc) (h : fe l = 0) : fe (l ++ [x]) = x.1.2.2 := by
  induction l with
  | nil => by_cases hx : x.1.2.2 = 0 <;> simp [fe, hx]
  | cons y r ih =>
    by_cases hy : y.1.2.2 = 0
    · simp only [List.cons_append, fe, hy, ne_eq, not_true_eq_false, if_false] at h ⊢; exact ih h
    · simp only [fe, ne_eq, hy, not_false_eq_true, if_true] at h
theorem fe_append (l m : List Pc) (h : fe l ≠ 0) : fe (l ++ m) = fe l := by
  induction l with
  | nil => simp [fe] at h
  | cons y r ih =>
    by_cases hy : y.1.2.2 = 0
    · simp only [List.cons_append, fe, hy, ne_eq, not_true_eq_false, if_false] at h ⊢; exact ih h
    · simp only [List.cons_append, fe, ne_eq, hy, not_false_eq_true, if_true]
theorem szs_snoc (l : List Pc) (x : Pc) : szs (l ++ [x]) = szs l + x.1.2.1 := by
  induction l with
  | nil => simp [szs]
  | cons y r ih => simp only [List.cons_append, szs, ih]; omega
theorem txs_snoc (l : List Pc) (x : Pc) : txs (l ++ [x]) = txs l ++ [x.1.1] := by simp [txs]
theorem szs_bd (l : List Pc) : szs l ≤ 8199 * l.length := by
  induction l with
  | nil => simp [szs]
  | cons y r ih => have := y.2.2.1; simp only [szs, List.length_cons]; omega
theorem pcs_len (k : Nat) (s : ByteArray) : (pcs k s).length ≤ k := by
  induction k generalizing s with
  | zero => simp [pcs]
  | succ k ih =>
    rw [pcs, List.length_cons]
    split
    · simp
    · have := ih (s.extract (gt s).2.1 s.size); omega
theorem ext_ext (s : ByteArray) (p q : Nat) (h : p + q ≤ s.size) : (s.extract p s.size).extract q (s.extract p s.size).size = s.extract (p + q) s.size := by
  apply ByteArray.ext
  simp only [ByteArray.data_extract, Array.extract_extract, ByteArray.size_extract]
  congr 1
  omega
theorem glGo_pcs (s : ByteArray) (k p : Nat) (xs : List ByteArray) (hp : p ≤ s.size) :
    glGo s k p xs = if fe (pcs k (s.extract p s.size)) ≠ 0 then ([], 0, fe (pcs k (s.extract p s.size))) else (xs ++ txs (pcs k (s.extract p s.size)), p + szs (pcs k (s.extract p s.size)), 0) := by
  induction k generalizing p xs with
  | zero => simp [glGo, pcs, fe, txs, szs]
  | succ k ih =>
    rw [glGo, pcs]
    have hb := (gt_bd (s.extract p s.size)).1
    have hq : p + (gt (s.extract p s.size)).2.1 ≤ s.size := by simp at hb; omega
    by_cases he : (gt (s.extract p s.size)).2.2 = 0
    · have hg : (gtP (s.extract p s.size)).1 = gt (s.extract p s.size) := rfl
      have hc : ¬ ((gt (s.extract p s.size)).2.2 ≠ 0) := by simpa using he
      rw [if_neg hc, if_neg hc, ih _ _ hq, ext_ext s p _ hq]
      simp only [fe, hg, he, ne_eq, not_true_eq_false, if_false, szs]
      have e1 : txs (gtP (s.extract p s.size) :: pcs k (s.extract (p + (gt (s.extract p s.size)).2.1) s.size)) = (gt (s.extract p s.size)).1 :: txs (pcs k (s.extract (p + (gt (s.extract p s.size)).2.1) s.size)) := rfl
      rw [e1]
      split
      · rfl
      · simp [Nat.add_assoc]
    · have hg : (gtP (s.extract p s.size)).1 = gt (s.extract p s.size) := rfl
      rw [if_pos he, if_pos he]
      simp only [fe, hg, ne_eq, he, not_false_eq_true, if_true]

theorem gl_yes (s : ByteArray) (n k : Nat) (h : gn s.data.toList = (n, k, 0)) (hn : n ≤ 256) (hk : k ≤ s.size) (hf : fe (pcs n (s.extract k s.size)) = 0) :
    gl s = (txs (pcs n (s.extract k s.size)), k + szs (pcs n (s.extract k s.size)), 0) := by
  unfold gl; rw [h]; simp only [ne_eq, not_true_eq_false, if_false]
  rw [if_neg (by omega), glGo_pcs s n k [] hk, if_neg (by simpa using hf)]; simp
theorem gl_err (s : ByteArray) (n k : Nat) (h : gn s.data.toList = (n, k, 0)) (hn : n ≤ 256) (hk : k ≤ s.size) (pre : List Pc) (hp : pre <+: pcs n (s.extract k s.size)) (hf : fe pre ≠ 0) :
    gl s = ([], 0, fe pre) := by
  have hf2 : fe (pcs n (s.extract k s.size)) = fe pre := by
    obtain ⟨t, ht⟩ := hp; rw [← ht]; exact fe_append _ _ hf
  unfold gl; rw [h]; simp only [ne_eq, not_true_eq_false, if_false]
  rw [if_neg (by omega), glGo_pcs s n k [] hk, if_pos (by rw [hf2]; exact hf), hf2]

theorem size8 (w : World) (o1 o2 o3 o4 o5 o6 o7 o8 : Obj) : ((((((((w.alloc o1).alloc o2).alloc o3).alloc o4).alloc o5).alloc o6).alloc o7).alloc o8).heap.size = w.heap.size + 8 := by simp

theorem OwnAnd {β : Type} {I I' : β → World → Prop} (h : Go.Own I) (h' : Go.Own I') : Go.Own (fun s W => I s W ∧ I' s W) := fun s W W' row hs hg hr => ⟨h s W W' row hs.1 hg hr, h' s W W' row hs.2 hg hr⟩
theorem OwnPure {β : Type} (p : β → Prop) : Go.Own (fun s (_ : World) => p s) := fun _ _ _ _ hs _ _ => hs
theorem not_row_cells {W : World} {B : Nat} {t e : TypeId} {c : Array Value} {fz : Nat × Nat} (h : W.heap[B]? = some (.cells c t fz)) (hte : t ≠ e) {base size k : Nat} {v : Value} {xs : List Value} (hr : W.ownsRow base e size v k xs) : some B ≠ v.ownBlock := by
  rcases hr.2 with ⟨rfl, _⟩ | ⟨g, cap, cur, rfl, _, hgb, _⟩
  · simp [Value.ownBlock]
  · intro e'
    obtain rfl : B = g := by simpa [Value.ownBlock] using e'
    rw [h] at hgb; cases hgb; exact hte rfl
theorem OwnSize {β : Type} (m : Nat) : Go.Own (fun (_ : β) (W : World) => m ≤ W.heap.size) := fun _ _ _ _ hs hg _ => Nat.le_trans hs hg.size
/-- Between two rounds: what the loop's cells hold. -/
def IGL (w : World) (m0 p : Nat) (pre : List Pc) (W : World) : Prop :=
  (((((∃ v, Boxed W (w.heap.size + 1 + 1 + 1 + 1 + 1) 22 v ∧ W.ownsRow w.heap.size 9 1 v (strV (txs pre)).length (strV (txs pre)) ∧ True) ∧ Boxed W (w.heap.size + 1 + 1 + 1) 3 (.int .i64 ((p + szs pre : Nat) : Int))) ∧
    (Boxed W w.heap.size 22 (.slice none 0 0) ∧ Boxed W (w.heap.size + 1) 3 (.int .i64 0))) ∧ (Boxed W (w.heap.size + 1 + 1) 27 (.int .i64 0) ∧ fe pre = 0)) ∧ m0 ≤ W.heap.size) ∧ Below w.heap.size w W
/-- Where a round has left with an error. -/
def IxGL (w : World) (c : Code) (pre : List Pc) (W : World) : Prop :=
  (((c = .ret ∧ fe pre ≠ 0) ∧ (Boxed W w.heap.size 22 (.slice none 0 0) ∧ Boxed W (w.heap.size + 1) 3 (.int .i64 0))) ∧ Boxed W (w.heap.size + 1 + 1) 27 (.int .i64 ((fe pre : Nat) : Int))) ∧ Below w.heap.size w W
theorem IGL_own (w : World) (m0 p B : Nat) (hB : w.heap.size ≤ B) : OwnFrom B (IGL w m0 p) :=
  OwnFrom.and (Go.Own.from (OwnAnd (OwnAnd (OwnAnd (OwnAnd (holdsRow_own w.heap.size _ _ _ 1 (fun pre => (strV (txs pre)).length) (fun pre => strV (txs pre)) (fun _ _ => True)) (boxed_own _ _ _)) (OwnAnd (boxed_own _ _ _) (boxed_own _ _ _))) (OwnAnd (boxed_own _ _ _) (OwnPure fun pre => fe pre = 0))) (OwnSize m0)) _) (ownFrom_below (Nat.le_refl _) hB)
theorem IxGL_own (w : World) (c : Code) (B : Nat) (hB : w.heap.size ≤ B) : OwnFrom B (IxGL w c) :=
  OwnFrom.and (Go.Own.from (OwnAnd (OwnAnd (OwnPure fun pre => c = .ret ∧ fe pre ≠ 0) (OwnAnd (boxed_own _ _ _) (boxed_own _ _ _))) (boxed_own _ _ _)) _) (ownFrom_below (Nat.le_refl _) hB)
theorem at8 (w : World) (o1 o2 o3 o4 o5 o6 o7 o8 : Obj) (W : World) (hW : W = (((((((w.alloc o1).alloc o2).alloc o3).alloc o4).alloc o5).alloc o6).alloc o7).alloc o8) :
    W.heap[w.heap.size]? = some o1 ∧ W.heap[w.heap.size + 1]? = some o2 ∧ W.heap[w.heap.size + 1 + 1]? = some o3 ∧ W.heap[w.heap.size + 1 + 1 + 1]? = some o4 ∧ W.heap[w.heap.size + 1 + 1 + 1 + 1]? = some o5 ∧
    W.heap[w.heap.size + 1 + 1 + 1 + 1 + 1]? = some o6 ∧ W.heap[w.heap.size + 1 + 1 + 1 + 1 + 1 + 1]? = some o7 ∧ W.heap[w.heap.size + 1 + 1 + 1 + 1 + 1 + 1 + 1]? = some o8 ∧ W.heap.size = w.heap.size + 8 ∧ Below w.heap.size w W := by
  subst hW
  refine ⟨?_, ?_, ?_, ?_, ?_, ?_, ?_, ?_, ?_, ?_⟩
  all_goals first
    | exact ((((((((Below.refl _ w).alloc (Nat.le_refl _) _).alloc (by simp) _).alloc (by simp; omega) _).alloc (by simp; omega) _).alloc (by simp; omega) _).alloc (by simp; omega) _).alloc (by simp; omega) _).alloc (by simp; omega) _
    | (simp; done)
    | (simp only [World.alloc, Array.getElem?_push, Array.size_push]; (repeat rw [if_neg (by omega)]); first | rfl | (rw [if_pos (by omega)]) | (rw [if_pos rfl]))

set_option maxRecDepth 100000 in
set_option maxHeartbeats 4000000 in
theorem getList_in (n : Nat) (hn : 6 ≤ n) (w : World) (s : ByteArray) (hs : s.size ≤ 281474976710656) :
    CallsIn Fence.wide n Try.prog 34 #[.string s] w fun e w' => ∃ v, e = .returned (.tuple #[v, .int .i64 (gl s).2.1, .int .i64 (gl s).2.2]) ∧ StrsAt w' v (gl s).1 ∧ Below w.heap.size w w' := by
  obtain ⟨i0, hi, hz0, hz1, hz2⟩ := info_parts info9
  have hG := hidp (fun w => getNum_any w s hs)
  have hbd := gn_bd s.data.toList
  obtain ⟨R, hR⟩ : ∃ R, R = gl s := ⟨_, rfl⟩
  rw [← hR]
  obtain ⟨⟨k, p, e⟩, hr⟩ : ∃ r, r = gn s.data.toList := ⟨_, rfl⟩
  have HG := hidp (show ∀ w, Calls Try.prog 43 #[.string s] w fun e1 w' => e1 = .returned (.tuple #[.int .u64 k, .int .i64 p, .int .i64 e]) ∧ w = w' from fun w => by have := hG.out w; rw [← hr] at this; exact this)
  rw [← hr] at hbd
  clear hG
  obtain ⟨h1, h2, h3, h4⟩ := hbd
  simp only at h1 h2 h3 h4
  have h3 : p ≤ s.size := by simpa using h3
  have HR := hidp hR; have Hr := hidp hr; clear hR hr
  refine callsIn_of_wp_marks Try.func34 rfl trivial ?_ rfl
  simp only [Try.ntmps34, List.size_toArray, List.length_cons, List.length_nil, Nat.reduceAdd, Nat.reduceSub, Array.replicate_succ, Array.replicate_zero, List.push_toArray, List.append_toArray, List.nil_append, List.cons_append]
  gi_wp2_with fail
  refine ⟨trivial, fun _ => by omega, ?_⟩
  refine (callsIn_wide.2 (HG.out _)).mono ?_
  rintro e1 w1 ⟨rfl, rfl⟩
  by_cases he : e = 0
  · have heb := errB0 he
    by_cases h256 : 256 < k
    · have hfin := hidp (show gl s = ([], 0, 7) from by
        unfold gl; rw [← Hr.out]; simp only; rw [if_neg (by simpa using he), if_pos h256])
      have H0 := hidp he; clear he
      gi_wp2
      refine ⟨_, by simp [results, Try.results34, go_sem]; rfl, ?_⟩
      refine ⟨_, by rw [HR.out, hfin.out]; rfl, by rw [HR.out, hfin.out]; exact strsNil _, ?_⟩
      exact ((((Below.refl _ w).alloc (Nat.le_refl _) _).alloc (by simp) _).alloc (by simp; omega) _).alloc (by simp; omega) _
    · obtain ⟨M, hM⟩ : ∃ M, M = madeCells (Value.string ByteArray.empty).cells ((k : Int).toNat * i0.size) := ⟨_, rfl⟩
      have hMs : M.size = k := by rw [hM, size_madeCells, hz1]; simp
      have hmk : ∀ W : World, (Instr.makeSlice 22 (.int .i64 0) (.int .u64 (k : Int))).run Try.prog W = .ok (.slice (some ⟨W.heap.size, 0, none⟩) 0 k) (W.alloc (.cells M 9)) := fun W => by
        have h := run_make (P := Try.prog) W 22 9 i0 (.string ByteArray.empty) Try.underlying22 hi hz0 .i64 .u64 0 (k : Int) (by omega) (by omega) (by rw [hz2]; omega) (by omega)
        rw [← hM] at h
        simpa using h
      have hMM := hidp hM; clear hM
      have H0 := hidp he; clear he
      have hpt : ((p : Int)).toNat = p := by omega
      gi_wp2_with (refine ⟨trivial, fun _ => by omega, ?_⟩; (refine (pieces_in Fence.wide (n - 1) trivial rfl _ _ _).mono ?_); rintro e2 w2 ⟨rfl, rfl⟩)
      generalize hW0 : ((((((((w.alloc (.cells #[.slice none 0 0] 22)).alloc (.cells #[.int .i64 0] 3)).alloc (.cells #[.int .i64 0] 27)).alloc (.cells #[.int .i64 (p : Int)] 3)).alloc (.cells M 9)).alloc (.cells #[.slice (some ⟨w.heap.size + 1 + 1 + 1 + 1, 0, none⟩) 0 k] 22)).alloc (.cells #[.string (s.extract p s.size)] 9)).alloc (.cells #[.int .i64 (k : Int)] 3)) = W0
      obtain ⟨b0, b1, b2, b3, b4, b5, b6, b7, hz, hB0⟩ := at8 _ _ _ _ _ _ _ _ _ _ hW0.symm
      clear hW0
      have hOwn0 : OwnV W0 w.heap.size 9 (.slice (some ⟨w.heap.size + 1 + 1 + 1 + 1, 0, none⟩) 0 k) (strV (txs [])) :=
        ⟨rfl, .inr ⟨w.heap.size + 1 + 1 + 1 + 1, k, M, rfl, by omega, b4, by simp [strV, txs], by unfold maxLen; omega, by rw [hMs]; simp, by simp [strV, txs]⟩⟩
      have hs6 : W0.cell? ⟨w.heap.size + 1 + 1 + 1 + 1 + 1 + 1, 0, none⟩ = some (.string (s.extract p s.size)) := Boxed.cell b6
      have hs7 : W0.cell? ⟨w.heap.size + 1 + 1 + 1 + 1 + 1 + 1 + 1, 0, none⟩ = some (.int .i64 (k : Int)) := Boxed.cell b7
      refine wpIn_rangeFunc_ownH (α := Pc) rfl (by omega) (gf := 52) (lb := #[.pointer (some ⟨w.heap.size + 1 + 1 + 1 + 1 + 1 + 1, 0, none⟩), .pointer (some ⟨w.heap.size + 1 + 1 + 1 + 1 + 1 + 1 + 1, 0, none⟩)]) rfl trivial (enters_of Try.func52 (by kernel_rfl) rfl)
        (encs := encP) (Kp := fun _ _ => True) (S := fun ys => ys = pcs k (s.extract p s.size)) (Sp := fun pre => pre <+: pcs k (s.extract p s.size)) (N := (pcs k (s.extract p s.size)).length) (w0 := W0)
        (fun l J Jx W hW hJ _ hY h0 => pieces1_in (n - 1) (by omega) l _ _ (s.extract p s.size) (by simp; omega) k (by omega) J Jx W hJ hY ((hW.cell (p := ⟨w.heap.size + 1 + 1 + 1 + 1 + 1 + 1, 0, none⟩) (by simp; omega)).trans hs6) ((hW.cell (p := ⟨w.heap.size + 1 + 1 + 1 + 1 + 1 + 1 + 1, 0, none⟩) (by simp; omega)).trans hs7) h0)
        (fun _ _ => trivial) (fun _ _ _ _ _ _ _ _ => trivial) (Below.refl _ _) (fun _ => rfl)
        (IGL w W0.heap.size p) (IxGL w) (IGL_own w _ _ _ (by omega)) (fun c => IxGL_own w c _ (by omega))
        ⟨⟨⟨⟨⟨⟨_, b5, hOwn0, trivial⟩, b3⟩, ⟨b0, b1⟩⟩, ⟨b2, rfl⟩⟩, Nat.le_refl _⟩, hB0⟩
        (fun x a' W => ∃ Bx, W0.heap.size ≤ Bx ∧ W.heap[Bx]? = some (.cells #[.string x.1.1, .int .i64 x.1.2.1, .int .i64 x.1.2.2] 87 (0, 0)) ∧ a' = { tmps := #[.string s, undef, .pointer (some ⟨w.heap.size, 0, none⟩), .pointer (some ⟨w.heap.size + 1, 0, none⟩), .pointer (some ⟨w.heap.size + 1 + 1, 0, none⟩), .int .u64 k, .pointer (some ⟨w.heap.size + 1 + 1 + 1, 0, none⟩), .int .i64 e, .pointer (some ⟨w.heap.size + 1 + 1 + 1 + 1 + 1, 0, none⟩), .pointer (some ⟨Bx, 0, none⟩), .tuple #[.int .u64 k, .int .i64 p, .int .i64 e], .string s, .tuple #[.int .u64 k, .int .i64 p, .int .i64 e], .int .u64 k, .int .i64 p, .int .i64 e, .int .i64 e, .bool false, undef, .int .u64 k, .bool (decide (256 < (k : Int))), .int .u64 k, .slice (some ⟨w.heap.size + 1 + 1 + 1 + 1, 0, none⟩) 0 k, .string s, .int .i64 p, .string (s.extract p s.size), .int .u64 k, .int .i64 k, .func (.func 52) #[] #[.pointer (some ⟨w.heap.size + 1 + 1 + 1 + 1 + 1 + 1, 0, none⟩), .pointer (some ⟨w.heap.size + 1 + 1 + 1 + 1 + 1 + 1 + 1, 0, none⟩)], .agg #[.string x.1.1, .int .i64 x.1.2.1, .int .i64 x.1.2.2], undef, undef, undef, undef, undef, undef, undef, undef, undef, undef, undef, undef, undef, undef, undef, undef], defers := [] })
        (fun x a' s X Y row hs hg hr => by
          obtain ⟨Bx, h1, h2, h3⟩ := hs
          exact ⟨Bx, h1, (hg.block Bx (Array.getElem?_eq_some_iff.1 h2).1 (fun e => by obtain ⟨_, o, ho, hc⟩ := hr Bx e.symm; rw [h2] at ho; cases ho; cases hc)).trans h2, h3⟩)
        ?assign ?body ?done ?stop
      case assign =>
        rintro l pre x W K hI hK
        simp only [encP]
        obtain ⟨⟨⟨⟨⟨⟨v, c5, hrow, -⟩, c3⟩, ⟨c0, c1⟩⟩, ⟨c2, hfe⟩⟩, hm0⟩, hB⟩ := hI
        have hsz := hB.size
        clear b0 b1 b2 b3 b4 b5 b6 b7 hs6 hs7
        have HK := hidp hK; clear hK
        have HC := hidp (And.intro c5 (And.intro c3 (And.intro c0 (And.intro c1 (And.intro c2 hfe))))); clear c5 c3 c0 c1 c2 hfe
        gi_wp2
        obtain ⟨c5, c3, c0, c1, c2, hfe⟩ := HC.out
        exact HK.out _ _ ((KeepsOthers.alloc _ _).from _) trivial ⟨⟨⟨⟨⟨⟨v, c5.alloc _, hrow.alloc _, trivial⟩, c3.alloc _⟩, ⟨c0.alloc _, c1.alloc _⟩⟩, ⟨c2.alloc _, hfe⟩⟩, by simp; omega⟩, hB.alloc hsz _⟩ ⟨W.heap.size, hm0, heap_alloc_new W _, rfl⟩
      case body =>
        rintro l pre x a' W hl ⟨r, hr⟩ hI ⟨Bx, hBx, hbx, rfl⟩ hlt
        obtain ⟨⟨t, q, e2⟩, hxx⟩ := x
        obtain ⟨⟨⟨⟨⟨⟨v, c5, hrow, -⟩, c3⟩, ⟨c0, c1⟩⟩, ⟨c2, hfe⟩⟩, hm0⟩, hB⟩ := hI
        have hsz := hB.size
        clear b0 b1 b2 b3 b4 b5 b6 b7 hs6 hs7
        simp only at hbx
        have x0 : W.cell? ⟨Bx, 0, none⟩ = some (.string t) := by simp [World.cell?, hbx]
        have x1 : W.cell? ⟨Bx, 1, none⟩ = some (.int .i64 q) := by simp [World.cell?, hbx]
        have x2 : W.cell? ⟨Bx, 2, none⟩ = some (.int .i64 e2) := by simp [World.cell?, hbx]
        have HBX := hidp hbx; clear hbx
        have Hr := hidp hr; clear hr
        have d0 := c0.cell; have d1 := c1.cell; have d2 := c2.cell; have d3 := c3.cell; have d5 := c5.cell
        have f0 := c0.frozen; have f1 := c1.frozen; have f2 := c2.frozen; have f3 := c3.frozen; have f5 := c5.frozen
        have hxx' := hidp hxx
        simp only at hxx
        obtain ⟨hx1, hx2, hx3⟩ := hxx
        have HC := hidp (And.intro c5 (And.intro c3 (And.intro c0 (And.intro c1 (And.intro c2 hfe))))); clear c5 c3 c0 c1 c2 hfe
        have hfe1 := fe_snoc pre ⟨(t, q, e2), hxx'.out⟩ HC.out.2.2.2.2.2
        have HF := hidp hfe1; clear hfe1
        by_cases he2 : e2 = 0
        · have heb2 := errB0 he2
          have H02 := hidp he2; clear he2
          have hpl := pcs_len k (s.extract p s.size)
          have hszs := szs_bd pre
          have hlx : (strV (txs pre)).length = pre.length := by simp [strV, txs]
          have hsq : ((p + szs pre : Nat) : Int) + (q : Int) = ((p + szs (pre ++ [⟨(t, q, e2), hxx'.out⟩]) : Nat) : Int) := by rw [szs_snoc]; simp; omega
          have HSQ := hidp hsq; clear hsq
          have hb3 : p + szs pre ≤ 281474976710656 := by omega
          have HLX := hidp hlx
          gi_wp2_with (gi_at_builtin; (refine wpListIn_append_own _ rfl (.tmp 35) (.tmp 38) 22 rfl w.heap.size 9 i0 _ 1 16 Try.underlying22 hi hz0 hz1 hz2 rfl (by decide) _ _ _ rfl (hrow.alloc _) ⟨W.heap.size, 0, none⟩ 1 1 [.string t] rfl rfl (cell_one_new _ _ _) (by simp [Value.oneCell']) ?_ ?_ ?_ ?_))
          · unfold maxLen; omega
          · omega
          · omega
          · intro v' w1 hown' hgrow hne
            obtain ⟨g', cap', rfl⟩ := ownsRow_succ hown'
            obtain ⟨c5, c3, c0, c1, c2, hfe⟩ := HC.out
            obtain ⟨g5a, g5b, hr2, hk2, hb2⟩ := c5.appended (by decide) hrow hsz (by omega) hown' hgrow
            have k3 : Boxed w1 _ _ _ := (c3.alloc _).kept hgrow (c3.not_row (by decide) hrow)
            have k0 : Boxed w1 _ _ _ := (c0.alloc _).kept hgrow (c0.not_row (by decide) hrow)
            have k1 : Boxed w1 _ _ _ := (c1.alloc _).kept hgrow (c1.not_row (by decide) hrow)
            have k2 : Boxed w1 _ _ _ := (c2.alloc _).kept hgrow (c2.not_row (by decide) hrow)
            have hbl := (Array.getElem?_eq_some_iff.1 HBX.out).1
            have kx : w1.heap[Bx]? = some (.cells #[.string t, .int .i64 q, .int .i64 e2] 87) := (hgrow.block Bx (by simp; omega) (not_row_cells HBX.out (by decide) hrow)).trans ((Below.heap_alloc W _ Bx hbl).trans HBX.out)
            have y1 : w1.cell? ⟨Bx, 1, none⟩ = some (.int .i64 q) := by simp [World.cell?, kx]
            have z3 := k3.cell; have zf3 := k3.frozen; have z5 := g5a.cell; have zf5 := g5a.frozen
            have hbn : ¬ Bx = w.heap.size + 1 + 1 + 1 + 1 + 1 := by omega
            have e9 := hidp (show (p : Int) + ((szs pre : Nat) : Int) + (q : Int) = ((p + szs (pre ++ [⟨(t, q, e2), hxx'.out⟩]) : Nat) : Int) from by rw [← HSQ.out]; simp)
            have hsn := hidp (strV_snoc (txs pre) t)
            have HEND := hidp (show IGL w W0.heap.size p (pre ++ [⟨(t, q, e2), hxx'.out⟩]) ((w1.setCell ⟨w.heap.size + 1 + 1 + 1 + 1 + 1, 0, none⟩ (.slice (some ⟨g', 0, none⟩) (pre.length + 1) cap')).setCell ⟨w.heap.size + 1 + 1 + 1, 0, none⟩ (.int .i64 ((p + szs (pre ++ [⟨(t, q, e2), hxx'.out⟩]) : Nat) : Int))) from by
              refine ⟨⟨⟨⟨⟨⟨_, g5b.other (by omega) _, ?_, trivial⟩, (k3.other (by omega) _).set _⟩, ⟨(k0.other (by omega) _).other (by omega) _, (k1.other (by omega) _).other (by omega) _⟩⟩, ⟨(k2.other (by omega) _).other (by omega) _, by rw [HF.out]; exact H02.out⟩⟩, ?_⟩, ?_⟩
              · rw [txs_snoc, ← hsn.out, List.length_append, HLX.out]
                exact hr2.kept (grownBy_setCell' _ _ _) (.inr ((k3.other (by omega) _).not_row (by decide) hr2).symm)
              · have := hb2.size; simp [World.setCell] at this ⊢; omega
              · exact (hB.trans hb2).setCell (p := ⟨w.heap.size + 1 + 1 + 1, 0, none⟩) (by simp; omega) _)
            have HK2 := hidp (hk2.trans (KeepsOthers.setCell _ ⟨w.heap.size + 1 + 1 + 1, 0, none⟩ (.int .i64 ((p + szs (pre ++ [⟨(t, q, e2), hxx'.out⟩]) : Nat) : Int))))
            clear hown' hgrow hr2 hk2 hb2 g5a g5b k0 k1 k2 k3 kx hrow c5 c3 c0 c1 c2 hfe hsn
            gi_wp2
            rw [e9.out]
            exact ⟨HK2.out.from _, trivial, HEND.out⟩
        · have heb2 := errB he2
          have H02 := hidp he2; clear he2
          have HE : Hid (ownPostG W0.heap.size (fun _ _ => True) (IGL w W0.heap.size p) (IxGL w) (pre ++ [⟨(t, q, e2), hxx'.out⟩]) W Exit.ret { tmps := #[], defers := [] } ((((W.setCell ⟨w.heap.size, 0, none⟩ (.slice none 0 0)).setCell ⟨w.heap.size + 1, 0, none⟩ (.int .i64 0)).setCell ⟨w.heap.size + 1 + 1, 0, none⟩ (.int .i64 e2)).drew)) := by
            obtain ⟨c5, c3, c0, c1, c2, hfe⟩ := HC.out
            refine hidp ⟨?_, ?_⟩
            · exact ((((KeepsOthers.setCell _ _ _).trans (KeepsOthers.setCell _ _ _)).trans (KeepsOthers.setCell _ _ _)).trans (KeepsOthers.drew _)).from _
            · refine ⟨⟨⟨⟨rfl, by rw [HF.out]; exact H02.out⟩, ⟨((c0.set _).other (by omega) _).other (by omega) _, ((c1.other (by omega) _).set _).other (by omega) _⟩⟩, ?_⟩, (((hB.setCell (p := ⟨w.heap.size, 0, none⟩) (Nat.le_refl _) _).setCell (p := ⟨w.heap.size + 1, 0, none⟩) (by simp) _).setCell (p := ⟨w.heap.size + 1 + 1, 0, none⟩) (by simp; omega) _).drew⟩
              rw [HF.out]; exact ((c2.other (by omega) _).other (by omega) _).set _
          gi_wp2
          gi_region
          all_goals gi_wp2
          all_goals exact HE.out
      case done =>
        rintro D ys W hD hys hI hK
        obtain ⟨⟨⟨⟨⟨⟨v, c5, hrow, -⟩, c3⟩, ⟨c0, c1⟩⟩, ⟨c2, hfe⟩⟩, hm0⟩, hB⟩ := hI
        subst hys
        have hfin := gl_yes s k p (by rw [← Hr.out, H0.out]) (by omega) h3 hfe
        have hdd := (Array.getElem?_eq_some_iff.1 hK).1
        obtain ⟨sz, hsze⟩ : ∃ z, p + szs (pcs k (s.extract p s.size)) = z := ⟨_, rfl⟩
        rw [hsze] at c3 hfin
        clear hsze
        have hfin := hidp hfin
        have hsz := hB.size
        clear b0 b1 b2 b3 b4 b5 b6 b7 hs6 hs7
        have d0 := c0.cell; have d1 := c1.cell; have d2 := c2.cell; have d3 := c3.cell; have d5 := c5.cell
        have f0 := c0.frozen; have f1 := c1.frozen; have f2 := c2.frozen
        have hvv : ∃ a n c, v = .slice a n c := by
          rcases hrow.2 with ⟨rfl, _⟩ | ⟨g, cap, cur, rfl, _⟩
          · exact ⟨_, _, _, rfl⟩
          · exact ⟨_, _, _, rfl⟩
        obtain ⟨va, vn, vc, rfl⟩ := hvv
        have hend : ∀ X : World, X = (((W.setCell ⟨w.heap.size, 0, none⟩ (.slice va vn vc)).setCell ⟨w.heap.size + 1, 0, none⟩ (.int .i64 (sz : Int))).setCell ⟨w.heap.size + 1 + 1, 0, none⟩ (.int .i64 0)).drew →
            X.heap[D]? = some (.deferred (some [])) ∧ (X.putObj D (.deferred none)).cell? ⟨w.heap.size, 0, none⟩ = some (.slice va vn vc) ∧ (X.putObj D (.deferred none)).cell? ⟨w.heap.size + 1, 0, none⟩ = some (.int .i64 (sz : Int)) ∧
            (X.putObj D (.deferred none)).cell? ⟨w.heap.size + 1 + 1, 0, none⟩ = some (.int .i64 0) ∧ StrsAt (X.putObj D (.deferred none)) (.slice va vn vc) (txs (pcs k (s.extract p s.size))) ∧ Below w.heap.size w (X.putObj D (.deferred none)) := by
          intro X hX
          have q0 : Boxed X w.heap.size 22 (.slice va vn vc) := by rw [hX]; exact ((c0.set _).other (by omega) _).other (by omega) _
          have q1 : Boxed X (w.heap.size + 1) 3 (.int .i64 (sz : Int)) := by rw [hX]; exact ((c1.other (by omega) _).set _).other (by omega) _
          have q2 : Boxed X (w.heap.size + 1 + 1) 27 (.int .i64 0) := by rw [hX]; exact ((c2.other (by omega) _).other (by omega) _).set _
          have qD : X.heap[D]? = some (.deferred (some [])) := by rw [hX]; exact (((KeepsOthers.setCell _ _ _).trans (KeepsOthers.setCell _ _ _)).trans (KeepsOthers.setCell _ _ _)).same D _ hK rfl
          have a0 : Boxed (W.setCell ⟨w.heap.size, 0, none⟩ (.slice va vn vc)) (w.heap.size + 1) 3 (.int .i64 0) := c1.other (by omega) _
          have a1 : Boxed ((W.setCell ⟨w.heap.size, 0, none⟩ (.slice va vn vc)).setCell ⟨w.heap.size + 1, 0, none⟩ (.int .i64 (sz : Int))) (w.heap.size + 1 + 1) 27 (.int .i64 0) := (c2.other (by omega) _).other (by omega) _
          have r0 := hrow.kept (grownBy_setCell' W w.heap.size (.slice va vn vc)) (.inr (c0.not_row (by decide) hrow).symm)
          have r1 := r0.kept (grownBy_setCell' _ (w.heap.size + 1) (.int .i64 (sz : Int))) (.inr (a0.not_row (by decide) r0).symm)
          have r2 := r1.kept (grownBy_setCell' _ (w.heap.size + 1 + 1) (.int .i64 0)) (.inr (a1.not_row (by decide) r1).symm)
          have r3 : X.ownsRow w.heap.size 9 1 (.slice va vn vc) (strV (txs (pcs k (s.extract p s.size)))).length (strV (txs (pcs k (s.extract p s.size)))) := by rw [hX]; exact r2
          have hBX : Below w.heap.size w X := by rw [hX]; exact (((hB.setCell (p := ⟨w.heap.size, 0, none⟩) (Nat.le_refl _) _).setCell (p := ⟨w.heap.size + 1, 0, none⟩) (by simp) _).setCell (p := ⟨w.heap.size + 1 + 1, 0, none⟩) (by simp; omega) _).drew
          have hDX := (Array.getElem?_eq_some_iff.1 qD).1
          refine ⟨qD, (q0.kept (grownBy_putObj' _ _ _) (fun e => by cases e; omega)).cell, (q1.kept (grownBy_putObj' _ _ _) (fun e => by cases e; omega)).cell, (q2.kept (grownBy_putObj' _ _ _) (fun e => by cases e; omega)).cell, ?_, hBX.grown (grownBy_putObj' _ _ _) hBX.size (fun k e => by cases e; omega)⟩
          exact OwnV.strs (B := w.heap.size) (e := 9) (ownsRow_putObj r3 _ qD rfl)
        have HEND := hidp hend
        clear hend hK hrow c0 c1 c2 c3 c5 hfe
        gi_wp2
        gi_region
        gi_wp2
        obtain ⟨eD, e0, e1, e2, eS, eB⟩ := HEND.out _ rfl
        refine ⟨by simp, .inl ⟨_, _, rfl, run_takeDeferred eD, ?_⟩⟩
        refine ⟨_, by simp [results, Try.results34, go_sem, e0, e1, e2]; rfl, ?_⟩
        exact ⟨_, by rw [HR.out, hfin.out]; rfl, by rw [HR.out, hfin.out]; exact eS, eB⟩
      case stop =>
        rintro D c pre W hD hsp hI hK
        obtain ⟨⟨⟨⟨rfl, hfe⟩, ⟨c0, c1⟩⟩, c2⟩, hB⟩ := hI
        have hfin := hidp (gl_err s k p (by rw [← Hr.out, H0.out]) (by omega) h3 pre hsp hfe)
        have hdd := (Array.getElem?_eq_some_iff.1 hK).1
        have e0 := (c0.kept (grownBy_putObj' W D (.deferred none)) (fun e => by cases e; omega)).cell
        have e1 := (c1.kept (grownBy_putObj' W D (.deferred none)) (fun e => by cases e; omega)).cell
        have e2 := (c2.kept (grownBy_putObj' W D (.deferred none)) (fun e => by cases e; omega)).cell
        have eB := hB.grown (grownBy_putObj' W D (.deferred none)) hB.size (fun k e => by cases e; omega)
        clear b0 b1 b2 b3 b4 b5 b6 b7 hs6 hs7 c0 c1 c2
        gi_wp2
        refine ⟨by simp, .inl ⟨_, _, rfl, run_takeDeferred hK, ?_⟩⟩
        refine ⟨_, by simp [results, Try.results34, go_sem, e0, e1, e2]; rfl, ?_⟩
        exact ⟨_, by rw [HR.out, hfin.out]; rfl, by rw [HR.out, hfin.out]; exact strsNil _, eB⟩
  · have heb := errB he
    have hfin := hidp (show gl s = ([], 0, e) from by
        unfold gl; rw [← Hr.out]; simp only; rw [if_pos he])
    have H0 := hidp he; clear he
    gi_wp2
    refine ⟨_, by simp [results, Try.results34, go_sem]; rfl, ?_⟩
    refine ⟨_, by rw [HR.out, hfin.out]; rfl, by rw [HR.out, hfin.out]; exact strsNil _, ?_⟩
    exact ((((Below.refl _ w).alloc (Nat.le_refl _) _).alloc (by simp) _).alloc (by simp; omega) _).alloc (by simp; omega) _
end Go.Proofs.Ytbgooppmhgaicab
