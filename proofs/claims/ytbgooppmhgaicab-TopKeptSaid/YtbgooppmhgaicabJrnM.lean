
/-
  Plain mathematics of a journal: the records of bytes, and what a crash leaves of them.
-/
import Derived.Test.YtbgooppmhgaicabOctQ
import Derived.Test.YtbgooppmhgaicabCrcM
import Derived.Test.YtbgooppmhgaicabDskD
namespace Go.Proofs.Ytbgooppmhgaicab
set_option linter.unusedVariables false
set_option linter.unusedSimpArgs false
set_option maxRecDepth 100000
open Go.RowKit

/-- A record's bytes. -/
def recB (t : ByteArray) : List UInt8 := encT t ++ bytesL (sumL (encT t))
theorem recB_len (t : ByteArray) : (recB t).length = (encT t).length + 4 := by unfold recB; rw [List.length_append]; unfold bytesL; rfl
theorem encT_pos (t : ByteArray) : 0 < (encT t).length := by unfold encT; have := encN_pos t.size; simp; omega
theorem recB_pos (t : ByteArray) : 0 < (recB t).length := by rw [recB_len]; omega
theorem recB_le (t : ByteArray) (h : t.size ≤ 8192) : (recB t).length ≤ 8206 := by rw [recB_len]; have := encT_len t h; omega
/-- The record that bytes begin with, and its size. -/
def fst1 (s : ByteArray) : Option (ByteArray × Nat) :=
  if (gt s).2.2 ≠ 0 then none else if s.size < (gt s).2.1 + 4 then none else if goodL (s.data.toList.take ((gt s).2.1 + 4)) = true then some ((gt s).1, (gt s).2.1 + 4) else none

theorem fst1_back (t : ByteArray) (ht : t.size ≤ 8192) (r : List UInt8) : fst1 (mkS (recB t ++ r)) = some (t, (recB t).length) := by
  have hg : gt (mkS (recB t ++ r)) = (t, (encT t).length, 0) := by unfold recB; rw [List.append_assoc]; exact gt_back t ht _
  unfold fst1
  rw [hg]
  simp only [ne_eq, not_true_eq_false, if_false]
  rw [if_neg (by rw [mkS_size, List.length_append, recB_len]; omega), mkS_data, ← recB_len, List.take_left]
  exact if_pos (goodL_app _)

theorem fst1_again (s t : ByteArray) (k : Nat) (h : fst1 s = some (t, k)) : ∃ r, s.data.toList = recB t ++ r ∧ k = (recB t).length ∧ t.size ≤ 8192 := by
  obtain ⟨⟨t', j, e⟩, hr⟩ : ∃ r, gt s = r := ⟨_, rfl⟩
  unfold fst1 at h
  rw [hr] at h
  simp only at h
  split at h
  · cases h
  split at h
  · cases h
  split at h
  · rename_i he hj hg
    simp only [Option.some.injEq, Prod.mk.injEq] at h
    obtain ⟨rfl, rfl⟩ := h
    have he0 : e = 0 := by omega
    subst he0
    obtain ⟨g1, g2, g3⟩ := gt_again _ _ _ hr
    have hl : (s.data.toList.take (j + 4)).length = j + 4 := by rw [List.length_take, size_toList]; omega
    have hd : (s.data.toList.take (j + 4)).drop j = bytesL (sumL (encT t')) := by
      unfold goodL at hg
      rw [hl, show j + 4 - 4 = j from by omega, List.take_take, Nat.min_eq_left (by omega), ← g1] at hg
      simp only [Bool.and_eq_true, decide_eq_true_eq] at hg
      exact hg.2
    refine ⟨s.data.toList.drop (j + 4), ?_, ?_, g2⟩
    · have e1 : s.data.toList.take (j + 4) = recB t' := by
        rw [← List.take_append_drop j (s.data.toList.take (j + 4)), hd, List.take_take, Nat.min_eq_left (by omega), ← g1]; rfl
      rw [← e1, List.take_append_drop]
    · rw [recB_len, g1, List.length_take, size_toList]; omega
  · cases h

/-- The records of bytes. -/
def rdT (l : List UInt8) : List ByteArray :=
  match h : fst1 (mkS l) with
  | none => []
  | some (t, k) => t :: rdT (l.drop k)
termination_by l.length
decreasing_by
  obtain ⟨r, h1, h2, h3⟩ := fst1_again _ _ _ h
  rw [mkS_data] at h1
  have := recB_pos t
  rw [h1, h2, List.drop_left]; simp; omega
def cat (ts : List ByteArray) : List UInt8 := ts.flatMap recB
theorem cat_nil : cat [] = [] := rfl
theorem cat_cons (t : ByteArray) (ts : List ByteArray) : cat (t :: ts) = recB t ++ cat ts := rfl
theorem cat_append (a b : List ByteArray) : cat (a ++ b) = cat a ++ cat b := by unfold cat; simp
theorem cat_snoc (a : List ByteArray) (t : ByteArray) : cat (a ++ [t]) = cat a ++ recB t := by rw [cat_append]; simp [cat]
theorem rdT_none {l : List UInt8} (h : fst1 (mkS l) = none) : rdT l = [] := by
  rw [rdT]; split
  · rfl
  · rename_i h2; rw [h] at h2; cases h2
theorem rdT_rec (t : ByteArray) (ht : t.size ≤ 8192) (r : List UInt8) : rdT (recB t ++ r) = t :: rdT r := by
  have hb := fst1_back t ht r
  rw [rdT]; split
  · rename_i h2; rw [hb] at h2; cases h2
  · rename_i t' k h2
    rw [hb] at h2
    simp only [Option.some.injEq, Prod.mk.injEq] at h2
    obtain ⟨rfl, rfl⟩ := h2
    rw [List.drop_left]
theorem rdT_cat (ts : List ByteArray) (h : ∀ t ∈ ts, t.size ≤ 8192) (r : List UInt8) : rdT (cat ts ++ r) = ts ++ rdT r := by
  induction ts with
  | nil => simp [cat]
  | cons t ts ih =>
    rw [cat_cons, List.append_assoc, rdT_rec t (h t (by simp)), ih fun x hx => h x (by simp [hx])]; rfl
theorem fst1_nil : fst1 (mkS []) = none := by decide +kernel
theorem rdT_nil : rdT [] = [] := rdT_none fst1_nil
theorem rdT_whole (ts : List ByteArray) (h : ∀ t ∈ ts, t.size ≤ 8192) : rdT (cat ts) = ts := by
  have := rdT_cat ts h []; rw [List.append_nil, rdT_nil, List.append_nil] at this; exact this
theorem rdT_spec (l : List UInt8) : ∃ r, l = cat (rdT l) ++ r ∧ fst1 (mkS r) = none ∧ ∀ t ∈ rdT l, t.size ≤ 8192 := by
  obtain ⟨n, hn⟩ : ∃ n, l.length = n := ⟨_, rfl⟩
  induction n using Nat.strongRecOn generalizing l with
  | _ n ih =>
    cases h : fst1 (mkS l) with
    | none => rw [rdT_none h]; exact ⟨l, by simp [cat], h, by simp⟩
    | some x =>
      obtain ⟨t, k⟩ := x
      obtain ⟨r, h1, h2, h3⟩ := fst1_again _ _ _ h
      rw [mkS_data] at h1
      subst h1
      have hp := recB_pos t
      obtain ⟨r', e1, e2, e3⟩ := ih r.length (by rw [← hn]; simp; omega) r rfl
      rw [rdT_rec t h3]
      refine ⟨r', ?_, e2, ?_⟩
      · rw [cat_cons, List.append_assoc, ← e1]
      · intro x hx
        rcases List.mem_cons.1 hx with rfl | hx
        · exact h3
        · exact e3 x hx
/-- How many bytes the records take. -/
def rdN (l : List UInt8) : Nat := (cat (rdT l)).length
theorem rdN_le (l : List UInt8) : rdN l ≤ l.length := by
  obtain ⟨r, h, _, _⟩ := rdT_spec l
  have := congrArg List.length h
  rw [List.length_append] at this
  unfold rdN; omega
theorem rdT_take (l : List UInt8) : l.take (rdN l) = cat (rdT l) := by
  obtain ⟨r, h, _, _⟩ := rdT_spec l
  have e : (cat (rdT l) ++ r).take (cat (rdT l)).length = cat (rdT l) := List.take_left
  rw [← h] at e
  exact e
theorem rdT_small (l : List UInt8) : ∀ t ∈ rdT l, t.size ≤ 8192 := by obtain ⟨r, _, _, h⟩ := rdT_spec l; exact h
theorem cat_count (ts : List ByteArray) : 5 * ts.length ≤ (cat ts).length := by
  induction ts with
  | nil => simp [cat]
  | cons t ts ih => rw [cat_cons, List.length_append, List.length_cons, recB_len]; have := encT_pos t; omega

theorem fst1_torn (t t' : ByteArray) (ht : t.size ≤ 8192) (ht' : t'.size ≤ 8192) (P r' : List UInt8) (m : Nat) (hm : P.length = m + 1) (hm2 : m < (recB t).length) (hP : P.take m = (recB t).take m) (h : P = recB t' ++ r') : P = recB t := by
  have hl : (recB t').length + r'.length = m + 1 := by rw [← hm, h, List.length_append]
  have l1 : (encT t').length = (encN t'.size).length + t'.size := by unfold encT; simp
  have l2 : (encT t).length = (encN t.size).length + t.size := by unfold encT; simp
  rw [recB_len] at hl hm2
  have e1 : (recB t).take (encN t'.size).length = encN t'.size := by
    have a1 : ((recB t).take m).take (encN t'.size).length = (recB t).take (encN t'.size).length := by rw [List.take_take, Nat.min_eq_left (by omega)]
    rw [← a1, ← hP, List.take_take, Nat.min_eq_left (by omega), h]
    unfold recB encT
    simp only [List.append_assoc]
    rw [List.take_left]
  have g1 := gn_back t'.size ((recB t).drop (encN t'.size).length) (by omega)
  have g2 := gn_back t.size (t.data.toList ++ bytesL (sumL (encT t))) (by omega)
  have e2 : encN t'.size ++ (recB t).drop (encN t'.size).length = recB t := by
    have := List.take_append_drop (encN t'.size).length (recB t)
    rw [e1] at this; exact this
  have e3 : encN t.size ++ (t.data.toList ++ bytesL (sumL (encT t))) = recB t := by
    rw [← List.append_assoc]; rfl
  rw [e2] at g1
  rw [e3] at g2
  have hs : t'.size = t.size := by rw [g1] at g2; exact (Prod.mk.inj g2).1
  rw [hs] at l1
  have hr : r' = [] := List.eq_nil_of_length_eq_zero (by omega)
  subst hr
  rw [List.append_nil] at h
  have e4 : encT t' = encT t := by
    have a1 : P.take (encT t').length = encT t' := by rw [h]; unfold recB; rw [List.take_left]
    have a2 : (P.take m).take (encT t').length = P.take (encT t').length := by rw [List.take_take, Nat.min_eq_left (by omega)]
    rw [← a1, ← a2, hP, List.take_take, Nat.min_eq_left (by omega), show (encT t').length = (encT t).length from by omega]
    unfold recB; rw [List.take_left]
  rw [h]; unfold recB; rw [e4]

theorem torn0 (ts : List ByteArray) (h8 : ∀ t ∈ ts, t.size ≤ 8192) (z : Nat) (D : List UInt8) (hz : z < (cat ts).length) (hD : D.length = z + 1) (hT : D.take z = (cat ts).take z) :
    ∃ j, j ≤ ts.length ∧ rdT D = ts.take j ∧ ∀ n, n ≤ ts.length → (cat (ts.take n)).length ≤ z → n ≤ j := by
  induction ts generalizing z D with
  | nil => simp [cat] at hz
  | cons t ts ih =>
    rw [cat_cons] at hz hT
    by_cases hlt : z < (recB t).length
    · have hn : ∀ n, n ≤ (t :: ts).length → (cat ((t :: ts).take n)).length ≤ z → n = 0 := by
        intro n _ h
        cases n with
        | zero => rfl
        | succ n => rw [List.take_succ_cons, cat_cons, List.length_append] at h; omega
      rw [List.take_append_of_le_length (by omega)] at hT
      cases hf : fst1 (mkS D) with
      | none => exact ⟨0, by simp, by rw [rdT_none hf]; rfl, fun n h1 h2 => by rw [hn n h1 h2]; exact Nat.le_refl _⟩
      | some x =>
        obtain ⟨t', k⟩ := x
        obtain ⟨r', h1, h2, h3⟩ := fst1_again _ _ _ hf
        rw [mkS_data] at h1
        have := fst1_torn t t' (h8 t (by simp)) h3 D r' z hD hlt hT h1
        refine ⟨1, by simp, ?_, fun n h1 h2 => by rw [hn n h1 h2]; omega⟩
        rw [this]
        have e := rdT_rec t (h8 t (by simp)) []
        rw [List.append_nil, rdT_nil] at e
        rw [e]; rfl
    · have hDe : D = recB t ++ D.drop (recB t).length := by
        have a1 : D.take (recB t).length = recB t := by
          have a2 : (D.take z).take (recB t).length = D.take (recB t).length := by rw [List.take_take, Nat.min_eq_left (by omega)]
          rw [← a2, hT, List.take_take, Nat.min_eq_left (by omega), List.take_left]
        conv => lhs; rw [← List.take_append_drop (recB t).length D, a1]
      obtain ⟨D', hD'⟩ : ∃ D', D.drop (recB t).length = D' := ⟨_, rfl⟩
      rw [hD'] at hDe
      clear hD'
      subst hDe
      simp only [List.length_append] at hz hD
      have hT' : D'.take (z - (recB t).length) = (cat ts).take (z - (recB t).length) := by
        rw [List.take_append, List.take_append] at hT
        exact List.append_cancel_left hT
      obtain ⟨j, h1, h2, h3⟩ := ih (fun x hx => h8 x (by simp [hx])) (z - (recB t).length) D' (by omega) (by omega) hT'
      refine ⟨j + 1, by simp; omega, ?_, ?_⟩
      · rw [rdT_rec t (h8 t (by simp)), h2]; rfl
      · intro n hn hz'
        cases n with
        | zero => omega
        | succ n =>
          rw [List.take_succ_cons, cat_cons, List.length_append] at hz'
          have := h3 n (by simpa using hn) (by omega)
          omega

theorem torn (ts : List ByteArray) (h8 : ∀ t ∈ ts, t.size ≤ 8192) (n q : Nat) (b : UInt8) (hn : n ≤ ts.length) (hq : (cat (ts.take n)).length + q ≤ (cat ts).length) :
    ∃ j, n ≤ j ∧ j ≤ ts.length ∧ rdT (failL (cat ts) (cat (ts.take n)).length q b) = ts.take j := by
  unfold failL
  by_cases h0 : 0 < q
  · rw [if_pos h0]
    obtain ⟨D, hD⟩ : ∃ D, ((cat ts).take ((cat (ts.take n)).length + q)).set ((cat (ts.take n)).length + q - 1) (((cat ts).take ((cat (ts.take n)).length + q)).getD ((cat (ts.take n)).length + q - 1) 0 ^^^ b) = D := ⟨_, rfl⟩
    rw [hD]
    have hl : D.length = (cat (ts.take n)).length + q - 1 + 1 := by rw [← hD]; simp; omega
    have hT : D.take ((cat (ts.take n)).length + q - 1) = (cat ts).take ((cat (ts.take n)).length + q - 1) := by
      rw [← hD, List.take_set_of_le (Nat.le_refl _), List.take_take, Nat.min_eq_left (by omega)]
    obtain ⟨j, h1, h2, h3⟩ := torn0 ts h8 _ D (by omega) hl hT
    exact ⟨j, h3 n hn (by omega), h1, h2⟩
  · rw [if_neg h0]
    refine ⟨n, Nat.le_refl _, hn, ?_⟩
    have e : (cat ts).take (cat (ts.take n)).length = cat (ts.take n) := by
      conv => lhs; rw [← List.take_append_drop n ts, cat_append]
      simp
    rw [e]
    exact rdT_whole _ fun t ht => h8 t (List.mem_of_mem_take ht)
end Go.Proofs.Ytbgooppmhgaicab
