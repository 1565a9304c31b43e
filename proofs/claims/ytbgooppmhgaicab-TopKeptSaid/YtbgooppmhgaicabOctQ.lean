
/-
  Plain mathematics of octet: what is written is read, and what is read is written.
-/
import Derived.Test.YtbgooppmhgaicabOctL
namespace Go.Proofs.Ytbgooppmhgaicab
set_option linter.unusedVariables false
set_option linter.unusedSimpArgs false
set_option maxRecDepth 100000
open Go.RowKit

theorem cont_toNat (n : Nat) : (contB n).toNat = n % 128 + 128 := by unfold contB; rw [u8n _ (by omega)]
theorem last_toNat (n : Nat) (h : n < 128) : (lastB n).toNat = n := by unfold lastB; rw [u8n _ (by omega)]

theorem gnAux_back (k i acc n : Nat) (r : List UInt8) (hk : (encN n).length ≤ k) (hmax : acc + n * 128 ^ i ≤ 281474976710656) (h0 : 0 < i → n ≠ 0) :
    gnAux k i acc (encN n ++ r) = (acc + n * 128 ^ i, i + (encN n).length, 0) := by
  induction k generalizing i acc n with
  | zero => have := encN_pos n; omega
  | succ k ih =>
    by_cases h : n < 128
    · rw [encN_lt h]
      simp only [List.cons_append, List.nil_append, gnAux, last_toNat n h, List.length_cons, List.length_nil]
      rw [if_neg (by omega), show n % 128 = n from by omega, if_neg (by omega)]
    · rw [encN_ge (by omega)] at hk ⊢
      have hlen : (encN (n / 128)).length ≤ k := by simpa using hk
      have e : acc + (n % 128 + 128) % 128 * 128 ^ i + n / 128 * 128 ^ (i + 1) = acc + n * 128 ^ i := by
        rw [Nat.pow_succ, show (n % 128 + 128) % 128 = n % 128 from by omega]
        have : n / 128 * (128 ^ i * 128) = (n / 128 * 128) * 128 ^ i := by rw [Nat.mul_comm (128 ^ i), ← Nat.mul_assoc]
        rw [this, Nat.add_assoc, ← Nat.add_mul]
        congr 2
        omega
      simp only [List.cons_append, gnAux, cont_toNat, List.length_cons]
      rw [if_pos (by omega), ih (i + 1) _ (n / 128) hlen (by rw [e]; exact hmax) (by omega), e]
      congr 2
      omega
theorem gn_back (n : Nat) (r : List UInt8) (h : n ≤ 281474976710656) : gn (encN n ++ r) = (n, (encN n).length, 0) := by
  have := gnAux_back 7 0 0 n r (encN_len 6 n (by have : (128 : Nat) ^ (6 + 1) = 562949953421312 := by decide
                                                 omega)) (by simpa using h) (by omega)
  unfold gn; rw [this]; simp

theorem gnAux_again (k i acc : Nat) (l : List UInt8) (n j : Nat) (h : gnAux k i acc l = (n, j, 0)) :
    ∃ p b, i < j ∧ j - i ≤ l.length ∧ l.take (j - i) = p ++ [b] ∧ n = acc + valN (p ++ [b]) * 128 ^ i ∧ (∀ x ∈ p, 128 ≤ x.toNat) ∧ b.toNat < 128 ∧ (0 < i ∨ p ≠ [] → b.toNat ≠ 0) ∧ n ≤ 281474976710656 := by
  induction k generalizing i acc l with
  | zero => simp [gnAux] at h
  | succ k ih =>
    cases l with
    | nil => simp [gnAux] at h
    | cons c r =>
      rw [gnAux] at h
      split at h
      · rename_i hc
        obtain ⟨p, b, h1, h2, h3, h4, h5, h6, h7, h8⟩ := ih (i + 1) _ r h
        refine ⟨c :: p, b, by omega, by simp; omega, ?_, ?_, ?_, h6, fun _ => h7 (.inl (by omega)), h8⟩
        · rw [show j - i = (j - (i + 1)) + 1 from by omega, List.take_succ_cons, h3]; rfl
        · rw [h4]
          show _ = acc + (c.toNat % 128 + 128 * valN (p ++ [b])) * 128 ^ i
          rw [Nat.pow_succ, Nat.add_mul, ← Nat.add_assoc]
          congr 1
          rw [Nat.mul_comm (128 ^ i), ← Nat.mul_assoc, Nat.mul_comm (valN _)]
        · intro x hx
          rcases List.mem_cons.1 hx with rfl | hx
          · exact hc
          · exact h5 x hx
      · split at h
        · simp at h
        · rename_i hc hn
          simp only [Prod.mk.injEq, and_true] at h
          obtain ⟨rfl, rfl⟩ := h
          refine ⟨[], c, by omega, by simp, by rw [show i + 1 - i = 1 from by omega]; rfl, by simp [valN], by simp, by omega, fun h => ?_, by omega⟩
          have : 0 < i := by simpa using h
          omega
theorem gn_again (l : List UInt8) (n j : Nat) (h : gn l = (n, j, 0)) : encN n = l.take j ∧ n ≤ 281474976710656 ∧ j ≤ l.length := by
  obtain ⟨p, b, h1, h2, h3, h4, h5, h6, h7, h8⟩ := gnAux_again 7 0 0 l n j h
  refine ⟨?_, h8, by simpa using h2⟩
  have e : n = valN (p ++ [b]) := by simpa using h4
  rw [e, enc_val p b h5 h6 (by by_cases hp : p = []; exact .inl hp; exact .inr (h7 (.inr hp))), ← h3]; simp

theorem ba_ext {a b : ByteArray} (h : a.data.toList = b.data.toList) : a = b := ByteArray.ext (Array.toList_inj.1 h)
theorem extract_toList (s : ByteArray) (a b : Nat) : (s.extract a b).data.toList = (s.data.toList.drop a).take (b - a) := by
  simp [ByteArray.data_extract, List.extract]
theorem append_toList (a b : ByteArray) : (a ++ b).data.toList = a.data.toList ++ b.data.toList := by simp [ByteArray.data_append]
theorem size_toList (s : ByteArray) : s.data.toList.length = s.size := by simp
theorem ext_drop (s : ByteArray) (p : Nat) : s.extract p s.size = mkS (s.data.toList.drop p) := by
  apply ba_ext
  rw [extract_toList, mkS_data, List.take_of_length_le (by simp)]

theorem gt_back (t : ByteArray) (ht : t.size ≤ 8192) (r : List UInt8) : gt (mkS (encT t ++ r)) = (t, (encT t).length, 0) := by
  have hg : gn (mkS (encT t ++ r)).data.toList = (t.size, (encN t.size).length, 0) := by
    rw [mkS_data]; unfold encT; rw [List.append_assoc]; exact gn_back _ _ (by omega)
  have hl : (encT t).length = (encN t.size).length + t.size := by unfold encT; simp
  unfold gt
  rw [hg]
  simp only [ne_eq, not_true_eq_false, if_false]
  rw [if_neg (by omega), if_neg (by rw [mkS_size]; simp; omega)]
  refine Prod.ext ?_ (Prod.ext ?_ rfl)
  · simp only
    apply ba_ext
    rw [extract_toList, mkS_data]
    unfold encT
    rw [List.append_assoc, List.drop_left, show (encN t.size).length + t.size - (encN t.size).length = t.data.toList.length from by rw [size_toList]; omega, List.take_left]
  · simp only; exact hl.symm

theorem gt_again (s t : ByteArray) (j : Nat) (h : gt s = (t, j, 0)) : encT t = s.data.toList.take j ∧ t.size ≤ 8192 ∧ j ≤ s.size := by
  obtain ⟨⟨n, k, e⟩, hr⟩ : ∃ r, gn s.data.toList = r := ⟨_, rfl⟩
  unfold gt at h
  rw [hr] at h
  simp only at h
  by_cases he : e = 0
  · rw [if_neg (by simpa using he)] at h
    split at h
    · simp at h
    · split at h
      · simp at h
      · rename_i h1 h2
        simp only [Prod.mk.injEq, and_true] at h
        obtain ⟨ht, hj⟩ := h
        subst he
        obtain ⟨g1, g2, g3⟩ := gn_again _ _ _ hr
        have hts : t.size = n := by rw [← ht]; simp; omega
        refine ⟨?_, by omega, by omega⟩
        unfold encT
        rw [hts, g1, ← ht, extract_toList, ← hj, show k + n - k = n from by omega, ← List.take_add]
  · rw [if_pos he] at h; simp at h; omega

theorem glGo_back (s : ByteArray) (k p : Nat) (xs rest : List ByteArray) (r : List UInt8) (hk : rest.length = k) (hz : ∀ t ∈ rest, t.size ≤ 8192) (hd : s.data.toList.drop p = encTs rest ++ r) :
    glGo s k p xs = (xs ++ rest, p + (encTs rest).length, 0) := by
  induction k generalizing p xs rest with
  | zero =>
    have : rest = [] := List.eq_nil_of_length_eq_zero hk
    subst this; simp [glGo, encTs]
  | succ k ih =>
    cases rest with
    | nil => simp at hk
    | cons t rest =>
      have e1 : encTs (t :: rest) = encT t ++ encTs rest := by simp [encTs]
      have hg : gt (s.extract p s.size) = (t, (encT t).length, 0) := by
        rw [ext_drop, hd, e1, List.append_assoc]; exact gt_back t (hz t (by simp)) _
      rw [glGo, hg]
      simp only [ne_eq, not_true_eq_false, if_false]
      rw [ih (p + (encT t).length) _ rest (by simpa using hk) (fun x hx => hz x (by simp [hx])) (by rw [← List.drop_drop, hd, e1, List.append_assoc, List.drop_left])]
      simp [e1, Nat.add_assoc]
theorem gl_back (ss : List ByteArray) (h : okL ss) (r : List UInt8) : gl (mkS (encL ss ++ r)) = (ss, (encL ss).length, 0) := by
  have hg : gn (mkS (encL ss ++ r)).data.toList = (ss.length, (encN ss.length).length, 0) := by
    rw [mkS_data]; unfold encL; rw [List.append_assoc]; exact gn_back _ _ (by have := h.1; omega)
  unfold gl
  rw [hg]
  simp only [ne_eq, not_true_eq_false, if_false]
  rw [if_neg (by have := h.1; omega), glGo_back _ ss.length _ [] ss r rfl h.2 (by rw [mkS_data]; unfold encL; rw [List.append_assoc, List.drop_left])]
  simp [encL]

theorem glGo_again (s : ByteArray) (k p : Nat) (xs L : List ByteArray) (j : Nat) (hp : p ≤ s.size) (h : glGo s k p xs = (L, j, 0)) :
    ∃ rest, L = xs ++ rest ∧ rest.length = k ∧ p ≤ j ∧ j ≤ s.size ∧ encTs rest = (s.data.toList.drop p).take (j - p) ∧ ∀ t ∈ rest, t.size ≤ 8192 := by
  induction k generalizing p xs with
  | zero => simp only [glGo, Prod.mk.injEq, and_true] at h; obtain ⟨rfl, rfl⟩ := h; exact ⟨[], by simp, rfl, Nat.le_refl _, hp, by simp [encTs], by simp⟩
  | succ k ih =>
    rw [glGo] at h
    obtain ⟨⟨t, q, e⟩, hr⟩ : ∃ r, gt (s.extract p s.size) = r := ⟨_, rfl⟩
    rw [hr] at h
    simp only at h
    by_cases he : e = 0
    · rw [if_neg (by simpa using he)] at h
      subst he
      obtain ⟨g1, g2, g3⟩ := gt_again _ _ _ hr
      have g3' : p + q ≤ s.size := by simp at g3; omega
      obtain ⟨rest, h1, h2, h3, h4, h5, h6⟩ := ih (p + q) (xs ++ [t]) g3' h
      refine ⟨t :: rest, by rw [h1]; simp, by simp [h2], by omega, h4, ?_, fun x hx => by rcases List.mem_cons.1 hx with rfl | hx; exact g2; exact h6 x hx⟩
      have e1 : encTs (t :: rest) = encT t ++ encTs rest := by simp [encTs]
      rw [ext_drop, mkS_data] at g1
      rw [e1, g1, h5, ← List.drop_drop, show j - p = q + (j - (p + q)) from by omega, List.take_add]
    · rw [if_pos he] at h; simp at h; omega
theorem gl_again (s : ByteArray) (L : List ByteArray) (j : Nat) (h : gl s = (L, j, 0)) : encL L = s.data.toList.take j ∧ okL L ∧ j ≤ s.size := by
  obtain ⟨⟨n, k, e⟩, hr⟩ : ∃ r, gn s.data.toList = r := ⟨_, rfl⟩
  unfold gl at h
  rw [hr] at h
  simp only at h
  by_cases he : e = 0
  · rw [if_neg (by simpa using he)] at h
    split at h
    · simp at h
    · rename_i h1
      subst he
      obtain ⟨g1, g2, g3⟩ := gn_again _ _ _ hr
      obtain ⟨rest, h1', h2, h3, h4, h5, h6⟩ := glGo_again s n k [] L j (by simpa using g3) h
      have hL : L = rest := by simpa using h1'
      subst hL
      refine ⟨?_, ⟨by omega, h6⟩, h4⟩
      unfold encL
      rw [h2, g1, h5, ← List.take_add, show k + (j - k) = j from by omega]
  · rw [if_pos he] at h; simp at h; omega
end Go.Proofs.Ytbgooppmhgaicab
