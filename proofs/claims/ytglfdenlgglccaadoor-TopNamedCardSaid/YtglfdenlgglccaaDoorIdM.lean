
/-
  Plain mathematics of identifiers: an identifier's text, and the identifier that a text is.
-/
import Derived.Test.YtglfdenlgglccaaDoorOctQ
import Derived.Lib.ItoaNum
import Derived.Lib.AtoiAll
import Derived.Lib.Bytealg
import Derived.Lib.Strings
namespace Go.Proofs.YtglfdenlgglccaaDoor
set_option linter.unusedVariables false
set_option linter.unusedSimpArgs false
open Go.RowKit

def nameN (b : Nat) : Bool := (decide (97 ≤ b) && decide (b ≤ 122)) || (decide (48 ≤ b) && decide (b ≤ 57)) || decide (b = 95) || decide (b = 45)
def nameL (l : List UInt8) : Bool := decide (1 ≤ l.length) && decide (l.length ≤ 16) && l.all fun b => nameN b.toNat
/-- An identifier is valid. -/
def idOk (k : Nat) (nm : ByteArray) (s : Int) : Bool := (decide (k = 1) || decide (k = 2)) && nameL nm.data.toList && decide (0 ≤ s) && decide (s ≤ 63)
/-- The digits of a server's number. -/
def dig (n : Nat) : List UInt8 := if n < 10 then [UInt8.ofNat (48 + n)] else [UInt8.ofNat (48 + n / 10), UInt8.ofNat (48 + n % 10)]
def kmark (k : Nat) : UInt8 := if k = 2 then 33 else 64
/-- An identifier's text. -/
def idL (k : Nat) (nm : ByteArray) (s : Nat) : List UInt8 := kmark k :: (nm.data.toList ++ 58 :: dig s)
def idT (k : Nat) (nm : ByteArray) (s : Int) : ByteArray := if idOk k nm s = true then mkS (idL k nm s.toNat) else ByteArray.empty
def idE (k : Nat) (nm : ByteArray) (s : Int) : Int := if idOk k nm s = true then 0 else 2
def decOf (d : List UInt8) : Option Nat := (List.range 64).find? fun n => decide (dig n = d)
def upTo (l : List UInt8) : List UInt8 := l.takeWhile (· != 58)
def behind (l : List UInt8) : List UInt8 := (l.dropWhile (· != 58)).drop 1
/-- What a text is that begins with c, and goes on with r, if it has a colon. -/
def idC (c : UInt8) (nm d : List UInt8) (t : ByteArray) : Option (Nat × ByteArray × Nat) :=
  match decOf d with
  | none => none
  | some n => if idOk (if c = 33 then 2 else 1) (mkS nm) n = true ∧ mkS (idL (if c = 33 then 2 else 1) (mkS nm) n) = t then some (if c = 33 then 2 else 1, mkS nm, n) else none
/-- The identifier that a text is. -/
def idP (t : ByteArray) : Option (Nat × ByteArray × Nat) :=
  match t.data.toList with
  | [] => none
  | c :: r => idC c (upTo r) (behind r) t

theorem decOf_dig {n : Nat} (h : n ≤ 63) : decOf (dig n) = some n := by
  have : ∀ n : Fin 64, decOf (dig n.val) = some n.val := by decide +kernel
  exact this ⟨n, by omega⟩
theorem decOf_some {d : List UInt8} {n : Nat} (h : decOf d = some n) : n ≤ 63 ∧ dig n = d := by
  unfold decOf at h
  have h1 := List.find?_some h
  have h2 := List.mem_of_find?_eq_some h
  simp at h1 h2
  exact ⟨by omega, h1⟩
theorem dec_dig {n : Nat} (h : n ≤ 63) : Lib.decDigits n = dig n := by
  unfold dig
  split
  · rw [Lib.decDigits, dif_pos (by assumption)]
  · rw [Lib.decDigits, dif_neg (by assumption), Lib.decDigits, dif_pos (by omega)]; rfl
theorem atoi_dig {n : Nat} (h : n ≤ 63) : Lib.atoiAll (dig n) = .ok (n : Int) := by
  have : ∀ n : Fin 64, Lib.atoiAll (dig n.val) = .ok (n.val : Int) := by decide +kernel
  exact this ⟨n, by omega⟩
theorem name_colon {l : List UInt8} (h : nameL l = true) : ∀ b ∈ l, (b != 58) = true := by
  intro b hb
  unfold nameL at h
  simp only [Bool.and_eq_true, List.all_eq_true] at h
  have := h.2 b hb
  simp only [bne_iff_ne, ne_eq]
  rintro rfl
  simp [nameN] at this
theorem upTo_app {l d : List UInt8} (h : ∀ b ∈ l, (b != 58) = true) : upTo (l ++ 58 :: d) = l := by
  unfold upTo
  rw [List.takeWhile_append_of_pos (by simpa using h)]
  simp
theorem behind_app {l d : List UInt8} (h : ∀ b ∈ l, (b != 58) = true) : behind (l ++ 58 :: d) = d := by
  unfold behind
  rw [List.dropWhile_append_of_pos (by simpa using h)]
  simp
theorem upTo_no {l : List UInt8} (h : ∀ b ∈ l, (b != 58) = true) : upTo l = l := by
  unfold upTo
  have := List.takeWhile_append_of_pos (p := fun x => x != 58) (l₁ := l) (l₂ := []) (by simpa using h)
  simpa using this
theorem behind_no {l : List UInt8} (h : ∀ b ∈ l, (b != 58) = true) : behind l = [] := by
  unfold behind
  have := List.dropWhile_append_of_pos (p := fun x => x != 58) (l₁ := l) (l₂ := []) (by simpa using h)
  rw [List.append_nil] at this
  rw [this]; rfl
theorem idOk_name {k : Nat} {nm : ByteArray} {s : Int} (h : idOk k nm s = true) : nameL nm.data.toList = true ∧ 0 ≤ s ∧ s ≤ 63 ∧ (k = 1 ∨ k = 2) := by
  unfold idOk at h
  simp only [Bool.and_eq_true, Bool.or_eq_true, decide_eq_true_eq] at h
  exact ⟨h.1.1.2, h.1.2, h.2, h.1.1.1⟩
theorem idOk_size {k : Nat} {nm : ByteArray} {s : Int} (h : idOk k nm s = true) : nm.size ≤ 16 := by
  have := (idOk_name h).1
  unfold nameL at this
  simp only [Bool.and_eq_true, decide_eq_true_eq] at this
  have := this.1.2
  rw [size_toList] at this; exact this
theorem idL_len (k : Nat) (nm : ByteArray) (s : Nat) : (idL k nm s).length ≤ nm.size + 4 := by
  unfold idL dig; simp; split <;> simp
theorem kmark_back {k : Nat} (h : k = 1 ∨ k = 2) : (if kmark k = 33 then 2 else 1) = k := by rcases h with rfl | rfl <;> rfl
theorem idP_back {k : Nat} {nm : ByteArray} {n : Nat} (h : idOk k nm n = true) : idP (mkS (idL k nm n)) = some (k, nm, n) := by
  obtain ⟨h1, h2, h3, h4⟩ := idOk_name h
  have hc := name_colon h1
  unfold idP
  rw [mkS_data, idL]
  show idC (kmark k) (upTo (nm.data.toList ++ 58 :: dig n)) (behind (nm.data.toList ++ 58 :: dig n)) _ = _
  rw [upTo_app hc, behind_app hc]
  unfold idC
  rw [decOf_dig (by omega), kmark_back h4, mkS_of]
  simp only
  rw [if_pos ⟨h, rfl⟩]
theorem idP_some {t nm : ByteArray} {k n : Nat} (h : idP t = some (k, nm, n)) : idOk k nm n = true ∧ mkS (idL k nm n) = t := by
  unfold idP at h
  split at h
  · cases h
  · rename_i c r ht
    unfold idC at h
    generalize (if c = 33 then 2 else 1) = kk at h
    cases hd : decOf (behind r) with
    | none => rw [hd] at h; cases h
    | some m =>
      rw [hd] at h
      simp only at h
      split at h
      · rename_i hh
        simp only [Option.some.injEq, Prod.mk.injEq] at h
        obtain ⟨rfl, rfl, rfl⟩ := h
        exact hh
      · cases h
theorem idP_iff {t nm : ByteArray} {k n : Nat} (h : idOk k nm n = true) (ht : mkS (idL k nm n) = t) : idP t = some (k, nm, n) := by rw [← ht]; exact idP_back h
/-- What a text has that is an identifier's. -/
theorem idP_parts {t nm : ByteArray} {k n : Nat} (h : idP t = some (k, nm, n)) (c : UInt8) (r : List UInt8) (ht : t.data.toList = c :: r) :
    (k = 1 ∨ k = 2) ∧ c = kmark k ∧ upTo r = nm.data.toList ∧ behind r = dig n ∧ n ≤ 63 := by
  obtain ⟨h1, h2⟩ := idP_some h
  obtain ⟨g1, g2, g3, g4⟩ := idOk_name h1
  have hc := name_colon g1
  rw [← h2, mkS_data, idL] at ht
  simp only [List.cons.injEq] at ht
  obtain ⟨rfl, rfl⟩ := ht
  exact ⟨g4, rfl, upTo_app hc, behind_app hc, by omega⟩
theorem idP_nil {t : ByteArray} (h : t.data.toList = []) : idP t = none := by unfold idP; rw [h]
theorem idP_unmarked {t : ByteArray} {c : UInt8} {r : List UInt8} (ht : t.data.toList = c :: r) (h1 : c ≠ 64) (h2 : c ≠ 33) : idP t = none := by
  cases h : idP t with
  | none => rfl
  | some q =>
    obtain ⟨k, nm, n⟩ := q
    obtain ⟨hk, hm, -⟩ := idP_parts h c r ht
    rcases hk with rfl | rfl
    · exact absurd hm h1
    · exact absurd hm h2
/-- A text that begins with a kind's mark, whose number is read as v. -/
theorem idP_read {t : ByteArray} {k : Nat} {r : List UInt8} (hk : k = 1 ∨ k = 2) (ht : t.data.toList = kmark k :: r) (v : Int) (hv : Lib.atoiAll (behind r) = .ok v) :
    idP t = if idOk k (mkS (upTo r)) v = true ∧ mkS (idL k (mkS (upTo r)) v.toNat) = t then some (k, mkS (upTo r), v.toNat) else none := by
  split
  · rename_i h
    have h0 := (idOk_name h.1).2.1
    exact idP_iff (by rw [Int.toNat_of_nonneg h0]; exact h.1) h.2
  · rename_i h
    cases hq : idP t with
    | none => rfl
    | some q =>
      obtain ⟨k', nm, n⟩ := q
      exfalso
      obtain ⟨h1, h2⟩ := idP_some hq
      obtain ⟨g1, g2, g3, g4, g5⟩ := idP_parts hq _ r ht
      have hk' : k = k' := by rw [← kmark_back hk, g2, kmark_back g1]
      subst hk'
      rw [g4, atoi_dig g5] at hv
      simp only [Lib.NumEnd.ok.injEq] at hv
      subst hv
      apply h
      rw [g3, mkS_of]
      exact ⟨h1, by simpa using h2⟩
/-- A text whose number is none. -/
theorem idP_unread {t : ByteArray} {c : UInt8} {r : List UInt8} (ht : t.data.toList = c :: r) (hv : ∀ v, Lib.atoiAll (behind r) ≠ .ok v) : idP t = none := by
  cases hq : idP t with
  | none => rfl
  | some q =>
    obtain ⟨k', nm, n⟩ := q
    exfalso
    obtain ⟨g1, g2, g3, g4, g5⟩ := idP_parts hq _ r ht
    exact hv n (by rw [g4, atoi_dig g5])
/-- A text with its first colon, behind its first byte, at i. -/
theorem idP_at {t : ByteArray} (i : Nat) (h1 : 1 ≤ i) (h2 : i < t.size) (hc : (t[i]'h2).toNat = 58) (hn : ∀ j (hj : j < t.size), 1 ≤ j → j < i → (t[j]'hj).toNat ≠ 58) :
    idP t = idC (t[0]'(by omega)) (t.data.toList.drop 1 |>.take (i - 1)) (t.data.toList.drop (i + 1)) t := by
  have e0 : t.data.toList = t[0]'(by omega) :: t.data.toList.drop 1 := by
    have := drop_byte t 0 (by omega); simpa using this
  have e1 : t.data.toList.drop 1 = (t.data.toList.drop 1).take (i - 1) ++ 58 :: t.data.toList.drop (i + 1) := by
    conv => lhs; rw [← List.take_append_drop (i - 1) (t.data.toList.drop 1)]
    congr 1
    rw [List.drop_drop, show 1 + (i - 1) = i from by omega, drop_byte t i h2]
    congr 1
    exact UInt8.toNat_inj.1 (by rw [hc]; rfl)
  have hno : ∀ b ∈ (t.data.toList.drop 1).take (i - 1), (b != 58) = true := by
    intro b hb
    obtain ⟨j, hj, rfl⟩ := List.getElem_of_mem hb
    simp only [List.length_take, List.length_drop] at hj
    have hs : t.data.toList.length = t.size := size_toList t
    rw [List.getElem_take, List.getElem_drop]
    have := hn (1 + j) (by omega) (by omega) (by omega)
    simp only [bne_iff_ne, ne_eq]
    intro e
    apply this
    have e2 : t[1 + j]'(by omega) = t.data.toList[1 + j]'(by omega) := rfl
    rw [e2, e]; rfl
  have e2 : idP t = idC (t[0]'(by omega)) (upTo (t.data.toList.drop 1)) (behind (t.data.toList.drop 1)) t := by
    unfold idP
    split
    · rename_i e; rw [e0] at e; cases e
    · rename_i c r e
      rw [e0] at e
      simp only [List.cons.injEq] at e
      obtain ⟨rfl, rfl⟩ := e
      rfl
  have e3 := upTo_app (d := t.data.toList.drop (i + 1)) hno
  have e4 := behind_app (d := t.data.toList.drop (i + 1)) hno
  rw [← e1] at e3 e4
  rw [e2, e3, e4]
theorem idP_nocolon {t : ByteArray} (hn : ∀ j (hj : j < t.size), 1 ≤ j → (t[j]'hj).toNat ≠ 58) : idP t = none := by
  cases hq : idP t with
  | none => rfl
  | some q =>
    obtain ⟨k, nm, n⟩ := q
    exfalso
    obtain ⟨h1, h2⟩ := idP_some hq
    have e : t.data.toList = idL k nm n := by rw [← h2, mkS_data]
    have hs : t.data.toList.length = t.size := size_toList t
    have hl : nm.data.toList.length + 1 < t.size := by rw [← hs, e, idL]; unfold dig; split <;> simp
    refine hn (nm.data.toList.length + 1) hl (by omega) ?_
    have e2 : t[nm.data.toList.length + 1]'hl = t.data.toList[nm.data.toList.length + 1]'(by omega) := rfl
    rw [e2]
    simp only [e, idL, List.getElem_cons_succ]
    rw [List.getElem_append_right (by omega)]
    simp
/-- The server of a kind's identifier. -/
def who (q : Nat) (t : ByteArray) : Option Nat :=
  match idP t with
  | some (k, _, n) => if k = q then some n else none
  | none => none
theorem who_yes {q : Nat} {t nm : ByteArray} {n : Nat} (h : idP t = some (q, nm, n)) : who q t = some n := by unfold who; rw [h]; simp
theorem who_other {q k : Nat} {t nm : ByteArray} {n : Nat} (h : idP t = some (k, nm, n)) (hk : k ≠ q) : who q t = none := by unfold who; rw [h]; simp [hk]
theorem who_no {q : Nat} {t : ByteArray} (h : idP t = none) : who q t = none := by unfold who; rw [h]
theorem who_some {q : Nat} {t : ByteArray} {n : Nat} (h : who q t = some n) : ∃ nm, idP t = some (q, nm, n) := by
  unfold who at h
  split at h
  · split at h
    · rename_i hk; subst hk; simp at h; subst h; exact ⟨_, by assumption⟩
    · cases h
  · cases h
theorem who_size {q : Nat} {t : ByteArray} {n : Nat} (h : who q t = some n) : t.size ≤ 20 := by
  obtain ⟨nm, h⟩ := who_some h
  obtain ⟨h1, h2⟩ := idP_some h
  have := idL_len q nm n; have := idOk_size h1
  rw [← h2, mkS_size]; omega
end Go.Proofs.YtglfdenlgglccaaDoor
