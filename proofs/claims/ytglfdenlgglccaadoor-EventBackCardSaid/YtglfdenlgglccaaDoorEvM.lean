
/-
  Plain mathematics of events: an event's bytes, and the event that bytes are.
-/
import Derived.Test.YtglfdenlgglccaaDoorIdM
namespace Go.Proofs.YtglfdenlgglccaaDoor
set_option linter.unusedVariables false
set_option linter.unusedSimpArgs false
open Go.RowKit

/-- An event. -/
structure Ev where
  room : ByteArray
  sender : ByteArray
  kind : Nat
  key : ByteArray
  body : ByteArray
  nonce : Int
def evWords : List (List UInt8) := [[], [99, 114, 101, 97, 116, 101], [109, 101, 109, 98, 101, 114], [112, 111, 119, 101, 114], [114, 117, 108, 101], [110, 97, 109, 101], [109, 101, 115, 115, 97, 103, 101], [114, 101, 100, 97, 99, 116], [104, 97, 110, 100, 111, 118, 101, 114]]
/-- A kind's word. -/
def word (k : Nat) : ByteArray := mkS (evWords.getD k [])
/-- The kind with a word, or 0. -/
def kindOf (t : ByteArray) : Nat := ((List.range 9).find? fun k => decide (1 ≤ k ∧ word k = t)).getD 0
def keyOk (k : Nat) (t : ByteArray) : Bool := if k = 2 then (who 1 t).isSome else decide (t.size = 0)
def evOk (e : Ev) : Bool := (who 2 e.room).isSome && (who 1 e.sender).isSome && decide (1 ≤ e.kind ∧ e.kind ≤ 8) && keyOk e.kind e.key && decide (e.body.size ≤ 512) && decide (0 ≤ e.nonce ∧ e.nonce ≤ 1099511627776)
def evL (e : Ev) : List ByteArray := [e.room, e.sender, word e.kind, e.key, e.body, mkS (encN e.nonce.toNat)]
def evB (e : Ev) : ByteArray := if evOk e = true then mkS (encL (evL e)) else ByteArray.empty
def evE (e : Ev) : Int := if evOk e = true then 0 else 2
/-- The number that the whole of a text is. -/
def numOf (f : ByteArray) : Option Nat := if (gn f.data.toList).2.2 = 0 ∧ (gn f.data.toList).2.1 = f.size then some (gn f.data.toList).1 else none
/-- The event of a list. -/
def evOf : List ByteArray → Option Ev
  | [a, b, c, d, e, f] => match numOf f with
    | some n => if evOk ⟨a, b, kindOf c, d, e, n⟩ = true then some ⟨a, b, kindOf c, d, e, n⟩ else none
    | none => none
  | _ => none
/-- The event that bytes are. -/
def evP (s : ByteArray) : Option Ev := if (al s).2 = 0 then evOf (al s).1 else none

theorem kindOf_word {k : Nat} (h1 : 1 ≤ k) (h2 : k ≤ 8) : kindOf (word k) = k := by
  have h : ∀ k : Fin 9, 1 ≤ k.val → kindOf (word k.val) = k.val := by decide +kernel
  exact h ⟨k, by omega⟩ h1
theorem word_kindOf {t : ByteArray} (h : 1 ≤ kindOf t) : word (kindOf t) = t ∧ kindOf t ≤ 8 := by
  unfold kindOf at h ⊢
  cases hf : (List.range 9).find? fun k => decide (1 ≤ k ∧ word k = t) with
  | none => rw [hf] at h; simp at h
  | some k =>
    have h1 := List.find?_some hf
    have h2 := List.mem_of_find?_eq_some hf
    simp at h1 h2
    exact ⟨h1.2, by simp; omega⟩
theorem word_size : ∀ k, (word k).size ≤ 8 := by
  intro k
  by_cases h : k ≤ 8
  · have : ∀ k : Fin 9, (word k.val).size ≤ 8 := by decide +kernel
    exact this ⟨k, by omega⟩
  · have : word k = mkS [] := by unfold word evWords; rw [List.getD_eq_getElem?_getD, List.getElem?_eq_none (by simp; omega)]; rfl
    rw [this, mkS_size]; simp
theorem evOk_parts {e : Ev} (h : evOk e = true) : (∃ n, who 2 e.room = some n) ∧ (∃ n, who 1 e.sender = some n) ∧ 1 ≤ e.kind ∧ e.kind ≤ 8 ∧ keyOk e.kind e.key = true ∧ e.body.size ≤ 512 ∧ 0 ≤ e.nonce ∧ e.nonce ≤ 1099511627776 := by
  unfold evOk at h
  simp only [Bool.and_eq_true, decide_eq_true_eq] at h
  obtain ⟨⟨⟨⟨⟨h1, h2⟩, h3⟩, h4⟩, h5⟩, h6⟩ := h
  exact ⟨Option.isSome_iff_exists.1 h1, Option.isSome_iff_exists.1 h2, h3.1, h3.2, h4, h5, h6.1, h6.2⟩
theorem keyOk_size {k : Nat} {t : ByteArray} (h : keyOk k t = true) : t.size ≤ 20 := by
  unfold keyOk at h
  split at h
  · obtain ⟨n, hn⟩ := Option.isSome_iff_exists.1 h; exact who_size hn
  · have := of_decide_eq_true h; omega
theorem evL_ok {e : Ev} (h : evOk e = true) : okL (evL e) := by
  obtain ⟨⟨n1, h1⟩, ⟨n2, h2⟩, h3, h4, h5, h6, h7, h8⟩ := evOk_parts h
  refine ⟨by simp [evL], fun s hs => ?_⟩
  have g1 := who_size h1; have g2 := who_size h2; have g3 := word_size e.kind; have g4 := keyOk_size h5
  have g5 : (encN e.nonce.toNat).length ≤ 10 := encN_len64 _ (by omega)
  simp only [evL, List.mem_cons, List.not_mem_nil, or_false] at hs
  rcases hs with rfl | rfl | rfl | rfl | rfl | rfl
  · omega
  · omega
  · omega
  · omega
  · omega
  · rw [mkS_size]; omega
theorem numOf_back (n : Nat) (h : n ≤ 281474976710656) : numOf (mkS (encN n)) = some n := by
  have := gn_back n [] h
  rw [List.append_nil] at this
  unfold numOf
  rw [mkS_data, this, mkS_size]; simp
theorem numOf_some {f : ByteArray} {n : Nat} (h : numOf f = some n) : mkS (encN n) = f ∧ n ≤ 281474976710656 := by
  unfold numOf at h
  split at h
  · rename_i hh
    simp only [Option.some.injEq] at h
    obtain ⟨⟨m, j, e⟩, hr⟩ : ∃ r, gn f.data.toList = r := ⟨_, rfl⟩
    rw [hr] at hh h
    simp only at hh h
    obtain ⟨rfl, rfl⟩ := hh
    subst h
    obtain ⟨g1, g2, g3⟩ := gn_again _ _ _ hr
    refine ⟨?_, g2⟩
    rw [g1, List.take_of_length_le (by simp), mkS_of]
  · cases h
theorem al_back (ss : List ByteArray) (h : okL ss) : al (mkS (encL ss)) = (ss, 0) := by
  have := gl_back ss h []
  rw [List.append_nil] at this
  unfold al
  rw [this]
  simp [mkS_size]
theorem al_again {s : ByteArray} (h : (al s).2 = 0) : mkS (encL (al s).1) = s ∧ okL (al s).1 := by
  obtain ⟨⟨L, j, e⟩, hr⟩ : ∃ r, gl s = r := ⟨_, rfl⟩
  unfold al at h ⊢
  rw [hr] at h ⊢
  simp only at h ⊢
  by_cases he : e = 0
  · subst he
    simp only [ne_eq, not_true_eq_false, if_false] at h ⊢
    obtain ⟨g1, g2, g3⟩ := gl_again _ _ _ hr
    by_cases hj : j < s.size
    · rw [if_pos hj] at h; simp at h
    · rw [if_neg hj] at h ⊢
      refine ⟨?_, g2⟩
      simp only
      rw [g1, List.take_of_length_le (by simp; omega), mkS_of]
  · rw [if_pos he] at h; simp at h; omega
theorem evP_back {e : Ev} (h : evOk e = true) : evP (evB e) = some e := by
  have hok := evL_ok h
  obtain ⟨-, -, h3, h4, -, -, h7, h8⟩ := evOk_parts h
  unfold evB evP
  rw [if_pos h, al_back _ hok]
  simp only [if_true, evL, evOf]
  rw [numOf_back _ (by omega), kindOf_word h3 h4]
  simp only [Int.toNat_of_nonneg h7]
  exact if_pos h
theorem evOf_some {L : List ByteArray} {e : Ev} (h : evOf L = some e) : evOk e = true ∧ evL e = L := by
  unfold evOf at h
  split at h
  · split at h
    · rename_i a b c d b' f n hn
      split at h
      · rename_i hok
        simp only [Option.some.injEq] at h
        subst h
        obtain ⟨-, -, h3, h4, -⟩ := evOk_parts hok
        have := (word_kindOf h3).1
        have h2 := (numOf_some hn).1
        refine ⟨hok, ?_⟩
        simp only [evL, Int.toNat_natCast]
        rw [this, h2]
      · cases h
    · cases h
  · cases h
theorem evP_some {s : ByteArray} {e : Ev} (h : evP s = some e) : evOk e = true ∧ evB e = s := by
  unfold evP at h
  split at h
  · rename_i h0
    obtain ⟨g1, g2⟩ := evOf_some h
    obtain ⟨g3, -⟩ := al_again h0
    refine ⟨g1, ?_⟩
    unfold evB
    rw [if_pos g1, g2, g3]
  · cases h
end Go.Proofs.YtglfdenlgglccaaDoor
