/-
  Joined: IdM EvM BaA BaB BaC Hsh EnM HdM HoM.
-/
import Derived.Test.YtfenjincbhkodaaGreatDoorVA
import Derived.Lib.ItoaNum
import Derived.Lib.AtoiAll
import Derived.Lib.Bytealg
import Derived.Lib.Strings
import Derived.WalkKit
import Derived.WalkSpells
import Derived.WalkLawsBesides
import Derived.Handy
import Derived.BigQuiet
import Derived.Deep.QuietTactic
import Derived.RegionTactic
import Derived.StillTailTactics
import Derived.OrdersHeld
import Derived.Deep.Quiet
import Derived.Deep.MidRow
import Derived.Deep.RegionHeld3
import Derived.Test.YtfenjincbhkodaaGreatDoorRows
import Derived.Lib.ConvBytes
import Derived.IntWalk
import Derived.Lib.BufferWrite
namespace Go.Proofs.YtfenjincbhkodaaGreatDoor
set_option linter.unusedVariables false
set_option linter.unusedSimpArgs false
open Go.RowKit

def nameN (b : Nat) : Bool := (decide (97 ≤ b) && decide (b ≤ 122)) || (decide (48 ≤ b) && decide (b ≤ 57)) || decide (b = 95) || decide (b = 45)
def nameL (l : List UInt8) : Bool := decide (1 ≤ l.length) && decide (l.length ≤ 16) && l.all fun b => nameN b.toNat
/-- An identifier is valid. -/
def idOk (k : Nat) (nm : ByteArray) (s : Int) : Bool := (decide (k = 1) || decide (k = 2)) && nameL nm.data.toList && decide (0 ≤ s) && decide (s ≤ 63)
/-- The digits of a server's number. -/
def dig (n : Nat) : List UInt8 := if n < 10 then [UInt8.ofNat (48 + n)] else [UInt8.ofNat (48 + n / 10), UInt8.ofNat (48 + n % 10)]
def kmark (k : Nat) : UInt8 := if k = 2 then 33 else 64
/-- An identifier's text. -/
def idL (k : Nat) (nm : ByteArray) (s : Nat) : List UInt8 := kmark k :: (nm.data.toList ++ 58 :: dig s)
def idT (k : Nat) (nm : ByteArray) (s : Int) : ByteArray := if idOk k nm s = true then mkS (idL k nm s.toNat) else ByteArray.empty
def idE (k : Nat) (nm : ByteArray) (s : Int) : Int := if idOk k nm s = true then 0 else 2
def decOf (d : List UInt8) : Option Nat := (List.range 64).find? fun n => decide (dig n = d)
def upTo (l : List UInt8) : List UInt8 := l.takeWhile (· != 58)
def behind (l : List UInt8) : List UInt8 := (l.dropWhile (· != 58)).drop 1
/-- What a text is that begins with c, and goes on with r, if it has a colon. -/
def idC (c : UInt8) (nm d : List UInt8) (t : ByteArray) : Option (Nat × ByteArray × Nat) :=
  match decOf d with
  | none => none
  | some n => if idOk (if c = 33 then 2 else 1) (mkS nm) n = true ∧ mkS (idL (if c = 33 then 2 else 1) (mkS nm) n) = t then some (if c = 33 then 2 else 1, mkS nm, n) else none
/-- The identifier that a text is. -/
def idP (t : ByteArray) : Option (Nat × ByteArray × Nat) :=
  match t.data.toList with
  | [] => none
  | c :: r => idC c (upTo r) (behind r) t

theorem decOf_dig {n : Nat} (h : n ≤ 63) : decOf (dig n) = some n := by
  have : ∀ n : Fin 64, decOf (dig n.val) = some n.val := by decide +kernel
  exact this ⟨n, by omega⟩
theorem decOf_some {d : List UInt8} {n : Nat} (h : decOf d = some n) : n ≤ 63 ∧ dig n = d := by
  unfold decOf at h
  have h1 := List.find?_some h
  have h2 := List.mem_of_find?_eq_some h
  simp at h1 h2
  exact ⟨by omega, h1⟩
theorem dec_dig {n : Nat} (h : n ≤ 63) : Lib.decDigits n = dig n := by
  unfold dig
  split
  · rw [Lib.decDigits, dif_pos (by assumption)]
  · rw [Lib.decDigits, dif_neg (by assumption), Lib.decDigits, dif_pos (by omega)]; rfl
theorem atoi_dig {n : Nat} (h : n ≤ 63) : Lib.atoiAll (dig n) = .ok (n : Int) := by
  have : ∀ n : Fin 64, Lib.atoiAll (dig n.val) = .ok (n.val : Int) := by decide +kernel
  exact this ⟨n, by omega⟩
theorem name_colon {l : List UInt8} (h : nameL l = true) : ∀ b ∈ l, (b != 58) = true := by
  intro b hb
  unfold nameL at h
  simp only [Bool.and_eq_true, List.all_eq_true] at h
  have := h.2 b hb
  simp only [bne_iff_ne, ne_eq]
  rintro rfl
  simp [nameN] at this
theorem upTo_app {l d : List UInt8} (h : ∀ b ∈ l, (b != 58) = true) : upTo (l ++ 58 :: d) = l := by
  unfold upTo
  rw [List.takeWhile_append_of_pos (by simpa using h)]
  simp
theorem behind_app {l d : List UInt8} (h : ∀ b ∈ l, (b != 58) = true) : behind (l ++ 58 :: d) = d := by
  unfold behind
  rw [List.dropWhile_append_of_pos (by simpa using h)]
  simp
theorem upTo_no {l : List UInt8} (h : ∀ b ∈ l, (b != 58) = true) : upTo l = l := by
  unfold upTo
  have := List.takeWhile_append_of_pos (p := fun x => x != 58) (l₁ := l) (l₂ := []) (by simpa using h)
  simpa using this
theorem behind_no {l : List UInt8} (h : ∀ b ∈ l, (b != 58) = true) : behind l = [] := by
  unfold behind
  have := List.dropWhile_append_of_pos (p := fun x => x != 58) (l₁ := l) (l₂ := []) (by simpa using h)
  rw [List.append_nil] at this
  rw [this]; rfl
theorem idOk_name {k : Nat} {nm : ByteArray} {s : Int} (h : idOk k nm s = true) : nameL nm.data.toList = true ∧ 0 ≤ s ∧ s ≤ 63 ∧ (k = 1 ∨ k = 2) := by
  unfold idOk at h
  simp only [Bool.and_eq_true, Bool.or_eq_true, decide_eq_true_eq] at h
  exact ⟨h.1.1.2, h.1.2, h.2, h.1.1.1⟩
theorem idOk_size {k : Nat} {nm : ByteArray} {s : Int} (h : idOk k nm s = true) : nm.size ≤ 16 := by
  have := (idOk_name h).1
  unfold nameL at this
  simp only [Bool.and_eq_true, decide_eq_true_eq] at this
  have := this.1.2
  rw [size_toList] at this; exact this
theorem kmark_back {k : Nat} (h : k = 1 ∨ k = 2) : (if kmark k = 33 then 2 else 1) = k := by rcases h with rfl | rfl <;> rfl
theorem idP_back {k : Nat} {nm : ByteArray} {n : Nat} (h : idOk k nm n = true) : idP (mkS (idL k nm n)) = some (k, nm, n) := by
  obtain ⟨h1, h2, h3, h4⟩ := idOk_name h
  have hc := name_colon h1
  unfold idP
  rw [mkS_data, idL]
  show idC (kmark k) (upTo (nm.data.toList ++ 58 :: dig n)) (behind (nm.data.toList ++ 58 :: dig n)) _ = _
  rw [upTo_app hc, behind_app hc]
  unfold idC
  rw [decOf_dig (by omega), kmark_back h4, mkS_of]
  simp only
  rw [if_pos ⟨h, rfl⟩]
theorem idP_some {t nm : ByteArray} {k n : Nat} (h : idP t = some (k, nm, n)) : idOk k nm n = true ∧ mkS (idL k nm n) = t := by
  unfold idP at h
  split at h
  · cases h
  · rename_i c r ht
    unfold idC at h
    generalize (if c = 33 then 2 else 1) = kk at h
    cases hd : decOf (behind r) with
    | none => rw [hd] at h; cases h
    | some m =>
      rw [hd] at h
      simp only at h
      split at h
      · rename_i hh
        simp only [Option.some.injEq, Prod.mk.injEq] at h
        obtain ⟨rfl, rfl, rfl⟩ := h
        exact hh
      · cases h
theorem idP_iff {t nm : ByteArray} {k n : Nat} (h : idOk k nm n = true) (ht : mkS (idL k nm n) = t) : idP t = some (k, nm, n) := by rw [← ht]; exact idP_back h
/-- What a text has that is an identifier's. -/
theorem idP_parts {t nm : ByteArray} {k n : Nat} (h : idP t = some (k, nm, n)) (c : UInt8) (r : List UInt8) (ht : t.data.toList = c :: r) :
    (k = 1 ∨ k = 2) ∧ c = kmark k ∧ upTo r = nm.data.toList ∧ behind r = dig n ∧ n ≤ 63 := by
  obtain ⟨h1, h2⟩ := idP_some h
  obtain ⟨g1, g2, g3, g4⟩ := idOk_name h1
  have hc := name_colon g1
  rw [← h2, mkS_data, idL] at ht
  simp only [List.cons.injEq] at ht
  obtain ⟨rfl, rfl⟩ := ht
  exact ⟨g4, rfl, upTo_app hc, behind_app hc, by omega⟩
theorem idP_nil {t : ByteArray} (h : t.data.toList = []) : idP t = none := by unfold idP; rw [h]
theorem idP_unmarked {t : ByteArray} {c : UInt8} {r : List UInt8} (ht : t.data.toList = c :: r) (h1 : c ≠ 64) (h2 : c ≠ 33) : idP t = none := by
  cases h : idP t with
  | none => rfl
  | some q =>
    obtain ⟨k, nm, n⟩ := q
    obtain ⟨hk, hm, -⟩ := idP_parts h c r ht
    rcases hk with rfl | rfl
    · exact absurd hm h1
    · exact absurd hm h2
/-- A text that begins with a kind's mark, whose number is read as v. -/
theorem idP_read {t : ByteArray} {k : Nat} {r : List UInt8} (hk : k = 1 ∨ k = 2) (ht : t.data.toList = kmark k :: r) (v : Int) (hv : Lib.atoiAll (behind r) = .ok v) :
    idP t = if idOk k (mkS (upTo r)) v = true ∧ mkS (idL k (mkS (upTo r)) v.toNat) = t then some (k, mkS (upTo r), v.toNat) else none := by
  split
  · rename_i h
    have h0 := (idOk_name h.1).2.1
    exact idP_iff (by rw [Int.toNat_of_nonneg h0]; exact h.1) h.2
  · rename_i h
    cases hq : idP t with
    | none => rfl
    | some q =>
      obtain ⟨k', nm, n⟩ := q
      exfalso
      obtain ⟨h1, h2⟩ := idP_some hq
      obtain ⟨g1, g2, g3, g4, g5⟩ := idP_parts hq _ r ht
      have hk' : k = k' := by rw [← kmark_back hk, g2, kmark_back g1]
      subst hk'
      rw [g4, atoi_dig g5] at hv
      simp only [Lib.NumEnd.ok.injEq] at hv
      subst hv
      apply h
      rw [g3, mkS_of]
      exact ⟨h1, by simpa using h2⟩
/-- A text whose number is none. -/
theorem idP_unread {t : ByteArray} {c : UInt8} {r : List UInt8} (ht : t.data.toList = c :: r) (hv : ∀ v, Lib.atoiAll (behind r) ≠ .ok v) : idP t = none := by
  cases hq : idP t with
  | none => rfl
  | some q =>
    obtain ⟨k', nm, n⟩ := q
    exfalso
    obtain ⟨g1, g2, g3, g4, g5⟩ := idP_parts hq _ r ht
    exact hv n (by rw [g4, atoi_dig g5])
/-- A text with its first colon, behind its first byte, at i. -/
theorem idP_at {t : ByteArray} (i : Nat) (h1 : 1 ≤ i) (h2 : i < t.size) (hc : (t[i]'h2).toNat = 58) (hn : ∀ j (hj : j < t.size), 1 ≤ j → j < i → (t[j]'hj).toNat ≠ 58) :
    idP t = idC (t[0]'(by omega)) (t.data.toList.drop 1 |>.take (i - 1)) (t.data.toList.drop (i + 1)) t := by
  have e0 : t.data.toList = t[0]'(by omega) :: t.data.toList.drop 1 := by
    have := drop_byte t 0 (by omega); simpa using this
  have e1 : t.data.toList.drop 1 = (t.data.toList.drop 1).take (i - 1) ++ 58 :: t.data.toList.drop (i + 1) := by
    conv => lhs; rw [← List.take_append_drop (i - 1) (t.data.toList.drop 1)]
    congr 1
    rw [List.drop_drop, show 1 + (i - 1) = i from by omega, drop_byte t i h2]
    congr 1
    exact UInt8.toNat_inj.1 (by rw [hc]; rfl)
  have hno : ∀ b ∈ (t.data.toList.drop 1).take (i - 1), (b != 58) = true := by
    intro b hb
    obtain ⟨j, hj, rfl⟩ := List.getElem_of_mem hb
    simp only [List.length_take, List.length_drop] at hj
    have hs : t.data.toList.length = t.size := size_toList t
    rw [List.getElem_take, List.getElem_drop]
    have := hn (1 + j) (by omega) (by omega) (by omega)
    simp only [bne_iff_ne, ne_eq]
    intro e
    apply this
    have e2 : t[1 + j]'(by omega) = t.data.toList[1 + j]'(by omega) := rfl
    rw [e2, e]; rfl
  have e2 : idP t = idC (t[0]'(by omega)) (upTo (t.data.toList.drop 1)) (behind (t.data.toList.drop 1)) t := by
    unfold idP
    split
    · rename_i e; rw [e0] at e; cases e
    · rename_i c r e
      rw [e0] at e
      simp only [List.cons.injEq] at e
      obtain ⟨rfl, rfl⟩ := e
      rfl
  have e3 := upTo_app (d := t.data.toList.drop (i + 1)) hno
  have e4 := behind_app (d := t.data.toList.drop (i + 1)) hno
  rw [← e1] at e3 e4
  rw [e2, e3, e4]
theorem idP_nocolon {t : ByteArray} (hn : ∀ j (hj : j < t.size), 1 ≤ j → (t[j]'hj).toNat ≠ 58) : idP t = none := by
  cases hq : idP t with
  | none => rfl
  | some q =>
    obtain ⟨k, nm, n⟩ := q
    exfalso
    obtain ⟨h1, h2⟩ := idP_some hq
    have e : t.data.toList = idL k nm n := by rw [← h2, mkS_data]
    have hs : t.data.toList.length = t.size := size_toList t
    have hl : nm.data.toList.length + 1 < t.size := by rw [← hs, e, idL]; unfold dig; split <;> simp
    refine hn (nm.data.toList.length + 1) hl (by omega) ?_
    have e2 : t[nm.data.toList.length + 1]'hl = t.data.toList[nm.data.toList.length + 1]'(by omega) := rfl
    rw [e2]
    simp only [e, idL, List.getElem_cons_succ]
    rw [List.getElem_append_right (by omega)]
    simp
/-- The server of a kind's identifier. -/
def who (q : Nat) (t : ByteArray) : Option Nat :=
  match idP t with
  | some (k, _, n) => if k = q then some n else none
  | none => none
theorem who_yes {q : Nat} {t nm : ByteArray} {n : Nat} (h : idP t = some (q, nm, n)) : who q t = some n := by unfold who; rw [h]; simp
theorem who_other {q k : Nat} {t nm : ByteArray} {n : Nat} (h : idP t = some (k, nm, n)) (hk : k ≠ q) : who q t = none := by unfold who; rw [h]; simp [hk]
theorem who_no {q : Nat} {t : ByteArray} (h : idP t = none) : who q t = none := by unfold who; rw [h]
end Go.Proofs.YtfenjincbhkodaaGreatDoor

namespace Go.Proofs.YtfenjincbhkodaaGreatDoor
set_option linter.unusedVariables false
set_option linter.unusedSimpArgs false
open Go.RowKit

/-- An event. -/
structure Ev where
  room : ByteArray
  sender : ByteArray
  kind : Nat
  key : ByteArray
  body : ByteArray
  nonce : Int
def evWords : List (List UInt8) := [[], [99, 114, 101, 97, 116, 101], [109, 101, 109, 98, 101, 114], [112, 111, 119, 101, 114], [114, 117, 108, 101], [110, 97, 109, 101], [109, 101, 115, 115, 97, 103, 101], [114, 101, 100, 97, 99, 116], [104, 97, 110, 100, 111, 118, 101, 114]]
/-- A kind's word. -/
def word (k : Nat) : ByteArray := mkS (evWords.getD k [])
/-- The kind with a word, or 0. -/
def kindOf (t : ByteArray) : Nat := ((List.range 9).find? fun k => decide (1 ≤ k ∧ word k = t)).getD 0
def keyOk (k : Nat) (t : ByteArray) : Bool := if k = 2 then (who 1 t).isSome else decide (t.size = 0)
def evOk (e : Ev) : Bool := (who 2 e.room).isSome && (who 1 e.sender).isSome && decide (1 ≤ e.kind ∧ e.kind ≤ 8) && keyOk e.kind e.key && decide (e.body.size ≤ 512) && decide (0 ≤ e.nonce ∧ e.nonce ≤ 1099511627776)
def evE (e : Ev) : Int := if evOk e = true then 0 else 2
/-- The number that the whole of a text is. -/
def numOf (f : ByteArray) : Option Nat := if (gn f.data.toList).2.2 = 0 ∧ (gn f.data.toList).2.1 = f.size then some (gn f.data.toList).1 else none
/-- The event of a list. -/
def evOf : List ByteArray → Option Ev
  | [a, b, c, d, e, f] => match numOf f with
    | some n => if evOk ⟨a, b, kindOf c, d, e, n⟩ = true then some ⟨a, b, kindOf c, d, e, n⟩ else none
    | none => none
  | _ => none
/-- The event that bytes are. -/
def evP (s : ByteArray) : Option Ev := if (al s).2 = 0 then evOf (al s).1 else none

theorem kindOf_word {k : Nat} (h1 : 1 ≤ k) (h2 : k ≤ 8) : kindOf (word k) = k := by
  have h : ∀ k : Fin 9, 1 ≤ k.val → kindOf (word k.val) = k.val := by decide +kernel
  exact h ⟨k, by omega⟩ h1
theorem word_kindOf {t : ByteArray} (h : 1 ≤ kindOf t) : word (kindOf t) = t ∧ kindOf t ≤ 8 := by
  unfold kindOf at h ⊢
  cases hf : (List.range 9).find? fun k => decide (1 ≤ k ∧ word k = t) with
  | none => rw [hf] at h; simp at h
  | some k =>
    have h1 := List.find?_some hf
    have h2 := List.mem_of_find?_eq_some hf
    simp at h1 h2
    exact ⟨h1.2, by simp; omega⟩
theorem evOk_parts {e : Ev} (h : evOk e = true) : (∃ n, who 2 e.room = some n) ∧ (∃ n, who 1 e.sender = some n) ∧ 1 ≤ e.kind ∧ e.kind ≤ 8 ∧ keyOk e.kind e.key = true ∧ e.body.size ≤ 512 ∧ 0 ≤ e.nonce ∧ e.nonce ≤ 1099511627776 := by
  unfold evOk at h
  simp only [Bool.and_eq_true, decide_eq_true_eq] at h
  obtain ⟨⟨⟨⟨⟨h1, h2⟩, h3⟩, h4⟩, h5⟩, h6⟩ := h
  exact ⟨Option.isSome_iff_exists.1 h1, Option.isSome_iff_exists.1 h2, h3.1, h3.2, h4, h5, h6.1, h6.2⟩
theorem numOf_back (n : Nat) (h : n ≤ 281474976710656) : numOf (mkS (encN n)) = some n := by
  have := gn_back n [] h
  rw [List.append_nil] at this
  unfold numOf
  rw [mkS_data, this, mkS_size]; simp
theorem numOf_some {f : ByteArray} {n : Nat} (h : numOf f = some n) : mkS (encN n) = f ∧ n ≤ 281474976710656 := by
  unfold numOf at h
  split at h
  · rename_i hh
    simp only [Option.some.injEq] at h
    obtain ⟨⟨m, j, e⟩, hr⟩ : ∃ r, gn f.data.toList = r := ⟨_, rfl⟩
    rw [hr] at hh h
    simp only at hh h
    obtain ⟨rfl, rfl⟩ := hh
    subst h
    obtain ⟨g1, g2, g3⟩ := gn_again _ _ _ hr
    refine ⟨?_, g2⟩
    rw [g1, List.take_of_length_le (by simp), mkS_of]
  · cases h
theorem al_back (ss : List ByteArray) (h : okL ss) : al (mkS (encL ss)) = (ss, 0) := by
  have := gl_back ss h []
  rw [List.append_nil] at this
  unfold al
  rw [this]
  simp [mkS_size]
theorem al_again {s : ByteArray} (h : (al s).2 = 0) : mkS (encL (al s).1) = s ∧ okL (al s).1 := by
  obtain ⟨⟨L, j, e⟩, hr⟩ : ∃ r, gl s = r := ⟨_, rfl⟩
  unfold al at h ⊢
  rw [hr] at h ⊢
  simp only at h ⊢
  by_cases he : e = 0
  · subst he
    simp only [ne_eq, not_true_eq_false, if_false] at h ⊢
    obtain ⟨g1, g2, g3⟩ := gl_again _ _ _ hr
    by_cases hj : j < s.size
    · rw [if_pos hj] at h; simp at h
    · rw [if_neg hj] at h ⊢
      refine ⟨?_, g2⟩
      simp only
      rw [g1, List.take_of_length_le (by simp; omega), mkS_of]
  · rw [if_pos he] at h; simp at h; omega
end Go.Proofs.YtfenjincbhkodaaGreatDoor

namespace Go.Proofs.YtfenjincbhkodaaGreatDoor
set_option linter.unusedVariables false
set_option linter.unusedSimpArgs false
open Go.RowKit

def Arr (w : World) (b t : Nat) (xs : List Value) : Prop := w.heap[b]? = some (.cells xs.toArray t (0, 0))
theorem Arr.lt {w : World} {b t : Nat} {xs : List Value} (h : Arr w b t xs) : b < w.heap.size := (Array.getElem?_eq_some_iff.1 h).1
theorem Arr.cell {w : World} {b t : Nat} {xs : List Value} (h : Arr w b t xs) (i : Nat) (hi : i < xs.length) : w.cell? ⟨b, i, none⟩ = some xs[i] := by
  unfold World.cell?; dsimp only; rw [show w.heap[b]? = _ from h]; simp [hi]
theorem Arr.frozen {w : World} {b t : Nat} {xs : List Value} (h : Arr w b t xs) (i : Nat) : w.frozen? ⟨b, i, none⟩ = false := by
  unfold World.frozen?; dsimp only; rw [show w.heap[b]? = _ from h]; simp
theorem Arr.set {w : World} {b t : Nat} {xs : List Value} (h : Arr w b t xs) (i : Nat) (v : Value) : Arr (w.setCell ⟨b, i, none⟩ v) b t (xs.set i v) := by
  unfold Arr World.setCell
  rw [Array.getElem?_modify, if_pos rfl, show w.heap[b]? = _ from h]
  simp [List.setIfInBounds_toArray]
theorem Arr.below {w w' : World} {b t B : Nat} {xs : List Value} (h : Arr w b t xs) (hb : Below B w w') (hB : b < B) : Arr w' b t xs := (hb.block b hB).trans h
theorem Arr.other {w : World} {b t : Nat} {xs : List Value} (h : Arr w b t xs) (a : Addr) (hne : b ≠ a.block) (v : Value) : Arr (w.setCell a v) b t xs := (Below.heap_setCell w a v b hne).trans h
theorem Arr.alloc {w : World} {b t : Nat} {xs : List Value} (h : Arr w b t xs) (o : Obj) : Arr (w.alloc o) b t xs := (Below.heap_alloc w o b h.lt).trans h
theorem Arr.new (w : World) (t : Nat) (xs : List Value) : Arr (w.alloc (.cells xs.toArray t)) w.heap.size t xs := heap_alloc_new w _
theorem Arr.row {w : World} {b t : Nat} {xs : List Value} (h : Arr w b t xs) (ys : List Value) : Arr (w.setRow b ys.toArray) b t ys := setRow_heap w b _ _ t (0, 0) h
theorem below_setRow {B : Nat} {a w : World} (h : Below B a w) {g : Nat} (hg : B ≤ g) (ys : Array Value) : Below B a (w.setRow g ys) := h.trans ⟨rfl, rfl, rfl, by simp, fun k hk => setRow_other w g k ys (by omega)⟩
def u8s (l : List UInt8) : List Value := l.map fun b => .int .u8 b.toNat
theorem u8s_length (l : List UInt8) : (u8s l).length = l.length := by simp [u8s]
theorem u8s_one (l : List UInt8) : (u8s l).toArray.all (·.oneCell') = true := by simp [u8s, Value.oneCell']
theorem results_row_tmp {P : Program} {fn : Func} {p u : Tmp} {ty : TypeId} (h : fn.results = #[.cell p ty, .tmp u]) (tmps : Array Value) (w : World) (g : Nat) (t : TypeId) (cs : Array Value) (fr : Nat × Nat) (d : TypeDesc)
    (hp : tmps.getD p undef = .pointer (some ⟨g, 0, none⟩)) (hg : w.heap[g]? = some (.cells cs t fr))
    (hu : P.underlying ty = some d) (hd : (match d with | .struct _ | .array _ _ => true | _ => false) = true) (hi : (P.info? ty).map (·.size) = some cs.size) (v : Value) (hv : tmps.getD u undef = v) :
    (results fn tmps).run P w = .ok (.tuple #[.agg cs, v]) w := by
  have hp' : tmps[p]?.getD undef = .pointer (some ⟨g, 0, none⟩) := by simpa using hp
  have hv' : tmps[u]?.getD undef = v := by simpa using hv
  simp [results, h, hp', hv', asAddr, run_loadVar_row w g t ty cs fr d hg hu hd hi]
theorem Arr.range {w : World} {b t : Nat} {xs : List Value} (h : Arr w b t xs) : w.rangeAt b 0 xs := by
  intro j v hv
  rw [Nat.zero_add, cell_of_row w b j _ t _ h]; simpa using hv
theorem rangeAt_below {w w' : World} {b o B : Nat} {cs : List Value} (h : w.rangeAt b o cs) (hb : Below B w w') (hB : b < B) : w'.rangeAt b o cs :=
  fun j v hv => (hb.cell (p := ⟨b, o + j, none⟩) hB).trans (h j v hv)
section
variable {P : Program} {ops : Array Oper} {C : World → Prop} {Q : Act → Prop} {a : Act} {o : Oper} {rest : List Oper}
theorem q_val {v : Value} (hw : Region.wanted o (yielded ops a.tmps) = true) (hv : ∀ w, C w → (execOp a.eval o).run P w = .ok (.value v) w) (h : wpQuiet P ops C Q rest (a.put o.dst v)) : wpQuiet P ops C Q (o :: rest) a :=
  wpQuiet_step fun K hK => by
    rw [if_pos hw]
    exact ⟨v, fun w hC => by unfold Oper.quietAt; rw [hv w hC]; exact ⟨rfl, rfl⟩, hK _ h⟩
end
/-- A row's load under a guard that is met. -/
theorem wpList_load_row_g {P : Program} {ops : Array Oper} {rest : List Oper} {o : Oper} {a : Act} {w : World} {Q : Exit → Act → World → Prop} (hw : Region.wanted o (yielded ops a.tmps) = true) (ty : TypeId) (x : Operand) (ho : o.op = .load ty x)
    (g : Nat) (hx : a.eval x = .pointer (some ⟨g, 0, none⟩)) (t : TypeId) (cs : Array Value) (fr : Nat × Nat) (d : TypeDesc) (hg : w.heap[g]? = some (.cells cs t fr))
    (hu : P.underlying ty = some d) (hd : (match d with | .struct _ | .array _ _ => true | _ => false) = true) (hi : (P.info? ty).map (·.size) = some cs.size)
    (h : wpList P ops Q rest (a.put o.dst (.agg cs)) w) : wpList P ops Q (o :: rest) a w :=
  wpList_step fun K hK => by rw [if_pos hw]; exact wp_load_row ty x ho g hx t cs fr d hg hu hd hi (hK _ _ h)
/-- The class: what stood is as it was. -/
def Cls (N : Nat) (W w : World) : Prop := Below N W w
theorem Cls.range {N : Nat} {W w : World} (h : Cls N W w) {b : Nat} {cs : List Value} (hr : W.rangeAt b 0 cs) (hb : b < N) : w.rangeAt b 0 cs := rangeAt_below hr h hb
theorem Cls.step {N : Nat} {W w w' : World} (h : Cls N W w) (hN : N ≤ W.heap.size) (hb : Below w.heap.size w w') : Cls N W w' := Below.trans h (hb.mono (Nat.le_trans hN (Below.size h)))
theorem Cls.start (W : World) (n : Nat) : Cls W.heap.size W { W with drawn := n } := ⟨rfl, rfl, rfl, Nat.le_refl _, fun _ _ => rfl⟩

section
variable {P : Program} {ops : Array Oper} {md : Region.Mode} {C : World → Prop} {Q : Exit → Act → World → Prop}

/-- Does operation j wait for operation i? -/
def waits (md : Region.Mode) (ops : Array Oper) : Nat → Nat → Nat → Bool
  | 0, _, _ => false
  | fuel + 1, j, i => match ops[j]? with
    | some o => o.after.any fun e => Region.binds md e && (e.on == i || waits md ops fuel e.on i)
    | none => false
/-- What is listed has all that it waits for listed. -/
def Closed (md : Region.Mode) (ops : Array Oper) (listed : Array Bool) : Prop :=
  ∀ j o, ops[j]? = some o → listed.getD j false = true → ∀ e ∈ o.after, Region.binds md e = true → listed.getD e.on false = true
theorem waits_listed {listed : Array Bool} (hc : Closed md ops listed) : ∀ (fuel j i : Nat), (∀ o, ops[j]? = some o → ∀ e ∈ o.after, Region.binds md e = true → listed.getD e.on false = true) → waits md ops fuel j i = true → listed.getD i false = true
  | 0, _, _, _, h => by cases h
  | fuel + 1, j, i, hj, h => by
    unfold waits at h
    cases ho : ops[j]? with
    | none => rw [ho] at h; cases h
    | some o =>
      rw [ho] at h
      obtain ⟨e, he, hb⟩ := Array.any_eq_true'.1 h
      simp only [Bool.and_eq_true, Bool.or_eq_true, beq_iff_eq] at hb
      have hl := hj o ho e he hb.1
      rcases hb.2 with rfl | hw
      · exact hl
      · exact waits_listed hc fuel e.on i (fun o' ho' e' he' hb' => hc e.on o' ho' hl e' he' hb') hw
theorem Closed.set {listed : Array Bool} (hc : Closed md ops listed) {i : Nat} (hi : i ∈ Region.ready md ops listed) : Closed md ops (listed.setIfInBounds i true) := by
  intro j o ho hl e he hb
  obtain ⟨_, oi, hoi, hall⟩ := mem_ready.1 hi
  by_cases hji : i = j
  · subst hji
    rw [hoi] at ho; cases ho
    exact getD_set_true (hall e he hb)
  · rw [getD_set_ne false hji] at hl
    exact getD_set_true (hc j o ho hl e he hb)
/-- The first m operations are listed, of n. -/
def first (m n : Nat) : Array Bool := ((List.range n).map fun i => decide (i < m)).toArray
theorem first_getD (m n i : Nat) (h : i < n) (d : Bool) : (first m n).getD i d = decide (i < m) := by simp [first, h]
theorem first_size (m n : Nat) : (first m n).size = n := by simp [first]
theorem first_set (m n : Nat) : (first m n).setIfInBounds m true = first (m + 1) n := by
  apply Array.ext (by simp [first])
  intro i h1 h2
  simp [first, Array.getElem_setIfInBounds] at h1 ⊢
  by_cases h : m = i
  · simp [h]
  · simp [h]; omega
theorem first_zero (n : Nat) : first 0 n = Array.replicate n false := by
  refine Array.ext (by simp [first]) fun i h1 h2 => ?_
  simp [first]
/-- The last ones are listed in thought, from k on. -/
def mark (k : Nat) (listed : Array Bool) : Array Bool := listed.mapIdx fun i b => b || decide (k ≤ i)
theorem mark_getD (k : Nat) (listed : Array Bool) (i : Nat) (d : Bool) (h : i < listed.size) : (mark k listed).getD i d = (listed.getD i d || decide (k ≤ i)) := by
  simp [mark, h]
theorem mark_set (k : Nat) (listed : Array Bool) (i : Nat) : mark k (listed.setIfInBounds i true) = (mark k listed).setIfInBounds i true := by
  refine Array.ext (by simp [mark]) fun j h1 h2 => ?_
  by_cases h : i = j <;> simp [mark, Array.getElem_setIfInBounds, h]
/-- The quiet ones, in the text's order. -/
def lexTo (md : Region.Mode) (ops : Array Oper) : Nat → Nat → Array Bool → Bool
  | 0, _, listed => (Region.ready md ops listed).isEmpty
  | m + 1, k, listed => (Region.ready md ops listed).contains k && Region.free md ops listed k && lexTo md ops m (k + 1) (listed.setIfInBounds k true)
theorem lexTo_any {Q : Act → Prop} (hs : Region.noSelect ops = true) : ∀ (l : List Oper) (k : Nat) (listed : Array Bool) (a : Act), (∀ j, j < l.length → l[j]? = ops[k + j]?) →
    lexTo md ops l.length k listed = true → wpQuiet P ops C Q l a → wpAnyQ P md ops C Q l.length listed a
  | [], _, _, _, _, hB, h => ⟨by simpa [lexTo] using hB, h⟩
  | o :: l, k, listed, a, hl, hB, h => by
    have h0 : ops[k]? = some o := by simpa using (hl 0 (by simp)).symm
    simp only [List.length_cons, lexTo, Bool.and_eq_true] at hB
    obtain ⟨⟨hr, hf⟩, hB'⟩ := hB
    have hst : qOp P ops C k (wpQuiet P ops C Q l) a := by unfold qOp; simp only [h0]; exact h
    obtain ⟨v, hy, hK⟩ := yieldsIn_of_qOp h0 hst
    exact wpAnyQ_first h0 (Region.noSelect_spec hs) l.length listed a (Region.free_spec h0 hf) (by simpa using hr) hy
      (lexTo_any hs l (k + 1) _ _ (fun j hj => by have := hl (j + 1) (by simpa using hj); simpa [Nat.add_assoc, Nat.add_comm 1 j] using this) hB' hK)
theorem wpAny_more : ∀ (fuel : Nat) (listed : Array Bool) (a : Act) (w : World), wpAny P md ops Q fuel listed a w → ∀ m, fuel ≤ m → wpAny P md ops Q m listed a w
  | 0, _, _, _, h, m, _ => wpAny_done h.1 h.2 m
  | fuel + 1, _, _, _, h, m, hm => by
    obtain ⟨m, rfl⟩ : ∃ k, m = k + 1 := ⟨m - 1, by omega⟩
    exact ⟨h.1, fun i hi => wpOp_mono (fun a w h => wpAny_more fuel _ a w h m (by omega)) (h.2 i hi)⟩
/-- The last ones, one behind the other. -/
def tailB (md : Region.Mode) (ops : Array Oper) : Nat → Nat → Bool
  | 0, j => (Region.ready md ops (first j ops.size)).isEmpty
  | m + 1, j => decide (Region.ready md ops (first j ops.size) = [j]) && tailB md ops m (j + 1)
theorem last_any : ∀ (r : List Oper) (j : Nat) (a : Act) (w : World), (∀ i, i < r.length → r[i]? = ops[j + i]?) → tailB md ops r.length j = true → wpList P ops Q r a w → wpAny P md ops Q r.length (first j ops.size) a w
  | [], j, a, w, _, hB, h => wpAny_done (by simpa [tailB] using hB) h 0
  | o :: r, j, a, w, hr, hB, h => by
    simp only [List.length_cons, tailB, Bool.and_eq_true, decide_eq_true_iff] at hB
    refine wpAny_all hB.1 (by simp) fun i hi => ?_
    obtain rfl : i = j := by simpa using hi
    have h0 : ops[i]? = some o := by simpa using (hr 0 (by simp)).symm
    unfold wpOp
    simp only [h0]
    have key := fun a w => last_any r (i + 1) a w (fun q hq => by have := hr (q + 1) (by simpa using hq); simpa [Nat.add_assoc, Nat.add_comm 1 q] using this) hB.2
    rw [first_set]
    unfold wpList at h
    split
    · rename_i hw
      rw [if_pos hw] at h
      exact h.imp (Oper.wp_mono key) id
    · rename_i hw
      rw [if_neg hw] at h
      exact key _ _ h
/-- Both. -/
theorem both_any {k : Nat} (hk : k ≤ ops.size) (hback : ∀ (j : Nat) o, ops[j]? = some o → ∀ e ∈ o.after, Region.binds md e = true → e.on < j)
    (hlate : ∀ j, k ≤ j → j < ops.size → ∀ i, i < k → waits md ops ops.size j i = true) {Qm : Act → Prop} {fuel2 : Nat}
    (hq : ∀ a w, C w → Qm a → wpAny P md ops Q fuel2 (first k ops.size) a w) :
    ∀ (fuel : Nat) (listed : Array Bool) (a : Act) (w : World), listed.size = ops.size → (∀ j, k ≤ j → listed.getD j false = false) → Closed md ops listed → C w → wpAnyQ P md ops C Qm fuel (mark k listed) a → wpAny P md ops Q (fuel + fuel2) listed a w := by
  -- nothing is ready in thought: the first k are listed
  have hall : ∀ listed : Array Bool, listed.size = ops.size → (∀ j, k ≤ j → listed.getD j false = false) → Region.ready md ops (mark k listed) = [] → listed = first k ops.size := by
    intro listed hs ht hr
    have hpre : ∀ i, i < k → listed.getD i false = true := by
      intro i
      induction i using Nat.strongRecOn with
      | ind i ih =>
        intro hi
        by_cases hl : listed.getD i false = true
        · exact hl
        · exfalso
          obtain ⟨o, ho⟩ : ∃ o, ops[i]? = some o := ⟨ops[i]'(by omega), by simp⟩
          have : i ∈ Region.ready md ops (mark k listed) := mem_ready.2 ⟨by
            rw [mark_getD _ _ _ _ (by omega)]
            have : listed.getD i true = false := by
              have h1 : i < listed.size := by omega
              simp [h1] at hl ⊢; exact hl
            rw [this]; simp; omega, o, ho, fun e he hb => by
            have hlt := hback i o ho e he hb
            rw [mark_getD _ _ _ _ (by omega), ih e.on hlt (by omega)]; rfl⟩
          rw [hr] at this; cases this
    apply Array.ext (by rw [hs, first_size])
    intro i h1 h2
    by_cases hik : i < k
    · have := hpre i hik
      simp [h1] at this
      simp [first, this, hik]
    · have := ht i (by omega)
      simp [h1] at this
      simp [first, this, hik]
  intro fuel
  induction fuel with
  | zero =>
    intro listed a w hs ht hc hw h
    obtain ⟨hr, hQ⟩ := h
    rw [hall listed hs ht hr, Nat.zero_add]
    exact hq a w hw hQ
  | succ fuel ih =>
    intro listed a w hs ht hc hw h
    by_cases hr : Region.ready md ops (mark k listed) = []
    · rw [hall listed hs ht hr]
      exact wpAny_more fuel2 _ _ _ (hq a w hw (h.1 hr)) _ (by omega)
    · rw [show fuel + 1 + fuel2 = (fuel + fuel2) + 1 from by omega]
      have hpick : ∀ i ∈ Region.ready md ops listed, i < k ∧ i ∈ Region.ready md ops (mark k listed) := by
        intro i hi
        obtain ⟨hun, o, ho, hal⟩ := mem_ready.1 hi
        have hio : i < ops.size := (Array.getElem?_eq_some_iff.1 ho).1
        by_cases hik : i < k
        · refine ⟨hik, mem_ready.2 ⟨?_, o, ho, fun e he hb => ?_⟩⟩
          · rw [mark_getD _ _ _ _ (by omega), hun]; simp; omega
          · have hlt := hback i o ho e he hb
            rw [mark_getD _ _ _ _ (by omega), hal e he hb]; rfl
        · exfalso
          apply hr
          have hfull : ∀ q, q < k → listed.getD q false = true := fun q hqk =>
            waits_listed hc ops.size i q (fun o' ho' e he hb => by rw [ho] at ho'; cases ho'; exact hal e he hb) (hlate i (by omega) hio q hqk)
          rw [List.eq_nil_iff_forall_not_mem]
          intro j hj
          obtain ⟨hun', oj, hoj, _⟩ := mem_ready.1 hj
          have hjs : j < ops.size := (Array.getElem?_eq_some_iff.1 hoj).1
          rw [mark_getD _ _ _ _ (by omega)] at hun'
          simp at hun'
          have := hfull j (by omega)
          have h1 : j < listed.size := by omega
          simp [h1] at this hun'
          rw [this] at hun'; simp at hun'
      refine ⟨fun h0 => ?_, fun i hi => ?_⟩
      · exfalso; apply hr
        rw [List.eq_nil_iff_forall_not_mem]
        intro j hj
        obtain ⟨hun', oj, hoj, hal⟩ := mem_ready.1 hj
        have hjs : j < ops.size := (Array.getElem?_eq_some_iff.1 hoj).1
        rw [mark_getD _ _ _ _ (by omega)] at hun'
        simp only [Bool.or_eq_false_iff, decide_eq_false_iff_not, Nat.not_le] at hun'
        have : j ∈ Region.ready md ops listed := mem_ready.2 ⟨hun'.1, oj, hoj, fun e he hb => by
          have hlt := hback j oj hoj e he hb
          have h2 := hal e he hb
          rw [mark_getD _ _ _ _ (by omega)] at h2
          simp only [Bool.or_eq_true, decide_eq_true_iff] at h2
          rcases h2 with h2 | h2
          · exact h2
          · omega⟩
        rw [h0] at this; cases this
      · obtain ⟨hik, him⟩ := hpick i hi
        refine wpOp_of_qOp hw (fun a' w' hw' hk' => ih (listed.setIfInBounds i true) a' w' (by simpa using hs) (fun j hj => by rw [getD_set_ne false (by omega)]; exact ht j hj) (hc.set hi) hw' ?_) (h.2 i him)
        rw [mark_set]; exact hk'
/-- What is asked of a region, for the first k to be taken in the text's order, and the others behind them. -/
def thenB (ops : Array Oper) (k : Nat) : Bool :=
  Region.noSelect ops && decide (k ≤ ops.size) && (List.range ops.size).all (fun j => match ops[j]? with | some o => o.after.all fun e => !Region.binds .any e || decide (e.on < j) | none => true)
  && (List.range ops.size).all (fun j => !decide (k ≤ j) || (List.range k).all fun i => waits .any ops ops.size j i)
  && lexTo .any ops k 0 (mark k (first 0 ops.size)) && tailB .any ops (ops.size - k) k
theorem wp_region_then {id : Nat} {a : Act} {w : World} (k : Nat) (hm : P.follows .mixedOrders = true) (hB : thenB ops k = true) (hC : C { w with drawn := w.drawn + 1 })
    (h : wpQuiet P ops C (fun a' => ∀ w', C w' → wpList P ops Q (ops.toList.drop k) a' w') (ops.toList.take k) a) : (Code.region id ops true).wp P Q a w := by
  simp only [thenB, Bool.and_eq_true, decide_eq_true_iff] at hB
  obtain ⟨⟨⟨⟨⟨hs, hk⟩, hback⟩, hlate⟩, hlex⟩, hlast⟩ := hB
  have hlt : (ops.toList.take k).length = k := by simp [hk]
  have hld : (ops.toList.drop k).length = ops.size - k := by simp
  refine wp_region_any hm ?_
  have h1 := lexTo_any (md := .any) hs (ops.toList.take k) 0 (mark k (first 0 ops.size)) a (fun j hj => by rw [hlt] at hj; simp [hj]) (by rw [hlt]; exact hlex) h
  have h2 := both_any (P := P) (Q := Q) (C := C) (md := .any) hk (fun j o ho e he hb => by
      have := (List.all_eq_true.1 hback) j (by simp; exact (Array.getElem?_eq_some_iff.1 ho).1)
      rw [ho] at this
      have := (Array.all_eq_true_iff_forall_mem.1 this) e he
      simpa [hb] using this) (fun j hkj hj i hi => by
      have := (List.all_eq_true.1 hlate) j (by simpa using hj)
      simp only [Bool.or_eq_true, Bool.not_eq_true', decide_eq_false_iff_not, List.all_eq_true] at this
      rcases this with h | h
      · omega
      · exact h i (by simpa using hi))
    (fuel2 := ops.size - k) (fun a' w' hw' hq => by
      have := last_any (P := P) (Q := Q) (md := .any) (ops.toList.drop k) k a' w' (fun i hi => by simp) (by rw [hld]; exact hlast) (hq w' hw')
      rwa [hld] at this)
    (ops.toList.take k).length (first 0 ops.size) a _ (first_size _ _) (fun j hj => by
      by_cases hjs : j < ops.size
      · rw [first_getD _ _ _ hjs]; simp
      · simp [first, hjs]) (fun j o ho hl => by
      have hjs : j < ops.size := (Array.getElem?_eq_some_iff.1 ho).1
      rw [first_getD _ _ _ hjs] at hl; simp at hl) hC h1
  rw [hlt, show k + (ops.size - k) = ops.size from by omega, first_zero] at h2
  exact h2
end
section
variable {P : Program} {ops : Array Oper} {md : Region.Mode} {S : World → Prop} {Q : Exit → Act → World → Prop} {sole : Nat → Bool}
variable {k : Nat} {o : Oper} {rest : List Oper} {a : Act} {w : World}
end
end Go.Proofs.YtfenjincbhkodaaGreatDoor

namespace Go.Proofs.YtfenjincbhkodaaGreatDoor
set_option maxRecDepth 100000
set_option linter.unusedVariables false
set_option linter.unusedSimpArgs false
open Go.RowKit

theorem info5 : (Tryz.prog.info? 5).map (fun i => (i.zero, i.size, i.bytes)) = some (some (.int .u8 0), 1, 1) := by kernel_rfl
/-- A row of bytes that may be written. -/
def MutB (w : World) (b : Nat) (l : List UInt8) : Prop := b < w.heap.size ∧ ∀ i, i < l.length → w.cell? ⟨b, i, none⟩ = some (.int .u8 (l.getD i 0).toNat) ∧ w.frozen? ⟨b, i, none⟩ = false
theorem MutB.set {w : World} {b : Nat} {l : List UInt8} (h : MutB w b l) (j : Nat) (c : UInt8) (hj : j < l.length) : MutB (w.setCell ⟨b, j, none⟩ (.int .u8 c.toNat)) b (l.set j c) := by
  refine ⟨by simp [World.setCell]; exact h.1, fun i hi => ?_⟩
  rw [List.length_set] at hi
  obtain ⟨h1, h2⟩ := h.2 i hi
  refine ⟨?_, by rw [World.frozen?_setCell]; exact h2⟩
  by_cases hij : j = i
  · subst hij
    rw [World.cell?_setCell_same _ _ _ h1]; simp [List.getD_eq_getElem?_getD, hi]
  · rw [World.cell?_setCell_other _ _ _ _ (by intro e; exact hij (congrArg Addr.off e)), h1]
    simp [List.getD_eq_getElem?_getD, List.getElem?_set_ne hij]
end Go.Proofs.YtfenjincbhkodaaGreatDoor

namespace Go.Proofs.YtfenjincbhkodaaGreatDoor
set_option linter.unusedVariables false
set_option linter.unusedSimpArgs false
open Go.RowKit

inductive Scr where
  | done : Scr
  | take : Nat → Scr → Scr
  | one : Nat → Scr → Scr
  | two : Nat → Scr → Nat → Scr → Scr
  | three : Nat → Scr → Nat → Scr → Nat → Scr → Scr
  | to : (World → Prop) → Scr → Scr
def Scr.depth : Scr → Nat
  | .done => 0
  | .take _ s => s.depth + 1
  | .one _ s => s.depth + 1
  | .two _ s _ t => max s.depth t.depth + 1
  | .three _ s _ t _ u => max s.depth (max t.depth u.depth) + 1
  | .to _ s => s.depth
def Scr.chk (md : Region.Mode) (ops : Array Oper) : Scr → Array Bool → Bool
  | .done, L => (Region.ready md ops L).isEmpty
  | .take k s, L => (Region.ready md ops L).contains k && Region.free md ops L k && s.chk md ops (L.setIfInBounds k true)
  | .one k s, L => decide (Region.ready md ops L = [k]) && s.chk md ops (L.setIfInBounds k true)
  | .two k s j t, L => decide (Region.ready md ops L = [k, j]) && s.chk md ops (L.setIfInBounds k true) && t.chk md ops (L.setIfInBounds j true)
  | .three k s j t i u, L => decide (Region.ready md ops L = [k, j, i]) && s.chk md ops (L.setIfInBounds k true) && t.chk md ops (L.setIfInBounds j true) && u.chk md ops (L.setIfInBounds i true)
  | .to _ s, L => s.chk md ops L
section
variable {P : Program} {ops : Array Oper} {md : Region.Mode} {Q : Exit → Act → World → Prop}
def opW (P : Program) (ops : Array Oper) (Q : Exit → Act → World → Prop) (S : World → Prop) (k : Nat) (K : Act → World → Prop) (a : Act) (w : World) : Prop :=
  ∃ o, ops[k]? = some o ∧ Region.wanted o (yielded ops a.tmps) = true ∧ o.wp P a w (fun a' w' => S w' ∧ K a' w') Q
def wpScr (P : Program) (ops : Array Oper) (Q : Exit → Act → World → Prop) : Scr → (World → Prop) → Act → World → Prop
  | .done, _, a, w => Q .normal a w
  | .take k s, S, a, w => ∃ o v, ops[k]? = some o ∧ YieldsIf P ops S o v a ∧ wpScr P ops Q s S (a.put o.dst v) w
  | .one k s, S, a, w => opW P ops Q S k (wpScr P ops Q s S) a w
  | .two k s j t, S, a, w => opW P ops Q S k (wpScr P ops Q s S) a w ∧ opW P ops Q S j (wpScr P ops Q t S) a w
  | .three k s j t i u, S, a, w => opW P ops Q S k (wpScr P ops Q s S) a w ∧ opW P ops Q S j (wpScr P ops Q t S) a w ∧ opW P ops Q S i (wpScr P ops Q u S) a w
  | .to S' s, S, a, w => S' w ∧ (∀ w, S' w → S w) ∧ wpScr P ops Q s S' a w
theorem wpAnyH_wide {S S' : World → Prop} (h : ∀ w, S' w → S w) : ∀ (fuel : Nat) (L : Array Bool) (a : Act) (w : World), wpAnyH P md ops Q S' fuel L a w → wpAnyH P md ops Q S fuel L a w
  | 0, _, _, _, hh => hh
  | fuel + 1, _, _, _, hh => ⟨hh.1, fun i hi => wpOp_mono (fun a' w' h' => ⟨h _ h'.1, wpAnyH_wide h fuel _ a' w' h'.2⟩) (hh.2 i hi)⟩
theorem opW.op {S : World → Prop} {k : Nat} {K : Act → World → Prop} {a : Act} {w : World} (h : opW P ops Q S k K a w) : wpOp P ops Q k (fun a' w' => S w' ∧ K a' w') a w := by
  obtain ⟨o, ho, hw, hp⟩ := h
  unfold wpOp
  simp only [ho]
  rw [if_pos hw]
  exact .inl hp
theorem scrH (hs : Region.noSelect ops = true) (hQ : ∀ c (a : Act) (d : Option Tmp) (v : Value) (w : World), Q (.panic c) (a.put d v) w → Q (.panic c) a w) :
    ∀ (s : Scr) (S : World → Prop) (fuel : Nat) (L : Array Bool) (a : Act) (w : World), s.depth ≤ fuel → s.chk md ops L = true → S w → wpScr P ops Q s S a w → wpAnyH P md ops Q S fuel L a w
  | .done, S, fuel, L, a, w, _, hc, _, h => wpAnyH_done (by simpa [Scr.chk] using hc) h fuel
  | .take k s, S, fuel, L, a, w, hd, hc, hS, h => by
    obtain ⟨o, v, ho, hy, hK⟩ := h
    simp only [Scr.chk, Bool.and_eq_true] at hc
    obtain ⟨m, rfl⟩ : ∃ m, fuel = m + 1 := ⟨fuel - 1, by simp only [Scr.depth] at hd; omega⟩
    exact wpAnyH_take ho hs hc.1.2 hc.1.1 (fun c a w => hQ c a _ _ w) hy hS (scrH hs hQ s S m _ _ _ (by simp only [Scr.depth] at hd; omega) hc.2 hS hK)
  | .one k s, S, fuel, L, a, w, hd, hc, hS, h => by
    simp only [Scr.chk, Bool.and_eq_true, decide_eq_true_iff] at hc
    obtain ⟨m, rfl⟩ : ∃ m, fuel = m + 1 := ⟨fuel - 1, by simp only [Scr.depth] at hd; omega⟩
    refine wpAnyH_all hc.1 (by simp) fun i hi => ?_
    obtain rfl : i = k := by simpa using hi
    exact wpOp_mono (fun a' w' h' => ⟨h'.1, scrH hs hQ s S m _ _ _ (by simp only [Scr.depth] at hd; omega) hc.2 h'.1 h'.2⟩) (opW.op h)
  | .two k s j t, S, fuel, L, a, w, hd, hc, hS, h => by
    simp only [Scr.chk, Bool.and_eq_true, decide_eq_true_iff] at hc
    obtain ⟨m, rfl⟩ : ∃ m, fuel = m + 1 := ⟨fuel - 1, by simp only [Scr.depth] at hd; omega⟩
    refine wpAnyH_all hc.1.1 (by simp) fun i hi => ?_
    have hi' : i = k ∨ i = j := by simpa using hi
    rcases hi' with rfl | rfl
    · exact wpOp_mono (fun a' w' h' => ⟨h'.1, scrH hs hQ s S m _ _ _ (by simp only [Scr.depth] at hd; omega) hc.1.2 h'.1 h'.2⟩) (opW.op h.1)
    · exact wpOp_mono (fun a' w' h' => ⟨h'.1, scrH hs hQ t S m _ _ _ (by simp only [Scr.depth] at hd; omega) hc.2 h'.1 h'.2⟩) (opW.op h.2)
  | .three k s j t i u, S, fuel, L, a, w, hd, hc, hS, h => by
    simp only [Scr.chk, Bool.and_eq_true, decide_eq_true_iff] at hc
    obtain ⟨m, rfl⟩ : ∃ m, fuel = m + 1 := ⟨fuel - 1, by simp only [Scr.depth] at hd; omega⟩
    refine wpAnyH_all hc.1.1.1 (by simp) fun q hq => ?_
    have hq' : q = k ∨ q = j ∨ q = i := by simpa using hq
    rcases hq' with rfl | rfl | rfl
    · exact wpOp_mono (fun a' w' h' => ⟨h'.1, scrH hs hQ s S m _ _ _ (by simp only [Scr.depth] at hd; omega) hc.1.1.2 h'.1 h'.2⟩) (opW.op h.1)
    · exact wpOp_mono (fun a' w' h' => ⟨h'.1, scrH hs hQ t S m _ _ _ (by simp only [Scr.depth] at hd; omega) hc.1.2 h'.1 h'.2⟩) (opW.op h.2.1)
    · exact wpOp_mono (fun a' w' h' => ⟨h'.1, scrH hs hQ u S m _ _ _ (by simp only [Scr.depth] at hd; omega) hc.2 h'.1 h'.2⟩) (opW.op h.2.2)
  | .to S' s, S, fuel, L, a, w, hd, hc, hS, h => by
    obtain ⟨h1, h2, h3⟩ := h
    exact wpAnyH_wide h2 fuel L a w (scrH hs hQ s S' fuel L a w hd hc h1 h3)
theorem wp_region_scr {id : Nat} {a : Act} {w : World} (S : World → Prop) (s : Scr) (hm : P.follows .mixedOrders = true) (hs : Region.noSelect ops = true) (hQ : ∀ c (a : Act) (d : Option Tmp) (v : Value) (w : World), Q (.panic c) (a.put d v) w → Q (.panic c) a w)
    (hd : s.depth ≤ ops.size) (hc : s.chk .any ops (Array.replicate ops.size false) = true) (hS : S { w with drawn := w.drawn + 1 }) (h : wpScr P ops Q s S a { w with drawn := w.drawn + 1 }) : (Code.region id ops true).wp P Q a w :=
  wp_region_held (S := S) hm (scrH hs hQ s S _ _ _ _ hd hc hS h)
variable {S : World → Prop} {k : Nat} {o : Oper} {s : Scr} {a : Act} {w : World} {K : Act → World → Prop}
theorem s_val {v : Value} (ho : ops[k]? = some o) (hw : Region.wanted o (yielded ops a.tmps) = true) (hv : ∀ w, S w → (execOp a.eval o).run P w = .ok (.value v) w) (h : wpScr P ops Q s S (a.put o.dst v) w) : wpScr P ops Q (.take k s) S a w :=
  ⟨o, v, ho, .inl ⟨hw, hv⟩, h⟩
theorem o_call {v : Value} (ho : ops[k]? = some o) (hw : Region.wanted o (yielded ops a.tmps) = true) (f : FuncId) (args : Array Value) (hop : (execOp a.eval o).run P w = .ok (.enter f args) w) {R : World → Prop} (hc : Calls P f args w fun e w' => e = .returned v ∧ R w')
    (h : ∀ w', R w' → S w' ∧ K (a.put o.dst v) w') : opW P ops Q S k K a w := by
  refine ⟨o, ho, hw, ?_⟩
  unfold Oper.wp
  rw [hop]
  exact hc.mono fun e w' ⟨he, hr⟩ => by subst he; exact h w' hr
theorem o_make {v : Value} {W : World} (ho : ops[k]? = some o) (hw : Region.wanted o (yielded ops a.tmps) = true) (hop : (execOp a.eval o).run P w = .ok (.value v) W) (hS : S W) (h : K (a.put o.dst v) W) : opW P ops Q S k K a w := by
  refine ⟨o, ho, hw, ?_⟩
  unfold Oper.wp
  rw [hop]
  exact ⟨hS, h⟩
end
end Go.Proofs.YtfenjincbhkodaaGreatDoor

namespace Go.Proofs.YtfenjincbhkodaaGreatDoor
set_option maxRecDepth 100000
set_option linter.unusedVariables false
set_option linter.unusedSimpArgs false
open Go.RowKit

theorem hash_row : Tryz.prog.underlying 34 = some (.array 32 5) := by kernel_rfl
theorem run_copy_long {P : Program} (w : World) (dT sT ty elem : TypeId) (g dLen dCap : Nat) (s : ByteArray) (cur : Array Value) (t : TypeId)
    (hu : P.underlying dT = some (.slice elem)) (hs : (P.info? elem).map (·.size) = some 1) (hg : w.heap[g]? = some (.cells cur t (0, 0))) (hle : dLen ≤ s.size) (hfit : cur.size = dLen) :
    (Builtin.copy_ #[dT, sT] ty #[.slice (some ⟨g, 0, none⟩) dLen dCap, .string s]).run P w =
      .ok (goInt dLen) (w.setRow g (Lib.byteCells (s.data.toList.take dLen)).toArray) := by
  have hlen : (Lib.byteCells (s.data.toList.take dLen)).length = dLen := by rw [Lib.byteCells_length]; simp; omega
  have hst := run_storeCells_at P g 0 t (Lib.byteCells (s.data.toList.take dLen)) 0 cur w hg (by rw [hlen]; omega) (Lib.byteCells_one _)
  have hmin : Nat.min s.size dLen = dLen := Nat.min_eq_right hle
  have htk : List.take dLen (List.map (fun b : UInt8 => Value.int IntKind.u8 (b.toNat : Int)) s.data.toList) = Lib.byteCells (s.data.toList.take dLen) := by
    unfold Lib.byteCells; rw [List.map_take]
  rw [hlen] at hst
  have hdr : cur.toList.drop (0 + dLen) = [] := by apply List.drop_eq_nil_of_le; simp; omega
  simp only [Nat.add_zero, hdr, List.append_nil, List.take_zero, List.nil_append] at hst
  cases hq : P.info? elem with
  | none => simp [hq] at hs
  | some i =>
    simp [Builtin.copy_, run_underlying hu, Builtin.lenOf, Builtin.firstCells, sizeOf, typeInfo, hq, hmin]
    rw [htk, hst]
    simp [Result.andThen]
def z32 : List UInt8 := List.replicate 32 0
theorem addr_add (b o k : Nat) : (⟨b, o, none⟩ : Addr).add k = ⟨b, o + k, none⟩ := by unfold Addr.add; split <;> simp_all
theorem slice32 (b off : Nat) (W : World) : (Instr.sliceAt 34 (.pointer (some ⟨b, off, none⟩)) none none none).run Tryz.prog W = .ok (.slice (some ⟨b, off, none⟩) 32 32) W := by
  have he : Tryz.prog.elem 34 = 5 := by kernel_rfl
  have hu := hash_row
  obtain ⟨i0, hi, hz0, hz1, hz2⟩ := info_parts info5
  simp [Instr.sliceAt, run_underlying hu, he, sizeOf, typeInfo, hi, hz1, Result.andThen, addr_add]
  all_goals (try rfl)
theorem s_slc {ops : Array Oper} {Q : Exit → Act → World → Prop} {S : World → Prop} {k : Nat} {o : Oper} {s : Scr} {a : Act} {w : World} (ho : ops[k]? = some o) (hw : Region.wanted o (yielded ops a.tmps) = true) (x : Operand) (hop : o.op = .slice 34 x none none none)
    (b off : Nat) (hx : a.eval x = .pointer (some ⟨b, off, none⟩)) (h : wpScr Tryz.prog ops Q s S (a.put o.dst (.slice (some ⟨b, off, none⟩) 32 32)) w) : wpScr Tryz.prog ops Q (.take k s) S a w :=
  s_val ho hw (fun w _ => by
    unfold execOp
    simp only [hop, hx, Option.map_none, Sem.run_bind, slice32 b off, Result.andThen_ok]
    rfl) h
theorem run_copy_mid {P : Program} (w : World) (dT sT ty elem : TypeId) (g o dLen dCap : Nat) (s : ByteArray) (cur : Array Value) (t : TypeId)
    (hu : P.underlying dT = some (.slice elem)) (hs : (P.info? elem).map (·.size) = some 1) (hg : w.heap[g]? = some (.cells cur t (0, 0))) (hle : dLen ≤ s.size) (hfit : o + dLen ≤ cur.size) :
    (Builtin.copy_ #[dT, sT] ty #[.slice (some ⟨g, o, none⟩) dLen dCap, .string s]).run P w =
      .ok (goInt dLen) (w.setRow g (cur.toList.take o ++ Lib.byteCells (s.data.toList.take dLen) ++ cur.toList.drop (o + dLen)).toArray) := by
  have hlen : (Lib.byteCells (s.data.toList.take dLen)).length = dLen := by rw [Lib.byteCells_length]; simp; omega
  have hst := run_storeCells_at P g o t (Lib.byteCells (s.data.toList.take dLen)) 0 cur w hg (by rw [hlen]; simpa using hfit) (Lib.byteCells_one _)
  have hmin : Nat.min s.size dLen = dLen := Nat.min_eq_right hle
  have htk : List.take dLen (List.map (fun b : UInt8 => Value.int IntKind.u8 (b.toNat : Int)) s.data.toList) = Lib.byteCells (s.data.toList.take dLen) := by
    unfold Lib.byteCells; rw [List.map_take]
  rw [hlen] at hst
  simp only [Nat.add_zero] at hst
  cases hq : P.info? elem with
  | none => simp [hq] at hs
  | some i =>
    simp [Builtin.copy_, run_underlying hu, Builtin.lenOf, Builtin.firstCells, sizeOf, typeInfo, hq, hmin]
    rw [htk, hst]
    simp [Result.andThen]
theorem o_copy {P : Program} {ops : Array Oper} {Q : Exit → Act → World → Prop} {S : World → Prop} {k : Nat} {K : Act → World → Prop} {a : Act} {w : World} {o : Oper} (ho : ops[k]? = some o) (hw : Region.wanted o (yielded ops a.tmps) = true) (d x : Operand) (t u : TypeId)
    (hop : o.op = .call { callee := .builtin .copy, args := #[d, x], argTypes := #[t, u] }) (dv xv v : Value) (w' : World) (hd : a.eval d = dv) (hx : a.eval x = xv)
    (hrun : (Builtin.copy_ #[t, u] o.type #[dv, xv]).run P w = .ok v w') (hS : S w') (h : K (a.put o.dst v) w') : opW P ops Q S k K a w := by
  refine ⟨o, ho, hw, ?_⟩
  unfold Oper.wp
  simp [execOp, hop, resolve, invoke, builtin, hd, hx, hrun, Result.andThen]
  exact ⟨hS, h⟩
end Go.Proofs.YtfenjincbhkodaaGreatDoor

namespace Go.Proofs.YtfenjincbhkodaaGreatDoor.En
set_option linter.unusedVariables false
set_option linter.unusedSimpArgs false
open Go.RowKit

/-- An entry. -/
structure En where
  r : ByteArray
  e : Int
  i : Int
  p : List UInt8
  v : ByteArray
  g : ByteArray
def En.row (x : En) : List Value := [.string x.r, .int .i64 x.e, .int .i64 x.i] ++ u8s x.p ++ [.string x.v, .string x.g]
structure En.ok (x : En) : Prop where
  r : x.r.size ≤ 140737488351232
  p : x.p.length = 32
  v : x.v.size ≤ 140737488351232
  g : x.g.size ≤ 140737488351232
def z32e : List UInt8 := List.replicate 32 0
def zEn : En := ⟨⟨#[]⟩, 0, 0, z32e, ⟨#[]⟩, ⟨#[]⟩⟩
theorem En.len {x : En} (h : x.p.length = 32) : x.row.length = 37 := by unfold En.row; simp [u8s_length, h]
theorem En.one (x : En) : ∀ u ∈ x.row, u.oneCell' = true := by
  intro u hu
  unfold En.row at hu
  simp only [List.mem_append, List.mem_cons, List.not_mem_nil, or_false] at hu
  rcases hu with ((rfl | rfl | rfl) | hu) | (rfl | rfl)
  · rfl
  · rfl
  · rfl
  · exact (List.all_eq_true.1 (by have := u8s_one x.p; rwa [List.all_toArray] at this)) u hu
  · rfl
  · rfl
theorem En.get0 (x : En) : x.row[0]? = some (.string x.r) := rfl
theorem En.get1 (x : En) : x.row[1]? = some (.int .i64 x.e) := rfl
theorem En.get2 (x : En) : x.row[2]? = some (.int .i64 x.i) := rfl
theorem En.get35 {x : En} (h : x.p.length = 32) : x.row[35]? = some (.string x.v) := by
  unfold En.row
  rw [List.getElem?_append_right (by simp [u8s_length, h])]; simp [u8s_length, h]
theorem En.get36 {x : En} (h : x.p.length = 32) : x.row[36]? = some (.string x.g) := by
  unfold En.row
  rw [List.getElem?_append_right (by simp [u8s_length, h])]; simp [u8s_length, h]
theorem En.set35 {x : En} (h : x.p.length = 32) (s : ByteArray) : x.row.set 35 (.string s) = (⟨x.r, x.e, x.i, x.p, s, x.g⟩ : En).row := by
  unfold En.row
  rw [List.append_assoc, List.set_append]; simp [u8s_length, h, List.set_append]
theorem En.set36 {x : En} (h : x.p.length = 32) (s : ByteArray) : x.row.set 36 (.string s) = (⟨x.r, x.e, x.i, x.p, x.v, s⟩ : En).row := by
  unfold En.row
  rw [List.append_assoc, List.set_append]; simp [u8s_length, h, List.set_append]
theorem En.mid (x : En) : x.row.drop 3 = u8s x.p ++ [.string x.v, .string x.g] := rfl
def wEntry : ByteArray := ⟨#[101, 110, 116, 114, 121]⟩
def cnt (n : Int) : Bool := decide (0 ≤ n ∧ n ≤ 4096)
/-- An entry is valid. -/
def eOk (x : En) : Bool := (who 2 x.r).isSome && cnt x.e && cnt x.i && decide (x.v.size ≤ 8192) && decide (x.g.size ≤ 8192)
def eE (x : En) : Int := if eOk x = true then 0 else 2
def eL (x : En) : List ByteArray := [wEntry, x.r, mkS (encN x.e.toNat), mkS (encN x.i.toNat), mkS x.p, x.v]
/-- An entry's signed text. -/
def eT (x : En) : ByteArray := if eOk x = true then mkS (encL (eL x)) else ByteArray.empty
/-- A number of at most 4096 that a whole text is. -/
def num4 (s : ByteArray) : Option Nat := match numOf s with
  | some n => if n ≤ 4096 then some n else none
  | none => none
/-- The entry of a list, without a signature. -/
def erL : List ByteArray → Option En
  | [a, b, c, d, e, f] => if a = wEntry ∧ e.size = 32 then (match num4 c, num4 d with
    | some w, some x => if eOk ⟨b, w, x, e.data.toList, f, ⟨#[]⟩⟩ = true then some ⟨b, w, x, e.data.toList, f, ⟨#[]⟩⟩ else none
    | _, _ => none) else none
  | _ => none
/-- The entry whose signed text this is. -/
def er (t : ByteArray) : Option En := if (al t).2 = 0 then erL (al t).1 else none
def wSigE (x : En) (g : ByteArray) : En := ⟨x.r, x.e, x.i, x.p, x.v, g⟩
def ePL : List ByteArray → Option En
  | [t, g] => (er t).map fun x => wSigE x g
  | _ => none
/-- The entry that bytes are. -/
def eP (s : ByteArray) : Option En := if (al s).2 = 0 then ePL (al s).1 else none
theorem eE_yes {x : En} (h : eOk x = true) : eE x = 0 := by unfold eE; rw [if_pos h]
theorem eE_no {x : En} (h : eOk x = false) : eE x = 2 := by unfold eE; rw [h]; rfl
theorem eT_yes {x : En} (h : eOk x = true) : eT x = mkS (encL (eL x)) := by unfold eT; rw [if_pos h]
theorem num4_some {s : ByteArray} {n : Nat} (h : num4 s = some n) : mkS (encN n) = s ∧ n ≤ 4096 := by
  unfold num4 at h
  split at h
  · rename_i m hm
    split at h
    · simp only [Option.some.injEq] at h; subst h
      exact ⟨(numOf_some hm).1, by assumption⟩
    · cases h
  · cases h
theorem er_some {t : ByteArray} {x : En} (h : er t = some x) : eOk x = true ∧ eT x = t ∧ x.g = ⟨#[]⟩ ∧ x.p.length = 32 := by
  unfold er at h
  split at h
  · rename_i h0
    obtain ⟨g3, -⟩ := al_again h0
    unfold erL at h
    split at h
    · rename_i a b c d e f hL
      split at h
      · rename_i hae
        split at h
        · rename_i w y e1 e2
          split at h
          · rename_i hok
            simp only [Option.some.injEq] at h
            subst h
            refine ⟨hok, ?_, rfl, by rw [size_toList]; exact hae.2⟩
            rw [eT_yes hok, ← g3, hL]
            have i1 := (num4_some e1).1; have i2 := (num4_some e2).1
            simp only [eL, Int.toNat_natCast]
            rw [i1, i2, mkS_of, ← hae.1]
          · cases h
        · cases h
      · cases h
    · cases h
  · cases h
end Go.Proofs.YtfenjincbhkodaaGreatDoor.En

namespace Go.Proofs.YtfenjincbhkodaaGreatDoor.Hd
set_option linter.unusedVariables false
set_option linter.unusedSimpArgs false
open Go.RowKit
open En (cnt num4 num4_some z32e)

/-- A head. -/
structure Hd where
  r : ByteArray
  e : Int
  i : Int
  p : List UInt8
  g : ByteArray
def Hd.row (x : Hd) : List Value := [.string x.r, .int .i64 x.e, .int .i64 x.i] ++ u8s x.p ++ [.string x.g]
structure Hd.ok (x : Hd) : Prop where
  r : x.r.size ≤ 140737488351232
  p : x.p.length = 32
  g : x.g.size ≤ 140737488351232
def zHd : Hd := ⟨⟨#[]⟩, 0, 0, z32e, ⟨#[]⟩⟩
theorem Hd.len {x : Hd} (h : x.p.length = 32) : x.row.length = 36 := by unfold Hd.row; simp [u8s_length, h]
theorem Hd.one (x : Hd) : ∀ u ∈ x.row, u.oneCell' = true := by
  intro u hu
  unfold Hd.row at hu
  simp only [List.mem_append, List.mem_cons, List.not_mem_nil, or_false] at hu
  rcases hu with ((rfl | rfl | rfl) | hu) | rfl
  · rfl
  · rfl
  · rfl
  · exact (List.all_eq_true.1 (by have := u8s_one x.p; rwa [List.all_toArray] at this)) u hu
  · rfl
theorem Hd.get0 (x : Hd) : x.row[0]? = some (.string x.r) := rfl
theorem Hd.get1 (x : Hd) : x.row[1]? = some (.int .i64 x.e) := rfl
theorem Hd.get2 (x : Hd) : x.row[2]? = some (.int .i64 x.i) := rfl
theorem Hd.get35 {x : Hd} (h : x.p.length = 32) : x.row[35]? = some (.string x.g) := by
  unfold Hd.row
  rw [List.getElem?_append_right (by simp [u8s_length, h])]; simp [u8s_length, h]
theorem Hd.set35 {x : Hd} (h : x.p.length = 32) (s : ByteArray) : x.row.set 35 (.string s) = (⟨x.r, x.e, x.i, x.p, s⟩ : Hd).row := by
  unfold Hd.row
  rw [List.append_assoc, List.set_append]; simp [u8s_length, h, List.set_append]
theorem Hd.mid (x : Hd) : x.row.drop 3 = u8s x.p ++ [.string x.g] := rfl
def wHead : ByteArray := ⟨#[104, 101, 97, 100]⟩
/-- A head is valid. -/
def jOk (x : Hd) : Bool := (who 2 x.r).isSome && cnt x.e && cnt x.i && decide (x.g.size ≤ 8192)
def jE (x : Hd) : Int := if jOk x = true then 0 else 2
def jL (x : Hd) : List ByteArray := [wHead, x.r, mkS (encN x.e.toNat), mkS (encN x.i.toNat), mkS x.p]
/-- A head's signed text. -/
def jT (x : Hd) : ByteArray := if jOk x = true then mkS (encL (jL x)) else ByteArray.empty
/-- The head of a list, without a signature. -/
def jrL : List ByteArray → Option Hd
  | [a, b, c, d, e] => if a = wHead ∧ e.size = 32 then (match num4 c, num4 d with
    | some w, some x => if jOk ⟨b, w, x, e.data.toList, ⟨#[]⟩⟩ = true then some ⟨b, w, x, e.data.toList, ⟨#[]⟩⟩ else none
    | _, _ => none) else none
  | _ => none
/-- The head whose signed text this is. -/
def jr (t : ByteArray) : Option Hd := if (al t).2 = 0 then jrL (al t).1 else none
def wSigJ (x : Hd) (g : ByteArray) : Hd := ⟨x.r, x.e, x.i, x.p, g⟩
def jPL : List ByteArray → Option Hd
  | [t, g] => (jr t).map fun x => wSigJ x g
  | _ => none
/-- The head that bytes are. -/
def jP (s : ByteArray) : Option Hd := if (al s).2 = 0 then jPL (al s).1 else none
theorem jE_yes {x : Hd} (h : jOk x = true) : jE x = 0 := by unfold jE; rw [if_pos h]
theorem jE_no {x : Hd} (h : jOk x = false) : jE x = 2 := by unfold jE; rw [h]; rfl
theorem jT_yes {x : Hd} (h : jOk x = true) : jT x = mkS (encL (jL x)) := by unfold jT; rw [if_pos h]
theorem jr_some {t : ByteArray} {x : Hd} (h : jr t = some x) : jOk x = true ∧ jT x = t ∧ x.g = ⟨#[]⟩ ∧ x.p.length = 32 := by
  unfold jr at h
  split at h
  · rename_i h0
    obtain ⟨g3, -⟩ := al_again h0
    unfold jrL at h
    split at h
    · rename_i a b c d e hL'
      split at h
      · rename_i hae
        split at h
        · rename_i w y e1 e2
          split at h
          · rename_i hok
            simp only [Option.some.injEq] at h
            subst h
            refine ⟨hok, ?_, rfl, by rw [size_toList]; exact hae.2⟩
            rw [jT_yes hok, ← g3, hL']
            have i1 := (num4_some e1).1; have i2 := (num4_some e2).1
            simp only [jL, Int.toNat_natCast]
            rw [i1, i2, mkS_of, ← hae.1]
          · cases h
        · cases h
      · cases h
    · cases h
  · cases h
end Go.Proofs.YtfenjincbhkodaaGreatDoor.Hd

namespace Go.Proofs.YtfenjincbhkodaaGreatDoor.Ho
set_option linter.unusedVariables false
set_option linter.unusedSimpArgs false
open Go.RowKit

/-- A deal. -/
structure De where
  k : Nat
  r : ByteArray
  e : Int
  i : Int
  h : Int
  n : Int
  g : ByteArray
def De.row (d : De) : List Value := [.int .u8 (d.k : Int), .string d.r, .int .i64 d.e, .int .i64 d.i, .int .i64 d.h, .int .i64 d.n, .string d.g]
def De.ok (d : De) : Prop := d.k < 256 ∧ d.r.size ≤ 140737488351232 ∧ d.g.size ≤ 140737488351232
def zD : De := ⟨0, ⟨#[]⟩, 0, 0, 0, 0, ⟨#[]⟩⟩
def hWords : List (List UInt8) := [[], [111, 102, 102, 101, 114], [97, 99, 99, 101, 112, 116]]
/-- A kind's word. -/
def dwd (k : Nat) : ByteArray := mkS (hWords.getD k [])
/-- The kind with a word, or 0. -/
def kOf (t : ByteArray) : Nat := if t = dwd 1 then 1 else if t = dwd 2 then 2 else 0
def prm (e i h n : Int) : Bool := decide ((0 ≤ e ∧ e ≤ 4096) ∧ (0 ≤ i ∧ i ≤ 4096) ∧ (0 ≤ h ∧ h ≤ 63) ∧ (0 ≤ n ∧ n ≤ 63))
/-- A deal is valid. -/
def dOk (d : De) : Bool := decide (1 ≤ d.k ∧ d.k ≤ 2) && (who 2 d.r).isSome && prm d.e d.i d.h d.n && decide (d.h ≠ d.n) && decide (d.g.size ≤ 8192)
def dE (d : De) : Int := if dOk d = true then 0 else 2
/-- The deal of a list, without a signature. -/
def rdL : List ByteArray → Option De
  | [a, b, c, d, e, f] => match numOf c, numOf d, numOf e, numOf f with
    | some w, some x, some y, some z => if dOk ⟨kOf a, b, w, x, y, z, ⟨#[]⟩⟩ = true then some ⟨kOf a, b, w, x, y, z, ⟨#[]⟩⟩ else none
    | _, _, _, _ => none
  | _ => none
/-- The deal whose signed text is this. -/
def rd (t : ByteArray) : Option De := if (al t).2 = 0 then rdL (al t).1 else none
def wSig (d : De) (g : ByteArray) : De := ⟨d.k, d.r, d.e, d.i, d.h, d.n, g⟩
def dPL : List ByteArray → Option De
  | [t, g] => (rd t).map fun d => wSig d g
  | _ => none
/-- The deal that bytes are. -/
def dP (s : ByteArray) : Option De := if (al s).2 = 0 then dPL (al s).1 else none
theorem dE_yes {d : De} (h : dOk d = true) : dE d = 0 := by unfold dE; rw [if_pos h]
theorem dE_no {d : De} (h : dOk d = false) : dE d = 2 := by unfold dE; rw [h]; rfl
theorem kOf_hw {k : Nat} (h : k = 1 ∨ k = 2) : kOf (dwd k) = k := by rcases h with rfl | rfl <;> decide
end Go.Proofs.YtfenjincbhkodaaGreatDoor.Ho
