/-
  Joined: EvM EvA EvB.
-/
import Derived.Test.YtiakfopdohcigaaGreatDoorIdAll
import Derived.Test.YtiakfopdohcigaaGreatDoorIdR
namespace Go.Proofs.YtiakfopdohcigaaGreatDoor
set_option linter.unusedVariables false
set_option linter.unusedSimpArgs false
open Go.RowKit

/-- An event. -/
structure Ev where
  room : ByteArray
  sender : ByteArray
  kind : Nat
  key : ByteArray
  body : ByteArray
  nonce : Int
def evWords : List (List UInt8) := [[], [99, 114, 101, 97, 116, 101], [109, 101, 109, 98, 101, 114], [112, 111, 119, 101, 114], [114, 117, 108, 101], [110, 97, 109, 101], [109, 101, 115, 115, 97, 103, 101], [114, 101, 100, 97, 99, 116], [104, 97, 110, 100, 111, 118, 101, 114]]
/-- A kind's word. -/
def word (k : Nat) : ByteArray := mkS (evWords.getD k [])
/-- The kind with a word, or 0. -/
def kindOf (t : ByteArray) : Nat := ((List.range 9).find? fun k => decide (1 ≤ k ∧ word k = t)).getD 0
def keyOk (k : Nat) (t : ByteArray) : Bool := if k = 2 then (who 1 t).isSome else decide (t.size = 0)
def evOk (e : Ev) : Bool := (who 2 e.room).isSome && (who 1 e.sender).isSome && decide (1 ≤ e.kind ∧ e.kind ≤ 8) && keyOk e.kind e.key && decide (e.body.size ≤ 512) && decide (0 ≤ e.nonce ∧ e.nonce ≤ 1099511627776)
def evL (e : Ev) : List ByteArray := [e.room, e.sender, word e.kind, e.key, e.body, mkS (encN e.nonce.toNat)]
def evB (e : Ev) : ByteArray := if evOk e = true then mkS (encL (evL e)) else ByteArray.empty
def evE (e : Ev) : Int := if evOk e = true then 0 else 2
/-- The number that the whole of a text is. -/
def numOf (f : ByteArray) : Option Nat := if (gn f.data.toList).2.2 = 0 ∧ (gn f.data.toList).2.1 = f.size then some (gn f.data.toList).1 else none
/-- The event of a list. -/
def evOf : List ByteArray → Option Ev
  | [a, b, c, d, e, f] => match numOf f with
    | some n => if evOk ⟨a, b, kindOf c, d, e, n⟩ = true then some ⟨a, b, kindOf c, d, e, n⟩ else none
    | none => none
  | _ => none
/-- The event that bytes are. -/
def evP (s : ByteArray) : Option Ev := if (al s).2 = 0 then evOf (al s).1 else none

theorem kindOf_word {k : Nat} (h1 : 1 ≤ k) (h2 : k ≤ 8) : kindOf (word k) = k := by
  have h : ∀ k : Fin 9, 1 ≤ k.val → kindOf (word k.val) = k.val := by decide +kernel
  exact h ⟨k, by omega⟩ h1
theorem word_kindOf {t : ByteArray} (h : 1 ≤ kindOf t) : word (kindOf t) = t ∧ kindOf t ≤ 8 := by
  unfold kindOf at h ⊢
  cases hf : (List.range 9).find? fun k => decide (1 ≤ k ∧ word k = t) with
  | none => rw [hf] at h; simp at h
  | some k =>
    have h1 := List.find?_some hf
    have h2 := List.mem_of_find?_eq_some hf
    simp at h1 h2
    exact ⟨h1.2, by simp; omega⟩
theorem word_size : ∀ k, (word k).size ≤ 8 := by
  intro k
  by_cases h : k ≤ 8
  · have : ∀ k : Fin 9, (word k.val).size ≤ 8 := by decide +kernel
    exact this ⟨k, by omega⟩
  · have : word k = mkS [] := by unfold word evWords; rw [List.getD_eq_getElem?_getD, List.getElem?_eq_none (by simp; omega)]; rfl
    rw [this, mkS_size]; simp
theorem evOk_parts {e : Ev} (h : evOk e = true) : (∃ n, who 2 e.room = some n) ∧ (∃ n, who 1 e.sender = some n) ∧ 1 ≤ e.kind ∧ e.kind ≤ 8 ∧ keyOk e.kind e.key = true ∧ e.body.size ≤ 512 ∧ 0 ≤ e.nonce ∧ e.nonce ≤ 1099511627776 := by
  unfold evOk at h
  simp only [Bool.and_eq_true, decide_eq_true_eq] at h
  obtain ⟨⟨⟨⟨⟨h1, h2⟩, h3⟩, h4⟩, h5⟩, h6⟩ := h
  exact ⟨Option.isSome_iff_exists.1 h1, Option.isSome_iff_exists.1 h2, h3.1, h3.2, h4, h5, h6.1, h6.2⟩
theorem keyOk_size {k : Nat} {t : ByteArray} (h : keyOk k t = true) : t.size ≤ 20 := by
  unfold keyOk at h
  split at h
  · obtain ⟨n, hn⟩ := Option.isSome_iff_exists.1 h; exact who_size hn
  · have := of_decide_eq_true h; omega
theorem evL_ok {e : Ev} (h : evOk e = true) : okL (evL e) := by
  obtain ⟨⟨n1, h1⟩, ⟨n2, h2⟩, h3, h4, h5, h6, h7, h8⟩ := evOk_parts h
  refine ⟨by simp [evL], fun s hs => ?_⟩
  have g1 := who_size h1; have g2 := who_size h2; have g3 := word_size e.kind; have g4 := keyOk_size h5
  have g5 : (encN e.nonce.toNat).length ≤ 10 := encN_len64 _ (by omega)
  simp only [evL, List.mem_cons, List.not_mem_nil, or_false] at hs
  rcases hs with rfl | rfl | rfl | rfl | rfl | rfl
  · omega
  · omega
  · omega
  · omega
  · omega
  · rw [mkS_size]; omega
theorem numOf_back (n : Nat) (h : n ≤ 281474976710656) : numOf (mkS (encN n)) = some n := by
  have := gn_back n [] h
  rw [List.append_nil] at this
  unfold numOf
  rw [mkS_data, this, mkS_size]; simp
theorem numOf_some {f : ByteArray} {n : Nat} (h : numOf f = some n) : mkS (encN n) = f ∧ n ≤ 281474976710656 := by
  unfold numOf at h
  split at h
  · rename_i hh
    simp only [Option.some.injEq] at h
    obtain ⟨⟨m, j, e⟩, hr⟩ : ∃ r, gn f.data.toList = r := ⟨_, rfl⟩
    rw [hr] at hh h
    simp only at hh h
    obtain ⟨rfl, rfl⟩ := hh
    subst h
    obtain ⟨g1, g2, g3⟩ := gn_again _ _ _ hr
    refine ⟨?_, g2⟩
    rw [g1, List.take_of_length_le (by simp), mkS_of]
  · cases h
theorem al_back (ss : List ByteArray) (h : okL ss) : al (mkS (encL ss)) = (ss, 0) := by
  have := gl_back ss h []
  rw [List.append_nil] at this
  unfold al
  rw [this]
  simp [mkS_size]
theorem al_again {s : ByteArray} (h : (al s).2 = 0) : mkS (encL (al s).1) = s ∧ okL (al s).1 := by
  obtain ⟨⟨L, j, e⟩, hr⟩ : ∃ r, gl s = r := ⟨_, rfl⟩
  unfold al at h ⊢
  rw [hr] at h ⊢
  simp only at h ⊢
  by_cases he : e = 0
  · subst he
    simp only [ne_eq, not_true_eq_false, if_false] at h ⊢
    obtain ⟨g1, g2, g3⟩ := gl_again _ _ _ hr
    by_cases hj : j < s.size
    · rw [if_pos hj] at h; simp at h
    · rw [if_neg hj] at h ⊢
      refine ⟨?_, g2⟩
      simp only
      rw [g1, List.take_of_length_le (by simp; omega), mkS_of]
  · rw [if_pos he] at h; simp at h; omega
theorem evP_back {e : Ev} (h : evOk e = true) : evP (evB e) = some e := by
  have hok := evL_ok h
  obtain ⟨-, -, h3, h4, -, -, h7, h8⟩ := evOk_parts h
  unfold evB evP
  rw [if_pos h, al_back _ hok]
  simp only [if_true, evL, evOf]
  rw [numOf_back _ (by omega), kindOf_word h3 h4]
  simp only [Int.toNat_of_nonneg h7]
  exact if_pos h
theorem evOf_some {L : List ByteArray} {e : Ev} (h : evOf L = some e) : evOk e = true ∧ evL e = L := by
  unfold evOf at h
  split at h
  · split at h
    · rename_i a b c d b' f n hn
      split at h
      · rename_i hok
        simp only [Option.some.injEq] at h
        subst h
        obtain ⟨-, -, h3, h4, -⟩ := evOk_parts hok
        have := (word_kindOf h3).1
        have h2 := (numOf_some hn).1
        refine ⟨hok, ?_⟩
        simp only [evL, Int.toNat_natCast]
        rw [this, h2]
      · cases h
    · cases h
  · cases h
theorem evP_some {s : ByteArray} {e : Ev} (h : evP s = some e) : evOk e = true ∧ evB e = s := by
  unfold evP at h
  split at h
  · rename_i h0
    obtain ⟨g1, g2⟩ := evOf_some h
    obtain ⟨g3, -⟩ := al_again h0
    refine ⟨g1, ?_⟩
    unfold evB
    rw [if_pos g1, g2, g3]
  · cases h
end Go.Proofs.YtiakfopdohcigaaGreatDoor

namespace Go.Proofs.YtiakfopdohcigaaGreatDoor
set_option maxRecDepth 100000
set_option linter.unusedVariables false
set_option linter.unusedSimpArgs false
open Go.RowKit

def kindB (k : Nat) : Bool := decide (1 ≤ k ∧ k ≤ 8)
theorem kindB_yes {k : Nat} (h : 1 ≤ k ∧ k ≤ 8) : kindB k = true := decide_eq_true h
theorem kindB_no {k : Nat} (h : ¬ (1 ≤ k ∧ k ≤ 8)) : kindB k = false := decide_eq_false h
set_option maxHeartbeats 4000000 in
theorem isKind_any (w : World) (k : Nat) (hk : k < 256) :
    Calls Tryz.prog 123 #[.int .u8 (k : Int)] w fun e w' => e = .returned (.bool (kindB k)) ∧ w' = w := by
  by_cases h0 : k = 0
  · have e0 : decide ((0 : Int) < (k : Int)) = false := by simp; omega
    have n0 : ¬ 0 < k := by omega
    have HF := hidp (kindB_no (k := k) (by omega))
    clear h0
    go_enter Tryz.func123, Tryz.ntmps123
    go_wp2
    go_ret
    exact ⟨by rw [HF.out]; rfl, rfl⟩
  · have e0 : decide ((0 : Int) < (k : Int)) = true := by simp; omega
    have n0 : 0 < k := by omega
    by_cases h9 : k < 9
    · have e1 : decide ((k : Int) < 9) = true := by simp; omega
      have n1 : (k : Int) < 9 := by omega
      have HF := hidp (kindB_yes (k := k) (by omega))
      clear h0 h9
      go_enter Tryz.func123, Tryz.ntmps123
      go_wp2
      go_ret
      exact ⟨by rw [HF.out]; rfl, rfl⟩
    · have e1 : decide ((k : Int) < 9) = false := by simp; omega
      have n1 : ¬ (k : Int) < 9 := by omega
      have HF := hidp (kindB_no (k := k) (by omega))
      clear h0 h9
      go_enter Tryz.func123, Tryz.ntmps123
      go_wp2
      go_ret
      exact ⟨by rw [HF.out]; rfl, rfl⟩
theorem word_out {k : Nat} (h : ¬ (1 ≤ k ∧ k ≤ 8)) : word k = ⟨#[]⟩ := by
  by_cases h0 : k = 0
  · subst h0; rfl
  · unfold word evWords; rw [List.getD_eq_getElem?_getD, List.getElem?_eq_none (by simp; omega)]; rfl
/-- A state kind. -/
def stB (k : Nat) : Bool := decide (1 ≤ k ∧ k ≤ 8) && decide (k ≠ 6) && decide (k ≠ 7)
set_option maxHeartbeats 4000000 in
theorem state_any (w : World) (k : Nat) (hk : k < 256) :
    Calls Tryz.prog 135 #[.int .u8 (k : Int)] w fun e w' => e = .returned (.bool (stB k)) ∧ w' = w := by
  have C := hidp (fun W => isKind_any W k hk)
  by_cases h : 1 ≤ k ∧ k ≤ 8
  · rw [kindB_yes h] at C
    by_cases h6 : k = 6
    · have e0 : ((k : Int) != 6) = false := by rw [h6]; rfl
      have HF := hidp (show stB k = false from by rw [h6]; rfl)
      clear h h6
      go_enter Tryz.func135, Tryz.ntmps135
      go_wp2_with (go_at_call 123; (refine (C.out _).mono ?_); rintro e w' ⟨rfl, rfl⟩)
      go_ret
      exact ⟨by rw [HF.out]; rfl, rfl⟩
    · have e0 : ((k : Int) != 6) = true := by simp; omega
      have n0 : ¬ k = 6 := h6
      by_cases h7 : k = 7
      · have e1 : ((k : Int) != 7) = false := by rw [h7]; rfl
        have HF := hidp (show stB k = false from by rw [h7]; rfl)
        clear h h6 h7
        go_enter Tryz.func135, Tryz.ntmps135
        go_wp2_with (go_at_call 123; (refine (C.out _).mono ?_); rintro e w' ⟨rfl, rfl⟩)
        go_ret
        exact ⟨by rw [HF.out]; rfl, rfl⟩
      · have e1 : ((k : Int) != 7) = true := by simp; omega
        have n1 : ¬ k = 7 := h7
        have HF := hidp (show stB k = true from by unfold stB; rw [decide_eq_true h, decide_eq_true h6, decide_eq_true h7]; rfl)
        clear h h6 h7
        go_enter Tryz.func135, Tryz.ntmps135
        go_wp2_with (go_at_call 123; (refine (C.out _).mono ?_); rintro e w' ⟨rfl, rfl⟩)
        go_ret
        exact ⟨by rw [HF.out]; rfl, rfl⟩
  · have HF := hidp (show stB k = false from by unfold stB; rw [decide_eq_false h]; rfl)
    rw [kindB_no h] at C
    clear h
    go_enter Tryz.func135, Tryz.ntmps135
    go_wp2_with (go_at_call 123; (refine (C.out _).mono ?_); rintro e w' ⟨rfl, rfl⟩)
    go_ret
    exact ⟨by rw [HF.out]; rfl, rfl⟩
theorem kindOf_eq {t : ByteArray} {k : Nat} (h1 : 1 ≤ k) (h2 : k ≤ 8) (h : word k = t) : kindOf t = k := by rw [← h]; exact kindOf_word h1 h2
theorem kindOf_none {t : ByteArray} (h : ∀ k, 1 ≤ k → k ≤ 8 → word k ≠ t) : kindOf t = 0 := by
  by_cases h0 : kindOf t = 0
  · exact h0
  · obtain ⟨h1, h2⟩ := word_kindOf (t := t) (by omega)
    exact absurd h1 (h _ (by omega) h2)
end Go.Proofs.YtiakfopdohcigaaGreatDoor

namespace Go.Proofs.YtiakfopdohcigaaGreatDoor
set_option maxRecDepth 100000
set_option linter.unusedVariables false
set_option linter.unusedSimpArgs false
open Go.RowKit

theorem empty_facts {y : ByteArray} (h : y.size = 0) : y.toList = [] ∧ y.toList.isEmpty = true ∧ (y.toList == (⟨#[]⟩ : ByteArray).toList) = true := by
  have h1 : y.toList = [] := by rw [ByteArray.toList_eq]; exact List.eq_nil_of_length_eq_zero ((size_toList y).trans h)
  exact ⟨h1, by rw [h1]; rfl, by rw [h1, ByteArray.toList_eq]; rfl⟩
theorem full_facts {y : ByteArray} (h : ¬ y.size = 0) : ¬ y.toList = [] ∧ y.toList.isEmpty = false ∧ (y.toList == (⟨#[]⟩ : ByteArray).toList) = false := by
  have h1 : ¬ y.toList = [] := fun e => h (by rw [← size_toList, ← ByteArray.toList_eq, e]; rfl)
  refine ⟨h1, ?_, toList_no (fun e => h (by rw [e]; rfl))⟩
  cases hq : y.toList with
  | nil => exact absurd hq h1
  | cons a r => rfl

theorem arr6 {w : World} {b T : Nat} {x0 x1 x2 x3 x4 x5 : Value} (h : Arr w b T [x0, x1, x2, x3, x4, x5]) : w.cell? ⟨b, 0, none⟩ = some x0 ∧ w.cell? ⟨b, 1, none⟩ = some x1 ∧ w.cell? ⟨b, 2, none⟩ = some x2 ∧ w.cell? ⟨b, 3, none⟩ = some x3 ∧ w.cell? ⟨b, 4, none⟩ = some x4 ∧ w.cell? ⟨b, 5, none⟩ = some x5 :=
  ⟨h.cell 0 (by simp), h.cell 1 (by simp), h.cell 2 (by simp), h.cell 3 (by simp), h.cell 4 (by simp), h.cell 5 (by simp)⟩
set_option maxHeartbeats 4000000 in
theorem validKey_any (w : World) (r s : ByteArray) (k : Nat) (y b : ByteArray) (n : Int) (hk : k < 256) (hr : r.size ≤ 281474976710656) (hs : s.size ≤ 281474976710656) (hy : y.size ≤ 281474976710656) (hI : IT w) :
    Calls Tryz.prog 124 #[.agg #[.string r, .string s, .int .u8 (k : Int), .string y, .string b, .int .i64 n]] w fun e w' => e = .returned (.bool (keyOk k y)) ∧ Below w.heap.size w w' := by
  have HX := hidp ((Below.refl w.heap.size w).alloc (Nat.le_refl _) (.cells #[.string r, .string s, .int .u8 (k : Int), .string y, .string b, .int .i64 n] 25))
  have C := hidp (fun W (h : IT W) => user_any W y hy h)
  have HI := hidp hI; clear hI
  by_cases h2 : k = 2
  · have e0 : ((k : Int) != 2) = false := by rw [h2]; rfl
    cases hw : who 1 y with
    | none =>
      have HF := hidp (show keyOk k y = false from by unfold keyOk; rw [if_pos h2, hw]; rfl)
      rw [hw] at C
      unfold whoV at C
      clear h2 hw
      go_enter Tryz.func124, Tryz.ntmps124
      go_wp2_with (go_at_call 98; (refine (C.out _ (HI.out.below HX.out (Nat.le_refl _))).mono ?_); rintro e w1 ⟨rfl, hb1⟩; have HB1 := hidp (HX.out.trans (hb1.mono HX.out.size)); clear hb1)
      go_ret
      exact ⟨by rw [HF.out]; rfl, HB1.out⟩
    | some m =>
      have HF := hidp (show keyOk k y = true from by unfold keyOk; rw [if_pos h2, hw]; rfl)
      rw [hw] at C
      unfold whoV at C
      clear h2 hw
      go_enter Tryz.func124, Tryz.ntmps124
      go_wp2_with (go_at_call 98; (refine (C.out _ (HI.out.below HX.out (Nat.le_refl _))).mono ?_); rintro e w1 ⟨rfl, hb1⟩; have HB1 := hidp (HX.out.trans (hb1.mono HX.out.size)); clear hb1)
      go_ret
      exact ⟨by rw [HF.out]; rfl, HB1.out⟩
  · have e0 : ((k : Int) != 2) = true := by simp; omega
    have n0 : ¬ k = 2 := h2
    by_cases h0 : y.size = 0
    · obtain ⟨f1, f2, f3⟩ := empty_facts h0
      have HF := hidp (show keyOk k y = true from by unfold keyOk; rw [if_neg h2]; exact decide_eq_true h0)
      clear h2 h0
      go_enter Tryz.func124, Tryz.ntmps124
      go_wp2_with fail
      go_ret
      exact ⟨by rw [HF.out]; rfl, HX.out⟩
    · obtain ⟨f1, f2, f3⟩ := full_facts h0
      have HF := hidp (show keyOk k y = false from by unfold keyOk; rw [if_neg h2]; exact decide_eq_false h0)
      clear h2 h0
      go_enter Tryz.func124, Tryz.ntmps124
      go_wp2_with fail
      go_ret
      exact ⟨by rw [HF.out]; rfl, HX.out⟩

theorem whoV_form' (o : Option Nat) : ∃ a b, whoV o = .tuple #[.int .i64 a, .bool b] := by cases o with
  | none => exact ⟨_, _, rfl⟩
  | some n => exact ⟨_, _, rfl⟩
def numV : Option Nat → Value
  | some n => .tuple #[.int .i64 (n : Int), .int .i64 0]
  | none => .tuple #[.int .i64 0, .int .i64 6]
set_option maxHeartbeats 8000000 in
theorem evCheck_any (w : World) (r s : ByteArray) (k : Nat) (y b : ByteArray) (n : Int) (hk : k < 256) (hr : r.size ≤ 281474976710656) (hs : s.size ≤ 281474976710656) (hy : y.size ≤ 281474976710656) (hb : b.size ≤ 281474976710656) (hI : IT w) :
    Calls Tryz.prog 84 #[.agg #[.string r, .string s, .int .u8 (k : Int), .string y, .string b, .int .i64 n]] w fun e w' => e = .returned (.int .i64 (evE (⟨r, s, k, y, b, n⟩ : Ev))) ∧ Below w.heap.size w w' := by
  have c1 := hidp (fun W (h : IT W) => room_any W r hr h)
  have c2 := hidp (fun W (h : IT W) => user_any W s hs h)
  have c3 := hidp (fun W => isKind_any W k hk)
  have c4 := hidp (fun W (h : IT W) => validKey_any W r s k y b n hk hr hs hy h)
  have HI := hidp hI; clear hI
  obtain ⟨E, hE⟩ : ∃ E, evE (⟨r, s, k, y, b, n⟩ : Ev) = E := ⟨_, rfl⟩
  have HE := hidp hE
  rw [hE]
  clear hE
  unfold evE evOk at HE
  simp only at HE
  cases h1 : who 2 r with
  | none =>
    rw [h1] at c1 HE
    obtain ⟨a2, b2, h2⟩ := whoV_form' (who 1 s)
    rw [h2] at c2
    unfold whoV at c1
    have HF := hidp (show E = 2 from by have := HE.out; simp at this; exact this.symm)
    clear h1 h2 HE
    go_enter Tryz.func84, Tryz.ntmps84
    go_wp2_with fail
    have HX := hidp ((Below.refl w.heap.size w).alloc (Nat.le_refl _) (.cells #[.string r, .string s, .int .u8 (k : Int), .string y, .string b, .int .i64 n] 25)); have HA := hidp (Arr.new w 25 [.string r, .string s, .int .u8 (k : Int), .string y, .string b, .int .i64 n])
    obtain ⟨bd, hbd⟩ : ∃ b, w.heap.size = b := ⟨_, rfl⟩
    have hge : w.heap.size ≤ bd := by omega
    generalize hW : (w.alloc (.cells #[.string r, .string s, .int .u8 (k : Int), .string y, .string b, .int .i64 n] 25)) = W0 at HX HA ⊢
    rw [hbd] at HA ⊢
    rw [← hbd]
    clear hW
    refine (c1.out _ (HI.out.below HX.out (Nat.le_refl _))).mono ?_
    rintro e w1 ⟨rfl, hb1⟩
    have HB1 := hidp (HX.out.trans (hb1.mono HX.out.size)); have HA1 := hidp (HA.out.below hb1 HA.out.lt)
    clear hb1
    obtain ⟨x0, x1, x2, x3, x4, x5⟩ := arr6 HA1.out
    go_wp2_with fail
    clear x0 x1 x2 x3 x4 x5
    refine (c2.out _ (HI.out.below HB1.out (Nat.le_refl _))).mono ?_
    rintro e w2 ⟨rfl, hb2⟩
    have HB2 := hidp (HB1.out.trans (hb2.mono HB1.out.size)); have HA2 := hidp (HA1.out.below hb2 HA1.out.lt)
    clear hb2
    obtain ⟨x0, x1, x2, x3, x4, x5⟩ := arr6 HA2.out
    go_wp2_with fail
    go_ret
    exact ⟨by rw [HF.out]; rfl, HB2.out⟩
  | some m1 =>
    rw [h1] at c1 HE
    unfold whoV at c1
    clear h1
    cases h2 : who 1 s with
    | none =>
      rw [h2] at c2 HE
      unfold whoV at c2
      have HF := hidp (show E = 2 from by have := HE.out; simp at this; exact this.symm)
      clear h2 HE
      go_enter Tryz.func84, Tryz.ntmps84
      go_wp2_with fail
      have HX := hidp ((Below.refl w.heap.size w).alloc (Nat.le_refl _) (.cells #[.string r, .string s, .int .u8 (k : Int), .string y, .string b, .int .i64 n] 25)); have HA := hidp (Arr.new w 25 [.string r, .string s, .int .u8 (k : Int), .string y, .string b, .int .i64 n])
      obtain ⟨bd, hbd⟩ : ∃ b, w.heap.size = b := ⟨_, rfl⟩
      have hge : w.heap.size ≤ bd := by omega
      generalize hW : (w.alloc (.cells #[.string r, .string s, .int .u8 (k : Int), .string y, .string b, .int .i64 n] 25)) = W0 at HX HA ⊢
      rw [hbd] at HA ⊢
      rw [← hbd]
      clear hW
      refine (c1.out _ (HI.out.below HX.out (Nat.le_refl _))).mono ?_
      rintro e w1 ⟨rfl, hb1⟩
      have HB1 := hidp (HX.out.trans (hb1.mono HX.out.size)); have HA1 := hidp (HA.out.below hb1 HA.out.lt)
      clear hb1
      obtain ⟨x0, x1, x2, x3, x4, x5⟩ := arr6 HA1.out
      go_wp2_with fail
      clear x0 x1 x2 x3 x4 x5
      refine (c2.out _ (HI.out.below HB1.out (Nat.le_refl _))).mono ?_
      rintro e w2 ⟨rfl, hb2⟩
      have HB2 := hidp (HB1.out.trans (hb2.mono HB1.out.size)); have HA2 := hidp (HA1.out.below hb2 HA1.out.lt)
      clear hb2
      obtain ⟨x0, x1, x2, x3, x4, x5⟩ := arr6 HA2.out
      go_wp2_with fail
      go_ret
      exact ⟨by rw [HF.out]; rfl, HB2.out⟩
    | some m2 =>
      rw [h2] at c2 HE
      unfold whoV at c2
      clear h2
      by_cases h3 : 1 ≤ k ∧ k ≤ 8
      · rw [kindB_yes h3] at c3
        rw [decide_eq_true h3] at HE
        cases h4 : keyOk k y with
        | false =>
          rw [h4] at c4 HE
          have HF := hidp (show E = 2 from by have := HE.out; simp at this; exact this.symm)
          clear h3 h4 HE
          go_enter Tryz.func84, Tryz.ntmps84
          go_wp2_with fail
          have HX := hidp ((Below.refl w.heap.size w).alloc (Nat.le_refl _) (.cells #[.string r, .string s, .int .u8 (k : Int), .string y, .string b, .int .i64 n] 25)); have HA := hidp (Arr.new w 25 [.string r, .string s, .int .u8 (k : Int), .string y, .string b, .int .i64 n])
          obtain ⟨bd, hbd⟩ : ∃ b, w.heap.size = b := ⟨_, rfl⟩
          have hge : w.heap.size ≤ bd := by omega
          generalize hW : (w.alloc (.cells #[.string r, .string s, .int .u8 (k : Int), .string y, .string b, .int .i64 n] 25)) = W0 at HX HA ⊢
          rw [hbd] at HA ⊢
          rw [← hbd]
          clear hW
          refine (c1.out _ (HI.out.below HX.out (Nat.le_refl _))).mono ?_
          rintro e w1 ⟨rfl, hb1⟩
          have HB1 := hidp (HX.out.trans (hb1.mono HX.out.size)); have HA1 := hidp (HA.out.below hb1 HA.out.lt)
          clear hb1
          obtain ⟨x0, x1, x2, x3, x4, x5⟩ := arr6 HA1.out
          go_wp2_with fail
          clear x0 x1 x2 x3 x4 x5
          refine (c2.out _ (HI.out.below HB1.out (Nat.le_refl _))).mono ?_
          rintro e w2 ⟨rfl, hb2⟩
          have HB2 := hidp (HB1.out.trans (hb2.mono HB1.out.size)); have HA2 := hidp (HA1.out.below hb2 HA1.out.lt)
          clear hb2
          obtain ⟨x0, x1, x2, x3, x4, x5⟩ := arr6 HA2.out
          go_wp2_with (first
            | (go_at_call 123; (refine (c3.out _).mono ?_); rintro e w3 ⟨rfl, rfl⟩)
            | (go_at_call 124; (refine (c4.out _ (HI.out.below HB2.out (Nat.le_refl _))).mono ?_); rintro e w4 ⟨rfl, hb4⟩; have HB4 := hidp (HB2.out.trans (hb4.mono HB2.out.size)); have HA4 := hidp (HA2.out.below hb4 HA2.out.lt); clear hb4; clear x0 x1 x2 x3 x4 x5; obtain ⟨x0, x1, x2, x3, x4, x5⟩ := arr6 HA4.out))
          go_ret
          exact ⟨by rw [HF.out]; rfl, HB4.out⟩
        | true =>
          rw [h4] at c4 HE
          clear h4
          by_cases h5 : 512 < b.size
          · have e5 : decide ((512 : Int) < (b.size : Int)) = true := by simp; omega
            have n5 : (512 : Int) < (b.size : Int) := by omega
            rw [decide_eq_false (show ¬ b.size ≤ 512 from by omega)] at HE
            have HF := hidp (show E = 2 from by have := HE.out; simp at this; exact this.symm)
            clear h3 h5 HE
            go_enter Tryz.func84, Tryz.ntmps84
            go_wp2_with fail
            have HX := hidp ((Below.refl w.heap.size w).alloc (Nat.le_refl _) (.cells #[.string r, .string s, .int .u8 (k : Int), .string y, .string b, .int .i64 n] 25)); have HA := hidp (Arr.new w 25 [.string r, .string s, .int .u8 (k : Int), .string y, .string b, .int .i64 n])
            obtain ⟨bd, hbd⟩ : ∃ b, w.heap.size = b := ⟨_, rfl⟩
            have hge : w.heap.size ≤ bd := by omega
            generalize hW : (w.alloc (.cells #[.string r, .string s, .int .u8 (k : Int), .string y, .string b, .int .i64 n] 25)) = W0 at HX HA ⊢
            rw [hbd] at HA ⊢
            rw [← hbd]
            clear hW
            refine (c1.out _ (HI.out.below HX.out (Nat.le_refl _))).mono ?_
            rintro e w1 ⟨rfl, hb1⟩
            have HB1 := hidp (HX.out.trans (hb1.mono HX.out.size)); have HA1 := hidp (HA.out.below hb1 HA.out.lt)
            clear hb1
            obtain ⟨x0, x1, x2, x3, x4, x5⟩ := arr6 HA1.out
            go_wp2_with fail
            clear x0 x1 x2 x3 x4 x5
            refine (c2.out _ (HI.out.below HB1.out (Nat.le_refl _))).mono ?_
            rintro e w2 ⟨rfl, hb2⟩
            have HB2 := hidp (HB1.out.trans (hb2.mono HB1.out.size)); have HA2 := hidp (HA1.out.below hb2 HA1.out.lt)
            clear hb2
            obtain ⟨x0, x1, x2, x3, x4, x5⟩ := arr6 HA2.out
            go_wp2_with (first
              | (go_at_call 123; (refine (c3.out _).mono ?_); rintro e w3 ⟨rfl, rfl⟩)
              | (go_at_call 124; (refine (c4.out _ (HI.out.below HB2.out (Nat.le_refl _))).mono ?_); rintro e w4 ⟨rfl, hb4⟩; have HB4 := hidp (HB2.out.trans (hb4.mono HB2.out.size)); have HA4 := hidp (HA2.out.below hb4 HA2.out.lt); clear hb4; clear x0 x1 x2 x3 x4 x5; obtain ⟨x0, x1, x2, x3, x4, x5⟩ := arr6 HA4.out))
            go_ret
            exact ⟨by rw [HF.out]; rfl, HB4.out⟩
          · have e5 : decide ((512 : Int) < (b.size : Int)) = false := by simp; omega
            have n5 : ¬ (512 : Int) < (b.size : Int) := by omega
            rw [decide_eq_true (show b.size ≤ 512 from by omega)] at HE
            by_cases h6 : n < 0
            · have e6 : decide (n < 0) = true := by simp; omega
              rw [decide_eq_false (show ¬ (0 ≤ n ∧ n ≤ 1099511627776) from by omega)] at HE
              have HF := hidp (show E = 2 from by have := HE.out; simp at this; exact this.symm)
              clear h3 h5 HE
              go_enter Tryz.func84, Tryz.ntmps84
              go_wp2_with fail
              have HX := hidp ((Below.refl w.heap.size w).alloc (Nat.le_refl _) (.cells #[.string r, .string s, .int .u8 (k : Int), .string y, .string b, .int .i64 n] 25)); have HA := hidp (Arr.new w 25 [.string r, .string s, .int .u8 (k : Int), .string y, .string b, .int .i64 n])
              obtain ⟨bd, hbd⟩ : ∃ b, w.heap.size = b := ⟨_, rfl⟩
              have hge : w.heap.size ≤ bd := by omega
              generalize hW : (w.alloc (.cells #[.string r, .string s, .int .u8 (k : Int), .string y, .string b, .int .i64 n] 25)) = W0 at HX HA ⊢
              rw [hbd] at HA ⊢
              rw [← hbd]
              clear hW
              refine (c1.out _ (HI.out.below HX.out (Nat.le_refl _))).mono ?_
              rintro e w1 ⟨rfl, hb1⟩
              have HB1 := hidp (HX.out.trans (hb1.mono HX.out.size)); have HA1 := hidp (HA.out.below hb1 HA.out.lt)
              clear hb1
              obtain ⟨x0, x1, x2, x3, x4, x5⟩ := arr6 HA1.out
              go_wp2_with fail
              clear x0 x1 x2 x3 x4 x5
              refine (c2.out _ (HI.out.below HB1.out (Nat.le_refl _))).mono ?_
              rintro e w2 ⟨rfl, hb2⟩
              have HB2 := hidp (HB1.out.trans (hb2.mono HB1.out.size)); have HA2 := hidp (HA1.out.below hb2 HA1.out.lt)
              clear hb2
              obtain ⟨x0, x1, x2, x3, x4, x5⟩ := arr6 HA2.out
              go_wp2_with (first
                | (go_at_call 123; (refine (c3.out _).mono ?_); rintro e w3 ⟨rfl, rfl⟩)
                | (go_at_call 124; (refine (c4.out _ (HI.out.below HB2.out (Nat.le_refl _))).mono ?_); rintro e w4 ⟨rfl, hb4⟩; have HB4 := hidp (HB2.out.trans (hb4.mono HB2.out.size)); have HA4 := hidp (HA2.out.below hb4 HA2.out.lt); clear hb4; clear x0 x1 x2 x3 x4 x5; obtain ⟨x0, x1, x2, x3, x4, x5⟩ := arr6 HA4.out))
              go_ret
              exact ⟨by rw [HF.out]; rfl, HB4.out⟩
            · have e6 : decide (n < 0) = false := by simp; omega
              by_cases h7 : 1099511627776 < n
              · have e7 : decide (1099511627776 < n) = true := by simp; omega
                rw [decide_eq_false (show ¬ (0 ≤ n ∧ n ≤ 1099511627776) from by omega)] at HE
                have HF := hidp (show E = 2 from by have := HE.out; simp at this; exact this.symm)
                clear h3 h5 h6 HE
                go_enter Tryz.func84, Tryz.ntmps84
                go_wp2_with fail
                have HX := hidp ((Below.refl w.heap.size w).alloc (Nat.le_refl _) (.cells #[.string r, .string s, .int .u8 (k : Int), .string y, .string b, .int .i64 n] 25)); have HA := hidp (Arr.new w 25 [.string r, .string s, .int .u8 (k : Int), .string y, .string b, .int .i64 n])
                obtain ⟨bd, hbd⟩ : ∃ b, w.heap.size = b := ⟨_, rfl⟩
                have hge : w.heap.size ≤ bd := by omega
                generalize hW : (w.alloc (.cells #[.string r, .string s, .int .u8 (k : Int), .string y, .string b, .int .i64 n] 25)) = W0 at HX HA ⊢
                rw [hbd] at HA ⊢
                rw [← hbd]
                clear hW
                refine (c1.out _ (HI.out.below HX.out (Nat.le_refl _))).mono ?_
                rintro e w1 ⟨rfl, hb1⟩
                have HB1 := hidp (HX.out.trans (hb1.mono HX.out.size)); have HA1 := hidp (HA.out.below hb1 HA.out.lt)
                clear hb1
                obtain ⟨x0, x1, x2, x3, x4, x5⟩ := arr6 HA1.out
                go_wp2_with fail
                clear x0 x1 x2 x3 x4 x5
                refine (c2.out _ (HI.out.below HB1.out (Nat.le_refl _))).mono ?_
                rintro e w2 ⟨rfl, hb2⟩
                have HB2 := hidp (HB1.out.trans (hb2.mono HB1.out.size)); have HA2 := hidp (HA1.out.below hb2 HA1.out.lt)
                clear hb2
                obtain ⟨x0, x1, x2, x3, x4, x5⟩ := arr6 HA2.out
                go_wp2_with (first
                  | (go_at_call 123; (refine (c3.out _).mono ?_); rintro e w3 ⟨rfl, rfl⟩)
                  | (go_at_call 124; (refine (c4.out _ (HI.out.below HB2.out (Nat.le_refl _))).mono ?_); rintro e w4 ⟨rfl, hb4⟩; have HB4 := hidp (HB2.out.trans (hb4.mono HB2.out.size)); have HA4 := hidp (HA2.out.below hb4 HA2.out.lt); clear hb4; clear x0 x1 x2 x3 x4 x5; obtain ⟨x0, x1, x2, x3, x4, x5⟩ := arr6 HA4.out))
                go_ret
                exact ⟨by rw [HF.out]; rfl, HB4.out⟩
              · have e7 : decide (1099511627776 < n) = false := by simp; omega
                rw [decide_eq_true (show (0 ≤ n ∧ n ≤ 1099511627776) from by omega)] at HE
                have HF := hidp (show E = 0 from by have := HE.out; simp at this; exact this.symm)
                clear h3 h5 h6 HE
                go_enter Tryz.func84, Tryz.ntmps84
                go_wp2_with fail
                have HX := hidp ((Below.refl w.heap.size w).alloc (Nat.le_refl _) (.cells #[.string r, .string s, .int .u8 (k : Int), .string y, .string b, .int .i64 n] 25)); have HA := hidp (Arr.new w 25 [.string r, .string s, .int .u8 (k : Int), .string y, .string b, .int .i64 n])
                obtain ⟨bd, hbd⟩ : ∃ b, w.heap.size = b := ⟨_, rfl⟩
                have hge : w.heap.size ≤ bd := by omega
                generalize hW : (w.alloc (.cells #[.string r, .string s, .int .u8 (k : Int), .string y, .string b, .int .i64 n] 25)) = W0 at HX HA ⊢
                rw [hbd] at HA ⊢
                rw [← hbd]
                clear hW
                refine (c1.out _ (HI.out.below HX.out (Nat.le_refl _))).mono ?_
                rintro e w1 ⟨rfl, hb1⟩
                have HB1 := hidp (HX.out.trans (hb1.mono HX.out.size)); have HA1 := hidp (HA.out.below hb1 HA.out.lt)
                clear hb1
                obtain ⟨x0, x1, x2, x3, x4, x5⟩ := arr6 HA1.out
                go_wp2_with fail
                clear x0 x1 x2 x3 x4 x5
                refine (c2.out _ (HI.out.below HB1.out (Nat.le_refl _))).mono ?_
                rintro e w2 ⟨rfl, hb2⟩
                have HB2 := hidp (HB1.out.trans (hb2.mono HB1.out.size)); have HA2 := hidp (HA1.out.below hb2 HA1.out.lt)
                clear hb2
                obtain ⟨x0, x1, x2, x3, x4, x5⟩ := arr6 HA2.out
                go_wp2_with (first
                  | (go_at_call 123; (refine (c3.out _).mono ?_); rintro e w3 ⟨rfl, rfl⟩)
                  | (go_at_call 124; (refine (c4.out _ (HI.out.below HB2.out (Nat.le_refl _))).mono ?_); rintro e w4 ⟨rfl, hb4⟩; have HB4 := hidp (HB2.out.trans (hb4.mono HB2.out.size)); have HA4 := hidp (HA2.out.below hb4 HA2.out.lt); clear hb4; clear x0 x1 x2 x3 x4 x5; obtain ⟨x0, x1, x2, x3, x4, x5⟩ := arr6 HA4.out))
                go_ret
                exact ⟨by rw [HF.out]; rfl, HB4.out⟩
      · rw [kindB_no h3] at c3
        rw [decide_eq_false h3] at HE
        have HF := hidp (show E = 2 from by have := HE.out; simp at this; exact this.symm)
        clear h3 HE
        go_enter Tryz.func84, Tryz.ntmps84
        go_wp2_with fail
        have HX := hidp ((Below.refl w.heap.size w).alloc (Nat.le_refl _) (.cells #[.string r, .string s, .int .u8 (k : Int), .string y, .string b, .int .i64 n] 25)); have HA := hidp (Arr.new w 25 [.string r, .string s, .int .u8 (k : Int), .string y, .string b, .int .i64 n])
        obtain ⟨bd, hbd⟩ : ∃ b, w.heap.size = b := ⟨_, rfl⟩
        have hge : w.heap.size ≤ bd := by omega
        generalize hW : (w.alloc (.cells #[.string r, .string s, .int .u8 (k : Int), .string y, .string b, .int .i64 n] 25)) = W0 at HX HA ⊢
        rw [hbd] at HA ⊢
        rw [← hbd]
        clear hW
        refine (c1.out _ (HI.out.below HX.out (Nat.le_refl _))).mono ?_
        rintro e w1 ⟨rfl, hb1⟩
        have HB1 := hidp (HX.out.trans (hb1.mono HX.out.size)); have HA1 := hidp (HA.out.below hb1 HA.out.lt)
        clear hb1
        obtain ⟨x0, x1, x2, x3, x4, x5⟩ := arr6 HA1.out
        go_wp2_with fail
        clear x0 x1 x2 x3 x4 x5
        refine (c2.out _ (HI.out.below HB1.out (Nat.le_refl _))).mono ?_
        rintro e w2 ⟨rfl, hb2⟩
        have HB2 := hidp (HB1.out.trans (hb2.mono HB1.out.size)); have HA2 := hidp (HA1.out.below hb2 HA1.out.lt)
        clear hb2
        obtain ⟨x0, x1, x2, x3, x4, x5⟩ := arr6 HA2.out
        go_wp2_with (go_at_call 123; (refine (c3.out _).mono ?_); rintro e w3 ⟨rfl, rfl⟩)
        go_ret
        exact ⟨by rw [HF.out]; rfl, HB2.out⟩
end Go.Proofs.YtiakfopdohcigaaGreatDoor
