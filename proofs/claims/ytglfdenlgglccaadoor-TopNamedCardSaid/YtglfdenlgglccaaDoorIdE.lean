
/-
  ident: Parse, User, Room, whatever the text.
-/
import Derived.Test.YtglfdenlgglccaaDoorIdD
namespace Go.Proofs.YtglfdenlgglccaaDoor
set_option maxRecDepth 100000
set_option linter.unusedVariables false
set_option linter.unusedSimpArgs false
open Go.RowKit

theorem parse_any (w : World) (t : ByteArray) (hs : t.size ≤ 281474976710656) (hI : IT w) :
    Calls Tryd.prog 18 #[.string t] w fun e w' => e = .returned (.tuple #[idV (idP t), .int .i64 (idX (idP t))]) ∧ Below w.heap.size w w' := by
  have hl := size_toList t
  have cod0 : codeP t 0 [] = none := rfl
  cases ht : t.data.toList with
  | nil =>
    have := parse_w w t hs hI 0 (by omega) [] (by simp) (fun W h => by
      refine cutMark_0 W t (fun r e => ?_) (fun r e => ?_) h
      · rw [ht] at e; cases e
      · rw [ht] at e; cases e)
    rw [cod0] at this
    rw [idP_nil ht]; exact this
  | cons c r =>
    have hr : r.length ≤ 281474976710656 := by rw [ht] at hl; simp at hl; omega
    by_cases h64 : c = 64
    · subst h64
      have := parse_w w t hs hI 1 (by omega) r hr (fun W h => cutMark_1 W t r ht h)
      rw [codeP_idP (.inl rfl) ht] at this
      exact this
    · by_cases h33 : c = 33
      · subst h33
        have := parse_w w t hs hI 2 (by omega) r hr (fun W h => cutMark_2 W t r ht h)
        rw [codeP_idP (.inr rfl) ht] at this
        exact this
      · have := parse_w w t hs hI 0 (by omega) [] (by simp) (fun W h => by
          refine cutMark_0 W t (fun r' e => ?_) (fun r' e => ?_) h
          · rw [ht] at e; simp only [List.cons.injEq] at e; exact h64 e.1
          · rw [ht] at e; simp only [List.cons.injEq] at e; exact h33 e.1)
        rw [cod0] at this
        rw [idP_unmarked ht h64 h33]; exact this

/-- What User and Room hand back. -/
def whoV : Option Nat → Value
  | some n => .tuple #[.int .i64 (n : Int), .bool true]
  | none => .tuple #[.int .i64 0, .bool false]

set_option maxHeartbeats 8000000 in
theorem serverOf_any (w : World) (t : ByteArray) (hs : t.size ≤ 281474976710656) (hI : IT w) (q : Nat) (hq : q < 256) :
    Calls Tryd.prog 41 #[.string t, .int .u8 (q : Int)] w fun e w' => e = .returned (whoV (who q t)) ∧ Below w.heap.size w w' := by
  have C := hidp (parse_any w t hs hI)
  clear hI
  cases hp : idP t with
  | none =>
    rw [hp] at C
    rw [who_no hp]
    clear hp
    unfold idV idX at C
    unfold whoV
    go_enter Tryd.func41, Tryd.ntmps41
    go_wp2_with (go_at_call 18; (refine C.out.mono ?_); rintro e w1 ⟨rfl, hb1⟩; have HB1 := hidp (hb1.alloc hb1.size (.cells #[.int .u8 0, .string ⟨#[]⟩, .int .i64 0] 38)); clear hb1)
    go_ret2
    exact ⟨rfl, HB1.out⟩
  | some x =>
    obtain ⟨k, nm, n⟩ := x
    rw [hp] at C
    unfold idV idX at C
    by_cases hk : k = q
    · subst hk
      rw [who_yes hp]
      unfold whoV
      have e0 : ((k : Int) != (k : Int)) = false := by simp
      clear hp
      go_enter Tryd.func41, Tryd.ntmps41
      go_wp2_with (go_at_call 18; (refine C.out.mono ?_); rintro e w1 ⟨rfl, hb1⟩; have HB1 := hidp (hb1.alloc hb1.size (.cells #[.int .u8 (k : Int), .string nm, .int .i64 (n : Int)] 38)); clear hb1)
      go_ret2
      exact ⟨rfl, HB1.out⟩
    · rw [who_other hp hk]
      unfold whoV
      have e0 : ((k : Int) != (q : Int)) = true := by simp; omega
      have e1 : ¬ k = q := hk
      clear hp
      go_enter Tryd.func41, Tryd.ntmps41
      go_wp2_with (go_at_call 18; (refine C.out.mono ?_); rintro e w1 ⟨rfl, hb1⟩; have HB1 := hidp (hb1.alloc hb1.size (.cells #[.int .u8 (k : Int), .string nm, .int .i64 (n : Int)] 38)); clear hb1)
      go_ret2
      exact ⟨rfl, HB1.out⟩
theorem user_any (w : World) (t : ByteArray) (hs : t.size ≤ 281474976710656) (hI : IT w) :
    Calls Tryd.prog 20 #[.string t] w fun e w' => e = .returned (whoV (who 1 t)) ∧ Below w.heap.size w w' := by
  have C := hidp (serverOf_any w t hs hI 1 (by omega))
  clear hI
  cases hp : who 1 t with
  | none =>
    rw [hp] at C
    unfold whoV at C ⊢
    go_enter Tryd.func20, Tryd.ntmps20
    go_wp2_with (go_at_call 41; (refine C.out.mono ?_); rintro e w1 ⟨rfl, hb1⟩)
    go_ret2
    exact ⟨rfl, hb1⟩
  | some n =>
    rw [hp] at C
    unfold whoV at C ⊢
    go_enter Tryd.func20, Tryd.ntmps20
    go_wp2_with (go_at_call 41; (refine C.out.mono ?_); rintro e w1 ⟨rfl, hb1⟩)
    go_ret2
    exact ⟨rfl, hb1⟩
theorem room_any (w : World) (t : ByteArray) (hs : t.size ≤ 281474976710656) (hI : IT w) :
    Calls Tryd.prog 30 #[.string t] w fun e w' => e = .returned (whoV (who 2 t)) ∧ Below w.heap.size w w' := by
  have C := hidp (serverOf_any w t hs hI 2 (by omega))
  clear hI
  cases hp : who 2 t with
  | none =>
    rw [hp] at C
    unfold whoV at C ⊢
    go_enter Tryd.func30, Tryd.ntmps30
    go_wp2_with (go_at_call 41; (refine C.out.mono ?_); rintro e w1 ⟨rfl, hb1⟩)
    go_ret2
    exact ⟨rfl, hb1⟩
  | some n =>
    rw [hp] at C
    unfold whoV at C ⊢
    go_enter Tryd.func30, Tryd.ntmps30
    go_wp2_with (go_at_call 41; (refine C.out.mono ?_); rintro e w1 ⟨rfl, hb1⟩)
    go_ret2
    exact ⟨rfl, hb1⟩
end Go.Proofs.YtglfdenlgglccaaDoor
