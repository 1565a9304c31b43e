
/-
  event: what a key, a number, and a whole event must be.
-/
import Derived.Test.YtglfdenlgglccaaDoorEvA
namespace Go.Proofs.YtglfdenlgglccaaDoor
set_option maxRecDepth 100000
set_option linter.unusedVariables false
set_option linter.unusedSimpArgs false
open Go.RowKit

theorem empty_facts {y : ByteArray} (h : y.size = 0) : y.toList = [] ∧ y.toList.isEmpty = true ∧ (y.toList == (⟨#[]⟩ : ByteArray).toList) = true := by
  have h1 : y.toList = [] := by rw [ByteArray.toList_eq]; exact List.eq_nil_of_length_eq_zero ((size_toList y).trans h)
  exact ⟨h1, by rw [h1]; rfl, by rw [h1, ByteArray.toList_eq]; rfl⟩
theorem full_facts {y : ByteArray} (h : ¬ y.size = 0) : ¬ y.toList = [] ∧ y.toList.isEmpty = false ∧ (y.toList == (⟨#[]⟩ : ByteArray).toList) = false := by
  have h1 : ¬ y.toList = [] := fun e => h (by rw [← size_toList, ← ByteArray.toList_eq, e]; rfl)
  refine ⟨h1, ?_, toList_no (fun e => h (by rw [e]; rfl))⟩
  cases hq : y.toList with
  | nil => exact absurd hq h1
  | cons a r => rfl

theorem arr6 {w : World} {b T : Nat} {x0 x1 x2 x3 x4 x5 : Value} (h : Arr w b T [x0, x1, x2, x3, x4, x5]) : w.cell? ⟨b, 0, none⟩ = some x0 ∧ w.cell? ⟨b, 1, none⟩ = some x1 ∧ w.cell? ⟨b, 2, none⟩ = some x2 ∧ w.cell? ⟨b, 3, none⟩ = some x3 ∧ w.cell? ⟨b, 4, none⟩ = some x4 ∧ w.cell? ⟨b, 5, none⟩ = some x5 :=
  ⟨h.cell 0 (by simp), h.cell 1 (by simp), h.cell 2 (by simp), h.cell 3 (by simp), h.cell 4 (by simp), h.cell 5 (by simp)⟩
set_option maxHeartbeats 4000000 in
theorem validKey_any (w : World) (r s : ByteArray) (k : Nat) (y b : ByteArray) (n : Int) (hk : k < 256) (hr : r.size ≤ 281474976710656) (hs : s.size ≤ 281474976710656) (hy : y.size ≤ 281474976710656) (hI : IT w) :
    Calls Tryd.prog 32 #[.agg #[.string r, .string s, .int .u8 (k : Int), .string y, .string b, .int .i64 n]] w fun e w' => e = .returned (.bool (keyOk k y)) ∧ Below w.heap.size w w' := by
  have HX := hidp ((Below.refl w.heap.size w).alloc (Nat.le_refl _) (.cells #[.string r, .string s, .int .u8 (k : Int), .string y, .string b, .int .i64 n] 24))
  have C := hidp (fun W (h : IT W) => user_any W y hy h)
  have HI := hidp hI; clear hI
  by_cases h2 : k = 2
  · have e0 : ((k : Int) != 2) = false := by rw [h2]; rfl
    cases hw : who 1 y with
    | none =>
      have HF := hidp (show keyOk k y = false from by unfold keyOk; rw [if_pos h2, hw]; rfl)
      rw [hw] at C
      unfold whoV at C
      clear h2 hw
      go_enter Tryd.func32, Tryd.ntmps32
      go_wp2_with (go_at_call 20; (refine (C.out _ (HI.out.below HX.out (Nat.le_refl _))).mono ?_); rintro e w1 ⟨rfl, hb1⟩; have HB1 := hidp (HX.out.trans (hb1.mono HX.out.size)); clear hb1)
      go_ret
      exact ⟨by rw [HF.out]; rfl, HB1.out⟩
    | some m =>
      have HF := hidp (show keyOk k y = true from by unfold keyOk; rw [if_pos h2, hw]; rfl)
      rw [hw] at C
      unfold whoV at C
      clear h2 hw
      go_enter Tryd.func32, Tryd.ntmps32
      go_wp2_with (go_at_call 20; (refine (C.out _ (HI.out.below HX.out (Nat.le_refl _))).mono ?_); rintro e w1 ⟨rfl, hb1⟩; have HB1 := hidp (HX.out.trans (hb1.mono HX.out.size)); clear hb1)
      go_ret
      exact ⟨by rw [HF.out]; rfl, HB1.out⟩
  · have e0 : ((k : Int) != 2) = true := by simp; omega
    have n0 : ¬ k = 2 := h2
    by_cases h0 : y.size = 0
    · obtain ⟨f1, f2, f3⟩ := empty_facts h0
      have HF := hidp (show keyOk k y = true from by unfold keyOk; rw [if_neg h2]; exact decide_eq_true h0)
      clear h2 h0
      go_enter Tryd.func32, Tryd.ntmps32
      go_wp2_with fail
      go_ret
      exact ⟨by rw [HF.out]; rfl, HX.out⟩
    · obtain ⟨f1, f2, f3⟩ := full_facts h0
      have HF := hidp (show keyOk k y = false from by unfold keyOk; rw [if_neg h2]; exact decide_eq_false h0)
      clear h2 h0
      go_enter Tryd.func32, Tryd.ntmps32
      go_wp2_with fail
      go_ret
      exact ⟨by rw [HF.out]; rfl, HX.out⟩

theorem whoV_form' (o : Option Nat) : ∃ a b, whoV o = .tuple #[.int .i64 a, .bool b] := by cases o with
  | none => exact ⟨_, _, rfl⟩
  | some n => exact ⟨_, _, rfl⟩
def numV : Option Nat → Value
  | some n => .tuple #[.int .i64 (n : Int), .int .i64 0]
  | none => .tuple #[.int .i64 0, .int .i64 6]
set_option maxHeartbeats 8000000 in
theorem evCheck_any (w : World) (r s : ByteArray) (k : Nat) (y b : ByteArray) (n : Int) (hk : k < 256) (hr : r.size ≤ 281474976710656) (hs : s.size ≤ 281474976710656) (hy : y.size ≤ 281474976710656) (hb : b.size ≤ 281474976710656) (hI : IT w) :
    Calls Tryd.prog 11 #[.agg #[.string r, .string s, .int .u8 (k : Int), .string y, .string b, .int .i64 n]] w fun e w' => e = .returned (.int .i64 (evE (⟨r, s, k, y, b, n⟩ : Ev))) ∧ Below w.heap.size w w' := by
  have c1 := hidp (fun W (h : IT W) => room_any W r hr h)
  have c2 := hidp (fun W (h : IT W) => user_any W s hs h)
  have c3 := hidp (fun W => isKind_any W k hk)
  have c4 := hidp (fun W (h : IT W) => validKey_any W r s k y b n hk hr hs hy h)
  have HI := hidp hI; clear hI
  obtain ⟨E, hE⟩ : ∃ E, evE (⟨r, s, k, y, b, n⟩ : Ev) = E := ⟨_, rfl⟩
  have HE := hidp hE
  rw [hE]
  clear hE
  unfold evE evOk at HE
  simp only at HE
  cases h1 : who 2 r with
  | none =>
    rw [h1] at c1 HE
    obtain ⟨a2, b2, h2⟩ := whoV_form' (who 1 s)
    rw [h2] at c2
    unfold whoV at c1
    have HF := hidp (show E = 2 from by have := HE.out; simp at this; exact this.symm)
    clear h1 h2 HE
    go_enter Tryd.func11, Tryd.ntmps11
    go_wp2_with fail
    have HX := hidp ((Below.refl w.heap.size w).alloc (Nat.le_refl _) (.cells #[.string r, .string s, .int .u8 (k : Int), .string y, .string b, .int .i64 n] 24)); have HA := hidp (Arr.new w 24 [.string r, .string s, .int .u8 (k : Int), .string y, .string b, .int .i64 n])
    obtain ⟨bd, hbd⟩ : ∃ b, w.heap.size = b := ⟨_, rfl⟩
    have hge : w.heap.size ≤ bd := by omega
    generalize hW : (w.alloc (.cells #[.string r, .string s, .int .u8 (k : Int), .string y, .string b, .int .i64 n] 24)) = W0 at HX HA ⊢
    rw [hbd] at HA ⊢
    rw [← hbd]
    clear hW
    refine (c1.out _ (HI.out.below HX.out (Nat.le_refl _))).mono ?_
    rintro e w1 ⟨rfl, hb1⟩
    have HB1 := hidp (HX.out.trans (hb1.mono HX.out.size)); have HA1 := hidp (HA.out.below hb1 HA.out.lt)
    clear hb1
    obtain ⟨x0, x1, x2, x3, x4, x5⟩ := arr6 HA1.out
    go_wp2_with fail
    clear x0 x1 x2 x3 x4 x5
    refine (c2.out _ (HI.out.below HB1.out (Nat.le_refl _))).mono ?_
    rintro e w2 ⟨rfl, hb2⟩
    have HB2 := hidp (HB1.out.trans (hb2.mono HB1.out.size)); have HA2 := hidp (HA1.out.below hb2 HA1.out.lt)
    clear hb2
    obtain ⟨x0, x1, x2, x3, x4, x5⟩ := arr6 HA2.out
    go_wp2_with fail
    go_ret
    exact ⟨by rw [HF.out]; rfl, HB2.out⟩
  | some m1 =>
    rw [h1] at c1 HE
    unfold whoV at c1
    clear h1
    cases h2 : who 1 s with
    | none =>
      rw [h2] at c2 HE
      unfold whoV at c2
      have HF := hidp (show E = 2 from by have := HE.out; simp at this; exact this.symm)
      clear h2 HE
      go_enter Tryd.func11, Tryd.ntmps11
      go_wp2_with fail
      have HX := hidp ((Below.refl w.heap.size w).alloc (Nat.le_refl _) (.cells #[.string r, .string s, .int .u8 (k : Int), .string y, .string b, .int .i64 n] 24)); have HA := hidp (Arr.new w 24 [.string r, .string s, .int .u8 (k : Int), .string y, .string b, .int .i64 n])
      obtain ⟨bd, hbd⟩ : ∃ b, w.heap.size = b := ⟨_, rfl⟩
      have hge : w.heap.size ≤ bd := by omega
      generalize hW : (w.alloc (.cells #[.string r, .string s, .int .u8 (k : Int), .string y, .string b, .int .i64 n] 24)) = W0 at HX HA ⊢
      rw [hbd] at HA ⊢
      rw [← hbd]
      clear hW
      refine (c1.out _ (HI.out.below HX.out (Nat.le_refl _))).mono ?_
      rintro e w1 ⟨rfl, hb1⟩
      have HB1 := hidp (HX.out.trans (hb1.mono HX.out.size)); have HA1 := hidp (HA.out.below hb1 HA.out.lt)
      clear hb1
      obtain ⟨x0, x1, x2, x3, x4, x5⟩ := arr6 HA1.out
      go_wp2_with fail
      clear x0 x1 x2 x3 x4 x5
      refine (c2.out _ (HI.out.below HB1.out (Nat.le_refl _))).mono ?_
      rintro e w2 ⟨rfl, hb2⟩
      have HB2 := hidp (HB1.out.trans (hb2.mono HB1.out.size)); have HA2 := hidp (HA1.out.below hb2 HA1.out.lt)
      clear hb2
      obtain ⟨x0, x1, x2, x3, x4, x5⟩ := arr6 HA2.out
      go_wp2_with fail
      go_ret
      exact ⟨by rw [HF.out]; rfl, HB2.out⟩
    | some m2 =>
      rw [h2] at c2 HE
      unfold whoV at c2
      clear h2
      by_cases h3 : 1 ≤ k ∧ k ≤ 8
      · rw [kindB_yes h3] at c3
        rw [decide_eq_true h3] at HE
        cases h4 : keyOk k y with
        | false =>
          rw [h4] at c4 HE
          have HF := hidp (show E = 2 from by have := HE.out; simp at this; exact this.symm)
          clear h3 h4 HE
          go_enter Tryd.func11, Tryd.ntmps11
          go_wp2_with fail
          have HX := hidp ((Below.refl w.heap.size w).alloc (Nat.le_refl _) (.cells #[.string r, .string s, .int .u8 (k : Int), .string y, .string b, .int .i64 n] 24)); have HA := hidp (Arr.new w 24 [.string r, .string s, .int .u8 (k : Int), .string y, .string b, .int .i64 n])
          obtain ⟨bd, hbd⟩ : ∃ b, w.heap.size = b := ⟨_, rfl⟩
          have hge : w.heap.size ≤ bd := by omega
          generalize hW : (w.alloc (.cells #[.string r, .string s, .int .u8 (k : Int), .string y, .string b, .int .i64 n] 24)) = W0 at HX HA ⊢
          rw [hbd] at HA ⊢
          rw [← hbd]
          clear hW
          refine (c1.out _ (HI.out.below HX.out (Nat.le_refl _))).mono ?_
          rintro e w1 ⟨rfl, hb1⟩
          have HB1 := hidp (HX.out.trans (hb1.mono HX.out.size)); have HA1 := hidp (HA.out.below hb1 HA.out.lt)
          clear hb1
          obtain ⟨x0, x1, x2, x3, x4, x5⟩ := arr6 HA1.out
          go_wp2_with fail
          clear x0 x1 x2 x3 x4 x5
          refine (c2.out _ (HI.out.below HB1.out (Nat.le_refl _))).mono ?_
          rintro e w2 ⟨rfl, hb2⟩
          have HB2 := hidp (HB1.out.trans (hb2.mono HB1.out.size)); have HA2 := hidp (HA1.out.below hb2 HA1.out.lt)
          clear hb2
          obtain ⟨x0, x1, x2, x3, x4, x5⟩ := arr6 HA2.out
          go_wp2_with (first
            | (go_at_call 31; (refine (c3.out _).mono ?_); rintro e w3 ⟨rfl, rfl⟩)
            | (go_at_call 32; (refine (c4.out _ (HI.out.below HB2.out (Nat.le_refl _))).mono ?_); rintro e w4 ⟨rfl, hb4⟩; have HB4 := hidp (HB2.out.trans (hb4.mono HB2.out.size)); have HA4 := hidp (HA2.out.below hb4 HA2.out.lt); clear hb4; clear x0 x1 x2 x3 x4 x5; obtain ⟨x0, x1, x2, x3, x4, x5⟩ := arr6 HA4.out))
          go_ret
          exact ⟨by rw [HF.out]; rfl, HB4.out⟩
        | true =>
          rw [h4] at c4 HE
          clear h4
          by_cases h5 : 512 < b.size
          · have e5 : decide ((512 : Int) < (b.size : Int)) = true := by simp; omega
            have n5 : (512 : Int) < (b.size : Int) := by omega
            rw [decide_eq_false (show ¬ b.size ≤ 512 from by omega)] at HE
            have HF := hidp (show E = 2 from by have := HE.out; simp at this; exact this.symm)
            clear h3 h5 HE
            go_enter Tryd.func11, Tryd.ntmps11
            go_wp2_with fail
            have HX := hidp ((Below.refl w.heap.size w).alloc (Nat.le_refl _) (.cells #[.string r, .string s, .int .u8 (k : Int), .string y, .string b, .int .i64 n] 24)); have HA := hidp (Arr.new w 24 [.string r, .string s, .int .u8 (k : Int), .string y, .string b, .int .i64 n])
            obtain ⟨bd, hbd⟩ : ∃ b, w.heap.size = b := ⟨_, rfl⟩
            have hge : w.heap.size ≤ bd := by omega
            generalize hW : (w.alloc (.cells #[.string r, .string s, .int .u8 (k : Int), .string y, .string b, .int .i64 n] 24)) = W0 at HX HA ⊢
            rw [hbd] at HA ⊢
            rw [← hbd]
            clear hW
            refine (c1.out _ (HI.out.below HX.out (Nat.le_refl _))).mono ?_
            rintro e w1 ⟨rfl, hb1⟩
            have HB1 := hidp (HX.out.trans (hb1.mono HX.out.size)); have HA1 := hidp (HA.out.below hb1 HA.out.lt)
            clear hb1
            obtain ⟨x0, x1, x2, x3, x4, x5⟩ := arr6 HA1.out
            go_wp2_with fail
            clear x0 x1 x2 x3 x4 x5
            refine (c2.out _ (HI.out.below HB1.out (Nat.le_refl _))).mono ?_
            rintro e w2 ⟨rfl, hb2⟩
            have HB2 := hidp (HB1.out.trans (hb2.mono HB1.out.size)); have HA2 := hidp (HA1.out.below hb2 HA1.out.lt)
            clear hb2
            obtain ⟨x0, x1, x2, x3, x4, x5⟩ := arr6 HA2.out
            go_wp2_with (first
              | (go_at_call 31; (refine (c3.out _).mono ?_); rintro e w3 ⟨rfl, rfl⟩)
              | (go_at_call 32; (refine (c4.out _ (HI.out.below HB2.out (Nat.le_refl _))).mono ?_); rintro e w4 ⟨rfl, hb4⟩; have HB4 := hidp (HB2.out.trans (hb4.mono HB2.out.size)); have HA4 := hidp (HA2.out.below hb4 HA2.out.lt); clear hb4; clear x0 x1 x2 x3 x4 x5; obtain ⟨x0, x1, x2, x3, x4, x5⟩ := arr6 HA4.out))
            go_ret
            exact ⟨by rw [HF.out]; rfl, HB4.out⟩
          · have e5 : decide ((512 : Int) < (b.size : Int)) = false := by simp; omega
            have n5 : ¬ (512 : Int) < (b.size : Int) := by omega
            rw [decide_eq_true (show b.size ≤ 512 from by omega)] at HE
            by_cases h6 : n < 0
            · have e6 : decide (n < 0) = true := by simp; omega
              rw [decide_eq_false (show ¬ (0 ≤ n ∧ n ≤ 1099511627776) from by omega)] at HE
              have HF := hidp (show E = 2 from by have := HE.out; simp at this; exact this.symm)
              clear h3 h5 HE
              go_enter Tryd.func11, Tryd.ntmps11
              go_wp2_with fail
              have HX := hidp ((Below.refl w.heap.size w).alloc (Nat.le_refl _) (.cells #[.string r, .string s, .int .u8 (k : Int), .string y, .string b, .int .i64 n] 24)); have HA := hidp (Arr.new w 24 [.string r, .string s, .int .u8 (k : Int), .string y, .string b, .int .i64 n])
              obtain ⟨bd, hbd⟩ : ∃ b, w.heap.size = b := ⟨_, rfl⟩
              have hge : w.heap.size ≤ bd := by omega
              generalize hW : (w.alloc (.cells #[.string r, .string s, .int .u8 (k : Int), .string y, .string b, .int .i64 n] 24)) = W0 at HX HA ⊢
              rw [hbd] at HA ⊢
              rw [← hbd]
              clear hW
              refine (c1.out _ (HI.out.below HX.out (Nat.le_refl _))).mono ?_
              rintro e w1 ⟨rfl, hb1⟩
              have HB1 := hidp (HX.out.trans (hb1.mono HX.out.size)); have HA1 := hidp (HA.out.below hb1 HA.out.lt)
              clear hb1
              obtain ⟨x0, x1, x2, x3, x4, x5⟩ := arr6 HA1.out
              go_wp2_with fail
              clear x0 x1 x2 x3 x4 x5
              refine (c2.out _ (HI.out.below HB1.out (Nat.le_refl _))).mono ?_
              rintro e w2 ⟨rfl, hb2⟩
              have HB2 := hidp (HB1.out.trans (hb2.mono HB1.out.size)); have HA2 := hidp (HA1.out.below hb2 HA1.out.lt)
              clear hb2
              obtain ⟨x0, x1, x2, x3, x4, x5⟩ := arr6 HA2.out
              go_wp2_with (first
                | (go_at_call 31; (refine (c3.out _).mono ?_); rintro e w3 ⟨rfl, rfl⟩)
                | (go_at_call 32; (refine (c4.out _ (HI.out.below HB2.out (Nat.le_refl _))).mono ?_); rintro e w4 ⟨rfl, hb4⟩; have HB4 := hidp (HB2.out.trans (hb4.mono HB2.out.size)); have HA4 := hidp (HA2.out.below hb4 HA2.out.lt); clear hb4; clear x0 x1 x2 x3 x4 x5; obtain ⟨x0, x1, x2, x3, x4, x5⟩ := arr6 HA4.out))
              go_ret
              exact ⟨by rw [HF.out]; rfl, HB4.out⟩
            · have e6 : decide (n < 0) = false := by simp; omega
              by_cases h7 : 1099511627776 < n
              · have e7 : decide (1099511627776 < n) = true := by simp; omega
                rw [decide_eq_false (show ¬ (0 ≤ n ∧ n ≤ 1099511627776) from by omega)] at HE
                have HF := hidp (show E = 2 from by have := HE.out; simp at this; exact this.symm)
                clear h3 h5 h6 HE
                go_enter Tryd.func11, Tryd.ntmps11
                go_wp2_with fail
                have HX := hidp ((Below.refl w.heap.size w).alloc (Nat.le_refl _) (.cells #[.string r, .string s, .int .u8 (k : Int), .string y, .string b, .int .i64 n] 24)); have HA := hidp (Arr.new w 24 [.string r, .string s, .int .u8 (k : Int), .string y, .string b, .int .i64 n])
                obtain ⟨bd, hbd⟩ : ∃ b, w.heap.size = b := ⟨_, rfl⟩
                have hge : w.heap.size ≤ bd := by omega
                generalize hW : (w.alloc (.cells #[.string r, .string s, .int .u8 (k : Int), .string y, .string b, .int .i64 n] 24)) = W0 at HX HA ⊢
                rw [hbd] at HA ⊢
                rw [← hbd]
                clear hW
                refine (c1.out _ (HI.out.below HX.out (Nat.le_refl _))).mono ?_
                rintro e w1 ⟨rfl, hb1⟩
                have HB1 := hidp (HX.out.trans (hb1.mono HX.out.size)); have HA1 := hidp (HA.out.below hb1 HA.out.lt)
                clear hb1
                obtain ⟨x0, x1, x2, x3, x4, x5⟩ := arr6 HA1.out
                go_wp2_with fail
                clear x0 x1 x2 x3 x4 x5
                refine (c2.out _ (HI.out.below HB1.out (Nat.le_refl _))).mono ?_
                rintro e w2 ⟨rfl, hb2⟩
                have HB2 := hidp (HB1.out.trans (hb2.mono HB1.out.size)); have HA2 := hidp (HA1.out.below hb2 HA1.out.lt)
                clear hb2
                obtain ⟨x0, x1, x2, x3, x4, x5⟩ := arr6 HA2.out
                go_wp2_with (first
                  | (go_at_call 31; (refine (c3.out _).mono ?_); rintro e w3 ⟨rfl, rfl⟩)
                  | (go_at_call 32; (refine (c4.out _ (HI.out.below HB2.out (Nat.le_refl _))).mono ?_); rintro e w4 ⟨rfl, hb4⟩; have HB4 := hidp (HB2.out.trans (hb4.mono HB2.out.size)); have HA4 := hidp (HA2.out.below hb4 HA2.out.lt); clear hb4; clear x0 x1 x2 x3 x4 x5; obtain ⟨x0, x1, x2, x3, x4, x5⟩ := arr6 HA4.out))
                go_ret
                exact ⟨by rw [HF.out]; rfl, HB4.out⟩
              · have e7 : decide (1099511627776 < n) = false := by simp; omega
                rw [decide_eq_true (show (0 ≤ n ∧ n ≤ 1099511627776) from by omega)] at HE
                have HF := hidp (show E = 0 from by have := HE.out; simp at this; exact this.symm)
                clear h3 h5 h6 HE
                go_enter Tryd.func11, Tryd.ntmps11
                go_wp2_with fail
                have HX := hidp ((Below.refl w.heap.size w).alloc (Nat.le_refl _) (.cells #[.string r, .string s, .int .u8 (k : Int), .string y, .string b, .int .i64 n] 24)); have HA := hidp (Arr.new w 24 [.string r, .string s, .int .u8 (k : Int), .string y, .string b, .int .i64 n])
                obtain ⟨bd, hbd⟩ : ∃ b, w.heap.size = b := ⟨_, rfl⟩
                have hge : w.heap.size ≤ bd := by omega
                generalize hW : (w.alloc (.cells #[.string r, .string s, .int .u8 (k : Int), .string y, .string b, .int .i64 n] 24)) = W0 at HX HA ⊢
                rw [hbd] at HA ⊢
                rw [← hbd]
                clear hW
                refine (c1.out _ (HI.out.below HX.out (Nat.le_refl _))).mono ?_
                rintro e w1 ⟨rfl, hb1⟩
                have HB1 := hidp (HX.out.trans (hb1.mono HX.out.size)); have HA1 := hidp (HA.out.below hb1 HA.out.lt)
                clear hb1
                obtain ⟨x0, x1, x2, x3, x4, x5⟩ := arr6 HA1.out
                go_wp2_with fail
                clear x0 x1 x2 x3 x4 x5
                refine (c2.out _ (HI.out.below HB1.out (Nat.le_refl _))).mono ?_
                rintro e w2 ⟨rfl, hb2⟩
                have HB2 := hidp (HB1.out.trans (hb2.mono HB1.out.size)); have HA2 := hidp (HA1.out.below hb2 HA1.out.lt)
                clear hb2
                obtain ⟨x0, x1, x2, x3, x4, x5⟩ := arr6 HA2.out
                go_wp2_with (first
                  | (go_at_call 31; (refine (c3.out _).mono ?_); rintro e w3 ⟨rfl, rfl⟩)
                  | (go_at_call 32; (refine (c4.out _ (HI.out.below HB2.out (Nat.le_refl _))).mono ?_); rintro e w4 ⟨rfl, hb4⟩; have HB4 := hidp (HB2.out.trans (hb4.mono HB2.out.size)); have HA4 := hidp (HA2.out.below hb4 HA2.out.lt); clear hb4; clear x0 x1 x2 x3 x4 x5; obtain ⟨x0, x1, x2, x3, x4, x5⟩ := arr6 HA4.out))
                go_ret
                exact ⟨by rw [HF.out]; rfl, HB4.out⟩
      · rw [kindB_no h3] at c3
        rw [decide_eq_false h3] at HE
        have HF := hidp (show E = 2 from by have := HE.out; simp at this; exact this.symm)
        clear h3 HE
        go_enter Tryd.func11, Tryd.ntmps11
        go_wp2_with fail
        have HX := hidp ((Below.refl w.heap.size w).alloc (Nat.le_refl _) (.cells #[.string r, .string s, .int .u8 (k : Int), .string y, .string b, .int .i64 n] 24)); have HA := hidp (Arr.new w 24 [.string r, .string s, .int .u8 (k : Int), .string y, .string b, .int .i64 n])
        obtain ⟨bd, hbd⟩ : ∃ b, w.heap.size = b := ⟨_, rfl⟩
        have hge : w.heap.size ≤ bd := by omega
        generalize hW : (w.alloc (.cells #[.string r, .string s, .int .u8 (k : Int), .string y, .string b, .int .i64 n] 24)) = W0 at HX HA ⊢
        rw [hbd] at HA ⊢
        rw [← hbd]
        clear hW
        refine (c1.out _ (HI.out.below HX.out (Nat.le_refl _))).mono ?_
        rintro e w1 ⟨rfl, hb1⟩
        have HB1 := hidp (HX.out.trans (hb1.mono HX.out.size)); have HA1 := hidp (HA.out.below hb1 HA.out.lt)
        clear hb1
        obtain ⟨x0, x1, x2, x3, x4, x5⟩ := arr6 HA1.out
        go_wp2_with fail
        clear x0 x1 x2 x3 x4 x5
        refine (c2.out _ (HI.out.below HB1.out (Nat.le_refl _))).mono ?_
        rintro e w2 ⟨rfl, hb2⟩
        have HB2 := hidp (HB1.out.trans (hb2.mono HB1.out.size)); have HA2 := hidp (HA1.out.below hb2 HA1.out.lt)
        clear hb2
        obtain ⟨x0, x1, x2, x3, x4, x5⟩ := arr6 HA2.out
        go_wp2_with (go_at_call 31; (refine (c3.out _).mono ?_); rintro e w3 ⟨rfl, rfl⟩)
        go_ret
        exact ⟨by rw [HF.out]; rfl, HB2.out⟩
end Go.Proofs.YtglfdenlgglccaaDoor
