/-
  The document's events: Check and Bytes.
-/
import Derived.Test.YtdaiichpihhckaaDoorEvX
import Derived.Deep.WholeRow

namespace Go.Proofs.YtdaiichpihhckaaDoor
set_option maxRecDepth 100000
set_option linter.unusedVariables false
set_option linter.unusedSimpArgs false
open Go.RowKit

theorem wordsArr_cell (w : World) (k : Nat) (hk : k < 9) : (w.alloc (.cells #[.string ⟨#[]⟩, .string ⟨#[99, 114, 101, 97, 116, 101]⟩, .string ⟨#[109, 101, 109, 98, 101, 114]⟩, .string ⟨#[112, 111, 119, 101, 114]⟩, .string ⟨#[114, 117, 108, 101]⟩, .string ⟨#[110, 97, 109, 101]⟩, .string ⟨#[109, 101, 115, 115, 97, 103, 101]⟩, .string ⟨#[114, 101, 100, 97, 99, 116]⟩, .string ⟨#[104, 97, 110, 100, 111, 118, 101, 114]⟩] 9)).cell? ⟨w.heap.size, k, none⟩ = some (.string (word k)) := by
  have h : (w.alloc (.cells #[.string ⟨#[]⟩, .string ⟨#[99, 114, 101, 97, 116, 101]⟩, .string ⟨#[109, 101, 109, 98, 101, 114]⟩, .string ⟨#[112, 111, 119, 101, 114]⟩, .string ⟨#[114, 117, 108, 101]⟩, .string ⟨#[110, 97, 109, 101]⟩, .string ⟨#[109, 101, 115, 115, 97, 103, 101]⟩, .string ⟨#[114, 101, 100, 97, 99, 116]⟩, .string ⟨#[104, 97, 110, 100, 111, 118, 101, 114]⟩] 9)).heap[w.heap.size]? = some (.cells #[.string ⟨#[]⟩, .string ⟨#[99, 114, 101, 97, 116, 101]⟩, .string ⟨#[109, 101, 109, 98, 101, 114]⟩, .string ⟨#[112, 111, 119, 101, 114]⟩, .string ⟨#[114, 117, 108, 101]⟩, .string ⟨#[110, 97, 109, 101]⟩, .string ⟨#[109, 101, 115, 115, 97, 103, 101]⟩, .string ⟨#[114, 101, 100, 97, 99, 116]⟩, .string ⟨#[104, 97, 110, 100, 111, 118, 101, 114]⟩] 9) := heap_alloc_new w _
  have hc : ∀ k : Fin 9, (#[.string ⟨#[]⟩, .string ⟨#[99, 114, 101, 97, 116, 101]⟩, .string ⟨#[109, 101, 109, 98, 101, 114]⟩, .string ⟨#[112, 111, 119, 101, 114]⟩, .string ⟨#[114, 117, 108, 101]⟩, .string ⟨#[110, 97, 109, 101]⟩, .string ⟨#[109, 101, 115, 115, 97, 103, 101]⟩, .string ⟨#[114, 101, 100, 97, 99, 116]⟩, .string ⟨#[104, 97, 110, 100, 111, 118, 101, 114]⟩] : Array Value)[k.val]? = some (.string (word k.val)) := by
    intro k
    match k with
    | ⟨0, _⟩ => rfl
    | ⟨1, _⟩ => rfl
    | ⟨2, _⟩ => rfl
    | ⟨3, _⟩ => rfl
    | ⟨4, _⟩ => rfl
    | ⟨5, _⟩ => rfl
    | ⟨6, _⟩ => rfl
    | ⟨7, _⟩ => rfl
    | ⟨8, _⟩ => rfl
  unfold World.cell?; dsimp only; rw [h]
  exact hc ⟨k, hk⟩

set_option maxHeartbeats 4000000 in
theorem rword_any (w : World) (k : Nat) (hk : k < 256) :
    Calls Tryd.prog 60 #[.int .u8 (k : Int)] w fun e w' => e = .returned (.string (word k)) ∧ Below w.heap.size w w' := by
  have HB := hidp ((Below.refl w.heap.size w).alloc (Nat.le_refl _) (.cells #[.string ⟨#[]⟩, .string ⟨#[99, 114, 101, 97, 116, 101]⟩, .string ⟨#[109, 101, 109, 98, 101, 114]⟩, .string ⟨#[112, 111, 119, 101, 114]⟩, .string ⟨#[114, 117, 108, 101]⟩, .string ⟨#[110, 97, 109, 101]⟩, .string ⟨#[109, 101, 115, 115, 97, 103, 101]⟩, .string ⟨#[114, 101, 100, 97, 99, 116]⟩, .string ⟨#[104, 97, 110, 100, 111, 118, 101, 114]⟩] 9))
  have hw1 : IntKind.i64.wrap (k : Int) = (k : Int) := by unfold IntKind.wrap; simp [IntKind.bits, IntKind.signed]; omega
  by_cases h : k < 9
  · have e0 : decide ((9 : Int) ≤ (k : Int)) = false := by simp; omega
    have n0 : ¬ (9 : Int) ≤ (k : Int) := by omega
    have m1 := wordsArr_cell w k h
    have c0 : (0 : Int) ≤ (k : Int) := by omega
    have c1 : (k : Int) < 9 := by omega
    clear h
    go_enter Tryd.func60, Tryd.ntmps60
    go_wp2_with fail
    go_ret
    exact ⟨rfl, HB.out⟩
  · have e0 : decide ((9 : Int) ≤ (k : Int)) = true := by simp; omega
    have n0 : (9 : Int) ≤ (k : Int) := by omega
    rw [word_out (k := k) (by omega)]
    clear h
    go_enter Tryd.func60, Tryd.ntmps60
    go_wp2_with fail
    go_ret
    exact ⟨rfl, HB.out⟩
theorem word_full {k : Nat} (h : 1 ≤ k ∧ k ≤ 8) : ¬ (word k).size = 0 := by
  have : ∀ k : Fin 9, 1 ≤ k.val → ¬ (word k.val).size = 0 := by decide +kernel
  exact this ⟨k, by omega⟩ h.1
theorem word_empty {k : Nat} (h : ¬ (1 ≤ k ∧ k ≤ 8)) : (word k).size = 0 := by rw [word_out h]; rfl
set_option maxHeartbeats 4000000 in
theorem rstate_any (w : World) (k : Nat) (hk : k < 256) :
    Calls Tryd.prog 50 #[.int .u8 (k : Int)] w fun e w' => e = .returned (.bool (stB k)) ∧ Below w.heap.size w w' := by
  have C := hidp (fun W => rword_any W k hk)
  obtain ⟨X, hX⟩ : ∃ X, word k = X := ⟨_, rfl⟩
  by_cases h : 1 ≤ k ∧ k ≤ 8
  · have hf := word_full h
    rw [hX] at hf C
    obtain ⟨f1, f2, f3⟩ := full_facts hf
    have f4 : (X.toList != (⟨#[]⟩ : ByteArray).toList) = true := by unfold bne; rw [f3]; rfl
    clear hf hX
    by_cases h6 : k = 6
    · have e0 : ((k : Int) != 6) = false := by rw [h6]; rfl
      have HF := hidp (show stB k = false from by rw [h6]; rfl)
      clear h h6
      go_enter Tryd.func50, Tryd.ntmps50
      go_wp2_with (go_at_call 60; (refine (C.out _).mono ?_); rintro e w1 ⟨rfl, hb1⟩)
      go_ret
      exact ⟨by rw [HF.out]; rfl, hb1⟩
    · have e0 : ((k : Int) != 6) = true := by simp; omega
      have n0 : ¬ k = 6 := h6
      by_cases h7 : k = 7
      · have e1 : ((k : Int) != 7) = false := by rw [h7]; rfl
        have HF := hidp (show stB k = false from by rw [h7]; rfl)
        clear h h6 h7
        go_enter Tryd.func50, Tryd.ntmps50
        go_wp2_with (go_at_call 60; (refine (C.out _).mono ?_); rintro e w1 ⟨rfl, hb1⟩)
        go_ret
        exact ⟨by rw [HF.out]; rfl, hb1⟩
      · have e1 : ((k : Int) != 7) = true := by simp; omega
        have n1 : ¬ k = 7 := h7
        have HF := hidp (show stB k = true from by unfold stB; rw [decide_eq_true h, decide_eq_true h6, decide_eq_true h7]; rfl)
        clear h h6 h7
        go_enter Tryd.func50, Tryd.ntmps50
        go_wp2_with (go_at_call 60; (refine (C.out _).mono ?_); rintro e w1 ⟨rfl, hb1⟩)
        go_ret
        exact ⟨by rw [HF.out]; rfl, hb1⟩
  · have hf := word_empty h
    rw [hX] at hf C
    obtain ⟨f1, f2, f3⟩ := empty_facts hf
    have f4 : (X.toList != (⟨#[]⟩ : ByteArray).toList) = false := by unfold bne; rw [f3]; rfl
    have HF := hidp (show stB k = false from by unfold stB; rw [decide_eq_false h]; rfl)
    clear hf hX h
    go_enter Tryd.func50, Tryd.ntmps50
    go_wp2_with (go_at_call 60; (refine (C.out _).mono ?_); rintro e w1 ⟨rfl, hb1⟩)
    go_ret
    exact ⟨by rw [HF.out]; rfl, hb1⟩

set_option maxHeartbeats 8000000 in
theorem revCheck_any (w : World) (r s : ByteArray) (k : Nat) (y b : ByteArray) (n : Int) (hk : k < 256) (hr : r.size ≤ 281474976710656) (hs : s.size ≤ 281474976710656) (hy : y.size ≤ 281474976710656) (hb : b.size ≤ 281474976710656) :
    Calls Tryd.prog 30 #[.agg #[.string r, .string s, .int .u8 (k : Int), .string y, .string b, .int .i64 n]] w fun e w' => e = .returned (.int .i64 (evE (⟨r, s, k, y, b, n⟩ : Ev))) ∧ Below w.heap.size w w' := by
  have c1 := hidp (fun W => rroom_any W r hr)
  have c2 := hidp (fun W => ruser_any W s hs)
  have c4 := hidp (fun W => ruser_any W y hy)
  have c3 := hidp (fun W => rword_any W k hk)
  obtain ⟨E, hE⟩ : ∃ E, evE (⟨r, s, k, y, b, n⟩ : Ev) = E := ⟨_, rfl⟩
  have HE := hidp hE
  rw [hE]
  clear hE
  unfold evE evOk at HE
  simp only at HE
  obtain ⟨KO, hKO⟩ : ∃ q, keyOk k y = q := ⟨_, rfl⟩
  rw [hKO] at HE
  obtain ⟨o4, h4⟩ : ∃ q, who 1 y = q := ⟨_, rfl⟩
  have HKO := hidp hKO; clear hKO
  unfold keyOk at HKO
  rw [h4] at c4 HKO
  obtain ⟨a4, b4, g4⟩ := whoV_form' o4
  have hb4 : b4 = o4.isSome := by cases o4 <;> (unfold whoV at g4; simp at g4; simp [← g4.2])
  rw [g4] at c4
  rw [← hb4] at HKO
  clear h4 g4 hb4
  obtain ⟨X, hX⟩ : ∃ X, word k = X := ⟨_, rfl⟩
  cases h1 : who 2 r with
  | none =>
    rw [h1] at c1 HE
    obtain ⟨a2, b2, h2⟩ := whoV_form' (who 1 s)
    rw [h2] at c2
    unfold whoV at c1
    have HF := hidp (show E = 2 from by have := HE.out; simp at this; exact this.symm)
    clear h1 h2 HE HKO hX
    go_enter Tryd.func30, Tryd.ntmps30
    go_wp2_with fail
    have HX := hidp ((Below.refl w.heap.size w).alloc (Nat.le_refl _) (.cells #[.string r, .string s, .int .u8 (k : Int), .string y, .string b, .int .i64 n] 24)); have HA := hidp (Arr.new w 24 [.string r, .string s, .int .u8 (k : Int), .string y, .string b, .int .i64 n])
    obtain ⟨bd, hbd⟩ : ∃ b, w.heap.size = b := ⟨_, rfl⟩
    generalize hW : (w.alloc (.cells #[.string r, .string s, .int .u8 (k : Int), .string y, .string b, .int .i64 n] 24)) = W0 at HX HA ⊢
    rw [hbd] at HA ⊢
    rw [← hbd]
    clear hW
    refine (c1.out _).mono ?_
    rintro e w1 ⟨rfl, hb1⟩
    have HB1 := hidp (HX.out.trans (hb1.mono HX.out.size)); have HA1 := hidp (HA.out.below hb1 HA.out.lt)
    clear hb1
    obtain ⟨x0, x1, x2, x3, x4, x5⟩ := arr6 HA1.out
    go_wp2_with fail
    clear x0 x1 x2 x3 x4 x5
    refine (c2.out _).mono ?_
    rintro e w2 ⟨rfl, hb2⟩
    have HB2 := hidp (HB1.out.trans (hb2.mono HB1.out.size)); have HA2 := hidp (HA1.out.below hb2 HA1.out.lt)
    clear hb2
    obtain ⟨x0, x1, x2, x3, x4, x5⟩ := arr6 HA2.out
    go_wp2_with fail
    clear x0 x1 x2 x3 x4 x5
    refine (c4.out _).mono ?_
    rintro e w3 ⟨rfl, hb3⟩
    have HB3 := hidp (HB2.out.trans (hb3.mono HB2.out.size)); have HA3 := hidp (HA2.out.below hb3 HA2.out.lt)
    clear hb3
    obtain ⟨x0, x1, x2, x3, x4, x5⟩ := arr6 HA3.out
    go_wp2_with fail
    go_ret
    exact ⟨by rw [HF.out]; rfl, HB3.out⟩
  | some m1 =>
    rw [h1] at c1 HE
    unfold whoV at c1
    clear h1
    cases h2 : who 1 s with
    | none =>
      rw [h2] at c2 HE
      unfold whoV at c2
      have HF := hidp (show E = 2 from by have := HE.out; simp at this; exact this.symm)
      clear h2 HE HKO hX
      go_enter Tryd.func30, Tryd.ntmps30
      go_wp2_with fail
      have HX := hidp ((Below.refl w.heap.size w).alloc (Nat.le_refl _) (.cells #[.string r, .string s, .int .u8 (k : Int), .string y, .string b, .int .i64 n] 24)); have HA := hidp (Arr.new w 24 [.string r, .string s, .int .u8 (k : Int), .string y, .string b, .int .i64 n])
      obtain ⟨bd, hbd⟩ : ∃ b, w.heap.size = b := ⟨_, rfl⟩
      generalize hW : (w.alloc (.cells #[.string r, .string s, .int .u8 (k : Int), .string y, .string b, .int .i64 n] 24)) = W0 at HX HA ⊢
      rw [hbd] at HA ⊢
      rw [← hbd]
      clear hW
      refine (c1.out _).mono ?_
      rintro e w1 ⟨rfl, hb1⟩
      have HB1 := hidp (HX.out.trans (hb1.mono HX.out.size)); have HA1 := hidp (HA.out.below hb1 HA.out.lt)
      clear hb1
      obtain ⟨x0, x1, x2, x3, x4, x5⟩ := arr6 HA1.out
      go_wp2_with fail
      clear x0 x1 x2 x3 x4 x5
      refine (c2.out _).mono ?_
      rintro e w2 ⟨rfl, hb2⟩
      have HB2 := hidp (HB1.out.trans (hb2.mono HB1.out.size)); have HA2 := hidp (HA1.out.below hb2 HA1.out.lt)
      clear hb2
      obtain ⟨x0, x1, x2, x3, x4, x5⟩ := arr6 HA2.out
      go_wp2_with fail
      clear x0 x1 x2 x3 x4 x5
      refine (c4.out _).mono ?_
      rintro e w3 ⟨rfl, hb3⟩
      have HB3 := hidp (HB2.out.trans (hb3.mono HB2.out.size)); have HA3 := hidp (HA2.out.below hb3 HA2.out.lt)
      clear hb3
      obtain ⟨x0, x1, x2, x3, x4, x5⟩ := arr6 HA3.out
      go_wp2_with fail
      go_ret
      exact ⟨by rw [HF.out]; rfl, HB3.out⟩
    | some m2 =>
      rw [h2] at c2 HE
      unfold whoV at c2
      clear h2
      by_cases h3 : 1 ≤ k ∧ k ≤ 8
      · have hf := word_full h3
        rw [hX] at hf c3
        obtain ⟨f1, f2, f3⟩ := full_facts hf
        rw [decide_eq_true h3] at HE
        clear hf hX h3
        by_cases h5 : 512 < b.size
        · have e5 : decide ((512 : Int) < (b.size : Int)) = true := by simp; omega
          have n5 : (512 : Int) < (b.size : Int) := by omega
          rw [decide_eq_false (show ¬ b.size ≤ 512 from by omega)] at HE
          have HF := hidp (show E = 2 from by have := HE.out; simp at this; exact this.symm)
          clear h5 HE HKO
          go_enter Tryd.func30, Tryd.ntmps30
          go_wp2_with fail
          have HX := hidp ((Below.refl w.heap.size w).alloc (Nat.le_refl _) (.cells #[.string r, .string s, .int .u8 (k : Int), .string y, .string b, .int .i64 n] 24)); have HA := hidp (Arr.new w 24 [.string r, .string s, .int .u8 (k : Int), .string y, .string b, .int .i64 n])
          obtain ⟨bd, hbd⟩ : ∃ b, w.heap.size = b := ⟨_, rfl⟩
          generalize hW : (w.alloc (.cells #[.string r, .string s, .int .u8 (k : Int), .string y, .string b, .int .i64 n] 24)) = W0 at HX HA ⊢
          rw [hbd] at HA ⊢
          rw [← hbd]
          clear hW
          refine (c1.out _).mono ?_
          rintro e w1 ⟨rfl, hb1⟩
          have HB1 := hidp (HX.out.trans (hb1.mono HX.out.size)); have HA1 := hidp (HA.out.below hb1 HA.out.lt)
          clear hb1
          obtain ⟨x0, x1, x2, x3, x4, x5⟩ := arr6 HA1.out
          go_wp2_with fail
          clear x0 x1 x2 x3 x4 x5
          refine (c2.out _).mono ?_
          rintro e w2 ⟨rfl, hb2⟩
          have HB2 := hidp (HB1.out.trans (hb2.mono HB1.out.size)); have HA2 := hidp (HA1.out.below hb2 HA1.out.lt)
          clear hb2
          obtain ⟨x0, x1, x2, x3, x4, x5⟩ := arr6 HA2.out
          go_wp2_with fail
          clear x0 x1 x2 x3 x4 x5
          refine (c4.out _).mono ?_
          rintro e w3 ⟨rfl, hb3⟩
          have HB3 := hidp (HB2.out.trans (hb3.mono HB2.out.size)); have HA3 := hidp (HA2.out.below hb3 HA2.out.lt)
          clear hb3
          obtain ⟨x0, x1, x2, x3, x4, x5⟩ := arr6 HA3.out
          go_wp2_with fail
          clear x0 x1 x2 x3 x4 x5
          refine (c3.out _).mono ?_
          rintro e w4 ⟨rfl, hb4⟩
          have HB4 := hidp (HB3.out.trans (hb4.mono HB3.out.size)); have HA4 := hidp (HA3.out.below hb4 HA3.out.lt)
          clear hb4
          obtain ⟨x0, x1, x2, x3, x4, x5⟩ := arr6 HA4.out
          go_wp2_with fail
          go_ret
          exact ⟨by rw [HF.out]; rfl, HB4.out⟩
        · have e5 : decide ((512 : Int) < (b.size : Int)) = false := by simp; omega
          have n5 : ¬ (512 : Int) < (b.size : Int) := by omega
          rw [decide_eq_true (show b.size ≤ 512 from by omega)] at HE
          by_cases h6 : n < 0
          · have e6 : decide (n < 0) = true := by simp; omega
            rw [decide_eq_false (show ¬ (0 ≤ n ∧ n ≤ 1099511627776) from by omega)] at HE
            have HF := hidp (show E = 2 from by have := HE.out; simp at this; exact this.symm)
            clear h5 HE HKO
            go_enter Tryd.func30, Tryd.ntmps30
            go_wp2_with fail
            have HX := hidp ((Below.refl w.heap.size w).alloc (Nat.le_refl _) (.cells #[.string r, .string s, .int .u8 (k : Int), .string y, .string b, .int .i64 n] 24)); have HA := hidp (Arr.new w 24 [.string r, .string s, .int .u8 (k : Int), .string y, .string b, .int .i64 n])
            obtain ⟨bd, hbd⟩ : ∃ b, w.heap.size = b := ⟨_, rfl⟩
            generalize hW : (w.alloc (.cells #[.string r, .string s, .int .u8 (k : Int), .string y, .string b, .int .i64 n] 24)) = W0 at HX HA ⊢
            rw [hbd] at HA ⊢
            rw [← hbd]
            clear hW
            refine (c1.out _).mono ?_
            rintro e w1 ⟨rfl, hb1⟩
            have HB1 := hidp (HX.out.trans (hb1.mono HX.out.size)); have HA1 := hidp (HA.out.below hb1 HA.out.lt)
            clear hb1
            obtain ⟨x0, x1, x2, x3, x4, x5⟩ := arr6 HA1.out
            go_wp2_with fail
            clear x0 x1 x2 x3 x4 x5
            refine (c2.out _).mono ?_
            rintro e w2 ⟨rfl, hb2⟩
            have HB2 := hidp (HB1.out.trans (hb2.mono HB1.out.size)); have HA2 := hidp (HA1.out.below hb2 HA1.out.lt)
            clear hb2
            obtain ⟨x0, x1, x2, x3, x4, x5⟩ := arr6 HA2.out
            go_wp2_with fail
            clear x0 x1 x2 x3 x4 x5
            refine (c4.out _).mono ?_
            rintro e w3 ⟨rfl, hb3⟩
            have HB3 := hidp (HB2.out.trans (hb3.mono HB2.out.size)); have HA3 := hidp (HA2.out.below hb3 HA2.out.lt)
            clear hb3
            obtain ⟨x0, x1, x2, x3, x4, x5⟩ := arr6 HA3.out
            go_wp2_with fail
            clear x0 x1 x2 x3 x4 x5
            refine (c3.out _).mono ?_
            rintro e w4 ⟨rfl, hb4⟩
            have HB4 := hidp (HB3.out.trans (hb4.mono HB3.out.size)); have HA4 := hidp (HA3.out.below hb4 HA3.out.lt)
            clear hb4
            obtain ⟨x0, x1, x2, x3, x4, x5⟩ := arr6 HA4.out
            go_wp2_with fail
            go_ret
            exact ⟨by rw [HF.out]; rfl, HB4.out⟩
          · have e6 : decide (n < 0) = false := by simp; omega
            by_cases h7 : 1099511627776 < n
            · have e7 : decide (1099511627776 < n) = true := by simp; omega
              rw [decide_eq_false (show ¬ (0 ≤ n ∧ n ≤ 1099511627776) from by omega)] at HE
              have HF := hidp (show E = 2 from by have := HE.out; simp at this; exact this.symm)
              clear h5 h6 HE HKO
              go_enter Tryd.func30, Tryd.ntmps30
              go_wp2_with fail
              have HX := hidp ((Below.refl w.heap.size w).alloc (Nat.le_refl _) (.cells #[.string r, .string s, .int .u8 (k : Int), .string y, .string b, .int .i64 n] 24)); have HA := hidp (Arr.new w 24 [.string r, .string s, .int .u8 (k : Int), .string y, .string b, .int .i64 n])
              obtain ⟨bd, hbd⟩ : ∃ b, w.heap.size = b := ⟨_, rfl⟩
              generalize hW : (w.alloc (.cells #[.string r, .string s, .int .u8 (k : Int), .string y, .string b, .int .i64 n] 24)) = W0 at HX HA ⊢
              rw [hbd] at HA ⊢
              rw [← hbd]
              clear hW
              refine (c1.out _).mono ?_
              rintro e w1 ⟨rfl, hb1⟩
              have HB1 := hidp (HX.out.trans (hb1.mono HX.out.size)); have HA1 := hidp (HA.out.below hb1 HA.out.lt)
              clear hb1
              obtain ⟨x0, x1, x2, x3, x4, x5⟩ := arr6 HA1.out
              go_wp2_with fail
              clear x0 x1 x2 x3 x4 x5
              refine (c2.out _).mono ?_
              rintro e w2 ⟨rfl, hb2⟩
              have HB2 := hidp (HB1.out.trans (hb2.mono HB1.out.size)); have HA2 := hidp (HA1.out.below hb2 HA1.out.lt)
              clear hb2
              obtain ⟨x0, x1, x2, x3, x4, x5⟩ := arr6 HA2.out
              go_wp2_with fail
              clear x0 x1 x2 x3 x4 x5
              refine (c4.out _).mono ?_
              rintro e w3 ⟨rfl, hb3⟩
              have HB3 := hidp (HB2.out.trans (hb3.mono HB2.out.size)); have HA3 := hidp (HA2.out.below hb3 HA2.out.lt)
              clear hb3
              obtain ⟨x0, x1, x2, x3, x4, x5⟩ := arr6 HA3.out
              go_wp2_with fail
              clear x0 x1 x2 x3 x4 x5
              refine (c3.out _).mono ?_
              rintro e w4 ⟨rfl, hb4⟩
              have HB4 := hidp (HB3.out.trans (hb4.mono HB3.out.size)); have HA4 := hidp (HA3.out.below hb4 HA3.out.lt)
              clear hb4
              obtain ⟨x0, x1, x2, x3, x4, x5⟩ := arr6 HA4.out
              go_wp2_with fail
              go_ret
              exact ⟨by rw [HF.out]; rfl, HB4.out⟩
            · have e7 : decide (1099511627776 < n) = false := by simp; omega
              rw [decide_eq_true (show (0 ≤ n ∧ n ≤ 1099511627776) from by omega)] at HE
              clear h5 h6
              by_cases hk2 : k = 2
              · have e8 : ((k : Int) == 2) = true := by rw [hk2]; rfl
                have e9 : ((k : Int) != 2) = false := by rw [hk2]; rfl
                rw [if_pos hk2] at HKO
                cases b4 with
                | false =>
                  rw [← HKO.out] at HE
                  have HF := hidp (show E = 2 from by have := HE.out; simp at this; exact this.symm)
                  clear HE HKO hk2
                  go_enter Tryd.func30, Tryd.ntmps30
                  go_wp2_with fail
                  have HX := hidp ((Below.refl w.heap.size w).alloc (Nat.le_refl _) (.cells #[.string r, .string s, .int .u8 (k : Int), .string y, .string b, .int .i64 n] 24)); have HA := hidp (Arr.new w 24 [.string r, .string s, .int .u8 (k : Int), .string y, .string b, .int .i64 n])
                  obtain ⟨bd, hbd⟩ : ∃ b, w.heap.size = b := ⟨_, rfl⟩
                  generalize hW : (w.alloc (.cells #[.string r, .string s, .int .u8 (k : Int), .string y, .string b, .int .i64 n] 24)) = W0 at HX HA ⊢
                  rw [hbd] at HA ⊢
                  rw [← hbd]
                  clear hW
                  refine (c1.out _).mono ?_
                  rintro e w1 ⟨rfl, hb1⟩
                  have HB1 := hidp (HX.out.trans (hb1.mono HX.out.size)); have HA1 := hidp (HA.out.below hb1 HA.out.lt)
                  clear hb1
                  obtain ⟨x0, x1, x2, x3, x4, x5⟩ := arr6 HA1.out
                  go_wp2_with fail
                  clear x0 x1 x2 x3 x4 x5
                  refine (c2.out _).mono ?_
                  rintro e w2 ⟨rfl, hb2⟩
                  have HB2 := hidp (HB1.out.trans (hb2.mono HB1.out.size)); have HA2 := hidp (HA1.out.below hb2 HA1.out.lt)
                  clear hb2
                  obtain ⟨x0, x1, x2, x3, x4, x5⟩ := arr6 HA2.out
                  go_wp2_with fail
                  clear x0 x1 x2 x3 x4 x5
                  refine (c4.out _).mono ?_
                  rintro e w3 ⟨rfl, hb3⟩
                  have HB3 := hidp (HB2.out.trans (hb3.mono HB2.out.size)); have HA3 := hidp (HA2.out.below hb3 HA2.out.lt)
                  clear hb3
                  obtain ⟨x0, x1, x2, x3, x4, x5⟩ := arr6 HA3.out
                  go_wp2_with fail
                  clear x0 x1 x2 x3 x4 x5
                  refine (c3.out _).mono ?_
                  rintro e w4 ⟨rfl, hb4⟩
                  have HB4 := hidp (HB3.out.trans (hb4.mono HB3.out.size)); have HA4 := hidp (HA3.out.below hb4 HA3.out.lt)
                  clear hb4
                  obtain ⟨x0, x1, x2, x3, x4, x5⟩ := arr6 HA4.out
                  go_wp2_with fail
                  go_ret
                  exact ⟨by rw [HF.out]; rfl, HB4.out⟩
                | true =>
                  rw [← HKO.out] at HE
                  have HF := hidp (show E = 0 from by have := HE.out; simp at this; exact this.symm)
                  clear HE HKO hk2
                  go_enter Tryd.func30, Tryd.ntmps30
                  go_wp2_with fail
                  have HX := hidp ((Below.refl w.heap.size w).alloc (Nat.le_refl _) (.cells #[.string r, .string s, .int .u8 (k : Int), .string y, .string b, .int .i64 n] 24)); have HA := hidp (Arr.new w 24 [.string r, .string s, .int .u8 (k : Int), .string y, .string b, .int .i64 n])
                  obtain ⟨bd, hbd⟩ : ∃ b, w.heap.size = b := ⟨_, rfl⟩
                  generalize hW : (w.alloc (.cells #[.string r, .string s, .int .u8 (k : Int), .string y, .string b, .int .i64 n] 24)) = W0 at HX HA ⊢
                  rw [hbd] at HA ⊢
                  rw [← hbd]
                  clear hW
                  refine (c1.out _).mono ?_
                  rintro e w1 ⟨rfl, hb1⟩
                  have HB1 := hidp (HX.out.trans (hb1.mono HX.out.size)); have HA1 := hidp (HA.out.below hb1 HA.out.lt)
                  clear hb1
                  obtain ⟨x0, x1, x2, x3, x4, x5⟩ := arr6 HA1.out
                  go_wp2_with fail
                  clear x0 x1 x2 x3 x4 x5
                  refine (c2.out _).mono ?_
                  rintro e w2 ⟨rfl, hb2⟩
                  have HB2 := hidp (HB1.out.trans (hb2.mono HB1.out.size)); have HA2 := hidp (HA1.out.below hb2 HA1.out.lt)
                  clear hb2
                  obtain ⟨x0, x1, x2, x3, x4, x5⟩ := arr6 HA2.out
                  go_wp2_with fail
                  clear x0 x1 x2 x3 x4 x5
                  refine (c4.out _).mono ?_
                  rintro e w3 ⟨rfl, hb3⟩
                  have HB3 := hidp (HB2.out.trans (hb3.mono HB2.out.size)); have HA3 := hidp (HA2.out.below hb3 HA2.out.lt)
                  clear hb3
                  obtain ⟨x0, x1, x2, x3, x4, x5⟩ := arr6 HA3.out
                  go_wp2_with fail
                  clear x0 x1 x2 x3 x4 x5
                  refine (c3.out _).mono ?_
                  rintro e w4 ⟨rfl, hb4⟩
                  have HB4 := hidp (HB3.out.trans (hb4.mono HB3.out.size)); have HA4 := hidp (HA3.out.below hb4 HA3.out.lt)
                  clear hb4
                  obtain ⟨x0, x1, x2, x3, x4, x5⟩ := arr6 HA4.out
                  go_wp2_with fail
                  go_ret
                  exact ⟨by rw [HF.out]; rfl, HB4.out⟩
              · have e8 : ((k : Int) == 2) = false := beq_eq_false_iff_ne.2 (by omega)
                have e9 : ((k : Int) != 2) = true := by simp; omega
                have n8 : ¬ k = 2 := hk2
                rw [if_neg hk2] at HKO
                by_cases hy0 : y.size = 0
                · obtain ⟨y1, y2, y3⟩ := empty_facts hy0
                  have y4 : (y.toList != (⟨#[]⟩ : ByteArray).toList) = false := by unfold bne; rw [y3]; rfl
                  rw [← HKO.out, decide_eq_true hy0] at HE
                  have HF := hidp (show E = 0 from by have := HE.out; simp at this; exact this.symm)
                  clear HE HKO hk2 hy0
                  go_enter Tryd.func30, Tryd.ntmps30
                  go_wp2_with fail
                  have HX := hidp ((Below.refl w.heap.size w).alloc (Nat.le_refl _) (.cells #[.string r, .string s, .int .u8 (k : Int), .string y, .string b, .int .i64 n] 24)); have HA := hidp (Arr.new w 24 [.string r, .string s, .int .u8 (k : Int), .string y, .string b, .int .i64 n])
                  obtain ⟨bd, hbd⟩ : ∃ b, w.heap.size = b := ⟨_, rfl⟩
                  generalize hW : (w.alloc (.cells #[.string r, .string s, .int .u8 (k : Int), .string y, .string b, .int .i64 n] 24)) = W0 at HX HA ⊢
                  rw [hbd] at HA ⊢
                  rw [← hbd]
                  clear hW
                  refine (c1.out _).mono ?_
                  rintro e w1 ⟨rfl, hb1⟩
                  have HB1 := hidp (HX.out.trans (hb1.mono HX.out.size)); have HA1 := hidp (HA.out.below hb1 HA.out.lt)
                  clear hb1
                  obtain ⟨x0, x1, x2, x3, x4, x5⟩ := arr6 HA1.out
                  go_wp2_with fail
                  clear x0 x1 x2 x3 x4 x5
                  refine (c2.out _).mono ?_
                  rintro e w2 ⟨rfl, hb2⟩
                  have HB2 := hidp (HB1.out.trans (hb2.mono HB1.out.size)); have HA2 := hidp (HA1.out.below hb2 HA1.out.lt)
                  clear hb2
                  obtain ⟨x0, x1, x2, x3, x4, x5⟩ := arr6 HA2.out
                  go_wp2_with fail
                  clear x0 x1 x2 x3 x4 x5
                  refine (c4.out _).mono ?_
                  rintro e w3 ⟨rfl, hb3⟩
                  have HB3 := hidp (HB2.out.trans (hb3.mono HB2.out.size)); have HA3 := hidp (HA2.out.below hb3 HA2.out.lt)
                  clear hb3
                  obtain ⟨x0, x1, x2, x3, x4, x5⟩ := arr6 HA3.out
                  go_wp2_with fail
                  clear x0 x1 x2 x3 x4 x5
                  refine (c3.out _).mono ?_
                  rintro e w4 ⟨rfl, hb4⟩
                  have HB4 := hidp (HB3.out.trans (hb4.mono HB3.out.size)); have HA4 := hidp (HA3.out.below hb4 HA3.out.lt)
                  clear hb4
                  obtain ⟨x0, x1, x2, x3, x4, x5⟩ := arr6 HA4.out
                  go_wp2_with fail
                  go_ret
                  exact ⟨by rw [HF.out]; rfl, HB4.out⟩
                · obtain ⟨y1, y2, y3⟩ := full_facts hy0
                  have y4 : (y.toList != (⟨#[]⟩ : ByteArray).toList) = true := by unfold bne; rw [y3]; rfl
                  rw [← HKO.out, decide_eq_false hy0] at HE
                  have HF := hidp (show E = 2 from by have := HE.out; simp at this; exact this.symm)
                  clear HE HKO hk2 hy0
                  go_enter Tryd.func30, Tryd.ntmps30
                  go_wp2_with fail
                  have HX := hidp ((Below.refl w.heap.size w).alloc (Nat.le_refl _) (.cells #[.string r, .string s, .int .u8 (k : Int), .string y, .string b, .int .i64 n] 24)); have HA := hidp (Arr.new w 24 [.string r, .string s, .int .u8 (k : Int), .string y, .string b, .int .i64 n])
                  obtain ⟨bd, hbd⟩ : ∃ b, w.heap.size = b := ⟨_, rfl⟩
                  generalize hW : (w.alloc (.cells #[.string r, .string s, .int .u8 (k : Int), .string y, .string b, .int .i64 n] 24)) = W0 at HX HA ⊢
                  rw [hbd] at HA ⊢
                  rw [← hbd]
                  clear hW
                  refine (c1.out _).mono ?_
                  rintro e w1 ⟨rfl, hb1⟩
                  have HB1 := hidp (HX.out.trans (hb1.mono HX.out.size)); have HA1 := hidp (HA.out.below hb1 HA.out.lt)
                  clear hb1
                  obtain ⟨x0, x1, x2, x3, x4, x5⟩ := arr6 HA1.out
                  go_wp2_with fail
                  clear x0 x1 x2 x3 x4 x5
                  refine (c2.out _).mono ?_
                  rintro e w2 ⟨rfl, hb2⟩
                  have HB2 := hidp (HB1.out.trans (hb2.mono HB1.out.size)); have HA2 := hidp (HA1.out.below hb2 HA1.out.lt)
                  clear hb2
                  obtain ⟨x0, x1, x2, x3, x4, x5⟩ := arr6 HA2.out
                  go_wp2_with fail
                  clear x0 x1 x2 x3 x4 x5
                  refine (c4.out _).mono ?_
                  rintro e w3 ⟨rfl, hb3⟩
                  have HB3 := hidp (HB2.out.trans (hb3.mono HB2.out.size)); have HA3 := hidp (HA2.out.below hb3 HA2.out.lt)
                  clear hb3
                  obtain ⟨x0, x1, x2, x3, x4, x5⟩ := arr6 HA3.out
                  go_wp2_with fail
                  clear x0 x1 x2 x3 x4 x5
                  refine (c3.out _).mono ?_
                  rintro e w4 ⟨rfl, hb4⟩
                  have HB4 := hidp (HB3.out.trans (hb4.mono HB3.out.size)); have HA4 := hidp (HA3.out.below hb4 HA3.out.lt)
                  clear hb4
                  obtain ⟨x0, x1, x2, x3, x4, x5⟩ := arr6 HA4.out
                  go_wp2_with fail
                  go_ret
                  exact ⟨by rw [HF.out]; rfl, HB4.out⟩
      · have hf := word_empty h3
        rw [hX] at hf c3
        obtain ⟨f1, f2, f3⟩ := empty_facts hf
        rw [decide_eq_false h3] at HE
        have HF := hidp (show E = 2 from by have := HE.out; simp at this; exact this.symm)
        clear h3 HE HKO hf hX
        go_enter Tryd.func30, Tryd.ntmps30
        go_wp2_with fail
        have HX := hidp ((Below.refl w.heap.size w).alloc (Nat.le_refl _) (.cells #[.string r, .string s, .int .u8 (k : Int), .string y, .string b, .int .i64 n] 24)); have HA := hidp (Arr.new w 24 [.string r, .string s, .int .u8 (k : Int), .string y, .string b, .int .i64 n])
        obtain ⟨bd, hbd⟩ : ∃ b, w.heap.size = b := ⟨_, rfl⟩
        generalize hW : (w.alloc (.cells #[.string r, .string s, .int .u8 (k : Int), .string y, .string b, .int .i64 n] 24)) = W0 at HX HA ⊢
        rw [hbd] at HA ⊢
        rw [← hbd]
        clear hW
        refine (c1.out _).mono ?_
        rintro e w1 ⟨rfl, hb1⟩
        have HB1 := hidp (HX.out.trans (hb1.mono HX.out.size)); have HA1 := hidp (HA.out.below hb1 HA.out.lt)
        clear hb1
        obtain ⟨x0, x1, x2, x3, x4, x5⟩ := arr6 HA1.out
        go_wp2_with fail
        clear x0 x1 x2 x3 x4 x5
        refine (c2.out _).mono ?_
        rintro e w2 ⟨rfl, hb2⟩
        have HB2 := hidp (HB1.out.trans (hb2.mono HB1.out.size)); have HA2 := hidp (HA1.out.below hb2 HA1.out.lt)
        clear hb2
        obtain ⟨x0, x1, x2, x3, x4, x5⟩ := arr6 HA2.out
        go_wp2_with fail
        clear x0 x1 x2 x3 x4 x5
        refine (c4.out _).mono ?_
        rintro e w3 ⟨rfl, hb3⟩
        have HB3 := hidp (HB2.out.trans (hb3.mono HB2.out.size)); have HA3 := hidp (HA2.out.below hb3 HA2.out.lt)
        clear hb3
        obtain ⟨x0, x1, x2, x3, x4, x5⟩ := arr6 HA3.out
        go_wp2_with fail
        clear x0 x1 x2 x3 x4 x5
        refine (c3.out _).mono ?_
        rintro e w4 ⟨rfl, hb4⟩
        have HB4 := hidp (HB3.out.trans (hb4.mono HB3.out.size)); have HA4 := hidp (HA3.out.below hb4 HA3.out.lt)
        clear hb4
        obtain ⟨x0, x1, x2, x3, x4, x5⟩ := arr6 HA4.out
        go_wp2_with fail
        go_ret
        exact ⟨by rw [HF.out]; rfl, HB4.out⟩
end Go.Proofs.YtdaiichpihhckaaDoor

namespace Go.Proofs.YtdaiichpihhckaaDoor
set_option maxRecDepth 100000
set_option linter.unusedVariables false
set_option linter.unusedSimpArgs false
open Go.RowKit

theorem o_put {P : Program} {ops : Array Oper} {Q : Exit → Act → World → Prop} {S : World → Prop} {k : Nat} {K : Act → World → Prop} {a : Act} {w W : World} {o : Oper} (ho : ops[k]? = some o) (hw : Region.wanted o (yielded ops a.tmps) = true)
    (hop : (execOp a.eval o).run P w = .ok .skip W) (hS : S W) (h : K (a.put o.dst undef) W) : opW P ops Q S k K a w := by
  refine ⟨o, ho, hw, ?_⟩
  unfold Oper.wp
  rw [hop]
  exact ⟨hS, h⟩
/-- What an event's parse hands back. -/
def evV : Option Ev → Value
  | some e => .agg #[.string e.room, .string e.sender, .int .u8 (e.kind : Int), .string e.key, .string e.body, .int .i64 e.nonce]
  | none => .agg #[.string ⟨#[]⟩, .string ⟨#[]⟩, .int .u8 0, .string ⟨#[]⟩, .string ⟨#[]⟩, .int .i64 0]
def evX : Option Ev → Int
  | some _ => 0
  | none => 6
theorem evOf_len {L : List ByteArray} (h : L.length ≠ 6) : evOf L = none := by
  unfold evOf
  split
  · simp at h
  · rfl
theorem strs6 {W : World} {bb off cap : Nat} {a b c d e f : ByteArray} (h : StrsAt W (.slice (some ⟨bb, off, none⟩) 6 cap) [a, b, c, d, e, f]) :
    W.cell? ⟨bb, off, none⟩ = some (.string a) ∧ W.cell? ⟨bb, off + 1, none⟩ = some (.string b) ∧ W.cell? ⟨bb, off + 2, none⟩ = some (.string c) ∧ W.cell? ⟨bb, off + 3, none⟩ = some (.string d) ∧ W.cell? ⟨bb, off + 4, none⟩ = some (.string e) ∧ W.cell? ⟨bb, off + 5, none⟩ = some (.string f) := by
  obtain ⟨x, cap', hv, hc⟩ := h
  simp only [Value.slice.injEq] at hv
  obtain ⟨hx, -, -⟩ := hv
  subst hx
  have g : ∀ k (hk : k < [a, b, c, d, e, f].length), W.cell? ⟨bb, off + k, none⟩ = some (.string [a, b, c, d, e, f][k]) := fun k hk => by
    obtain ⟨b1, o1, e1, h1⟩ := hc k hk
    simp only [Option.some.injEq, Addr.mk.injEq, and_true] at e1
    obtain ⟨rfl, rfl⟩ := e1
    exact h1
  exact ⟨g 0 (by simp), g 1 (by simp), g 2 (by simp), g 3 (by simp), g 4 (by simp), g 5 (by simp)⟩
theorem strs_form6 {W : World} {v : Value} {ss : List ByteArray} (h : StrsAt W v ss) (hl : ss.length = 6) : ∃ bb off cap, v = .slice (some ⟨bb, off, none⟩) 6 cap := by
  obtain ⟨x, cap, rfl, hc⟩ := h
  obtain ⟨bb, off, rfl, -⟩ := hc 0 (by omega)
  exact ⟨bb, off, cap, by rw [hl]⟩
theorem strs_len {W : World} {v : Value} {ss : List ByteArray} (h : StrsAt W v ss) : ∃ x cap, v = .slice x ss.length cap := by
  obtain ⟨x, cap, rfl, -⟩ := h; exact ⟨x, cap, rfl⟩
theorem arr6f {w : World} {b T : Nat} {x0 x1 x2 x3 x4 x5 : Value} (h : Arr w b T [x0, x1, x2, x3, x4, x5]) : w.cell? ⟨b, 0, none⟩ = some x0 ∧ w.cell? ⟨b, 1, none⟩ = some x1 ∧ w.cell? ⟨b, 2, none⟩ = some x2 ∧ w.cell? ⟨b, 3, none⟩ = some x3 ∧ w.cell? ⟨b, 4, none⟩ = some x4 ∧ w.cell? ⟨b, 5, none⟩ = some x5 ∧
    w.frozen? ⟨b, 0, none⟩ = false ∧ w.frozen? ⟨b, 1, none⟩ = false ∧ w.frozen? ⟨b, 2, none⟩ = false ∧ w.frozen? ⟨b, 3, none⟩ = false ∧ w.frozen? ⟨b, 4, none⟩ = false ∧ w.frozen? ⟨b, 5, none⟩ = false :=
  ⟨h.cell 0 (by simp), h.cell 1 (by simp), h.cell 2 (by simp), h.cell 3 (by simp), h.cell 4 (by simp), h.cell 5 (by simp), h.frozen 0, h.frozen 1, h.frozen 2, h.frozen 3, h.frozen 4, h.frozen 5⟩

theorem al_none {s : ByteArray} (h : (al s).2 ≠ 0) : (al s).1 = [] := by
  obtain ⟨⟨L, j, e⟩, hr⟩ : ∃ r, gl s = r := ⟨_, rfl⟩
  unfold al at h ⊢
  rw [hr] at h ⊢
  simp only at h ⊢
  by_cases he : e = 0
  · subst he
    simp only [ne_eq, not_true_eq_false, if_false] at h ⊢
    by_cases hj : j < s.size
    · rw [if_pos hj]
    · rw [if_neg hj] at h; exact absurd rfl h
  · rw [if_pos he]
theorem al_small (s : ByteArray) (hs : s.size ≤ 281474976710656) : ∀ t ∈ (al s).1, t.size ≤ 281474976710656 := by
  intro t ht
  by_cases h : (al s).2 = 0
  · obtain ⟨-, h2⟩ := al_again h
    have := h2.2 t ht; omega
  · have h1 : (al s).1 = [] := al_none h
    rw [h1] at ht; cases ht

end Go.Proofs.YtdaiichpihhckaaDoor

namespace Go.Proofs.YtdaiichpihhckaaDoor
set_option maxRecDepth 100000
set_option linter.unusedVariables false
set_option linter.unusedSimpArgs false
open Go.RowKit

set_option maxHeartbeats 16000000 in
theorem revBytes_any (w : World) (r s : ByteArray) (k : Nat) (y b : ByteArray) (n : Int) (hk : k < 256) (hr : r.size ≤ 281474976710656) (hs : s.size ≤ 281474976710656) (hy : y.size ≤ 281474976710656) (hb : b.size ≤ 281474976710656) :
    Calls Tryd.prog 39 #[.agg #[.string r, .string s, .int .u8 (k : Int), .string y, .string b, .int .i64 n]] w fun e w' => e = .returned (.tuple #[.string (evB (⟨r, s, k, y, b, n⟩ : Ev)), .int .i64 (evE (⟨r, s, k, y, b, n⟩ : Ev))]) ∧ Below w.heap.size w w' := by
  have c1 := hidp (fun W => revCheck_any W r s k y b n hk hr hs hy hb)
  skip
  have HX := hidp ((Below.refl w.heap.size w).alloc (Nat.le_refl _) (.cells #[.string r, .string s, .int .u8 (k : Int), .string y, .string b, .int .i64 n] 24)); have HA := hidp (Arr.new w 24 [.string r, .string s, .int .u8 (k : Int), .string y, .string b, .int .i64 n])
  cases hok : evOk (⟨r, s, k, y, b, n⟩ : Ev) with
  | false =>
    have h1 : evE (⟨r, s, k, y, b, n⟩ : Ev) = 2 := by unfold evE; rw [hok]; rfl
    have h2 : evB (⟨r, s, k, y, b, n⟩ : Ev) = ⟨#[]⟩ := by unfold evB; rw [hok]; rfl
    rw [h1] at c1
    rw [h1, h2]
    clear h1 h2 hok
    go_enter Tryd.func39, Tryd.ntmps39
    go_wp2_with fail
    refine (c1.out _).mono ?_
    rintro e w1 ⟨rfl, hb1⟩
    have HB1 := hidp (HX.out.trans (hb1.mono HX.out.size))
    clear hb1
    go_wp2_with fail
    go_ret2
    exact ⟨rfl, HB1.out⟩
  | true =>
    have h1 : evE (⟨r, s, k, y, b, n⟩ : Ev) = 0 := by unfold evE; rw [hok]; rfl
    have hLok := evL_ok hok
    obtain ⟨-, -, -, -, -, -, p7, p8⟩ := evOk_parts hok
    simp only at p7 p8
    have h2 : evB (⟨r, s, k, y, b, n⟩ : Ev) = mkS (encL (evL (⟨r, s, k, y, b, n⟩ : Ev))) := by unfold evB; rw [hok]; rfl
    obtain ⟨m, rfl⟩ : ∃ m : Nat, n = m := ⟨n.toNat, by omega⟩
    have hm : m ≤ 1099511627776 := by omega
    unfold evL at hLok h2
    simp only [Int.toNat_natCast] at hLok h2
    have cn := hidp (show ∀ W, Calls Tryd.prog 66 #[.int .u64 (m : Int)] W fun e w' => e = .returned (.tuple #[.string (mkS (encN m)), .int .i64 0]) ∧ Below W.heap.size W w' from fun W => by
      have := refNum_any W m (by omega)
      rw [numS_yes (by omega), numE_yes (by omega)] at this; exact this)
    obtain ⟨N, hN⟩ : ∃ N, mkS (encN m) = N := ⟨_, rfl⟩
    obtain ⟨K, hK⟩ : ∃ K, word k = K := ⟨_, rfl⟩
    have ck := hidp (fun W => rword_any W k hk)
    rw [hN] at cn hLok h2
    rw [hK] at ck hLok h2
    have cl := hidp (show ∀ W v, StrsAt W v [r, s, K, y, b, N] → Calls Tryd.prog 67 #[v] W fun e w' => e = .returned (.tuple #[.string (mkS (encL [r, s, K, y, b, N])), .int .i64 0]) ∧ Below W.heap.size W w' from fun W v h => by
      have := refList_any W v _ h (by simp) (fun z hz => by have := hLok.2 z hz; omega)
      rw [listS_yes hLok, listE_yes hLok] at this; exact this)
    rw [h1] at c1
    rw [h1, h2]
    obtain ⟨R, hR⟩ : ∃ R, mkS (encL [r, s, K, y, b, N]) = R := ⟨_, rfl⟩
    rw [hR] at cl ⊢
    have hw1 : IntKind.u64.wrap (m : Int) = (m : Int) := IntWalk.u64_in _ ⟨by omega, by omega⟩
    clear h1 h2 hok hN hK hLok p7 p8 hR
    go_enter Tryd.func39, Tryd.ntmps39
    go_wp2_with fail
    obtain ⟨bd, hbd⟩ : ∃ b, w.heap.size = b := ⟨_, rfl⟩
    generalize hW0 : (w.alloc (.cells #[.string r, .string s, .int .u8 (k : Int), .string y, .string b, .int .i64 (m : Int)] 24)) = W0 at HX HA ⊢
    rw [hbd] at HA ⊢
    rw [← hbd]
    clear hW0
    refine (c1.out _).mono ?_
    rintro e w1 ⟨rfl, hb1⟩
    have HB1 := hidp (HX.out.trans (hb1.mono HX.out.size)); have HA1 := hidp (HA.out.below hb1 HA.out.lt)
    clear hb1
    obtain ⟨x0, x1, x2, x3, x4, x5⟩ := arr6 HA1.out
    go_wp2_with fail
    clear x0 x1 x2 x3 x4 x5
    refine (cn.out _).mono ?_
    rintro e w2 ⟨rfl, hb2⟩
    have HB2 := hidp (HB1.out.trans (hb2.mono HB1.out.size)); have HA2 := hidp (HA1.out.below hb2 HA1.out.lt)
    clear hb2
    go_wp2_with fail
    obtain ⟨U, hU⟩ : ∃ U, ({ w2 with drawn := w2.drawn + 1 } : World) = U := ⟨_, rfl⟩
    have bU : Below w2.heap.size w2 U := by rw [← hU]; exact (Below.refl _ _).drew
    have HBU := hidp (HB2.out.trans (bU.mono HB2.out.size)); have HAU := hidp (HA2.out.below bU HA2.out.lt)
    have HSU := hidp (show Arr U bd 24 [.string r, .string s, .int .u8 (k : Int), .string y, .string b, .int .i64 (m : Int)] ∧ True from ⟨HAU.out, trivial⟩)
    clear bU
    have hPS : ∀ W W', (Arr W bd 24 [.string r, .string s, .int .u8 (k : Int), .string y, .string b, .int .i64 (m : Int)] ∧ True) → Below W.heap.size W W' → (Arr W' bd 24 [.string r, .string s, .int .u8 (k : Int), .string y, .string b, .int .i64 (m : Int)] ∧ True) := fun W W' h hb => ⟨h.1.below hb h.1.lt, trivial⟩
    have HPS := hidp hPS; clear hPS
    refine wp_region_noPanic ?_
    refine wp_region_scr (S := fun W => Arr W bd 24 [.string r, .string s, .int .u8 (k : Int), .string y, .string b, .int .i64 (m : Int)] ∧ True) (.take 0 (.take 1 (.take 2 (.take 3 (.take 4 (.take 5 (.take 7 (.take 8 (.take 9 (.take 10 (.take 11 (.one 6 (.one 12 (.one 13 (.take 14 (.take 15 (.take 16 (.take 17 .done)))))))))))))))))) (by kernel_rfl) (by kernel_rfl) (fun _ _ _ _ _ h => h) (by simp [Scr.depth]) (by kernel_rfl) (by rw [hU]; exact HSU.out) ?_
    simp only [hU]
    clear hU
    apply s_val
    case ho => rfl
    case hw => rfl
    case hv => intro w hw; obtain ⟨x0, x1, x2, x3, x4, x5⟩ := arr6 hw.1; go_simp; first | done | with_reducible rfl | rfl
    simp only [Act.put, List.getElem_toArray, List.getElem_cons_zero, List.getElem_cons_succ, List.setIfInBounds_toArray, List.set_cons_zero, List.set_cons_succ]
    apply s_val
    case ho => rfl
    case hw => rfl
    case hv => intro w hw; obtain ⟨x0, x1, x2, x3, x4, x5⟩ := arr6 hw.1; go_simp; first | done | with_reducible rfl | rfl
    simp only [Act.put, List.getElem_toArray, List.getElem_cons_zero, List.getElem_cons_succ, List.setIfInBounds_toArray, List.set_cons_zero, List.set_cons_succ]
    apply s_val
    case ho => rfl
    case hw => rfl
    case hv => intro w hw; obtain ⟨x0, x1, x2, x3, x4, x5⟩ := arr6 hw.1; go_simp; first | done | with_reducible rfl | rfl
    simp only [Act.put, List.getElem_toArray, List.getElem_cons_zero, List.getElem_cons_succ, List.setIfInBounds_toArray, List.set_cons_zero, List.set_cons_succ]
    apply s_val
    case ho => rfl
    case hw => rfl
    case hv => intro w hw; obtain ⟨x0, x1, x2, x3, x4, x5⟩ := arr6 hw.1; go_simp; first | done | with_reducible rfl | rfl
    simp only [Act.put, List.getElem_toArray, List.getElem_cons_zero, List.getElem_cons_succ, List.setIfInBounds_toArray, List.set_cons_zero, List.set_cons_succ]
    apply s_val
    case ho => rfl
    case hw => rfl
    case hv => intro w hw; obtain ⟨x0, x1, x2, x3, x4, x5⟩ := arr6 hw.1; go_simp; first | done | with_reducible rfl | rfl
    simp only [Act.put, List.getElem_toArray, List.getElem_cons_zero, List.getElem_cons_succ, List.setIfInBounds_toArray, List.set_cons_zero, List.set_cons_succ]
    apply s_val
    case ho => rfl
    case hw => rfl
    case hv => intro w hw; obtain ⟨x0, x1, x2, x3, x4, x5⟩ := arr6 hw.1; go_simp; first | done | with_reducible rfl | rfl
    simp only [Act.put, List.getElem_toArray, List.getElem_cons_zero, List.getElem_cons_succ, List.setIfInBounds_toArray, List.set_cons_zero, List.set_cons_succ]
    apply s_val
    case ho => rfl
    case hw => rfl
    case hv => intro w hw; obtain ⟨x0, x1, x2, x3, x4, x5⟩ := arr6 hw.1; go_simp; first | done | with_reducible rfl | rfl
    simp only [Act.put, List.getElem_toArray, List.getElem_cons_zero, List.getElem_cons_succ, List.setIfInBounds_toArray, List.set_cons_zero, List.set_cons_succ]
    apply s_val
    case ho => rfl
    case hw => rfl
    case hv => intro w hw; obtain ⟨x0, x1, x2, x3, x4, x5⟩ := arr6 hw.1; go_simp; first | done | with_reducible rfl | rfl
    simp only [Act.put, List.getElem_toArray, List.getElem_cons_zero, List.getElem_cons_succ, List.setIfInBounds_toArray, List.set_cons_zero, List.set_cons_succ]
    apply s_val
    case ho => rfl
    case hw => rfl
    case hv => intro w hw; obtain ⟨x0, x1, x2, x3, x4, x5⟩ := arr6 hw.1; go_simp; first | done | with_reducible rfl | rfl
    simp only [Act.put, List.getElem_toArray, List.getElem_cons_zero, List.getElem_cons_succ, List.setIfInBounds_toArray, List.set_cons_zero, List.set_cons_succ]
    apply s_val
    case ho => rfl
    case hw => rfl
    case hv => intro w hw; obtain ⟨x0, x1, x2, x3, x4, x5⟩ := arr6 hw.1; go_simp; first | done | with_reducible rfl | rfl
    simp only [Act.put, List.getElem_toArray, List.getElem_cons_zero, List.getElem_cons_succ, List.setIfInBounds_toArray, List.set_cons_zero, List.set_cons_succ]
    apply s_val
    case ho => rfl
    case hw => rfl
    case hv => intro w hw; obtain ⟨x0, x1, x2, x3, x4, x5⟩ := arr6 hw.1; go_simp; first | done | with_reducible rfl | rfl
    simp only [Act.put, List.getElem_toArray, List.getElem_cons_zero, List.getElem_cons_succ, List.setIfInBounds_toArray, List.set_cons_zero, List.set_cons_succ]
    apply o_call (v := .string K) (f := 60) (args := #[.int .u8 (k : Int)]) (hc := ck.out _)
    case ho => rfl
    case hw => rfl
    case hop => go_simp; done
    intro w' hbw
    have HBw := hidp (HBU.out.trans (hbw.mono HBU.out.size)); have HSw := hidp (HPS.out _ _ HSU.out hbw)
    clear hbw
    refine ⟨HSw.out, ?_⟩
    simp only [Act.put, List.getElem_toArray, List.getElem_cons_zero, List.getElem_cons_succ, List.setIfInBounds_toArray, List.set_cons_zero, List.set_cons_succ]
    have HB3 := hidp ((Below.refl w'.heap.size w').alloc (Nat.le_refl _) (.cells #[.string r, .string s, .string K, .string y, .string b, .string N] 9))
    have HS3 := hidp (HPS.out _ _ HSw.out HB3.out)
    have HT3 := hidp (strsLit6 w' r s K y b N 9)
    have hbk := hidp (HBw.out.trans (HB3.out.mono HBw.out.size))
    apply o_make (W := w'.alloc (.cells #[.string r, .string s, .string K, .string y, .string b, .string N] 9)) (v := .slice (some ⟨w'.heap.size, 0, none⟩) 6 6) (hS := HS3.out)
    case ho => rfl
    case hw => rfl
    case hop => go_simp; done
    simp only [Act.put, List.getElem_toArray, List.getElem_cons_zero, List.getElem_cons_succ, List.setIfInBounds_toArray, List.set_cons_zero, List.set_cons_succ]
    apply o_call (v := .tuple #[.string R, .int .i64 0]) (f := 67) (args := #[.slice (some ⟨w'.heap.size, 0, none⟩) 6 6]) (hc := cl.out _ _ HT3.out)
    case ho => rfl
    case hw => rfl
    case hop => go_simp; done
    intro w4 hb4
    have HS4 := hidp (HPS.out _ _ HS3.out hb4)
    have HB4 := hidp (hbk.out.trans (hb4.mono hbk.out.size))
    refine ⟨HS4.out, ?_⟩
    simp only [Act.put, List.getElem_toArray, List.getElem_cons_zero, List.getElem_cons_succ, List.setIfInBounds_toArray, List.set_cons_zero, List.set_cons_succ]
    apply s_val
    case ho => rfl
    case hw => rfl
    case hv => intro w hw; obtain ⟨x0, x1, x2, x3, x4, x5⟩ := arr6 hw.1; go_simp; first | done | with_reducible rfl | rfl
    simp only [Act.put, List.getElem_toArray, List.getElem_cons_zero, List.getElem_cons_succ, List.setIfInBounds_toArray, List.set_cons_zero, List.set_cons_succ]
    apply s_val
    case ho => rfl
    case hw => rfl
    case hv => intro w hw; obtain ⟨x0, x1, x2, x3, x4, x5⟩ := arr6 hw.1; go_simp; first | done | with_reducible rfl | rfl
    simp only [Act.put, List.getElem_toArray, List.getElem_cons_zero, List.getElem_cons_succ, List.setIfInBounds_toArray, List.set_cons_zero, List.set_cons_succ]
    apply s_val
    case ho => rfl
    case hw => rfl
    case hv => intro w hw; obtain ⟨x0, x1, x2, x3, x4, x5⟩ := arr6 hw.1; go_simp; first | done | with_reducible rfl | rfl
    simp only [Act.put, List.getElem_toArray, List.getElem_cons_zero, List.getElem_cons_succ, List.setIfInBounds_toArray, List.set_cons_zero, List.set_cons_succ]
    apply s_val
    case ho => rfl
    case hw => rfl
    case hv => intro w hw; obtain ⟨x0, x1, x2, x3, x4, x5⟩ := arr6 hw.1; go_simp; first | done | with_reducible rfl | rfl
    simp only [Act.put, List.getElem_toArray, List.getElem_cons_zero, List.getElem_cons_succ, List.setIfInBounds_toArray, List.set_cons_zero, List.set_cons_succ]
    refine NoPanic.normal ?_
    go_wp2_with fail
    go_ret2
    exact ⟨rfl, HB4.out⟩
end Go.Proofs.YtdaiichpihhckaaDoor
