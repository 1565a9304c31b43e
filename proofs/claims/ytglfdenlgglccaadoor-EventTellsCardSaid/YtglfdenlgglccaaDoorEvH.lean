
/-
  The document's event: kinds, words, Check.
-/
import Derived.Test.YtglfdenlgglccaaDoorEvB
namespace Go.Proofs.YtglfdenlgglccaaDoor
set_option maxRecDepth 100000
set_option linter.unusedVariables false
set_option linter.unusedSimpArgs false
open Go.RowKit

theorem wordsArr_cell (w : World) (k : Nat) (hk : k < 9) : (w.alloc (.cells #[.string ⟨#[]⟩, .string ⟨#[99, 114, 101, 97, 116, 101]⟩, .string ⟨#[109, 101, 109, 98, 101, 114]⟩, .string ⟨#[112, 111, 119, 101, 114]⟩, .string ⟨#[114, 117, 108, 101]⟩, .string ⟨#[110, 97, 109, 101]⟩, .string ⟨#[109, 101, 115, 115, 97, 103, 101]⟩, .string ⟨#[114, 101, 100, 97, 99, 116]⟩, .string ⟨#[104, 97, 110, 100, 111, 118, 101, 114]⟩] 9)).cell? ⟨w.heap.size, k, none⟩ = some (.string (word k)) := by
  have h : (w.alloc (.cells #[.string ⟨#[]⟩, .string ⟨#[99, 114, 101, 97, 116, 101]⟩, .string ⟨#[109, 101, 109, 98, 101, 114]⟩, .string ⟨#[112, 111, 119, 101, 114]⟩, .string ⟨#[114, 117, 108, 101]⟩, .string ⟨#[110, 97, 109, 101]⟩, .string ⟨#[109, 101, 115, 115, 97, 103, 101]⟩, .string ⟨#[114, 101, 100, 97, 99, 116]⟩, .string ⟨#[104, 97, 110, 100, 111, 118, 101, 114]⟩] 9)).heap[w.heap.size]? = some (.cells #[.string ⟨#[]⟩, .string ⟨#[99, 114, 101, 97, 116, 101]⟩, .string ⟨#[109, 101, 109, 98, 101, 114]⟩, .string ⟨#[112, 111, 119, 101, 114]⟩, .string ⟨#[114, 117, 108, 101]⟩, .string ⟨#[110, 97, 109, 101]⟩, .string ⟨#[109, 101, 115, 115, 97, 103, 101]⟩, .string ⟨#[114, 101, 100, 97, 99, 116]⟩, .string ⟨#[104, 97, 110, 100, 111, 118, 101, 114]⟩] 9) := heap_alloc_new w _
  have hc : ∀ k : Fin 9, (#[.string ⟨#[]⟩, .string ⟨#[99, 114, 101, 97, 116, 101]⟩, .string ⟨#[109, 101, 109, 98, 101, 114]⟩, .string ⟨#[112, 111, 119, 101, 114]⟩, .string ⟨#[114, 117, 108, 101]⟩, .string ⟨#[110, 97, 109, 101]⟩, .string ⟨#[109, 101, 115, 115, 97, 103, 101]⟩, .string ⟨#[114, 101, 100, 97, 99, 116]⟩, .string ⟨#[104, 97, 110, 100, 111, 118, 101, 114]⟩] : Array Value)[k.val]? = some (.string (word k.val)) := by
    intro k
    match k with
    | ⟨0, _⟩ => rfl
    | ⟨1, _⟩ => rfl
    | ⟨2, _⟩ => rfl
    | ⟨3, _⟩ => rfl
    | ⟨4, _⟩ => rfl
    | ⟨5, _⟩ => rfl
    | ⟨6, _⟩ => rfl
    | ⟨7, _⟩ => rfl
    | ⟨8, _⟩ => rfl
  unfold World.cell?; dsimp only; rw [h]
  exact hc ⟨k, hk⟩

set_option maxHeartbeats 4000000 in
theorem rword_any (w : World) (k : Nat) (hk : k < 256) :
    Calls Tryd.prog 16 #[.int .u8 (k : Int)] w fun e w' => e = .returned (.string (word k)) ∧ Below w.heap.size w w' := by
  have HB := hidp ((Below.refl w.heap.size w).alloc (Nat.le_refl _) (.cells #[.string ⟨#[]⟩, .string ⟨#[99, 114, 101, 97, 116, 101]⟩, .string ⟨#[109, 101, 109, 98, 101, 114]⟩, .string ⟨#[112, 111, 119, 101, 114]⟩, .string ⟨#[114, 117, 108, 101]⟩, .string ⟨#[110, 97, 109, 101]⟩, .string ⟨#[109, 101, 115, 115, 97, 103, 101]⟩, .string ⟨#[114, 101, 100, 97, 99, 116]⟩, .string ⟨#[104, 97, 110, 100, 111, 118, 101, 114]⟩] 9))
  have hw1 : IntKind.i64.wrap (k : Int) = (k : Int) := by unfold IntKind.wrap; simp [IntKind.bits, IntKind.signed]; omega
  by_cases h : k < 9
  · have e0 : decide ((9 : Int) ≤ (k : Int)) = false := by simp; omega
    have n0 : ¬ (9 : Int) ≤ (k : Int) := by omega
    have m1 := wordsArr_cell w k h
    have c0 : (0 : Int) ≤ (k : Int) := by omega
    have c1 : (k : Int) < 9 := by omega
    clear h
    go_enter Tryd.func16, Tryd.ntmps16
    go_wp2_with fail
    go_ret
    exact ⟨rfl, HB.out⟩
  · have e0 : decide ((9 : Int) ≤ (k : Int)) = true := by simp; omega
    have n0 : (9 : Int) ≤ (k : Int) := by omega
    rw [word_out (k := k) (by omega)]
    clear h
    go_enter Tryd.func16, Tryd.ntmps16
    go_wp2_with fail
    go_ret
    exact ⟨rfl, HB.out⟩
theorem word_full {k : Nat} (h : 1 ≤ k ∧ k ≤ 8) : ¬ (word k).size = 0 := by
  have : ∀ k : Fin 9, 1 ≤ k.val → ¬ (word k.val).size = 0 := by decide +kernel
  exact this ⟨k, by omega⟩ h.1
theorem word_empty {k : Nat} (h : ¬ (1 ≤ k ∧ k ≤ 8)) : (word k).size = 0 := by rw [word_out h]; rfl
set_option maxHeartbeats 4000000 in
theorem rstate_any (w : World) (k : Nat) (hk : k < 256) :
    Calls Tryd.prog 14 #[.int .u8 (k : Int)] w fun e w' => e = .returned (.bool (stB k)) ∧ Below w.heap.size w w' := by
  have C := hidp (fun W => rword_any W k hk)
  obtain ⟨X, hX⟩ : ∃ X, word k = X := ⟨_, rfl⟩
  by_cases h : 1 ≤ k ∧ k ≤ 8
  · have hf := word_full h
    rw [hX] at hf C
    obtain ⟨f1, f2, f3⟩ := full_facts hf
    have f4 : (X.toList != (⟨#[]⟩ : ByteArray).toList) = true := by unfold bne; rw [f3]; rfl
    clear hf hX
    by_cases h6 : k = 6
    · have e0 : ((k : Int) != 6) = false := by rw [h6]; rfl
      have HF := hidp (show stB k = false from by rw [h6]; rfl)
      clear h h6
      go_enter Tryd.func14, Tryd.ntmps14
      go_wp2_with (go_at_call 16; (refine (C.out _).mono ?_); rintro e w1 ⟨rfl, hb1⟩)
      go_ret
      exact ⟨by rw [HF.out]; rfl, hb1⟩
    · have e0 : ((k : Int) != 6) = true := by simp; omega
      have n0 : ¬ k = 6 := h6
      by_cases h7 : k = 7
      · have e1 : ((k : Int) != 7) = false := by rw [h7]; rfl
        have HF := hidp (show stB k = false from by rw [h7]; rfl)
        clear h h6 h7
        go_enter Tryd.func14, Tryd.ntmps14
        go_wp2_with (go_at_call 16; (refine (C.out _).mono ?_); rintro e w1 ⟨rfl, hb1⟩)
        go_ret
        exact ⟨by rw [HF.out]; rfl, hb1⟩
      · have e1 : ((k : Int) != 7) = true := by simp; omega
        have n1 : ¬ k = 7 := h7
        have HF := hidp (show stB k = true from by unfold stB; rw [decide_eq_true h, decide_eq_true h6, decide_eq_true h7]; rfl)
        clear h h6 h7
        go_enter Tryd.func14, Tryd.ntmps14
        go_wp2_with (go_at_call 16; (refine (C.out _).mono ?_); rintro e w1 ⟨rfl, hb1⟩)
        go_ret
        exact ⟨by rw [HF.out]; rfl, hb1⟩
  · have hf := word_empty h
    rw [hX] at hf C
    obtain ⟨f1, f2, f3⟩ := empty_facts hf
    have f4 : (X.toList != (⟨#[]⟩ : ByteArray).toList) = false := by unfold bne; rw [f3]; rfl
    have HF := hidp (show stB k = false from by unfold stB; rw [decide_eq_false h]; rfl)
    clear hf hX h
    go_enter Tryd.func14, Tryd.ntmps14
    go_wp2_with (go_at_call 16; (refine (C.out _).mono ?_); rintro e w1 ⟨rfl, hb1⟩)
    go_ret
    exact ⟨by rw [HF.out]; rfl, hb1⟩

set_option maxHeartbeats 8000000 in
theorem revCheck_any (w : World) (r s : ByteArray) (k : Nat) (y b : ByteArray) (n : Int) (hk : k < 256) (hr : r.size ≤ 281474976710656) (hs : s.size ≤ 281474976710656) (hy : y.size ≤ 281474976710656) (hb : b.size ≤ 281474976710656) :
    Calls Tryd.prog 12 #[.agg #[.string r, .string s, .int .u8 (k : Int), .string y, .string b, .int .i64 n]] w fun e w' => e = .returned (.int .i64 (evE (⟨r, s, k, y, b, n⟩ : Ev))) ∧ Below w.heap.size w w' := by
  have c1 := hidp (fun W => rroom_any W r hr)
  have c2 := hidp (fun W => ruser_any W s hs)
  have c4 := hidp (fun W => ruser_any W y hy)
  have c3 := hidp (fun W => rword_any W k hk)
  obtain ⟨E, hE⟩ : ∃ E, evE (⟨r, s, k, y, b, n⟩ : Ev) = E := ⟨_, rfl⟩
  have HE := hidp hE
  rw [hE]
  clear hE
  unfold evE evOk at HE
  simp only at HE
  obtain ⟨KO, hKO⟩ : ∃ q, keyOk k y = q := ⟨_, rfl⟩
  rw [hKO] at HE
  obtain ⟨o4, h4⟩ : ∃ q, who 1 y = q := ⟨_, rfl⟩
  have HKO := hidp hKO; clear hKO
  unfold keyOk at HKO
  rw [h4] at c4 HKO
  obtain ⟨a4, b4, g4⟩ := whoV_form' o4
  have hb4 : b4 = o4.isSome := by cases o4 <;> (unfold whoV at g4; simp at g4; simp [← g4.2])
  rw [g4] at c4
  rw [← hb4] at HKO
  clear h4 g4 hb4
  obtain ⟨X, hX⟩ : ∃ X, word k = X := ⟨_, rfl⟩
  cases h1 : who 2 r with
  | none =>
    rw [h1] at c1 HE
    obtain ⟨a2, b2, h2⟩ := whoV_form' (who 1 s)
    rw [h2] at c2
    unfold whoV at c1
    have HF := hidp (show E = 2 from by have := HE.out; simp at this; exact this.symm)
    clear h1 h2 HE HKO hX
    go_enter Tryd.func12, Tryd.ntmps12
    go_wp2_with fail
    have HX := hidp ((Below.refl w.heap.size w).alloc (Nat.le_refl _) (.cells #[.string r, .string s, .int .u8 (k : Int), .string y, .string b, .int .i64 n] 24)); have HA := hidp (Arr.new w 24 [.string r, .string s, .int .u8 (k : Int), .string y, .string b, .int .i64 n])
    obtain ⟨bd, hbd⟩ : ∃ b, w.heap.size = b := ⟨_, rfl⟩
    generalize hW : (w.alloc (.cells #[.string r, .string s, .int .u8 (k : Int), .string y, .string b, .int .i64 n] 24)) = W0 at HX HA ⊢
    rw [hbd] at HA ⊢
    rw [← hbd]
    clear hW
    refine (c1.out _).mono ?_
    rintro e w1 ⟨rfl, hb1⟩
    have HB1 := hidp (HX.out.trans (hb1.mono HX.out.size)); have HA1 := hidp (HA.out.below hb1 HA.out.lt)
    clear hb1
    obtain ⟨x0, x1, x2, x3, x4, x5⟩ := arr6 HA1.out
    go_wp2_with fail
    clear x0 x1 x2 x3 x4 x5
    refine (c2.out _).mono ?_
    rintro e w2 ⟨rfl, hb2⟩
    have HB2 := hidp (HB1.out.trans (hb2.mono HB1.out.size)); have HA2 := hidp (HA1.out.below hb2 HA1.out.lt)
    clear hb2
    obtain ⟨x0, x1, x2, x3, x4, x5⟩ := arr6 HA2.out
    go_wp2_with fail
    clear x0 x1 x2 x3 x4 x5
    refine (c4.out _).mono ?_
    rintro e w3 ⟨rfl, hb3⟩
    have HB3 := hidp (HB2.out.trans (hb3.mono HB2.out.size)); have HA3 := hidp (HA2.out.below hb3 HA2.out.lt)
    clear hb3
    obtain ⟨x0, x1, x2, x3, x4, x5⟩ := arr6 HA3.out
    go_wp2_with fail
    go_ret
    exact ⟨by rw [HF.out]; rfl, HB3.out⟩
  | some m1 =>
    rw [h1] at c1 HE
    unfold whoV at c1
    clear h1
    cases h2 : who 1 s with
    | none =>
      rw [h2] at c2 HE
      unfold whoV at c2
      have HF := hidp (show E = 2 from by have := HE.out; simp at this; exact this.symm)
      clear h2 HE HKO hX
      go_enter Tryd.func12, Tryd.ntmps12
      go_wp2_with fail
      have HX := hidp ((Below.refl w.heap.size w).alloc (Nat.le_refl _) (.cells #[.string r, .string s, .int .u8 (k : Int), .string y, .string b, .int .i64 n] 24)); have HA := hidp (Arr.new w 24 [.string r, .string s, .int .u8 (k : Int), .string y, .string b, .int .i64 n])
      obtain ⟨bd, hbd⟩ : ∃ b, w.heap.size = b := ⟨_, rfl⟩
      generalize hW : (w.alloc (.cells #[.string r, .string s, .int .u8 (k : Int), .string y, .string b, .int .i64 n] 24)) = W0 at HX HA ⊢
      rw [hbd] at HA ⊢
      rw [← hbd]
      clear hW
      refine (c1.out _).mono ?_
      rintro e w1 ⟨rfl, hb1⟩
      have HB1 := hidp (HX.out.trans (hb1.mono HX.out.size)); have HA1 := hidp (HA.out.below hb1 HA.out.lt)
      clear hb1
      obtain ⟨x0, x1, x2, x3, x4, x5⟩ := arr6 HA1.out
      go_wp2_with fail
      clear x0 x1 x2 x3 x4 x5
      refine (c2.out _).mono ?_
      rintro e w2 ⟨rfl, hb2⟩
      have HB2 := hidp (HB1.out.trans (hb2.mono HB1.out.size)); have HA2 := hidp (HA1.out.below hb2 HA1.out.lt)
      clear hb2
      obtain ⟨x0, x1, x2, x3, x4, x5⟩ := arr6 HA2.out
      go_wp2_with fail
      clear x0 x1 x2 x3 x4 x5
      refine (c4.out _).mono ?_
      rintro e w3 ⟨rfl, hb3⟩
      have HB3 := hidp (HB2.out.trans (hb3.mono HB2.out.size)); have HA3 := hidp (HA2.out.below hb3 HA2.out.lt)
      clear hb3
      obtain ⟨x0, x1, x2, x3, x4, x5⟩ := arr6 HA3.out
      go_wp2_with fail
      go_ret
      exact ⟨by rw [HF.out]; rfl, HB3.out⟩
    | some m2 =>
      rw [h2] at c2 HE
      unfold whoV at c2
      clear h2
      by_cases h3 : 1 ≤ k ∧ k ≤ 8
      · have hf := word_full h3
        rw [hX] at hf c3
        obtain ⟨f1, f2, f3⟩ := full_facts hf
        rw [decide_eq_true h3] at HE
        clear hf hX h3
        by_cases h5 : 512 < b.size
        · have e5 : decide ((512 : Int) < (b.size : Int)) = true := by simp; omega
          have n5 : (512 : Int) < (b.size : Int) := by omega
          rw [decide_eq_false (show ¬ b.size ≤ 512 from by omega)] at HE
          have HF := hidp (show E = 2 from by have := HE.out; simp at this; exact this.symm)
          clear h5 HE HKO
          go_enter Tryd.func12, Tryd.ntmps12
          go_wp2_with fail
          have HX := hidp ((Below.refl w.heap.size w).alloc (Nat.le_refl _) (.cells #[.string r, .string s, .int .u8 (k : Int), .string y, .string b, .int .i64 n] 24)); have HA := hidp (Arr.new w 24 [.string r, .string s, .int .u8 (k : Int), .string y, .string b, .int .i64 n])
          obtain ⟨bd, hbd⟩ : ∃ b, w.heap.size = b := ⟨_, rfl⟩
          generalize hW : (w.alloc (.cells #[.string r, .string s, .int .u8 (k : Int), .string y, .string b, .int .i64 n] 24)) = W0 at HX HA ⊢
          rw [hbd] at HA ⊢
          rw [← hbd]
          clear hW
          refine (c1.out _).mono ?_
          rintro e w1 ⟨rfl, hb1⟩
          have HB1 := hidp (HX.out.trans (hb1.mono HX.out.size)); have HA1 := hidp (HA.out.below hb1 HA.out.lt)
          clear hb1
          obtain ⟨x0, x1, x2, x3, x4, x5⟩ := arr6 HA1.out
          go_wp2_with fail
          clear x0 x1 x2 x3 x4 x5
          refine (c2.out _).mono ?_
          rintro e w2 ⟨rfl, hb2⟩
          have HB2 := hidp (HB1.out.trans (hb2.mono HB1.out.size)); have HA2 := hidp (HA1.out.below hb2 HA1.out.lt)
          clear hb2
          obtain ⟨x0, x1, x2, x3, x4, x5⟩ := arr6 HA2.out
          go_wp2_with fail
          clear x0 x1 x2 x3 x4 x5
          refine (c4.out _).mono ?_
          rintro e w3 ⟨rfl, hb3⟩
          have HB3 := hidp (HB2.out.trans (hb3.mono HB2.out.size)); have HA3 := hidp (HA2.out.below hb3 HA2.out.lt)
          clear hb3
          obtain ⟨x0, x1, x2, x3, x4, x5⟩ := arr6 HA3.out
          go_wp2_with fail
          clear x0 x1 x2 x3 x4 x5
          refine (c3.out _).mono ?_
          rintro e w4 ⟨rfl, hb4⟩
          have HB4 := hidp (HB3.out.trans (hb4.mono HB3.out.size)); have HA4 := hidp (HA3.out.below hb4 HA3.out.lt)
          clear hb4
          obtain ⟨x0, x1, x2, x3, x4, x5⟩ := arr6 HA4.out
          go_wp2_with fail
          go_ret
          exact ⟨by rw [HF.out]; rfl, HB4.out⟩
        · have e5 : decide ((512 : Int) < (b.size : Int)) = false := by simp; omega
          have n5 : ¬ (512 : Int) < (b.size : Int) := by omega
          rw [decide_eq_true (show b.size ≤ 512 from by omega)] at HE
          by_cases h6 : n < 0
          · have e6 : decide (n < 0) = true := by simp; omega
            rw [decide_eq_false (show ¬ (0 ≤ n ∧ n ≤ 1099511627776) from by omega)] at HE
            have HF := hidp (show E = 2 from by have := HE.out; simp at this; exact this.symm)
            clear h5 HE HKO
            go_enter Tryd.func12, Tryd.ntmps12
            go_wp2_with fail
            have HX := hidp ((Below.refl w.heap.size w).alloc (Nat.le_refl _) (.cells #[.string r, .string s, .int .u8 (k : Int), .string y, .string b, .int .i64 n] 24)); have HA := hidp (Arr.new w 24 [.string r, .string s, .int .u8 (k : Int), .string y, .string b, .int .i64 n])
            obtain ⟨bd, hbd⟩ : ∃ b, w.heap.size = b := ⟨_, rfl⟩
            generalize hW : (w.alloc (.cells #[.string r, .string s, .int .u8 (k : Int), .string y, .string b, .int .i64 n] 24)) = W0 at HX HA ⊢
            rw [hbd] at HA ⊢
            rw [← hbd]
            clear hW
            refine (c1.out _).mono ?_
            rintro e w1 ⟨rfl, hb1⟩
            have HB1 := hidp (HX.out.trans (hb1.mono HX.out.size)); have HA1 := hidp (HA.out.below hb1 HA.out.lt)
            clear hb1
            obtain ⟨x0, x1, x2, x3, x4, x5⟩ := arr6 HA1.out
            go_wp2_with fail
            clear x0 x1 x2 x3 x4 x5
            refine (c2.out _).mono ?_
            rintro e w2 ⟨rfl, hb2⟩
            have HB2 := hidp (HB1.out.trans (hb2.mono HB1.out.size)); have HA2 := hidp (HA1.out.below hb2 HA1.out.lt)
            clear hb2
            obtain ⟨x0, x1, x2, x3, x4, x5⟩ := arr6 HA2.out
            go_wp2_with fail
            clear x0 x1 x2 x3 x4 x5
            refine (c4.out _).mono ?_
            rintro e w3 ⟨rfl, hb3⟩
            have HB3 := hidp (HB2.out.trans (hb3.mono HB2.out.size)); have HA3 := hidp (HA2.out.below hb3 HA2.out.lt)
            clear hb3
            obtain ⟨x0, x1, x2, x3, x4, x5⟩ := arr6 HA3.out
            go_wp2_with fail
            clear x0 x1 x2 x3 x4 x5
            refine (c3.out _).mono ?_
            rintro e w4 ⟨rfl, hb4⟩
            have HB4 := hidp (HB3.out.trans (hb4.mono HB3.out.size)); have HA4 := hidp (HA3.out.below hb4 HA3.out.lt)
            clear hb4
            obtain ⟨x0, x1, x2, x3, x4, x5⟩ := arr6 HA4.out
            go_wp2_with fail
            go_ret
            exact ⟨by rw [HF.out]; rfl, HB4.out⟩
          · have e6 : decide (n < 0) = false := by simp; omega
            by_cases h7 : 1099511627776 < n
            · have e7 : decide (1099511627776 < n) = true := by simp; omega
              rw [decide_eq_false (show ¬ (0 ≤ n ∧ n ≤ 1099511627776) from by omega)] at HE
              have HF := hidp (show E = 2 from by have := HE.out; simp at this; exact this.symm)
              clear h5 h6 HE HKO
              go_enter Tryd.func12, Tryd.ntmps12
              go_wp2_with fail
              have HX := hidp ((Below.refl w.heap.size w).alloc (Nat.le_refl _) (.cells #[.string r, .string s, .int .u8 (k : Int), .string y, .string b, .int .i64 n] 24)); have HA := hidp (Arr.new w 24 [.string r, .string s, .int .u8 (k : Int), .string y, .string b, .int .i64 n])
              obtain ⟨bd, hbd⟩ : ∃ b, w.heap.size = b := ⟨_, rfl⟩
              generalize hW : (w.alloc (.cells #[.string r, .string s, .int .u8 (k : Int), .string y, .string b, .int .i64 n] 24)) = W0 at HX HA ⊢
              rw [hbd] at HA ⊢
              rw [← hbd]
              clear hW
              refine (c1.out _).mono ?_
              rintro e w1 ⟨rfl, hb1⟩
              have HB1 := hidp (HX.out.trans (hb1.mono HX.out.size)); have HA1 := hidp (HA.out.below hb1 HA.out.lt)
              clear hb1
              obtain ⟨x0, x1, x2, x3, x4, x5⟩ := arr6 HA1.out
              go_wp2_with fail
              clear x0 x1 x2 x3 x4 x5
              refine (c2.out _).mono ?_
              rintro e w2 ⟨rfl, hb2⟩
              have HB2 := hidp (HB1.out.trans (hb2.mono HB1.out.size)); have HA2 := hidp (HA1.out.below hb2 HA1.out.lt)
              clear hb2
              obtain ⟨x0, x1, x2, x3, x4, x5⟩ := arr6 HA2.out
              go_wp2_with fail
              clear x0 x1 x2 x3 x4 x5
              refine (c4.out _).mono ?_
              rintro e w3 ⟨rfl, hb3⟩
              have HB3 := hidp (HB2.out.trans (hb3.mono HB2.out.size)); have HA3 := hidp (HA2.out.below hb3 HA2.out.lt)
              clear hb3
              obtain ⟨x0, x1, x2, x3, x4, x5⟩ := arr6 HA3.out
              go_wp2_with fail
              clear x0 x1 x2 x3 x4 x5
              refine (c3.out _).mono ?_
              rintro e w4 ⟨rfl, hb4⟩
              have HB4 := hidp (HB3.out.trans (hb4.mono HB3.out.size)); have HA4 := hidp (HA3.out.below hb4 HA3.out.lt)
              clear hb4
              obtain ⟨x0, x1, x2, x3, x4, x5⟩ := arr6 HA4.out
              go_wp2_with fail
              go_ret
              exact ⟨by rw [HF.out]; rfl, HB4.out⟩
            · have e7 : decide (1099511627776 < n) = false := by simp; omega
              rw [decide_eq_true (show (0 ≤ n ∧ n ≤ 1099511627776) from by omega)] at HE
              clear h5 h6
              by_cases hk2 : k = 2
              · have e8 : ((k : Int) == 2) = true := by rw [hk2]; rfl
                have e9 : ((k : Int) != 2) = false := by rw [hk2]; rfl
                rw [if_pos hk2] at HKO
                cases b4 with
                | false =>
                  rw [← HKO.out] at HE
                  have HF := hidp (show E = 2 from by have := HE.out; simp at this; exact this.symm)
                  clear HE HKO hk2
                  go_enter Tryd.func12, Tryd.ntmps12
                  go_wp2_with fail
                  have HX := hidp ((Below.refl w.heap.size w).alloc (Nat.le_refl _) (.cells #[.string r, .string s, .int .u8 (k : Int), .string y, .string b, .int .i64 n] 24)); have HA := hidp (Arr.new w 24 [.string r, .string s, .int .u8 (k : Int), .string y, .string b, .int .i64 n])
                  obtain ⟨bd, hbd⟩ : ∃ b, w.heap.size = b := ⟨_, rfl⟩
                  generalize hW : (w.alloc (.cells #[.string r, .string s, .int .u8 (k : Int), .string y, .string b, .int .i64 n] 24)) = W0 at HX HA ⊢
                  rw [hbd] at HA ⊢
                  rw [← hbd]
                  clear hW
                  refine (c1.out _).mono ?_
                  rintro e w1 ⟨rfl, hb1⟩
                  have HB1 := hidp (HX.out.trans (hb1.mono HX.out.size)); have HA1 := hidp (HA.out.below hb1 HA.out.lt)
                  clear hb1
                  obtain ⟨x0, x1, x2, x3, x4, x5⟩ := arr6 HA1.out
                  go_wp2_with fail
                  clear x0 x1 x2 x3 x4 x5
                  refine (c2.out _).mono ?_
                  rintro e w2 ⟨rfl, hb2⟩
                  have HB2 := hidp (HB1.out.trans (hb2.mono HB1.out.size)); have HA2 := hidp (HA1.out.below hb2 HA1.out.lt)
                  clear hb2
                  obtain ⟨x0, x1, x2, x3, x4, x5⟩ := arr6 HA2.out
                  go_wp2_with fail
                  clear x0 x1 x2 x3 x4 x5
                  refine (c4.out _).mono ?_
                  rintro e w3 ⟨rfl, hb3⟩
                  have HB3 := hidp (HB2.out.trans (hb3.mono HB2.out.size)); have HA3 := hidp (HA2.out.below hb3 HA2.out.lt)
                  clear hb3
                  obtain ⟨x0, x1, x2, x3, x4, x5⟩ := arr6 HA3.out
                  go_wp2_with fail
                  clear x0 x1 x2 x3 x4 x5
                  refine (c3.out _).mono ?_
                  rintro e w4 ⟨rfl, hb4⟩
                  have HB4 := hidp (HB3.out.trans (hb4.mono HB3.out.size)); have HA4 := hidp (HA3.out.below hb4 HA3.out.lt)
                  clear hb4
                  obtain ⟨x0, x1, x2, x3, x4, x5⟩ := arr6 HA4.out
                  go_wp2_with fail
                  go_ret
                  exact ⟨by rw [HF.out]; rfl, HB4.out⟩
                | true =>
                  rw [← HKO.out] at HE
                  have HF := hidp (show E = 0 from by have := HE.out; simp at this; exact this.symm)
                  clear HE HKO hk2
                  go_enter Tryd.func12, Tryd.ntmps12
                  go_wp2_with fail
                  have HX := hidp ((Below.refl w.heap.size w).alloc (Nat.le_refl _) (.cells #[.string r, .string s, .int .u8 (k : Int), .string y, .string b, .int .i64 n] 24)); have HA := hidp (Arr.new w 24 [.string r, .string s, .int .u8 (k : Int), .string y, .string b, .int .i64 n])
                  obtain ⟨bd, hbd⟩ : ∃ b, w.heap.size = b := ⟨_, rfl⟩
                  generalize hW : (w.alloc (.cells #[.string r, .string s, .int .u8 (k : Int), .string y, .string b, .int .i64 n] 24)) = W0 at HX HA ⊢
                  rw [hbd] at HA ⊢
                  rw [← hbd]
                  clear hW
                  refine (c1.out _).mono ?_
                  rintro e w1 ⟨rfl, hb1⟩
                  have HB1 := hidp (HX.out.trans (hb1.mono HX.out.size)); have HA1 := hidp (HA.out.below hb1 HA.out.lt)
                  clear hb1
                  obtain ⟨x0, x1, x2, x3, x4, x5⟩ := arr6 HA1.out
                  go_wp2_with fail
                  clear x0 x1 x2 x3 x4 x5
                  refine (c2.out _).mono ?_
                  rintro e w2 ⟨rfl, hb2⟩
                  have HB2 := hidp (HB1.out.trans (hb2.mono HB1.out.size)); have HA2 := hidp (HA1.out.below hb2 HA1.out.lt)
                  clear hb2
                  obtain ⟨x0, x1, x2, x3, x4, x5⟩ := arr6 HA2.out
                  go_wp2_with fail
                  clear x0 x1 x2 x3 x4 x5
                  refine (c4.out _).mono ?_
                  rintro e w3 ⟨rfl, hb3⟩
                  have HB3 := hidp (HB2.out.trans (hb3.mono HB2.out.size)); have HA3 := hidp (HA2.out.below hb3 HA2.out.lt)
                  clear hb3
                  obtain ⟨x0, x1, x2, x3, x4, x5⟩ := arr6 HA3.out
                  go_wp2_with fail
                  clear x0 x1 x2 x3 x4 x5
                  refine (c3.out _).mono ?_
                  rintro e w4 ⟨rfl, hb4⟩
                  have HB4 := hidp (HB3.out.trans (hb4.mono HB3.out.size)); have HA4 := hidp (HA3.out.below hb4 HA3.out.lt)
                  clear hb4
                  obtain ⟨x0, x1, x2, x3, x4, x5⟩ := arr6 HA4.out
                  go_wp2_with fail
                  go_ret
                  exact ⟨by rw [HF.out]; rfl, HB4.out⟩
              · have e8 : ((k : Int) == 2) = false := beq_eq_false_iff_ne.2 (by omega)
                have e9 : ((k : Int) != 2) = true := by simp; omega
                have n8 : ¬ k = 2 := hk2
                rw [if_neg hk2] at HKO
                by_cases hy0 : y.size = 0
                · obtain ⟨y1, y2, y3⟩ := empty_facts hy0
                  have y4 : (y.toList != (⟨#[]⟩ : ByteArray).toList) = false := by unfold bne; rw [y3]; rfl
                  rw [← HKO.out, decide_eq_true hy0] at HE
                  have HF := hidp (show E = 0 from by have := HE.out; simp at this; exact this.symm)
                  clear HE HKO hk2 hy0
                  go_enter Tryd.func12, Tryd.ntmps12
                  go_wp2_with fail
                  have HX := hidp ((Below.refl w.heap.size w).alloc (Nat.le_refl _) (.cells #[.string r, .string s, .int .u8 (k : Int), .string y, .string b, .int .i64 n] 24)); have HA := hidp (Arr.new w 24 [.string r, .string s, .int .u8 (k : Int), .string y, .string b, .int .i64 n])
                  obtain ⟨bd, hbd⟩ : ∃ b, w.heap.size = b := ⟨_, rfl⟩
                  generalize hW : (w.alloc (.cells #[.string r, .string s, .int .u8 (k : Int), .string y, .string b, .int .i64 n] 24)) = W0 at HX HA ⊢
                  rw [hbd] at HA ⊢
                  rw [← hbd]
                  clear hW
                  refine (c1.out _).mono ?_
                  rintro e w1 ⟨rfl, hb1⟩
                  have HB1 := hidp (HX.out.trans (hb1.mono HX.out.size)); have HA1 := hidp (HA.out.below hb1 HA.out.lt)
                  clear hb1
                  obtain ⟨x0, x1, x2, x3, x4, x5⟩ := arr6 HA1.out
                  go_wp2_with fail
                  clear x0 x1 x2 x3 x4 x5
                  refine (c2.out _).mono ?_
                  rintro e w2 ⟨rfl, hb2⟩
                  have HB2 := hidp (HB1.out.trans (hb2.mono HB1.out.size)); have HA2 := hidp (HA1.out.below hb2 HA1.out.lt)
                  clear hb2
                  obtain ⟨x0, x1, x2, x3, x4, x5⟩ := arr6 HA2.out
                  go_wp2_with fail
                  clear x0 x1 x2 x3 x4 x5
                  refine (c4.out _).mono ?_
                  rintro e w3 ⟨rfl, hb3⟩
                  have HB3 := hidp (HB2.out.trans (hb3.mono HB2.out.size)); have HA3 := hidp (HA2.out.below hb3 HA2.out.lt)
                  clear hb3
                  obtain ⟨x0, x1, x2, x3, x4, x5⟩ := arr6 HA3.out
                  go_wp2_with fail
                  clear x0 x1 x2 x3 x4 x5
                  refine (c3.out _).mono ?_
                  rintro e w4 ⟨rfl, hb4⟩
                  have HB4 := hidp (HB3.out.trans (hb4.mono HB3.out.size)); have HA4 := hidp (HA3.out.below hb4 HA3.out.lt)
                  clear hb4
                  obtain ⟨x0, x1, x2, x3, x4, x5⟩ := arr6 HA4.out
                  go_wp2_with fail
                  go_ret
                  exact ⟨by rw [HF.out]; rfl, HB4.out⟩
                · obtain ⟨y1, y2, y3⟩ := full_facts hy0
                  have y4 : (y.toList != (⟨#[]⟩ : ByteArray).toList) = true := by unfold bne; rw [y3]; rfl
                  rw [← HKO.out, decide_eq_false hy0] at HE
                  have HF := hidp (show E = 2 from by have := HE.out; simp at this; exact this.symm)
                  clear HE HKO hk2 hy0
                  go_enter Tryd.func12, Tryd.ntmps12
                  go_wp2_with fail
                  have HX := hidp ((Below.refl w.heap.size w).alloc (Nat.le_refl _) (.cells #[.string r, .string s, .int .u8 (k : Int), .string y, .string b, .int .i64 n] 24)); have HA := hidp (Arr.new w 24 [.string r, .string s, .int .u8 (k : Int), .string y, .string b, .int .i64 n])
                  obtain ⟨bd, hbd⟩ : ∃ b, w.heap.size = b := ⟨_, rfl⟩
                  generalize hW : (w.alloc (.cells #[.string r, .string s, .int .u8 (k : Int), .string y, .string b, .int .i64 n] 24)) = W0 at HX HA ⊢
                  rw [hbd] at HA ⊢
                  rw [← hbd]
                  clear hW
                  refine (c1.out _).mono ?_
                  rintro e w1 ⟨rfl, hb1⟩
                  have HB1 := hidp (HX.out.trans (hb1.mono HX.out.size)); have HA1 := hidp (HA.out.below hb1 HA.out.lt)
                  clear hb1
                  obtain ⟨x0, x1, x2, x3, x4, x5⟩ := arr6 HA1.out
                  go_wp2_with fail
                  clear x0 x1 x2 x3 x4 x5
                  refine (c2.out _).mono ?_
                  rintro e w2 ⟨rfl, hb2⟩
                  have HB2 := hidp (HB1.out.trans (hb2.mono HB1.out.size)); have HA2 := hidp (HA1.out.below hb2 HA1.out.lt)
                  clear hb2
                  obtain ⟨x0, x1, x2, x3, x4, x5⟩ := arr6 HA2.out
                  go_wp2_with fail
                  clear x0 x1 x2 x3 x4 x5
                  refine (c4.out _).mono ?_
                  rintro e w3 ⟨rfl, hb3⟩
                  have HB3 := hidp (HB2.out.trans (hb3.mono HB2.out.size)); have HA3 := hidp (HA2.out.below hb3 HA2.out.lt)
                  clear hb3
                  obtain ⟨x0, x1, x2, x3, x4, x5⟩ := arr6 HA3.out
                  go_wp2_with fail
                  clear x0 x1 x2 x3 x4 x5
                  refine (c3.out _).mono ?_
                  rintro e w4 ⟨rfl, hb4⟩
                  have HB4 := hidp (HB3.out.trans (hb4.mono HB3.out.size)); have HA4 := hidp (HA3.out.below hb4 HA3.out.lt)
                  clear hb4
                  obtain ⟨x0, x1, x2, x3, x4, x5⟩ := arr6 HA4.out
                  go_wp2_with fail
                  go_ret
                  exact ⟨by rw [HF.out]; rfl, HB4.out⟩
      · have hf := word_empty h3
        rw [hX] at hf c3
        obtain ⟨f1, f2, f3⟩ := empty_facts hf
        rw [decide_eq_false h3] at HE
        have HF := hidp (show E = 2 from by have := HE.out; simp at this; exact this.symm)
        clear h3 HE HKO hf hX
        go_enter Tryd.func12, Tryd.ntmps12
        go_wp2_with fail
        have HX := hidp ((Below.refl w.heap.size w).alloc (Nat.le_refl _) (.cells #[.string r, .string s, .int .u8 (k : Int), .string y, .string b, .int .i64 n] 24)); have HA := hidp (Arr.new w 24 [.string r, .string s, .int .u8 (k : Int), .string y, .string b, .int .i64 n])
        obtain ⟨bd, hbd⟩ : ∃ b, w.heap.size = b := ⟨_, rfl⟩
        generalize hW : (w.alloc (.cells #[.string r, .string s, .int .u8 (k : Int), .string y, .string b, .int .i64 n] 24)) = W0 at HX HA ⊢
        rw [hbd] at HA ⊢
        rw [← hbd]
        clear hW
        refine (c1.out _).mono ?_
        rintro e w1 ⟨rfl, hb1⟩
        have HB1 := hidp (HX.out.trans (hb1.mono HX.out.size)); have HA1 := hidp (HA.out.below hb1 HA.out.lt)
        clear hb1
        obtain ⟨x0, x1, x2, x3, x4, x5⟩ := arr6 HA1.out
        go_wp2_with fail
        clear x0 x1 x2 x3 x4 x5
        refine (c2.out _).mono ?_
        rintro e w2 ⟨rfl, hb2⟩
        have HB2 := hidp (HB1.out.trans (hb2.mono HB1.out.size)); have HA2 := hidp (HA1.out.below hb2 HA1.out.lt)
        clear hb2
        obtain ⟨x0, x1, x2, x3, x4, x5⟩ := arr6 HA2.out
        go_wp2_with fail
        clear x0 x1 x2 x3 x4 x5
        refine (c4.out _).mono ?_
        rintro e w3 ⟨rfl, hb3⟩
        have HB3 := hidp (HB2.out.trans (hb3.mono HB2.out.size)); have HA3 := hidp (HA2.out.below hb3 HA2.out.lt)
        clear hb3
        obtain ⟨x0, x1, x2, x3, x4, x5⟩ := arr6 HA3.out
        go_wp2_with fail
        clear x0 x1 x2 x3 x4 x5
        refine (c3.out _).mono ?_
        rintro e w4 ⟨rfl, hb4⟩
        have HB4 := hidp (HB3.out.trans (hb4.mono HB3.out.size)); have HA4 := hidp (HA3.out.below hb4 HA3.out.lt)
        clear hb4
        obtain ⟨x0, x1, x2, x3, x4, x5⟩ := arr6 HA4.out
        go_wp2_with fail
        go_ret
        exact ⟨by rw [HF.out]; rfl, HB4.out⟩
end Go.Proofs.YtglfdenlgglccaaDoor
