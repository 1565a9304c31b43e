/-
  Joined: EvH EvI EvL.
-/
import Derived.Test.YtfenjincbhkodaaGreatDoorVI
import Derived.Test.YtfenjincbhkodaaGreatDoorVJ
namespace Go.Proofs.YtfenjincbhkodaaGreatDoor
set_option maxRecDepth 100000
set_option linter.unusedVariables false
set_option linter.unusedSimpArgs false
open Go.RowKit

theorem wordsArr_cell (w : World) (k : Nat) (hk : k < 9) : (w.alloc (.cells #[.string ⟨#[]⟩, .string ⟨#[99, 114, 101, 97, 116, 101]⟩, .string ⟨#[109, 101, 109, 98, 101, 114]⟩, .string ⟨#[112, 111, 119, 101, 114]⟩, .string ⟨#[114, 117, 108, 101]⟩, .string ⟨#[110, 97, 109, 101]⟩, .string ⟨#[109, 101, 115, 115, 97, 103, 101]⟩, .string ⟨#[114, 101, 100, 97, 99, 116]⟩, .string ⟨#[104, 97, 110, 100, 111, 118, 101, 114]⟩] 9)).cell? ⟨w.heap.size, k, none⟩ = some (.string (word k)) := by
  have h : (w.alloc (.cells #[.string ⟨#[]⟩, .string ⟨#[99, 114, 101, 97, 116, 101]⟩, .string ⟨#[109, 101, 109, 98, 101, 114]⟩, .string ⟨#[112, 111, 119, 101, 114]⟩, .string ⟨#[114, 117, 108, 101]⟩, .string ⟨#[110, 97, 109, 101]⟩, .string ⟨#[109, 101, 115, 115, 97, 103, 101]⟩, .string ⟨#[114, 101, 100, 97, 99, 116]⟩, .string ⟨#[104, 97, 110, 100, 111, 118, 101, 114]⟩] 9)).heap[w.heap.size]? = some (.cells #[.string ⟨#[]⟩, .string ⟨#[99, 114, 101, 97, 116, 101]⟩, .string ⟨#[109, 101, 109, 98, 101, 114]⟩, .string ⟨#[112, 111, 119, 101, 114]⟩, .string ⟨#[114, 117, 108, 101]⟩, .string ⟨#[110, 97, 109, 101]⟩, .string ⟨#[109, 101, 115, 115, 97, 103, 101]⟩, .string ⟨#[114, 101, 100, 97, 99, 116]⟩, .string ⟨#[104, 97, 110, 100, 111, 118, 101, 114]⟩] 9) := heap_alloc_new w _
  have hc : ∀ k : Fin 9, (#[.string ⟨#[]⟩, .string ⟨#[99, 114, 101, 97, 116, 101]⟩, .string ⟨#[109, 101, 109, 98, 101, 114]⟩, .string ⟨#[112, 111, 119, 101, 114]⟩, .string ⟨#[114, 117, 108, 101]⟩, .string ⟨#[110, 97, 109, 101]⟩, .string ⟨#[109, 101, 115, 115, 97, 103, 101]⟩, .string ⟨#[114, 101, 100, 97, 99, 116]⟩, .string ⟨#[104, 97, 110, 100, 111, 118, 101, 114]⟩] : Array Value)[k.val]? = some (.string (word k.val)) := by
    intro k
    match k with
    | ⟨0, _⟩ => rfl
    | ⟨1, _⟩ => rfl
    | ⟨2, _⟩ => rfl
    | ⟨3, _⟩ => rfl
    | ⟨4, _⟩ => rfl
    | ⟨5, _⟩ => rfl
    | ⟨6, _⟩ => rfl
    | ⟨7, _⟩ => rfl
    | ⟨8, _⟩ => rfl
  unfold World.cell?; dsimp only; rw [h]
  exact hc ⟨k, hk⟩

set_option maxHeartbeats 4000000 in
theorem rword_any (w : World) (k : Nat) (hk : k < 256) :
    Calls Tryz.prog 62 #[.int .u8 (k : Int)] w fun e w' => e = .returned (.string (word k)) ∧ Below w.heap.size w w' := by
  have HB := hidp ((Below.refl w.heap.size w).alloc (Nat.le_refl _) (.cells #[.string ⟨#[]⟩, .string ⟨#[99, 114, 101, 97, 116, 101]⟩, .string ⟨#[109, 101, 109, 98, 101, 114]⟩, .string ⟨#[112, 111, 119, 101, 114]⟩, .string ⟨#[114, 117, 108, 101]⟩, .string ⟨#[110, 97, 109, 101]⟩, .string ⟨#[109, 101, 115, 115, 97, 103, 101]⟩, .string ⟨#[114, 101, 100, 97, 99, 116]⟩, .string ⟨#[104, 97, 110, 100, 111, 118, 101, 114]⟩] 9))
  have hw1 : IntKind.i64.wrap (k : Int) = (k : Int) := by unfold IntKind.wrap; simp [IntKind.bits, IntKind.signed]; omega
  by_cases h : k < 9
  · have e0 : decide ((9 : Int) ≤ (k : Int)) = false := by simp; omega
    have n0 : ¬ (9 : Int) ≤ (k : Int) := by omega
    have m1 := wordsArr_cell w k h
    have c0 : (0 : Int) ≤ (k : Int) := by omega
    have c1 : (k : Int) < 9 := by omega
    clear h
    go_enter Tryz.func62, Tryz.ntmps62
    go_wp2_with fail
    go_ret
    exact ⟨rfl, HB.out⟩
  · have e0 : decide ((9 : Int) ≤ (k : Int)) = true := by simp; omega
    have n0 : (9 : Int) ≤ (k : Int) := by omega
    rw [word_out (k := k) (by omega)]
    clear h
    go_enter Tryz.func62, Tryz.ntmps62
    go_wp2_with fail
    go_ret
    exact ⟨rfl, HB.out⟩
theorem word_full {k : Nat} (h : 1 ≤ k ∧ k ≤ 8) : ¬ (word k).size = 0 := by
  have : ∀ k : Fin 9, 1 ≤ k.val → ¬ (word k.val).size = 0 := by decide +kernel
  exact this ⟨k, by omega⟩ h.1
theorem word_empty {k : Nat} (h : ¬ (1 ≤ k ∧ k ≤ 8)) : (word k).size = 0 := by rw [word_out h]; rfl
set_option maxHeartbeats 8000000 in
theorem revCheck_any (w : World) (r s : ByteArray) (k : Nat) (y b : ByteArray) (n : Int) (hk : k < 256) (hr : r.size ≤ 281474976710656) (hs : s.size ≤ 281474976710656) (hy : y.size ≤ 281474976710656) (hb : b.size ≤ 281474976710656) :
    Calls Tryz.prog 63 #[.agg #[.string r, .string s, .int .u8 (k : Int), .string y, .string b, .int .i64 n]] w fun e w' => e = .returned (.int .i64 (evE (⟨r, s, k, y, b, n⟩ : Ev))) ∧ Below w.heap.size w w' := by
  have c1 := hidp (fun W => rroom_any W r hr)
  have c2 := hidp (fun W => ruser_any W s hs)
  have c4 := hidp (fun W => ruser_any W y hy)
  have c3 := hidp (fun W => rword_any W k hk)
  obtain ⟨E, hE⟩ : ∃ E, evE (⟨r, s, k, y, b, n⟩ : Ev) = E := ⟨_, rfl⟩
  have HE := hidp hE
  rw [hE]
  clear hE
  unfold evE evOk at HE
  simp only at HE
  obtain ⟨KO, hKO⟩ : ∃ q, keyOk k y = q := ⟨_, rfl⟩
  rw [hKO] at HE
  obtain ⟨o4, h4⟩ : ∃ q, who 1 y = q := ⟨_, rfl⟩
  have HKO := hidp hKO; clear hKO
  unfold keyOk at HKO
  rw [h4] at c4 HKO
  obtain ⟨a4, b4, g4⟩ := whoV_form' o4
  have hb4 : b4 = o4.isSome := by cases o4 <;> (unfold whoV at g4; simp at g4; simp [← g4.2])
  rw [g4] at c4
  rw [← hb4] at HKO
  clear h4 g4 hb4
  obtain ⟨X, hX⟩ : ∃ X, word k = X := ⟨_, rfl⟩
  cases h1 : who 2 r with
  | none =>
    rw [h1] at c1 HE
    obtain ⟨a2, b2, h2⟩ := whoV_form' (who 1 s)
    rw [h2] at c2
    unfold whoV at c1
    have HF := hidp (show E = 2 from by have := HE.out; simp at this; exact this.symm)
    clear h1 h2 HE HKO hX
    go_enter Tryz.func63, Tryz.ntmps63
    go_wp2_with fail
    have HX := hidp ((Below.refl w.heap.size w).alloc (Nat.le_refl _) (.cells #[.string r, .string s, .int .u8 (k : Int), .string y, .string b, .int .i64 n] 74)); have HA := hidp (Arr.new w 74 [.string r, .string s, .int .u8 (k : Int), .string y, .string b, .int .i64 n])
    obtain ⟨bd, hbd⟩ : ∃ b, w.heap.size = b := ⟨_, rfl⟩
    generalize hW : (w.alloc (.cells #[.string r, .string s, .int .u8 (k : Int), .string y, .string b, .int .i64 n] 74)) = W0 at HX HA ⊢
    rw [hbd] at HA ⊢
    rw [← hbd]
    clear hW
    refine (c1.out _).mono ?_
    rintro e w1 ⟨rfl, hb1⟩
    have HB1 := hidp (HX.out.trans (hb1.mono HX.out.size)); have HA1 := hidp (HA.out.below hb1 HA.out.lt)
    clear hb1
    obtain ⟨x0, x1, x2, x3, x4, x5⟩ := arr6 HA1.out
    go_wp2_with fail
    clear x0 x1 x2 x3 x4 x5
    refine (c2.out _).mono ?_
    rintro e w2 ⟨rfl, hb2⟩
    have HB2 := hidp (HB1.out.trans (hb2.mono HB1.out.size)); have HA2 := hidp (HA1.out.below hb2 HA1.out.lt)
    clear hb2
    obtain ⟨x0, x1, x2, x3, x4, x5⟩ := arr6 HA2.out
    go_wp2_with fail
    clear x0 x1 x2 x3 x4 x5
    refine (c4.out _).mono ?_
    rintro e w3 ⟨rfl, hb3⟩
    have HB3 := hidp (HB2.out.trans (hb3.mono HB2.out.size)); have HA3 := hidp (HA2.out.below hb3 HA2.out.lt)
    clear hb3
    obtain ⟨x0, x1, x2, x3, x4, x5⟩ := arr6 HA3.out
    go_wp2_with fail
    go_ret
    exact ⟨by rw [HF.out]; rfl, HB3.out⟩
  | some m1 =>
    rw [h1] at c1 HE
    unfold whoV at c1
    clear h1
    cases h2 : who 1 s with
    | none =>
      rw [h2] at c2 HE
      unfold whoV at c2
      have HF := hidp (show E = 2 from by have := HE.out; simp at this; exact this.symm)
      clear h2 HE HKO hX
      go_enter Tryz.func63, Tryz.ntmps63
      go_wp2_with fail
      have HX := hidp ((Below.refl w.heap.size w).alloc (Nat.le_refl _) (.cells #[.string r, .string s, .int .u8 (k : Int), .string y, .string b, .int .i64 n] 74)); have HA := hidp (Arr.new w 74 [.string r, .string s, .int .u8 (k : Int), .string y, .string b, .int .i64 n])
      obtain ⟨bd, hbd⟩ : ∃ b, w.heap.size = b := ⟨_, rfl⟩
      generalize hW : (w.alloc (.cells #[.string r, .string s, .int .u8 (k : Int), .string y, .string b, .int .i64 n] 74)) = W0 at HX HA ⊢
      rw [hbd] at HA ⊢
      rw [← hbd]
      clear hW
      refine (c1.out _).mono ?_
      rintro e w1 ⟨rfl, hb1⟩
      have HB1 := hidp (HX.out.trans (hb1.mono HX.out.size)); have HA1 := hidp (HA.out.below hb1 HA.out.lt)
      clear hb1
      obtain ⟨x0, x1, x2, x3, x4, x5⟩ := arr6 HA1.out
      go_wp2_with fail
      clear x0 x1 x2 x3 x4 x5
      refine (c2.out _).mono ?_
      rintro e w2 ⟨rfl, hb2⟩
      have HB2 := hidp (HB1.out.trans (hb2.mono HB1.out.size)); have HA2 := hidp (HA1.out.below hb2 HA1.out.lt)
      clear hb2
      obtain ⟨x0, x1, x2, x3, x4, x5⟩ := arr6 HA2.out
      go_wp2_with fail
      clear x0 x1 x2 x3 x4 x5
      refine (c4.out _).mono ?_
      rintro e w3 ⟨rfl, hb3⟩
      have HB3 := hidp (HB2.out.trans (hb3.mono HB2.out.size)); have HA3 := hidp (HA2.out.below hb3 HA2.out.lt)
      clear hb3
      obtain ⟨x0, x1, x2, x3, x4, x5⟩ := arr6 HA3.out
      go_wp2_with fail
      go_ret
      exact ⟨by rw [HF.out]; rfl, HB3.out⟩
    | some m2 =>
      rw [h2] at c2 HE
      unfold whoV at c2
      clear h2
      by_cases h3 : 1 ≤ k ∧ k ≤ 8
      · have hf := word_full h3
        rw [hX] at hf c3
        obtain ⟨f1, f2, f3⟩ := full_facts hf
        rw [decide_eq_true h3] at HE
        clear hf hX h3
        by_cases h5 : 512 < b.size
        · have e5 : decide ((512 : Int) < (b.size : Int)) = true := by simp; omega
          have n5 : (512 : Int) < (b.size : Int) := by omega
          rw [decide_eq_false (show ¬ b.size ≤ 512 from by omega)] at HE
          have HF := hidp (show E = 2 from by have := HE.out; simp at this; exact this.symm)
          clear h5 HE HKO
          go_enter Tryz.func63, Tryz.ntmps63
          go_wp2_with fail
          have HX := hidp ((Below.refl w.heap.size w).alloc (Nat.le_refl _) (.cells #[.string r, .string s, .int .u8 (k : Int), .string y, .string b, .int .i64 n] 74)); have HA := hidp (Arr.new w 74 [.string r, .string s, .int .u8 (k : Int), .string y, .string b, .int .i64 n])
          obtain ⟨bd, hbd⟩ : ∃ b, w.heap.size = b := ⟨_, rfl⟩
          generalize hW : (w.alloc (.cells #[.string r, .string s, .int .u8 (k : Int), .string y, .string b, .int .i64 n] 74)) = W0 at HX HA ⊢
          rw [hbd] at HA ⊢
          rw [← hbd]
          clear hW
          refine (c1.out _).mono ?_
          rintro e w1 ⟨rfl, hb1⟩
          have HB1 := hidp (HX.out.trans (hb1.mono HX.out.size)); have HA1 := hidp (HA.out.below hb1 HA.out.lt)
          clear hb1
          obtain ⟨x0, x1, x2, x3, x4, x5⟩ := arr6 HA1.out
          go_wp2_with fail
          clear x0 x1 x2 x3 x4 x5
          refine (c2.out _).mono ?_
          rintro e w2 ⟨rfl, hb2⟩
          have HB2 := hidp (HB1.out.trans (hb2.mono HB1.out.size)); have HA2 := hidp (HA1.out.below hb2 HA1.out.lt)
          clear hb2
          obtain ⟨x0, x1, x2, x3, x4, x5⟩ := arr6 HA2.out
          go_wp2_with fail
          clear x0 x1 x2 x3 x4 x5
          refine (c4.out _).mono ?_
          rintro e w3 ⟨rfl, hb3⟩
          have HB3 := hidp (HB2.out.trans (hb3.mono HB2.out.size)); have HA3 := hidp (HA2.out.below hb3 HA2.out.lt)
          clear hb3
          obtain ⟨x0, x1, x2, x3, x4, x5⟩ := arr6 HA3.out
          go_wp2_with fail
          clear x0 x1 x2 x3 x4 x5
          refine (c3.out _).mono ?_
          rintro e w4 ⟨rfl, hb4⟩
          have HB4 := hidp (HB3.out.trans (hb4.mono HB3.out.size)); have HA4 := hidp (HA3.out.below hb4 HA3.out.lt)
          clear hb4
          obtain ⟨x0, x1, x2, x3, x4, x5⟩ := arr6 HA4.out
          go_wp2_with fail
          go_ret
          exact ⟨by rw [HF.out]; rfl, HB4.out⟩
        · have e5 : decide ((512 : Int) < (b.size : Int)) = false := by simp; omega
          have n5 : ¬ (512 : Int) < (b.size : Int) := by omega
          rw [decide_eq_true (show b.size ≤ 512 from by omega)] at HE
          by_cases h6 : n < 0
          · have e6 : decide (n < 0) = true := by simp; omega
            rw [decide_eq_false (show ¬ (0 ≤ n ∧ n ≤ 1099511627776) from by omega)] at HE
            have HF := hidp (show E = 2 from by have := HE.out; simp at this; exact this.symm)
            clear h5 HE HKO
            go_enter Tryz.func63, Tryz.ntmps63
            go_wp2_with fail
            have HX := hidp ((Below.refl w.heap.size w).alloc (Nat.le_refl _) (.cells #[.string r, .string s, .int .u8 (k : Int), .string y, .string b, .int .i64 n] 74)); have HA := hidp (Arr.new w 74 [.string r, .string s, .int .u8 (k : Int), .string y, .string b, .int .i64 n])
            obtain ⟨bd, hbd⟩ : ∃ b, w.heap.size = b := ⟨_, rfl⟩
            generalize hW : (w.alloc (.cells #[.string r, .string s, .int .u8 (k : Int), .string y, .string b, .int .i64 n] 74)) = W0 at HX HA ⊢
            rw [hbd] at HA ⊢
            rw [← hbd]
            clear hW
            refine (c1.out _).mono ?_
            rintro e w1 ⟨rfl, hb1⟩
            have HB1 := hidp (HX.out.trans (hb1.mono HX.out.size)); have HA1 := hidp (HA.out.below hb1 HA.out.lt)
            clear hb1
            obtain ⟨x0, x1, x2, x3, x4, x5⟩ := arr6 HA1.out
            go_wp2_with fail
            clear x0 x1 x2 x3 x4 x5
            refine (c2.out _).mono ?_
            rintro e w2 ⟨rfl, hb2⟩
            have HB2 := hidp (HB1.out.trans (hb2.mono HB1.out.size)); have HA2 := hidp (HA1.out.below hb2 HA1.out.lt)
            clear hb2
            obtain ⟨x0, x1, x2, x3, x4, x5⟩ := arr6 HA2.out
            go_wp2_with fail
            clear x0 x1 x2 x3 x4 x5
            refine (c4.out _).mono ?_
            rintro e w3 ⟨rfl, hb3⟩
            have HB3 := hidp (HB2.out.trans (hb3.mono HB2.out.size)); have HA3 := hidp (HA2.out.below hb3 HA2.out.lt)
            clear hb3
            obtain ⟨x0, x1, x2, x3, x4, x5⟩ := arr6 HA3.out
            go_wp2_with fail
            clear x0 x1 x2 x3 x4 x5
            refine (c3.out _).mono ?_
            rintro e w4 ⟨rfl, hb4⟩
            have HB4 := hidp (HB3.out.trans (hb4.mono HB3.out.size)); have HA4 := hidp (HA3.out.below hb4 HA3.out.lt)
            clear hb4
            obtain ⟨x0, x1, x2, x3, x4, x5⟩ := arr6 HA4.out
            go_wp2_with fail
            go_ret
            exact ⟨by rw [HF.out]; rfl, HB4.out⟩
          · have e6 : decide (n < 0) = false := by simp; omega
            by_cases h7 : 1099511627776 < n
            · have e7 : decide (1099511627776 < n) = true := by simp; omega
              rw [decide_eq_false (show ¬ (0 ≤ n ∧ n ≤ 1099511627776) from by omega)] at HE
              have HF := hidp (show E = 2 from by have := HE.out; simp at this; exact this.symm)
              clear h5 h6 HE HKO
              go_enter Tryz.func63, Tryz.ntmps63
              go_wp2_with fail
              have HX := hidp ((Below.refl w.heap.size w).alloc (Nat.le_refl _) (.cells #[.string r, .string s, .int .u8 (k : Int), .string y, .string b, .int .i64 n] 74)); have HA := hidp (Arr.new w 74 [.string r, .string s, .int .u8 (k : Int), .string y, .string b, .int .i64 n])
              obtain ⟨bd, hbd⟩ : ∃ b, w.heap.size = b := ⟨_, rfl⟩
              generalize hW : (w.alloc (.cells #[.string r, .string s, .int .u8 (k : Int), .string y, .string b, .int .i64 n] 74)) = W0 at HX HA ⊢
              rw [hbd] at HA ⊢
              rw [← hbd]
              clear hW
              refine (c1.out _).mono ?_
              rintro e w1 ⟨rfl, hb1⟩
              have HB1 := hidp (HX.out.trans (hb1.mono HX.out.size)); have HA1 := hidp (HA.out.below hb1 HA.out.lt)
              clear hb1
              obtain ⟨x0, x1, x2, x3, x4, x5⟩ := arr6 HA1.out
              go_wp2_with fail
              clear x0 x1 x2 x3 x4 x5
              refine (c2.out _).mono ?_
              rintro e w2 ⟨rfl, hb2⟩
              have HB2 := hidp (HB1.out.trans (hb2.mono HB1.out.size)); have HA2 := hidp (HA1.out.below hb2 HA1.out.lt)
              clear hb2
              obtain ⟨x0, x1, x2, x3, x4, x5⟩ := arr6 HA2.out
              go_wp2_with fail
              clear x0 x1 x2 x3 x4 x5
              refine (c4.out _).mono ?_
              rintro e w3 ⟨rfl, hb3⟩
              have HB3 := hidp (HB2.out.trans (hb3.mono HB2.out.size)); have HA3 := hidp (HA2.out.below hb3 HA2.out.lt)
              clear hb3
              obtain ⟨x0, x1, x2, x3, x4, x5⟩ := arr6 HA3.out
              go_wp2_with fail
              clear x0 x1 x2 x3 x4 x5
              refine (c3.out _).mono ?_
              rintro e w4 ⟨rfl, hb4⟩
              have HB4 := hidp (HB3.out.trans (hb4.mono HB3.out.size)); have HA4 := hidp (HA3.out.below hb4 HA3.out.lt)
              clear hb4
              obtain ⟨x0, x1, x2, x3, x4, x5⟩ := arr6 HA4.out
              go_wp2_with fail
              go_ret
              exact ⟨by rw [HF.out]; rfl, HB4.out⟩
            · have e7 : decide (1099511627776 < n) = false := by simp; omega
              rw [decide_eq_true (show (0 ≤ n ∧ n ≤ 1099511627776) from by omega)] at HE
              clear h5 h6
              by_cases hk2 : k = 2
              · have e8 : ((k : Int) == 2) = true := by rw [hk2]; rfl
                have e9 : ((k : Int) != 2) = false := by rw [hk2]; rfl
                rw [if_pos hk2] at HKO
                cases b4 with
                | false =>
                  rw [← HKO.out] at HE
                  have HF := hidp (show E = 2 from by have := HE.out; simp at this; exact this.symm)
                  clear HE HKO hk2
                  go_enter Tryz.func63, Tryz.ntmps63
                  go_wp2_with fail
                  have HX := hidp ((Below.refl w.heap.size w).alloc (Nat.le_refl _) (.cells #[.string r, .string s, .int .u8 (k : Int), .string y, .string b, .int .i64 n] 74)); have HA := hidp (Arr.new w 74 [.string r, .string s, .int .u8 (k : Int), .string y, .string b, .int .i64 n])
                  obtain ⟨bd, hbd⟩ : ∃ b, w.heap.size = b := ⟨_, rfl⟩
                  generalize hW : (w.alloc (.cells #[.string r, .string s, .int .u8 (k : Int), .string y, .string b, .int .i64 n] 74)) = W0 at HX HA ⊢
                  rw [hbd] at HA ⊢
                  rw [← hbd]
                  clear hW
                  refine (c1.out _).mono ?_
                  rintro e w1 ⟨rfl, hb1⟩
                  have HB1 := hidp (HX.out.trans (hb1.mono HX.out.size)); have HA1 := hidp (HA.out.below hb1 HA.out.lt)
                  clear hb1
                  obtain ⟨x0, x1, x2, x3, x4, x5⟩ := arr6 HA1.out
                  go_wp2_with fail
                  clear x0 x1 x2 x3 x4 x5
                  refine (c2.out _).mono ?_
                  rintro e w2 ⟨rfl, hb2⟩
                  have HB2 := hidp (HB1.out.trans (hb2.mono HB1.out.size)); have HA2 := hidp (HA1.out.below hb2 HA1.out.lt)
                  clear hb2
                  obtain ⟨x0, x1, x2, x3, x4, x5⟩ := arr6 HA2.out
                  go_wp2_with fail
                  clear x0 x1 x2 x3 x4 x5
                  refine (c4.out _).mono ?_
                  rintro e w3 ⟨rfl, hb3⟩
                  have HB3 := hidp (HB2.out.trans (hb3.mono HB2.out.size)); have HA3 := hidp (HA2.out.below hb3 HA2.out.lt)
                  clear hb3
                  obtain ⟨x0, x1, x2, x3, x4, x5⟩ := arr6 HA3.out
                  go_wp2_with fail
                  clear x0 x1 x2 x3 x4 x5
                  refine (c3.out _).mono ?_
                  rintro e w4 ⟨rfl, hb4⟩
                  have HB4 := hidp (HB3.out.trans (hb4.mono HB3.out.size)); have HA4 := hidp (HA3.out.below hb4 HA3.out.lt)
                  clear hb4
                  obtain ⟨x0, x1, x2, x3, x4, x5⟩ := arr6 HA4.out
                  go_wp2_with fail
                  go_ret
                  exact ⟨by rw [HF.out]; rfl, HB4.out⟩
                | true =>
                  rw [← HKO.out] at HE
                  have HF := hidp (show E = 0 from by have := HE.out; simp at this; exact this.symm)
                  clear HE HKO hk2
                  go_enter Tryz.func63, Tryz.ntmps63
                  go_wp2_with fail
                  have HX := hidp ((Below.refl w.heap.size w).alloc (Nat.le_refl _) (.cells #[.string r, .string s, .int .u8 (k : Int), .string y, .string b, .int .i64 n] 74)); have HA := hidp (Arr.new w 74 [.string r, .string s, .int .u8 (k : Int), .string y, .string b, .int .i64 n])
                  obtain ⟨bd, hbd⟩ : ∃ b, w.heap.size = b := ⟨_, rfl⟩
                  generalize hW : (w.alloc (.cells #[.string r, .string s, .int .u8 (k : Int), .string y, .string b, .int .i64 n] 74)) = W0 at HX HA ⊢
                  rw [hbd] at HA ⊢
                  rw [← hbd]
                  clear hW
                  refine (c1.out _).mono ?_
                  rintro e w1 ⟨rfl, hb1⟩
                  have HB1 := hidp (HX.out.trans (hb1.mono HX.out.size)); have HA1 := hidp (HA.out.below hb1 HA.out.lt)
                  clear hb1
                  obtain ⟨x0, x1, x2, x3, x4, x5⟩ := arr6 HA1.out
                  go_wp2_with fail
                  clear x0 x1 x2 x3 x4 x5
                  refine (c2.out _).mono ?_
                  rintro e w2 ⟨rfl, hb2⟩
                  have HB2 := hidp (HB1.out.trans (hb2.mono HB1.out.size)); have HA2 := hidp (HA1.out.below hb2 HA1.out.lt)
                  clear hb2
                  obtain ⟨x0, x1, x2, x3, x4, x5⟩ := arr6 HA2.out
                  go_wp2_with fail
                  clear x0 x1 x2 x3 x4 x5
                  refine (c4.out _).mono ?_
                  rintro e w3 ⟨rfl, hb3⟩
                  have HB3 := hidp (HB2.out.trans (hb3.mono HB2.out.size)); have HA3 := hidp (HA2.out.below hb3 HA2.out.lt)
                  clear hb3
                  obtain ⟨x0, x1, x2, x3, x4, x5⟩ := arr6 HA3.out
                  go_wp2_with fail
                  clear x0 x1 x2 x3 x4 x5
                  refine (c3.out _).mono ?_
                  rintro e w4 ⟨rfl, hb4⟩
                  have HB4 := hidp (HB3.out.trans (hb4.mono HB3.out.size)); have HA4 := hidp (HA3.out.below hb4 HA3.out.lt)
                  clear hb4
                  obtain ⟨x0, x1, x2, x3, x4, x5⟩ := arr6 HA4.out
                  go_wp2_with fail
                  go_ret
                  exact ⟨by rw [HF.out]; rfl, HB4.out⟩
              · have e8 : ((k : Int) == 2) = false := beq_eq_false_iff_ne.2 (by omega)
                have e9 : ((k : Int) != 2) = true := by simp; omega
                have n8 : ¬ k = 2 := hk2
                rw [if_neg hk2] at HKO
                by_cases hy0 : y.size = 0
                · obtain ⟨y1, y2, y3⟩ := empty_facts hy0
                  have y4 : (y.toList != (⟨#[]⟩ : ByteArray).toList) = false := by unfold bne; rw [y3]; rfl
                  rw [← HKO.out, decide_eq_true hy0] at HE
                  have HF := hidp (show E = 0 from by have := HE.out; simp at this; exact this.symm)
                  clear HE HKO hk2 hy0
                  go_enter Tryz.func63, Tryz.ntmps63
                  go_wp2_with fail
                  have HX := hidp ((Below.refl w.heap.size w).alloc (Nat.le_refl _) (.cells #[.string r, .string s, .int .u8 (k : Int), .string y, .string b, .int .i64 n] 74)); have HA := hidp (Arr.new w 74 [.string r, .string s, .int .u8 (k : Int), .string y, .string b, .int .i64 n])
                  obtain ⟨bd, hbd⟩ : ∃ b, w.heap.size = b := ⟨_, rfl⟩
                  generalize hW : (w.alloc (.cells #[.string r, .string s, .int .u8 (k : Int), .string y, .string b, .int .i64 n] 74)) = W0 at HX HA ⊢
                  rw [hbd] at HA ⊢
                  rw [← hbd]
                  clear hW
                  refine (c1.out _).mono ?_
                  rintro e w1 ⟨rfl, hb1⟩
                  have HB1 := hidp (HX.out.trans (hb1.mono HX.out.size)); have HA1 := hidp (HA.out.below hb1 HA.out.lt)
                  clear hb1
                  obtain ⟨x0, x1, x2, x3, x4, x5⟩ := arr6 HA1.out
                  go_wp2_with fail
                  clear x0 x1 x2 x3 x4 x5
                  refine (c2.out _).mono ?_
                  rintro e w2 ⟨rfl, hb2⟩
                  have HB2 := hidp (HB1.out.trans (hb2.mono HB1.out.size)); have HA2 := hidp (HA1.out.below hb2 HA1.out.lt)
                  clear hb2
                  obtain ⟨x0, x1, x2, x3, x4, x5⟩ := arr6 HA2.out
                  go_wp2_with fail
                  clear x0 x1 x2 x3 x4 x5
                  refine (c4.out _).mono ?_
                  rintro e w3 ⟨rfl, hb3⟩
                  have HB3 := hidp (HB2.out.trans (hb3.mono HB2.out.size)); have HA3 := hidp (HA2.out.below hb3 HA2.out.lt)
                  clear hb3
                  obtain ⟨x0, x1, x2, x3, x4, x5⟩ := arr6 HA3.out
                  go_wp2_with fail
                  clear x0 x1 x2 x3 x4 x5
                  refine (c3.out _).mono ?_
                  rintro e w4 ⟨rfl, hb4⟩
                  have HB4 := hidp (HB3.out.trans (hb4.mono HB3.out.size)); have HA4 := hidp (HA3.out.below hb4 HA3.out.lt)
                  clear hb4
                  obtain ⟨x0, x1, x2, x3, x4, x5⟩ := arr6 HA4.out
                  go_wp2_with fail
                  go_ret
                  exact ⟨by rw [HF.out]; rfl, HB4.out⟩
                · obtain ⟨y1, y2, y3⟩ := full_facts hy0
                  have y4 : (y.toList != (⟨#[]⟩ : ByteArray).toList) = true := by unfold bne; rw [y3]; rfl
                  rw [← HKO.out, decide_eq_false hy0] at HE
                  have HF := hidp (show E = 2 from by have := HE.out; simp at this; exact this.symm)
                  clear HE HKO hk2 hy0
                  go_enter Tryz.func63, Tryz.ntmps63
                  go_wp2_with fail
                  have HX := hidp ((Below.refl w.heap.size w).alloc (Nat.le_refl _) (.cells #[.string r, .string s, .int .u8 (k : Int), .string y, .string b, .int .i64 n] 74)); have HA := hidp (Arr.new w 74 [.string r, .string s, .int .u8 (k : Int), .string y, .string b, .int .i64 n])
                  obtain ⟨bd, hbd⟩ : ∃ b, w.heap.size = b := ⟨_, rfl⟩
                  generalize hW : (w.alloc (.cells #[.string r, .string s, .int .u8 (k : Int), .string y, .string b, .int .i64 n] 74)) = W0 at HX HA ⊢
                  rw [hbd] at HA ⊢
                  rw [← hbd]
                  clear hW
                  refine (c1.out _).mono ?_
                  rintro e w1 ⟨rfl, hb1⟩
                  have HB1 := hidp (HX.out.trans (hb1.mono HX.out.size)); have HA1 := hidp (HA.out.below hb1 HA.out.lt)
                  clear hb1
                  obtain ⟨x0, x1, x2, x3, x4, x5⟩ := arr6 HA1.out
                  go_wp2_with fail
                  clear x0 x1 x2 x3 x4 x5
                  refine (c2.out _).mono ?_
                  rintro e w2 ⟨rfl, hb2⟩
                  have HB2 := hidp (HB1.out.trans (hb2.mono HB1.out.size)); have HA2 := hidp (HA1.out.below hb2 HA1.out.lt)
                  clear hb2
                  obtain ⟨x0, x1, x2, x3, x4, x5⟩ := arr6 HA2.out
                  go_wp2_with fail
                  clear x0 x1 x2 x3 x4 x5
                  refine (c4.out _).mono ?_
                  rintro e w3 ⟨rfl, hb3⟩
                  have HB3 := hidp (HB2.out.trans (hb3.mono HB2.out.size)); have HA3 := hidp (HA2.out.below hb3 HA2.out.lt)
                  clear hb3
                  obtain ⟨x0, x1, x2, x3, x4, x5⟩ := arr6 HA3.out
                  go_wp2_with fail
                  clear x0 x1 x2 x3 x4 x5
                  refine (c3.out _).mono ?_
                  rintro e w4 ⟨rfl, hb4⟩
                  have HB4 := hidp (HB3.out.trans (hb4.mono HB3.out.size)); have HA4 := hidp (HA3.out.below hb4 HA3.out.lt)
                  clear hb4
                  obtain ⟨x0, x1, x2, x3, x4, x5⟩ := arr6 HA4.out
                  go_wp2_with fail
                  go_ret
                  exact ⟨by rw [HF.out]; rfl, HB4.out⟩
      · have hf := word_empty h3
        rw [hX] at hf c3
        obtain ⟨f1, f2, f3⟩ := empty_facts hf
        rw [decide_eq_false h3] at HE
        have HF := hidp (show E = 2 from by have := HE.out; simp at this; exact this.symm)
        clear h3 HE HKO hf hX
        go_enter Tryz.func63, Tryz.ntmps63
        go_wp2_with fail
        have HX := hidp ((Below.refl w.heap.size w).alloc (Nat.le_refl _) (.cells #[.string r, .string s, .int .u8 (k : Int), .string y, .string b, .int .i64 n] 74)); have HA := hidp (Arr.new w 74 [.string r, .string s, .int .u8 (k : Int), .string y, .string b, .int .i64 n])
        obtain ⟨bd, hbd⟩ : ∃ b, w.heap.size = b := ⟨_, rfl⟩
        generalize hW : (w.alloc (.cells #[.string r, .string s, .int .u8 (k : Int), .string y, .string b, .int .i64 n] 74)) = W0 at HX HA ⊢
        rw [hbd] at HA ⊢
        rw [← hbd]
        clear hW
        refine (c1.out _).mono ?_
        rintro e w1 ⟨rfl, hb1⟩
        have HB1 := hidp (HX.out.trans (hb1.mono HX.out.size)); have HA1 := hidp (HA.out.below hb1 HA.out.lt)
        clear hb1
        obtain ⟨x0, x1, x2, x3, x4, x5⟩ := arr6 HA1.out
        go_wp2_with fail
        clear x0 x1 x2 x3 x4 x5
        refine (c2.out _).mono ?_
        rintro e w2 ⟨rfl, hb2⟩
        have HB2 := hidp (HB1.out.trans (hb2.mono HB1.out.size)); have HA2 := hidp (HA1.out.below hb2 HA1.out.lt)
        clear hb2
        obtain ⟨x0, x1, x2, x3, x4, x5⟩ := arr6 HA2.out
        go_wp2_with fail
        clear x0 x1 x2 x3 x4 x5
        refine (c4.out _).mono ?_
        rintro e w3 ⟨rfl, hb3⟩
        have HB3 := hidp (HB2.out.trans (hb3.mono HB2.out.size)); have HA3 := hidp (HA2.out.below hb3 HA2.out.lt)
        clear hb3
        obtain ⟨x0, x1, x2, x3, x4, x5⟩ := arr6 HA3.out
        go_wp2_with fail
        clear x0 x1 x2 x3 x4 x5
        refine (c3.out _).mono ?_
        rintro e w4 ⟨rfl, hb4⟩
        have HB4 := hidp (HB3.out.trans (hb4.mono HB3.out.size)); have HA4 := hidp (HA3.out.below hb4 HA3.out.lt)
        clear hb4
        obtain ⟨x0, x1, x2, x3, x4, x5⟩ := arr6 HA4.out
        go_wp2_with fail
        go_ret
        exact ⟨by rw [HF.out]; rfl, HB4.out⟩
end Go.Proofs.YtfenjincbhkodaaGreatDoor

namespace Go.Proofs.YtfenjincbhkodaaGreatDoor
set_option maxRecDepth 100000
set_option linter.unusedVariables false
set_option linter.unusedSimpArgs false
open Go.RowKit
end Go.Proofs.YtfenjincbhkodaaGreatDoor

namespace Go.Proofs.YtfenjincbhkodaaGreatDoor
set_option maxRecDepth 100000
set_option linter.unusedVariables false
set_option linter.unusedSimpArgs false
open Go.RowKit

/-- What no kind from 1 to k - 1 is. -/
def noneTo (a b c d e5 : ByteArray) (n : Nat) (k : Nat) : Prop := ∀ j, 1 ≤ j → j < k → word j = c → evOk (⟨a, b, j, d, e5, n⟩ : Ev) = false
theorem evOf6_none {a b c d e5 f : ByteArray} {n : Nat} (hn : numOf f = some n) (h : noneTo a b c d e5 n 9) : evOf [a, b, c, d, e5, f] = none := by
  unfold evOf
  simp only [hn]
  rw [if_neg]
  intro hok
  obtain ⟨-, -, h3, h4, -⟩ := evOk_parts hok
  simp only at h3 h4
  have h5 := h _ h3 (by omega) (word_kindOf h3).1
  rw [h5] at hok; cases hok
theorem evOf6_some {a b c d e5 f : ByteArray} {n q : Nat} (hn : numOf f = some n) (h1 : 1 ≤ q) (h2 : q ≤ 8) (hw : word q = c) (hok : evOk (⟨a, b, q, d, e5, n⟩ : Ev) = true) : evOf [a, b, c, d, e5, f] = some (⟨a, b, q, d, e5, n⟩ : Ev) := by
  unfold evOf
  simp only [hn]
  rw [kindOf_eq h1 h2 hw, if_pos hok]

set_option maxHeartbeats 32000000 in
theorem revParse_any (w : World) (s : ByteArray) (hs : s.size ≤ 281474976710656) :
    Calls Tryz.prog 49 #[.string s] w fun e w' => e = .returned (.tuple #[evV (evP s), .int .i64 (evX (evP s))]) ∧ Below w.heap.size w w' := by
  have c1 := hidp (fun W => refAll_any W s hs)
  have HX := hidp ((Below.refl w.heap.size w).alloc (Nat.le_refl _) (.cells #[.string ⟨#[]⟩, .string ⟨#[]⟩, .int .u8 0, .string ⟨#[]⟩, .string ⟨#[]⟩, .int .i64 0] 74)); have HA := hidp (Arr.new w 74 [.string ⟨#[]⟩, .string ⟨#[]⟩, .int .u8 0, .string ⟨#[]⟩, .string ⟨#[]⟩, .int .i64 0])
  obtain ⟨R, hR⟩ : ∃ R, evP s = R := ⟨_, rfl⟩
  rw [hR]
  unfold evP at hR
  have hbig := al_small s hs
  obtain ⟨⟨L, er⟩, hal⟩ : ∃ x, al s = x := ⟨_, rfl⟩
  rw [hal] at c1 hR hbig
  simp only at c1 hR hbig
  clear hal
  by_cases he : er = 0
  · have e0 : ((er : Int) != 0) = false := by rw [he]; rfl
    subst he
    rw [if_pos rfl] at hR
    by_cases hl6 : L.length = 6
    · match L, hl6, hbig with
      | [a, b, c, d, e5, f], _, hbig =>
        clear hl6
        have cN := hidp (fun W => refGetNum_any W f (hbig f (by simp)))
        obtain ⟨⟨n, j, ge⟩, hr⟩ : ∃ r, gn f.data.toList = r := ⟨_, rfl⟩
        rw [hr] at cN
        unfold tup3 at cN
        simp only at cN
        by_cases hge : ge = 0
        · have e1 : ((ge : Int) != 0) = false := by rw [hge]; rfl
          by_cases hj : j = f.size
          · have e2 : ((j : Int) != (f.size : Int)) = false := by rw [hj]; simp
            have hn : numOf f = some n := by unfold numOf; rw [hr]; simp only; rw [if_pos ⟨hge, hj⟩]
            have hn48 := (numOf_some hn).2
            have hw1 : IntKind.i64.wrap (n : Int) = (n : Int) := by unfold IntKind.wrap; simp [IntKind.bits, IntKind.signed]; omega
            have HN := hidp hn
            have HR := hidp hR
            have hza := hbig a (by simp); have hzb := hbig b (by simp); have hzd := hbig d (by simp); have hze := hbig e5 (by simp)
            have hz0 : (Tryz.prog.info? 74).map (·.size) = some 6 := by kernel_rfl
            clear hr hn hR hbig
            subst hge
            go_enter Tryz.func49, Tryz.ntmps49
            go_wp2_with fail
            refine (c1.out _).mono ?_
            rintro e w1 ⟨v, rfl, hst, hb1⟩
            have HB1 := hidp (HX.out.trans (hb1.mono HX.out.size)); have HA1 := hidp (HA.out.below hb1 HA.out.lt); have HST := hidp hst
            clear hb1 hst
            obtain ⟨bb, off, cap, rfl⟩ := strs_form6 HST.out rfl
            obtain ⟨x0, x1, x2, x3, x4, x5⟩ := strs6 HST.out
            go_wp2_with fail
            clear x0 x1 x2 x3 x4 x5
            refine (cN.out _).mono ?_
            rintro e w2 ⟨rfl, hb2⟩
            have HB2 := hidp (HB1.out.trans (hb2.mono HB1.out.size)); have HA2 := hidp (HA1.out.below hb2 HA1.out.lt); have HS2 := hidp (HST.out.below hb2 (Nat.le_refl _))
            clear hb2
            obtain ⟨x0, x1, x2, x3, x4, x5⟩ := strs6 HS2.out
            go_wp2_with fail
            clear x0 x1 x2 x3 x4 x5
            go_loopw [9] (fun t9 wr => ∃ q : Nat, t9 = .int .u8 (q : Int) ∧ 1 ≤ q ∧ q ≤ 9 ∧ noneTo a b c d e5 n q ∧ Below w.heap.size w wr ∧ StrsAt wr (.slice (some ⟨bb, off, none⟩) 6 cap) [a, b, c, d, e5, f] ∧ Arr wr w.heap.size 74 [.string ⟨#[]⟩, .string ⟨#[]⟩, .int .u8 0, .string ⟨#[]⟩, .string ⟨#[]⟩, .int .i64 0]) (fun t9 _ => 9 - (intOf t9).toNat)
            case atStart => exact ⟨1, rfl, by omega, by omega, fun j h1 h2 => by omega, HB2.out, HS2.out, HA2.out⟩
            case round =>
              obtain ⟨q, rfl, hq1, hq9, hno, hbw, hsw, haw⟩ := hrel
              have HNO := hidp hno; have HBW := hidp hbw; have HSW := hidp hsw; have HAW := hidp haw
              clear hno hbw hsw haw
              by_cases hl : q < 9
              · have e3 : decide ((q : Int) < 9) = true := by simp; omega
                have n3 : (q : Int) < 9 := by omega
                have cw := hidp (fun W => rword_any W q (by omega))
                have cc := hidp (fun W => revCheck_any W a b q d e5 n (by omega) hza hzb hzd hze)
                obtain ⟨E, hE⟩ : ∃ E, evE (⟨a, b, q, d, e5, n⟩ : Ev) = E := ⟨_, rfl⟩
                rw [hE] at cc
                have HE := hidp hE; clear hE
                obtain ⟨X, hX⟩ : ∃ X, word q = X := ⟨_, rfl⟩
                rw [hX] at cw
                have HWX := hidp hX; clear hX
                obtain ⟨x0, x1, x2, x3, x4, x5⟩ := strs6 HSW.out
                go_wp2_with fail
                clear x0 x1 x2 x3 x4 x5
                obtain ⟨U, hU⟩ : ∃ U, ({ wr with drawn := wr.drawn + 1 } : World) = U := ⟨_, rfl⟩
                have bU : Below wr.heap.size wr U := by rw [← hU]; exact (Below.refl _ _).drew
                have HBU := hidp (HBW.out.trans (bU.mono HBW.out.size)); have HAU := hidp (HAW.out.below bU HAW.out.lt); have HSU := hidp (HSW.out.below bU (Nat.le_refl _))
                clear bU
                have HZ3 := hidp ((Below.refl U.heap.size U).alloc (Nat.le_refl _) (.cells #[.string ⟨#[]⟩, .string ⟨#[]⟩, .int .u8 0, .string ⟨#[]⟩, .string ⟨#[]⟩, .int .i64 0] 74)); have HN3 := hidp ((Below.refl U.heap.size U).alloc (Nat.le_refl _) (.cells #[.string a, .string b, .int .u8 (q : Int), .string d, .string e5, .int .i64 (n : Int)] 74))
                have HSZ := hidp (HSU.out.below HZ3.out (Nat.le_refl _)); have HSN := hidp (HSU.out.below HN3.out (Nat.le_refl _))
                have hrun := run_storeCells_new (P := Tryz.prog) U 74 #[.string ⟨#[]⟩, .string ⟨#[]⟩, .int .u8 0, .string ⟨#[]⟩, .string ⟨#[]⟩, .int .i64 0] #[.string a, .string b, .int .u8 (q : Int), .string d, .string e5, .int .i64 (n : Int)] hz0 rfl (by simp [Value.oneCell'])
                refine wp_region_noPanic ?_
                refine wp_region_scr (S := fun W => StrsAt W (.slice (some ⟨bb, off, none⟩) 6 cap) [a, b, c, d, e5, f]) (.take 0 (.take 1 (.take 2 (.take 3 (.take 4 (.take 5 (.take 6 (.take 7 (.take 8 (.take 9 (.take 10 (.take 11 (.take 12 (.take 13 (.take 14 (.take 15 (.one 16 (.one 17 .done)))))))))))))))))) (by kernel_rfl) (by kernel_rfl) (fun _ _ _ _ _ h => h) (by simp [Scr.depth]) (by kernel_rfl) (by rw [hU]; exact HSU.out) ?_
                simp only [hU]
                clear hU
                apply s_val
                case ho => rfl
                case hw => rfl
                case hv => intro w hw; obtain ⟨x0, x1, x2, x3, x4, x5⟩ := strs6 hw; go_simp; first | done | with_reducible rfl | rfl
                simp only [Act.put, List.getElem_toArray, List.getElem_cons_zero, List.getElem_cons_succ, List.setIfInBounds_toArray, List.set_cons_zero, List.set_cons_succ]
                apply s_val
                case ho => rfl
                case hw => rfl
                case hv => intro w hw; obtain ⟨x0, x1, x2, x3, x4, x5⟩ := strs6 hw; go_simp; first | done | with_reducible rfl | rfl
                simp only [Act.put, List.getElem_toArray, List.getElem_cons_zero, List.getElem_cons_succ, List.setIfInBounds_toArray, List.set_cons_zero, List.set_cons_succ]
                apply s_val
                case ho => rfl
                case hw => rfl
                case hv => intro w hw; obtain ⟨x0, x1, x2, x3, x4, x5⟩ := strs6 hw; go_simp; first | done | with_reducible rfl | rfl
                simp only [Act.put, List.getElem_toArray, List.getElem_cons_zero, List.getElem_cons_succ, List.setIfInBounds_toArray, List.set_cons_zero, List.set_cons_succ]
                apply s_val
                case ho => rfl
                case hw => rfl
                case hv => intro w hw; obtain ⟨x0, x1, x2, x3, x4, x5⟩ := strs6 hw; go_simp; first | done | with_reducible rfl | rfl
                simp only [Act.put, List.getElem_toArray, List.getElem_cons_zero, List.getElem_cons_succ, List.setIfInBounds_toArray, List.set_cons_zero, List.set_cons_succ]
                apply s_val
                case ho => rfl
                case hw => rfl
                case hv => intro w hw; obtain ⟨x0, x1, x2, x3, x4, x5⟩ := strs6 hw; go_simp; first | done | with_reducible rfl | rfl
                simp only [Act.put, List.getElem_toArray, List.getElem_cons_zero, List.getElem_cons_succ, List.setIfInBounds_toArray, List.set_cons_zero, List.set_cons_succ]
                apply s_val
                case ho => rfl
                case hw => rfl
                case hv => intro w hw; obtain ⟨x0, x1, x2, x3, x4, x5⟩ := strs6 hw; go_simp; first | done | with_reducible rfl | rfl
                simp only [Act.put, List.getElem_toArray, List.getElem_cons_zero, List.getElem_cons_succ, List.setIfInBounds_toArray, List.set_cons_zero, List.set_cons_succ]
                apply s_val
                case ho => rfl
                case hw => rfl
                case hv => intro w hw; obtain ⟨x0, x1, x2, x3, x4, x5⟩ := strs6 hw; go_simp; first | done | with_reducible rfl | rfl
                simp only [Act.put, List.getElem_toArray, List.getElem_cons_zero, List.getElem_cons_succ, List.setIfInBounds_toArray, List.set_cons_zero, List.set_cons_succ]
                apply s_val
                case ho => rfl
                case hw => rfl
                case hv => intro w hw; obtain ⟨x0, x1, x2, x3, x4, x5⟩ := strs6 hw; go_simp; first | done | with_reducible rfl | rfl
                simp only [Act.put, List.getElem_toArray, List.getElem_cons_zero, List.getElem_cons_succ, List.setIfInBounds_toArray, List.set_cons_zero, List.set_cons_succ]
                apply s_val
                case ho => rfl
                case hw => rfl
                case hv => intro w hw; obtain ⟨x0, x1, x2, x3, x4, x5⟩ := strs6 hw; go_simp; first | done | with_reducible rfl | rfl
                simp only [Act.put, List.getElem_toArray, List.getElem_cons_zero, List.getElem_cons_succ, List.setIfInBounds_toArray, List.set_cons_zero, List.set_cons_succ]
                apply s_val
                case ho => rfl
                case hw => rfl
                case hv => intro w hw; obtain ⟨x0, x1, x2, x3, x4, x5⟩ := strs6 hw; go_simp; first | done | with_reducible rfl | rfl
                simp only [Act.put, List.getElem_toArray, List.getElem_cons_zero, List.getElem_cons_succ, List.setIfInBounds_toArray, List.set_cons_zero, List.set_cons_succ]
                apply s_val
                case ho => rfl
                case hw => rfl
                case hv => intro w hw; obtain ⟨x0, x1, x2, x3, x4, x5⟩ := strs6 hw; go_simp; first | done | with_reducible rfl | rfl
                simp only [Act.put, List.getElem_toArray, List.getElem_cons_zero, List.getElem_cons_succ, List.setIfInBounds_toArray, List.set_cons_zero, List.set_cons_succ]
                apply s_val
                case ho => rfl
                case hw => rfl
                case hv => intro w hw; obtain ⟨x0, x1, x2, x3, x4, x5⟩ := strs6 hw; go_simp; first | done | with_reducible rfl | rfl
                simp only [Act.put, List.getElem_toArray, List.getElem_cons_zero, List.getElem_cons_succ, List.setIfInBounds_toArray, List.set_cons_zero, List.set_cons_succ]
                apply s_val
                case ho => rfl
                case hw => rfl
                case hv => intro w hw; obtain ⟨x0, x1, x2, x3, x4, x5⟩ := strs6 hw; go_simp; first | done | with_reducible rfl | rfl
                simp only [Act.put, List.getElem_toArray, List.getElem_cons_zero, List.getElem_cons_succ, List.setIfInBounds_toArray, List.set_cons_zero, List.set_cons_succ]
                apply s_val
                case ho => rfl
                case hw => rfl
                case hv => intro w hw; obtain ⟨x0, x1, x2, x3, x4, x5⟩ := strs6 hw; go_simp; first | done | with_reducible rfl | rfl
                simp only [Act.put, List.getElem_toArray, List.getElem_cons_zero, List.getElem_cons_succ, List.setIfInBounds_toArray, List.set_cons_zero, List.set_cons_succ]
                apply s_val
                case ho => rfl
                case hw => rfl
                case hv => intro w hw; obtain ⟨x0, x1, x2, x3, x4, x5⟩ := strs6 hw; go_simp; first | done | with_reducible rfl | rfl
                simp only [Act.put, List.getElem_toArray, List.getElem_cons_zero, List.getElem_cons_succ, List.setIfInBounds_toArray, List.set_cons_zero, List.set_cons_succ]
                apply s_val
                case ho => rfl
                case hw => rfl
                case hv => intro w hw; obtain ⟨x0, x1, x2, x3, x4, x5⟩ := strs6 hw; go_simp; first | done | with_reducible rfl | rfl
                simp only [Act.put, List.getElem_toArray, List.getElem_cons_zero, List.getElem_cons_succ, List.setIfInBounds_toArray, List.set_cons_zero, List.set_cons_succ]
                apply o_make (W := U.alloc (.cells #[.string ⟨#[]⟩, .string ⟨#[]⟩, .int .u8 0, .string ⟨#[]⟩, .string ⟨#[]⟩, .int .i64 0] 74)) (v := .pointer (some ⟨U.heap.size, 0, none⟩)) (hS := HSZ.out)
                case ho => rfl
                case hw => rfl
                case hop => go_simp; done
                simp only [Act.put, List.getElem_toArray, List.getElem_cons_zero, List.getElem_cons_succ, List.setIfInBounds_toArray, List.set_cons_zero, List.set_cons_succ]
                apply o_put (W := U.alloc (.cells #[.string a, .string b, .int .u8 (q : Int), .string d, .string e5, .int .i64 (n : Int)] 74)) (hS := HSN.out)
                case ho => rfl
                case hw => rfl
                case hop => go_simp; done
                simp only [Act.put, List.getElem_toArray, List.getElem_cons_zero, List.getElem_cons_succ, List.setIfInBounds_toArray, List.set_cons_zero, List.set_cons_succ]
                refine NoPanic.normal ?_
                have HB5 := hidp (HBU.out.trans (HN3.out.mono HBU.out.size)); have HA5 := hidp (HAU.out.below HN3.out HAU.out.lt); have HS5 := HSN
                have HN5 := hidp (Arr.new U 74 [.string a, .string b, .int .u8 (q : Int), .string d, .string e5, .int .i64 (n : Int)])
                obtain ⟨be, hbe⟩ : ∃ b, U.heap.size = b := ⟨_, rfl⟩
                generalize hW5 : (U.alloc (.cells #[.string a, .string b, .int .u8 (q : Int), .string d, .string e5, .int .i64 (n : Int)] 74)) = W5 at HB5 HA5 HN5 HS5 ⊢
                rw [hbe] at HN5 ⊢
                clear HN3 HSN HSZ HZ3 hrun hW5
                go_wp2_with fail
                obtain ⟨V, hV⟩ : ∃ U, ({ W5 with drawn := W5.drawn + 1 } : World) = U := ⟨_, rfl⟩
                have bV : Below W5.heap.size W5 V := by rw [← hV]; exact (Below.refl _ _).drew
                have HBV := hidp (HB5.out.trans (bV.mono HB5.out.size)); have HAV := hidp (HA5.out.below bV HA5.out.lt); have HNV := hidp (HN5.out.below bV HN5.out.lt); have HSV := hidp (HS5.out.below bV (Nat.le_refl _))
                clear bV
                by_cases hwc : word q = c
                · have hq0 : (X.toList == c.toList) = true := by rw [← HWX.out, hwc]; simp
                  have hXc : X = c := by rw [← HWX.out]; exact hwc
                  by_cases hok : evOk (⟨a, b, q, d, e5, n⟩ : Ev) = true
                  · have hE0 : E = 0 := by rw [← HE.out]; unfold evE; rw [if_pos hok]
                    have e4 : ((E : Int) == 0) = true := by rw [hE0]; rfl
                    have hR2 := HR.out
                    rw [evOf6_some HN.out hq1 (by omega) hwc hok] at hR2
                    subst hR2
                    clear hok
                    refine wp_region_noPanic ?_
                    refine wp_region_scr (S := fun W => StrsAt W (.slice (some ⟨bb, off, none⟩) 6 cap) [a, b, c, d, e5, f] ∧ Arr W be 74 [.string a, .string b, .int .u8 (q : Int), .string d, .string e5, .int .i64 (n : Int)]) (.take 0 (.take 2 (.take 3 (.take 4 (.one 1 (.take 5 (.take 6 (.take 7 (.one 8 (.take 9 (.take 10 .done))))))))))) (by kernel_rfl) (by kernel_rfl) (fun _ _ _ _ _ h => h) (by simp [Scr.depth]) (by kernel_rfl) (by rw [hV]; exact ⟨HSV.out, HNV.out⟩) ?_
                    simp only [hV]
                    clear hV
                    apply s_val
                    case ho => rfl
                    case hw => rfl
                    case hv => intro w hw; obtain ⟨x0, x1, x2, x3, x4, x5⟩ := strs6 hw.1; obtain ⟨y0, y1, y2, y3, y4, y5⟩ := arr6 hw.2; go_simp; first | done | with_reducible rfl | rfl
                    simp only [Act.put, List.getElem_toArray, List.getElem_cons_zero, List.getElem_cons_succ, List.setIfInBounds_toArray, List.set_cons_zero, List.set_cons_succ]
                    apply s_val
                    case ho => rfl
                    case hw => rfl
                    case hv => intro w hw; obtain ⟨x0, x1, x2, x3, x4, x5⟩ := strs6 hw.1; obtain ⟨y0, y1, y2, y3, y4, y5⟩ := arr6 hw.2; go_simp; first | done | with_reducible rfl | rfl
                    simp only [Act.put, List.getElem_toArray, List.getElem_cons_zero, List.getElem_cons_succ, List.setIfInBounds_toArray, List.set_cons_zero, List.set_cons_succ]
                    apply s_val
                    case ho => rfl
                    case hw => rfl
                    case hv => intro w hw; obtain ⟨x0, x1, x2, x3, x4, x5⟩ := strs6 hw.1; obtain ⟨y0, y1, y2, y3, y4, y5⟩ := arr6 hw.2; go_simp; first | done | with_reducible rfl | rfl
                    simp only [Act.put, List.getElem_toArray, List.getElem_cons_zero, List.getElem_cons_succ, List.setIfInBounds_toArray, List.set_cons_zero, List.set_cons_succ]
                    apply s_val
                    case ho => rfl
                    case hw => rfl
                    case hv => intro w hw; obtain ⟨x0, x1, x2, x3, x4, x5⟩ := strs6 hw.1; obtain ⟨y0, y1, y2, y3, y4, y5⟩ := arr6 hw.2; go_simp; first | done | with_reducible rfl | rfl
                    simp only [Act.put, List.getElem_toArray, List.getElem_cons_zero, List.getElem_cons_succ, List.setIfInBounds_toArray, List.set_cons_zero, List.set_cons_succ]
                    apply o_call (v := .string X) (f := 62) (args := #[.int .u8 (q : Int)]) (hc := cw.out _)
                    case ho => rfl
                    case hw => rfl
                    case hop => go_simp; done
                    intro w6 hb6
                    have HB6 := hidp (HBV.out.trans (hb6.mono HBV.out.size)); have HA6 := hidp (HAV.out.below hb6 HAV.out.lt); have HN6 := hidp (HNV.out.below hb6 HNV.out.lt); have HS6 := hidp (HSV.out.below hb6 (Nat.le_refl _))
                    clear hb6
                    refine ⟨⟨HS6.out, HN6.out⟩, ?_⟩
                    simp only [Act.put, List.getElem_toArray, List.getElem_cons_zero, List.getElem_cons_succ, List.setIfInBounds_toArray, List.set_cons_zero, List.set_cons_succ]
                    apply s_val
                    case ho => rfl
                    case hw => rfl
                    case hv => intro w hw; obtain ⟨x0, x1, x2, x3, x4, x5⟩ := strs6 hw.1; obtain ⟨y0, y1, y2, y3, y4, y5⟩ := arr6 hw.2; go_simp; first | done | with_reducible rfl | rfl
                    simp only [Act.put, List.getElem_toArray, List.getElem_cons_zero, List.getElem_cons_succ, List.setIfInBounds_toArray, List.set_cons_zero, List.set_cons_succ]
                    apply s_val
                    case ho => rfl
                    case hw => rfl
                    case hv => intro w hw; obtain ⟨x0, x1, x2, x3, x4, x5⟩ := strs6 hw.1; obtain ⟨y0, y1, y2, y3, y4, y5⟩ := arr6 hw.2; go_simp; first | done | with_reducible rfl | rfl
                    simp only [Act.put, List.getElem_toArray, List.getElem_cons_zero, List.getElem_cons_succ, List.setIfInBounds_toArray, List.set_cons_zero, List.set_cons_succ]
                    apply s_val
                    case ho => rfl
                    case hw => rfl
                    case hv => intro w hw; obtain ⟨x0, x1, x2, x3, x4, x5⟩ := strs6 hw.1; obtain ⟨y0, y1, y2, y3, y4, y5⟩ := arr6 hw.2; go_simp; first | done | with_reducible rfl | rfl
                    simp only [Act.put, List.getElem_toArray, List.getElem_cons_zero, List.getElem_cons_succ, List.setIfInBounds_toArray, List.set_cons_zero, List.set_cons_succ]
                    apply o_call (v := .int .i64 E) (f := 63) (args := #[.agg #[.string a, .string b, .int .u8 (q : Int), .string d, .string e5, .int .i64 (n : Int)]]) (hc := cc.out _)
                    case ho => rfl
                    case hw => rfl
                    case hop => go_simp; done
                    intro w7 hb7
                    have HB7 := hidp (HB6.out.trans (hb7.mono HB6.out.size)); have HA7 := hidp (HA6.out.below hb7 HA6.out.lt); have HN7 := hidp (HN6.out.below hb7 HN6.out.lt); have HS7 := hidp (HS6.out.below hb7 (Nat.le_refl _))
                    clear hb7
                    refine ⟨⟨HS7.out, HN7.out⟩, ?_⟩
                    simp only [Act.put, List.getElem_toArray, List.getElem_cons_zero, List.getElem_cons_succ, List.setIfInBounds_toArray, List.set_cons_zero, List.set_cons_succ]
                    apply s_val
                    case ho => rfl
                    case hw => rfl
                    case hv => intro w hw; obtain ⟨x0, x1, x2, x3, x4, x5⟩ := strs6 hw.1; obtain ⟨y0, y1, y2, y3, y4, y5⟩ := arr6 hw.2; go_simp; first | done | with_reducible rfl | rfl
                    simp only [Act.put, List.getElem_toArray, List.getElem_cons_zero, List.getElem_cons_succ, List.setIfInBounds_toArray, List.set_cons_zero, List.set_cons_succ]
                    apply s_val
                    case ho => rfl
                    case hw => rfl
                    case hv => intro w hw; obtain ⟨x0, x1, x2, x3, x4, x5⟩ := strs6 hw.1; obtain ⟨y0, y1, y2, y3, y4, y5⟩ := arr6 hw.2; go_simp; first | done | with_reducible rfl | rfl
                    simp only [Act.put, List.getElem_toArray, List.getElem_cons_zero, List.getElem_cons_succ, List.setIfInBounds_toArray, List.set_cons_zero, List.set_cons_succ]
                    refine NoPanic.normal ?_
                    clear cw cc
                    obtain ⟨r0, r1, r2, r3, r4, r5, g0, g1, g2, g3, g4, g5⟩ := arr6f HA7.out
                    obtain ⟨y0, y1, y2, y3, y4, y5⟩ := arr6 HN7.out
                    go_wp2_with fail
                    refine bodyPost_ret (v := .tuple #[.agg #[.string a, .string b, .int .u8 (q : Int), .string d, .string e5, .int .i64 (n : Int)], .int .i64 0]) (by simp [results, Tryz.results49, go_sem, r0, r1, r2, r3, r4, r5]) rfl ⟨rfl, ?_⟩
                    repeat (refine Below.setCell ?_ (by simp) _)
                    exact HB7.out
                  · have hE0 : E = 2 := by rw [← HE.out]; unfold evE; rw [if_neg hok]
                    have e4 : ((E : Int) == 0) = false := by rw [hE0]; rfl
                    have HNO2 := hidp (show noneTo a b c d e5 n (q + 1) from fun j h1 h2 h3 => by
                      by_cases hjq : j = q
                      · subst hjq; simpa using hok
                      · exact HNO.out j h1 (by omega) h3)
                    clear hok
                    refine wp_region_noPanic ?_
                    refine wp_region_scr (S := fun W => StrsAt W (.slice (some ⟨bb, off, none⟩) 6 cap) [a, b, c, d, e5, f] ∧ Arr W be 74 [.string a, .string b, .int .u8 (q : Int), .string d, .string e5, .int .i64 (n : Int)]) (.take 0 (.take 2 (.take 3 (.take 4 (.one 1 (.take 5 (.take 6 (.take 7 (.one 8 (.take 9 (.take 10 .done))))))))))) (by kernel_rfl) (by kernel_rfl) (fun _ _ _ _ _ h => h) (by simp [Scr.depth]) (by kernel_rfl) (by rw [hV]; exact ⟨HSV.out, HNV.out⟩) ?_
                    simp only [hV]
                    clear hV
                    apply s_val
                    case ho => rfl
                    case hw => rfl
                    case hv => intro w hw; obtain ⟨x0, x1, x2, x3, x4, x5⟩ := strs6 hw.1; obtain ⟨y0, y1, y2, y3, y4, y5⟩ := arr6 hw.2; go_simp; first | done | with_reducible rfl | rfl
                    simp only [Act.put, List.getElem_toArray, List.getElem_cons_zero, List.getElem_cons_succ, List.setIfInBounds_toArray, List.set_cons_zero, List.set_cons_succ]
                    apply s_val
                    case ho => rfl
                    case hw => rfl
                    case hv => intro w hw; obtain ⟨x0, x1, x2, x3, x4, x5⟩ := strs6 hw.1; obtain ⟨y0, y1, y2, y3, y4, y5⟩ := arr6 hw.2; go_simp; first | done | with_reducible rfl | rfl
                    simp only [Act.put, List.getElem_toArray, List.getElem_cons_zero, List.getElem_cons_succ, List.setIfInBounds_toArray, List.set_cons_zero, List.set_cons_succ]
                    apply s_val
                    case ho => rfl
                    case hw => rfl
                    case hv => intro w hw; obtain ⟨x0, x1, x2, x3, x4, x5⟩ := strs6 hw.1; obtain ⟨y0, y1, y2, y3, y4, y5⟩ := arr6 hw.2; go_simp; first | done | with_reducible rfl | rfl
                    simp only [Act.put, List.getElem_toArray, List.getElem_cons_zero, List.getElem_cons_succ, List.setIfInBounds_toArray, List.set_cons_zero, List.set_cons_succ]
                    apply s_val
                    case ho => rfl
                    case hw => rfl
                    case hv => intro w hw; obtain ⟨x0, x1, x2, x3, x4, x5⟩ := strs6 hw.1; obtain ⟨y0, y1, y2, y3, y4, y5⟩ := arr6 hw.2; go_simp; first | done | with_reducible rfl | rfl
                    simp only [Act.put, List.getElem_toArray, List.getElem_cons_zero, List.getElem_cons_succ, List.setIfInBounds_toArray, List.set_cons_zero, List.set_cons_succ]
                    apply o_call (v := .string X) (f := 62) (args := #[.int .u8 (q : Int)]) (hc := cw.out _)
                    case ho => rfl
                    case hw => rfl
                    case hop => go_simp; done
                    intro w6 hb6
                    have HB6 := hidp (HBV.out.trans (hb6.mono HBV.out.size)); have HA6 := hidp (HAV.out.below hb6 HAV.out.lt); have HN6 := hidp (HNV.out.below hb6 HNV.out.lt); have HS6 := hidp (HSV.out.below hb6 (Nat.le_refl _))
                    clear hb6
                    refine ⟨⟨HS6.out, HN6.out⟩, ?_⟩
                    simp only [Act.put, List.getElem_toArray, List.getElem_cons_zero, List.getElem_cons_succ, List.setIfInBounds_toArray, List.set_cons_zero, List.set_cons_succ]
                    apply s_val
                    case ho => rfl
                    case hw => rfl
                    case hv => intro w hw; obtain ⟨x0, x1, x2, x3, x4, x5⟩ := strs6 hw.1; obtain ⟨y0, y1, y2, y3, y4, y5⟩ := arr6 hw.2; go_simp; first | done | with_reducible rfl | rfl
                    simp only [Act.put, List.getElem_toArray, List.getElem_cons_zero, List.getElem_cons_succ, List.setIfInBounds_toArray, List.set_cons_zero, List.set_cons_succ]
                    apply s_val
                    case ho => rfl
                    case hw => rfl
                    case hv => intro w hw; obtain ⟨x0, x1, x2, x3, x4, x5⟩ := strs6 hw.1; obtain ⟨y0, y1, y2, y3, y4, y5⟩ := arr6 hw.2; go_simp; first | done | with_reducible rfl | rfl
                    simp only [Act.put, List.getElem_toArray, List.getElem_cons_zero, List.getElem_cons_succ, List.setIfInBounds_toArray, List.set_cons_zero, List.set_cons_succ]
                    apply s_val
                    case ho => rfl
                    case hw => rfl
                    case hv => intro w hw; obtain ⟨x0, x1, x2, x3, x4, x5⟩ := strs6 hw.1; obtain ⟨y0, y1, y2, y3, y4, y5⟩ := arr6 hw.2; go_simp; first | done | with_reducible rfl | rfl
                    simp only [Act.put, List.getElem_toArray, List.getElem_cons_zero, List.getElem_cons_succ, List.setIfInBounds_toArray, List.set_cons_zero, List.set_cons_succ]
                    apply o_call (v := .int .i64 E) (f := 63) (args := #[.agg #[.string a, .string b, .int .u8 (q : Int), .string d, .string e5, .int .i64 (n : Int)]]) (hc := cc.out _)
                    case ho => rfl
                    case hw => rfl
                    case hop => go_simp; done
                    intro w7 hb7
                    have HB7 := hidp (HB6.out.trans (hb7.mono HB6.out.size)); have HA7 := hidp (HA6.out.below hb7 HA6.out.lt); have HN7 := hidp (HN6.out.below hb7 HN6.out.lt); have HS7 := hidp (HS6.out.below hb7 (Nat.le_refl _))
                    clear hb7
                    refine ⟨⟨HS7.out, HN7.out⟩, ?_⟩
                    simp only [Act.put, List.getElem_toArray, List.getElem_cons_zero, List.getElem_cons_succ, List.setIfInBounds_toArray, List.set_cons_zero, List.set_cons_succ]
                    apply s_val
                    case ho => rfl
                    case hw => rfl
                    case hv => intro w hw; obtain ⟨x0, x1, x2, x3, x4, x5⟩ := strs6 hw.1; obtain ⟨y0, y1, y2, y3, y4, y5⟩ := arr6 hw.2; go_simp; first | done | with_reducible rfl | rfl
                    simp only [Act.put, List.getElem_toArray, List.getElem_cons_zero, List.getElem_cons_succ, List.setIfInBounds_toArray, List.set_cons_zero, List.set_cons_succ]
                    apply s_val
                    case ho => rfl
                    case hw => rfl
                    case hv => intro w hw; obtain ⟨x0, x1, x2, x3, x4, x5⟩ := strs6 hw.1; obtain ⟨y0, y1, y2, y3, y4, y5⟩ := arr6 hw.2; go_simp; first | done | with_reducible rfl | rfl
                    simp only [Act.put, List.getElem_toArray, List.getElem_cons_zero, List.getElem_cons_succ, List.setIfInBounds_toArray, List.set_cons_zero, List.set_cons_succ]
                    refine NoPanic.normal ?_
                    clear cw cc
                    go_wp2_with fail
                    exact ⟨⟨q + 1, by go_num, by omega, by omega, HNO2.out, HB7.out, HS7.out, HA7.out⟩, by simp [intOf]; omega⟩
                · have hq0 : (X.toList == c.toList) = false := by rw [← HWX.out]; exact toList_no hwc
                  have HNO2 := hidp (show noneTo a b c d e5 n (q + 1) from fun j h1 h2 h3 => by
                    by_cases hjq : j = q
                    · subst hjq; exact absurd h3 hwc
                    · exact HNO.out j h1 (by omega) h3)
                  refine wp_region_noPanic ?_
                  refine wp_region_scr (S := fun W => StrsAt W (.slice (some ⟨bb, off, none⟩) 6 cap) [a, b, c, d, e5, f] ∧ Arr W be 74 [.string a, .string b, .int .u8 (q : Int), .string d, .string e5, .int .i64 (n : Int)]) (.take 0 (.take 2 (.take 3 (.take 4 (.one 1 (.take 5 (.take 6 (.take 7 (.take 8 (.take 9 (.take 10 .done))))))))))) (by kernel_rfl) (by kernel_rfl) (fun _ _ _ _ _ h => h) (by simp [Scr.depth]) (by kernel_rfl) (by rw [hV]; exact ⟨HSV.out, HNV.out⟩) ?_
                  simp only [hV]
                  clear hV
                  apply s_val
                  case ho => rfl
                  case hw => rfl
                  case hv => intro w hw; obtain ⟨x0, x1, x2, x3, x4, x5⟩ := strs6 hw.1; obtain ⟨y0, y1, y2, y3, y4, y5⟩ := arr6 hw.2; go_simp; first | done | with_reducible rfl | rfl
                  simp only [Act.put, List.getElem_toArray, List.getElem_cons_zero, List.getElem_cons_succ, List.setIfInBounds_toArray, List.set_cons_zero, List.set_cons_succ]
                  apply s_val
                  case ho => rfl
                  case hw => rfl
                  case hv => intro w hw; obtain ⟨x0, x1, x2, x3, x4, x5⟩ := strs6 hw.1; obtain ⟨y0, y1, y2, y3, y4, y5⟩ := arr6 hw.2; go_simp; first | done | with_reducible rfl | rfl
                  simp only [Act.put, List.getElem_toArray, List.getElem_cons_zero, List.getElem_cons_succ, List.setIfInBounds_toArray, List.set_cons_zero, List.set_cons_succ]
                  apply s_val
                  case ho => rfl
                  case hw => rfl
                  case hv => intro w hw; obtain ⟨x0, x1, x2, x3, x4, x5⟩ := strs6 hw.1; obtain ⟨y0, y1, y2, y3, y4, y5⟩ := arr6 hw.2; go_simp; first | done | with_reducible rfl | rfl
                  simp only [Act.put, List.getElem_toArray, List.getElem_cons_zero, List.getElem_cons_succ, List.setIfInBounds_toArray, List.set_cons_zero, List.set_cons_succ]
                  apply s_val
                  case ho => rfl
                  case hw => rfl
                  case hv => intro w hw; obtain ⟨x0, x1, x2, x3, x4, x5⟩ := strs6 hw.1; obtain ⟨y0, y1, y2, y3, y4, y5⟩ := arr6 hw.2; go_simp; first | done | with_reducible rfl | rfl
                  simp only [Act.put, List.getElem_toArray, List.getElem_cons_zero, List.getElem_cons_succ, List.setIfInBounds_toArray, List.set_cons_zero, List.set_cons_succ]
                  apply o_call (v := .string X) (f := 62) (args := #[.int .u8 (q : Int)]) (hc := cw.out _)
                  case ho => rfl
                  case hw => rfl
                  case hop => go_simp; done
                  intro w6 hb6
                  have HB6 := hidp (HBV.out.trans (hb6.mono HBV.out.size)); have HA6 := hidp (HAV.out.below hb6 HAV.out.lt); have HN6 := hidp (HNV.out.below hb6 HNV.out.lt); have HS6 := hidp (HSV.out.below hb6 (Nat.le_refl _))
                  clear hb6
                  refine ⟨⟨HS6.out, HN6.out⟩, ?_⟩
                  simp only [Act.put, List.getElem_toArray, List.getElem_cons_zero, List.getElem_cons_succ, List.setIfInBounds_toArray, List.set_cons_zero, List.set_cons_succ]
                  apply s_val
                  case ho => rfl
                  case hw => rfl
                  case hv => intro w hw; obtain ⟨x0, x1, x2, x3, x4, x5⟩ := strs6 hw.1; obtain ⟨y0, y1, y2, y3, y4, y5⟩ := arr6 hw.2; go_simp; first | done | with_reducible rfl | rfl
                  simp only [Act.put, List.getElem_toArray, List.getElem_cons_zero, List.getElem_cons_succ, List.setIfInBounds_toArray, List.set_cons_zero, List.set_cons_succ]
                  apply s_val
                  case ho => rfl
                  case hw => rfl
                  case hv => intro w hw; obtain ⟨x0, x1, x2, x3, x4, x5⟩ := strs6 hw.1; obtain ⟨y0, y1, y2, y3, y4, y5⟩ := arr6 hw.2; go_simp; first | done | with_reducible rfl | rfl
                  simp only [Act.put, List.getElem_toArray, List.getElem_cons_zero, List.getElem_cons_succ, List.setIfInBounds_toArray, List.set_cons_zero, List.set_cons_succ]
                  refine ⟨_, undef, rfl, .inr ⟨rfl, rfl⟩, ?_⟩
                  simp only [Act.put, List.getElem_toArray, List.getElem_cons_zero, List.getElem_cons_succ, List.setIfInBounds_toArray, List.set_cons_zero, List.set_cons_succ]
                  refine ⟨_, undef, rfl, .inr ⟨rfl, rfl⟩, ?_⟩
                  simp only [Act.put, List.getElem_toArray, List.getElem_cons_zero, List.getElem_cons_succ, List.setIfInBounds_toArray, List.set_cons_zero, List.set_cons_succ]
                  refine ⟨_, undef, rfl, .inr ⟨rfl, rfl⟩, ?_⟩
                  simp only [Act.put, List.getElem_toArray, List.getElem_cons_zero, List.getElem_cons_succ, List.setIfInBounds_toArray, List.set_cons_zero, List.set_cons_succ]
                  apply s_val
                  case ho => rfl
                  case hw => rfl
                  case hv => intro w hw; obtain ⟨x0, x1, x2, x3, x4, x5⟩ := strs6 hw.1; obtain ⟨y0, y1, y2, y3, y4, y5⟩ := arr6 hw.2; go_simp; first | done | with_reducible rfl | rfl
                  simp only [Act.put, List.getElem_toArray, List.getElem_cons_zero, List.getElem_cons_succ, List.setIfInBounds_toArray, List.set_cons_zero, List.set_cons_succ]
                  refine NoPanic.normal ?_
                  clear cw cc
                  go_wp2_with fail
                  exact ⟨⟨q + 1, by go_num, by omega, by omega, HNO2.out, HB6.out, HS6.out, HA6.out⟩, by simp [intOf]; omega⟩
              · have e3 : decide ((q : Int) < 9) = false := by simp; omega
                have n3 : ¬ (q : Int) < 9 := by omega
                have hq : q = 9 := by omega
                have hR2 := HR.out
                rw [evOf6_none HN.out (by rw [← hq]; exact HNO.out)] at hR2
                subst hR2
                have HAZ := HAW; have HBZ := HBW
                obtain ⟨r0, r1, r2, r3, r4, r5, g0, g1, g2, g3, g4, g5⟩ := arr6f HAZ.out
                go_wp2_with fail
                refine bodyPost_ret (v := .tuple #[.agg #[.string ⟨#[]⟩, .string ⟨#[]⟩, .int .u8 0, .string ⟨#[]⟩, .string ⟨#[]⟩, .int .i64 0], .int .i64 6]) (by simp [results, Tryz.results49, go_sem, r0, r1, r2, r3, r4, r5]) rfl ⟨rfl, ?_⟩
                repeat (refine Below.setCell ?_ (by simp) _)
                exact HBZ.out
          · have e2 : ((j : Int) != (f.size : Int)) = true := by simp; omega
            have n2 : ¬ j = f.size := hj
            have hn : numOf f = none := by unfold numOf; rw [hr]; simp only; rw [if_neg (fun h => hj h.2)]
            have hF : R = none := by rw [← hR]; unfold evOf; simp only [hn]
            subst hF
            subst hge
            clear hr hn hR hj
            go_enter Tryz.func49, Tryz.ntmps49
            go_wp2_with fail
            refine (c1.out _).mono ?_
            rintro e w1 ⟨v, rfl, hst, hb1⟩
            have HB1 := hidp (HX.out.trans (hb1.mono HX.out.size)); have HA1 := hidp (HA.out.below hb1 HA.out.lt); have HST := hidp hst
            clear hb1 hst
            obtain ⟨bb, off, cap, rfl⟩ := strs_form6 HST.out rfl
            obtain ⟨x0, x1, x2, x3, x4, x5⟩ := strs6 HST.out
            go_wp2_with fail
            clear x0 x1 x2 x3 x4 x5
            refine (cN.out _).mono ?_
            rintro e w2 ⟨rfl, hb2⟩
            have HB2 := hidp (HB1.out.trans (hb2.mono HB1.out.size)); have HA2 := hidp (HA1.out.below hb2 HA1.out.lt); have HS2 := hidp (HST.out.below hb2 (Nat.le_refl _))
            clear hb2
            obtain ⟨x0, x1, x2, x3, x4, x5⟩ := strs6 HS2.out
            have HAZ := HA2; have HBZ := HB2
            obtain ⟨r0, r1, r2, r3, r4, r5, g0, g1, g2, g3, g4, g5⟩ := arr6f HAZ.out
            go_wp2_with fail
            refine bodyPost_ret (v := .tuple #[.agg #[.string ⟨#[]⟩, .string ⟨#[]⟩, .int .u8 0, .string ⟨#[]⟩, .string ⟨#[]⟩, .int .i64 0], .int .i64 6]) (by simp [results, Tryz.results49, go_sem, r0, r1, r2, r3, r4, r5]) rfl ⟨rfl, ?_⟩
            repeat (refine Below.setCell ?_ (by simp) _)
            exact HBZ.out
        · have e1 : ((ge : Int) != 0) = true := by simp; omega
          have n1 : ¬ ge = 0 := hge
          have hn : numOf f = none := by unfold numOf; rw [hr]; simp only; rw [if_neg (fun h => hge h.1)]
          have hF : R = none := by rw [← hR]; unfold evOf; simp only [hn]
          subst hF
          clear hr hn hR hge
          go_enter Tryz.func49, Tryz.ntmps49
          go_wp2_with fail
          refine (c1.out _).mono ?_
          rintro e w1 ⟨v, rfl, hst, hb1⟩
          have HB1 := hidp (HX.out.trans (hb1.mono HX.out.size)); have HA1 := hidp (HA.out.below hb1 HA.out.lt); have HST := hidp hst
          clear hb1 hst
          obtain ⟨bb, off, cap, rfl⟩ := strs_form6 HST.out rfl
          obtain ⟨x0, x1, x2, x3, x4, x5⟩ := strs6 HST.out
          go_wp2_with fail
          clear x0 x1 x2 x3 x4 x5
          refine (cN.out _).mono ?_
          rintro e w2 ⟨rfl, hb2⟩
          have HB2 := hidp (HB1.out.trans (hb2.mono HB1.out.size)); have HA2 := hidp (HA1.out.below hb2 HA1.out.lt); have HS2 := hidp (HST.out.below hb2 (Nat.le_refl _))
          clear hb2
          obtain ⟨x0, x1, x2, x3, x4, x5⟩ := strs6 HS2.out
          have HAZ := HA2; have HBZ := HB2
          obtain ⟨r0, r1, r2, r3, r4, r5, g0, g1, g2, g3, g4, g5⟩ := arr6f HAZ.out
          go_wp2_with fail
          refine bodyPost_ret (v := .tuple #[.agg #[.string ⟨#[]⟩, .string ⟨#[]⟩, .int .u8 0, .string ⟨#[]⟩, .string ⟨#[]⟩, .int .i64 0], .int .i64 6]) (by simp [results, Tryz.results49, go_sem, r0, r1, r2, r3, r4, r5]) rfl ⟨rfl, ?_⟩
          repeat (refine Below.setCell ?_ (by simp) _)
          exact HBZ.out
    · rw [evOf_len hl6] at hR
      subst hR
      obtain ⟨ln, hln⟩ : ∃ q, L.length = q := ⟨_, rfl⟩
      rw [hln] at hl6
      have e1 : ((ln : Int) != 6) = true := by simp; omega
      have n1 : ¬ ln = 6 := hl6
      have HLN := hidp hln; clear hln
      go_enter Tryz.func49, Tryz.ntmps49
      go_wp2_with fail
      refine (c1.out _).mono ?_
      rintro e w1 ⟨v, rfl, hst, hb1⟩
      have HB1 := hidp (HX.out.trans (hb1.mono HX.out.size)); have HA1 := hidp (HA.out.below hb1 HA.out.lt); have HST := hidp hst
      clear hb1 hst
      obtain ⟨xa, xc, rfl⟩ := strs_len HST.out
      rw [HLN.out]
      have HAZ := HA1; have HBZ := HB1
      obtain ⟨r0, r1, r2, r3, r4, r5, g0, g1, g2, g3, g4, g5⟩ := arr6f HAZ.out
      go_wp2_with fail
      refine bodyPost_ret (v := .tuple #[.agg #[.string ⟨#[]⟩, .string ⟨#[]⟩, .int .u8 0, .string ⟨#[]⟩, .string ⟨#[]⟩, .int .i64 0], .int .i64 6]) (by simp [results, Tryz.results49, go_sem, r0, r1, r2, r3, r4, r5]) rfl ⟨rfl, ?_⟩
      repeat (refine Below.setCell ?_ (by simp) _)
      exact HBZ.out
  · have e0 : ((er : Int) != 0) = true := by simp; omega
    have n0 : ¬ er = 0 := he
    rw [if_neg he] at hR
    subst hR
    go_enter Tryz.func49, Tryz.ntmps49
    go_wp2_with fail
    refine (c1.out _).mono ?_
    rintro e w1 ⟨v, rfl, hst, hb1⟩
    have HB1 := hidp (HX.out.trans (hb1.mono HX.out.size)); have HA1 := hidp (HA.out.below hb1 HA.out.lt); have HST := hidp hst
    clear hb1 hst
    have HAZ := HA1; have HBZ := HB1
    obtain ⟨r0, r1, r2, r3, r4, r5, g0, g1, g2, g3, g4, g5⟩ := arr6f HAZ.out
    go_wp2_with fail
    refine bodyPost_ret (v := .tuple #[.agg #[.string ⟨#[]⟩, .string ⟨#[]⟩, .int .u8 0, .string ⟨#[]⟩, .string ⟨#[]⟩, .int .i64 0], .int .i64 6]) (by simp [results, Tryz.results49, go_sem, r0, r1, r2, r3, r4, r5]) rfl ⟨rfl, ?_⟩
    repeat (refine Below.setCell ?_ (by simp) _)
    exact HBZ.out
end Go.Proofs.YtfenjincbhkodaaGreatDoor
