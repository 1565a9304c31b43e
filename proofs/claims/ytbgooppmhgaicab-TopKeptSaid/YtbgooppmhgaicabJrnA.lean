
/-
  journal.Bytes of both sides; journal.first.
-/
import Derived.Test.YtbgooppmhgaicabJrnM
import Derived.Test.YtbgooppmhgaicabCrcB
namespace Go.Proofs.Ytbgooppmhgaicab
set_option linter.unusedVariables false
set_option linter.unusedSimpArgs false
set_option maxRecDepth 100000
open Go.RowKit

def jbS (t : ByteArray) : ByteArray := if t.size ≤ 8192 then mkS (recB t) else ByteArray.empty
theorem jbS_yes {t : ByteArray} (h : t.size ≤ 8192) : jbS t = mkS (recB t) := by unfold jbS; rw [if_pos h]
theorem jbS_no {t : ByteArray} (h : ¬ t.size ≤ 8192) : jbS t = ByteArray.empty := by unfold jbS; rw [if_neg h]

set_option maxHeartbeats 4000000 in
theorem jbytes_any (w : World) (t : ByteArray) (ht : t.size ≤ 140737488351232) :
    Calls Try.prog 30 #[.string t] w fun e w' => e = .returned (.tuple #[.string (jbS t), .int .i64 (textE t)]) ∧ Below w.heap.size w w' := by
  have c1 := hidp (fun W => text_any W t ht)
  by_cases h : t.size ≤ 8192
  · rw [textS_yes h, textE_yes h] at c1
    rw [jbS_yes h, textE_yes h]
    have hl := encT_len t h
    have c2 := hidp (fun W => cbytes_any W (mkS (encT t)) (by unfold maxLen; rw [mkS_size]; omega))
    rw [mkS_data] at c2
    have hj : mkS (encT t) ++ mkS (bytesL (sumL (encT t))) = mkS (recB t) := by rw [mkS_append]; rfl
    have hXs : (mkS (encT t)).size ≤ 8202 := by rw [mkS_size]; exact hl
    have hYs : (mkS (bytesL (sumL (encT t)))).size = 4 := by rw [mkS_size]; exact bytesL_len _
    obtain ⟨X, hX⟩ : ∃ X, mkS (encT t) = X := ⟨_, rfl⟩
    obtain ⟨Y, hY⟩ : ∃ Y, mkS (bytesL (sumL (encT t))) = Y := ⟨_, rfl⟩
    rw [hX] at c1 c2 hj hXs
    rw [hY] at c2 hj hYs
    obtain ⟨R, hR⟩ : ∃ R, mkS (recB t) = R := ⟨_, rfl⟩
    rw [hR] at hj ⊢
    clear hX hY hR hl
    go_enter Try.func30, Try.ntmps30
    go_wp2_with fail
    refine (c1.out _).mono ?_
    rintro e w1 ⟨rfl, hb1⟩
    have HB1 := hidp hb1; clear hb1
    go_wp2_with fail
    refine (c2.out _).mono ?_
    rintro e w2 ⟨rfl, hb2⟩
    have HB2 := hidp (HB1.out.trans (hb2.mono HB1.out.size)); clear hb2
    go_wp2_with fail
    go_ret2
    exact ⟨rfl, HB2.out⟩
  · rw [textS_no h, textE_no h] at c1
    rw [jbS_no h, textE_no h]
    go_enter Try.func30, Try.ntmps30
    go_wp2_with fail
    refine (c1.out _).mono ?_
    rintro e w1 ⟨rfl, hb1⟩
    have HB1 := hidp hb1; clear hb1
    go_wp2_with fail
    go_ret2
    exact ⟨rfl, HB1.out⟩

/-- What 'first' hands back. -/
def fsV (o : Option (ByteArray × Nat)) : Value := match o with
  | none => .tuple #[.string ⟨#[]⟩, .int .i64 0, .bool false]
  | some (t, k) => .tuple #[.string t, .int .i64 (k : Int), .bool true]

set_option maxHeartbeats 4000000 in
theorem first_any (w : World) (s : ByteArray) (hs : s.size ≤ 281474976710656) :
    Calls Try.prog 37 #[.string s] w fun e w' => e = .returned (fsV (fst1 s)) ∧ Below w.heap.size w w' := by
  have c1 := hidp (fun W => getText_any W s hs)
  have hbd := gt_bd s
  unfold fst1
  obtain ⟨⟨t, k, e⟩, hr⟩ : ∃ r, gt s = r := ⟨_, rfl⟩
  rw [hr] at c1 hbd ⊢
  simp only [tupT] at c1 hbd ⊢
  obtain ⟨b1, b2, b3⟩ := hbd
  clear hr
  by_cases he : e = 0
  · have heb := errB0 he
    rw [if_neg (by simpa using he)]
    have H0 := hidp he; clear he
    by_cases hk : s.size < k + 4
    · rw [if_pos hk]
      have hd : decide ((s.size : Int) < (k : Int) + 4) = true := by simp; omega
      go_enter Try.func37, Try.ntmps37
      go_wp2_with fail
      refine (c1.out _).mono ?_
      rintro e w1 ⟨rfl, hb1⟩
      have HB1 := hidp hb1; clear hb1
      go_wp2_with fail
      go_ret3
      exact ⟨rfl, HB1.out⟩
    · rw [if_neg hk]
      have hd : decide ((s.size : Int) < (k : Int) + 4) = false := by simp; omega
      have hx : ((k : Int) + 4).toNat = k + 4 := by omega
      have k1 : (0 : Int) ≤ (k : Int) + 4 := by omega
      have k2 : (k : Int) + 4 ≤ (s.size : Int) := by omega
      have c2 := hidp (fun W => good_any W (s.extract 0 (k + 4)) (by unfold maxLen; simp; omega))
      have e1 : (s.extract 0 (k + 4)).data.toList = s.data.toList.take (k + 4) := by rw [extract_toList]; simp
      rw [e1] at c2
      obtain ⟨G, hG⟩ : ∃ G, goodL (s.data.toList.take (k + 4)) = G := ⟨_, rfl⟩
      rw [hG] at c2 ⊢
      clear hG e1
      obtain ⟨X, hX⟩ : ∃ X, s.extract 0 (k + 4) = X := ⟨_, rfl⟩
      rw [hX] at c2
      cases G with
      | true =>
        rw [if_pos rfl]
        go_enter Try.func37, Try.ntmps37
        go_wp2_with fail
        refine (c1.out _).mono ?_
        rintro e w1 ⟨rfl, hb1⟩
        have HB1 := hidp hb1; clear hb1
        go_wp2_with (go_at_call 47; (refine (c2.out _).mono ?_); rintro e w2 ⟨rfl, hb2⟩; have HB2 := hidp (HB1.out.trans (hb2.mono HB1.out.size)); clear hb2)
        go_ret3
        exact ⟨rfl, HB2.out⟩
      | false =>
        rw [if_neg (by simp)]
        go_enter Try.func37, Try.ntmps37
        go_wp2_with fail
        refine (c1.out _).mono ?_
        rintro e w1 ⟨rfl, hb1⟩
        have HB1 := hidp hb1; clear hb1
        go_wp2_with (go_at_call 47; (refine (c2.out _).mono ?_); rintro e w2 ⟨rfl, hb2⟩; have HB2 := hidp (HB1.out.trans (hb2.mono HB1.out.size)); clear hb2)
        go_ret3
        exact ⟨rfl, HB2.out⟩
  · have heb := errB he
    rw [if_pos he]
    have H0 := hidp he; clear he
    go_enter Try.func37, Try.ntmps37
    go_wp2_with fail
    refine (c1.out _).mono ?_
    rintro e w1 ⟨rfl, hb1⟩
    have HB1 := hidp hb1; clear hb1
    go_wp2_with fail
    go_ret3
    exact ⟨rfl, HB1.out⟩
end Go.Proofs.Ytbgooppmhgaicab
