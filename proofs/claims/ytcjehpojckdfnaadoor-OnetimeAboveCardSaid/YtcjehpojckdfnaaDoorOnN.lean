/-
  Layer 4: no text's digits are all at most another's; the walk of OnetimeAbove.
-/
import Derived.Test.YtcjehpojckdfnaaDoorOnM
namespace Go.Proofs.YtcjehpojckdfnaaDoor
set_option maxRecDepth 100000
set_option linter.unusedVariables false
set_option linter.unusedSimpArgs false
open Go.RowKit

/-- What digits of base four say. -/
def val4 : List Nat → Nat
  | [] => 0
  | d :: r => d + 4 * val4 r
theorem val4_digs (n k : Nat) : val4 (digs n k) = n % 4 ^ k := by
  induction k generalizing n with
  | zero => simp [digs, val4, Nat.mod_one]
  | succ k ih => rw [digs, val4, ih, Nat.pow_succ, Nat.mul_comm (4 ^ k) 4, Nat.mod_mul]
theorem val4_le (a b : List Nat) (hl : a.length = b.length) (h : ∀ j, a.getD j 0 ≤ b.getD j 0) : val4 a ≤ val4 b := by
  induction a generalizing b with
  | nil => exact Nat.zero_le _
  | cons x r ih =>
    cases b with
    | nil => simp at hl
    | cons y s =>
      have h0 := h 0
      simp only [List.getD_cons_zero] at h0
      have := ih s (by simpa using hl) (fun j => by have := h (j + 1); simpa only [List.getD_cons_succ] using this)
      simp only [val4]; omega
theorem lackN_cons (x : Nat) (r : List Nat) : lackN (x :: r) = (3 - x) + lackN r := by unfold lackN; simp
theorem lack_mono (a b : List Nat) (hl : a.length = b.length) (h : ∀ j, a.getD j 0 ≤ b.getD j 0) : lackN b ≤ lackN a := by
  induction a generalizing b with
  | nil => cases b with
    | nil => exact Nat.le_refl _
    | cons y s => simp at hl
  | cons x r ih =>
    cases b with
    | nil => simp at hl
    | cons y s =>
      have h0 := h 0
      simp only [List.getD_cons_zero] at h0
      have := ih s (by simpa using hl) (fun j => by have := h (j + 1); simpa only [List.getD_cons_succ] using this)
      rw [lackN_cons, lackN_cons]; omega
theorem lack_eq (a b : List Nat) (hl : a.length = b.length) (h : ∀ j, a.getD j 0 ≤ b.getD j 0) (hb : ∀ d ∈ b, d < 4) (he : lackN a ≤ lackN b) : a = b := by
  induction a generalizing b with
  | nil => cases b with
    | nil => rfl
    | cons y s => simp at hl
  | cons x r ih =>
    cases b with
    | nil => simp at hl
    | cons y s =>
      have h0 := h 0
      simp only [List.getD_cons_zero] at h0
      have h1 : ∀ j, r.getD j 0 ≤ s.getD j 0 := fun j => by have := h (j + 1); simpa only [List.getD_cons_succ] using this
      have hl1 : r.length = s.length := by simpa using hl
      have h2 := lack_mono r s hl1 h1
      have hy := hb y (by simp)
      rw [lackN_cons, lackN_cons] at he
      have e1 : x = y := by omega
      have e2 := ih s hl1 h1 (fun d hd => hb d (by simp [hd])) (by omega)
      rw [e1, e2]
theorem getD_left (a c : List Nat) (j : Nat) (h : j < a.length) : (a ++ c).getD j 0 = a.getD j 0 := by
  simp only [List.getD_eq_getElem?_getD, List.getElem?_append_left h]
theorem getD_right (a c : List Nat) (j : Nat) : (a ++ c).getD (a.length + j) 0 = c.getD j 0 := by
  simp only [List.getD_eq_getElem?_getD]; rw [List.getElem?_append_right (by omega)]; congr 2; omega
theorem getD_out (a : List Nat) (j : Nat) (h : a.length ≤ j) : a.getD j 0 = 0 := by
  simp only [List.getD_eq_getElem?_getD, List.getElem?_eq_none h]; rfl
theorem digs_inj (n m k : Nat) (hn : n < 4 ^ k) (hm : m < 4 ^ k) (h : digs n k = digs m k) : n = m := by
  have := congrArg val4 h
  rwa [val4_digs, val4_digs, Nat.mod_eq_of_lt hn, Nat.mod_eq_of_lt hm] at this
theorem byteDigs_inj (a b : List UInt8) (h : byteDigs a = byteDigs b) : a = b := by
  induction a generalizing b with
  | nil => cases b with
    | nil => rfl
    | cons y s => have := congrArg List.length h; rw [byteDigs_len, byteDigs_len] at this; simp at this
  | cons x r ih =>
    cases b with
    | nil => have := congrArg List.length h; rw [byteDigs_len, byteDigs_len] at this; simp at this
    | cons y s =>
      have h1 : digs x.toNat 4 ++ byteDigs r = digs y.toNat 4 ++ byteDigs s := by simpa [byteDigs] using h
      obtain ⟨h2, h3⟩ := List.append_inj h1 (by rw [digs_len, digs_len])
      have e1 := digs_inj _ _ 4 (by have := x.toNat_lt; omega) (by have := y.toNat_lt; omega) h2
      rw [ih s h3, UInt8.toNat_inj.1 e1]
/-- No text's digits are all at most another's, unless they are the same. -/
theorem below_same (s t : List UInt8) (h : ∀ j, j < 68 → (digL s).getD j 0 ≤ (digL t).getD j 0) : midL s = midL t := by
  obtain ⟨A, hA⟩ : ∃ A, byteDigs (midL s) = A := ⟨_, rfl⟩
  obtain ⟨B, hB⟩ : ∃ B, byteDigs (midL t) = B := ⟨_, rfl⟩
  have hAl : A.length = 64 := by rw [← hA, byteDigs_len, midL_len]
  have hBl : B.length = 64 := by rw [← hB, byteDigs_len, midL_len]
  have hB4 : ∀ d ∈ B, d < 4 := by rw [← hB]; exact byteDigs_lt _
  unfold digL at h
  rw [hA, hB] at h
  have h1 : ∀ j, A.getD j 0 ≤ B.getD j 0 := fun j => by
    by_cases hj : j < 64
    · have := h j (by omega)
      rwa [getD_left _ _ _ (by omega), getD_left _ _ _ (by omega)] at this
    · rw [getD_out A j (by omega)]; exact Nat.zero_le _
  have h2 : ∀ j, (digs (lackN A) 4).getD j 0 ≤ (digs (lackN B) 4).getD j 0 := fun j => by
    by_cases hj : j < 4
    · have := h (64 + j) (by omega)
      have e1 := getD_right A (digs (lackN A) 4) j
      have e2 := getD_right B (digs (lackN B) 4) j
      rw [hAl] at e1; rw [hBl] at e2
      rwa [e1, e2] at this
    · rw [getD_out _ j (by rw [digs_len]; omega)]; exact Nat.zero_le _
  have h3 := val4_le _ _ (by rw [digs_len, digs_len]) h2
  have l1 := lackN_le A
  have l2 := lackN_le B
  rw [val4_digs, val4_digs, Nat.mod_eq_of_lt (by omega), Nat.mod_eq_of_lt (by omega)] at h3
  have := lack_eq A B (by omega) h1 hB4 h3
  exact byteDigs_inj _ _ (by rw [hA, hB, this])
theorem same_digs {s t : List UInt8} (h : midL s = midL t) : digL s = digL t := by unfold digL; rw [h]
/-- Some digit of the first k is greater. -/
def gtK (x y : List Nat) (k : Nat) : Bool := (List.range k).any fun j => decide (y.getD j 0 < x.getD j 0)
theorem gtK_zero (x y : List Nat) : gtK x y 0 = false := rfl
theorem gtK_succ (x y : List Nat) (k : Nat) : gtK x y (k + 1) = (gtK x y k || decide (y.getD k 0 < x.getD k 0)) := by
  unfold gtK; rw [List.range_succ, List.any_append]; simp
theorem gtK_false {x y : List Nat} {k : Nat} (h : gtK x y k = false) (j : Nat) (hj : j < k) : x.getD j 0 ≤ y.getD j 0 := by
  unfold gtK at h
  rw [List.any_eq_false] at h
  have := h j (List.mem_range.2 hj)
  simp at this
  exact this
theorem gtK_self (x : List Nat) (k : Nat) : gtK x x k = false := by
  unfold gtK; rw [List.any_eq_false]; intro j _; simp
/-- The law's answer. -/
theorem above_law (s t : List UInt8) : gtK (digL s) (digL t) 68 = gtK (digL t) (digL s) 68 ∧ (gtK (digL s) (digL t) 68 = false → midL s = midL t) := by
  have f1 : gtK (digL s) (digL t) 68 = false → midL s = midL t := fun h => below_same s t fun j hj => gtK_false h j hj
  have f2 : gtK (digL t) (digL s) 68 = false → midL t = midL s := fun h => below_same t s fun j hj => gtK_false h j hj
  refine ⟨?_, f1⟩
  cases h1 : gtK (digL s) (digL t) 68
  · rw [same_digs (f1 h1), gtK_self]
  · cases h2 : gtK (digL t) (digL s) 68
    · rw [same_digs (f2 h2), gtK_self] at h1; cases h1
    · rfl
set_option maxHeartbeats 16000000 in
theorem walk_onetimeAbove (w : World) (s : ByteArray) (hs : s.size ≤ 140737488351232) (t : ByteArray) (ht : t.size ≤ 140737488351232) (hK : KT w) :
    Calls Tryd.prog 14 #[.string s, .string t] w fun e w' => e = .returned (.bool true) ∧ Below w.heap.size w w' := by
  have L := hidp (fun W (h : KT W) => lives4_any W h)
  have HK := hidp hK
  have hkp := hK.pos
  clear hK
  by_cases h16 : 16384 < s.size
  · go_enter Tryd.func14, Tryd.ntmps14
    go_wp2_with fail
    refine (L.out _ HK.out).mono ?_
    rintro e w1 ⟨rfl, hb1⟩
    go_wp2_with fail
    go_ret
    exact ⟨rfl, hb1⟩
  · by_cases h17 : 16384 < t.size
    · go_enter Tryd.func14, Tryd.ntmps14
      go_wp2_with fail
      refine (L.out _ HK.out).mono ?_
      rintro e w1 ⟨rfl, hb1⟩
      go_wp2_with fail
      go_ret
      exact ⟨rfl, hb1⟩
    · have hlaw := above_law s.data.toList t.data.toList
      have c1 := hidp (fun W (h : KT W) => digits_any W s (by omega) h)
      have c2 := hidp (fun W (h : KT W) => digits_any W t (by omega) h)
      obtain ⟨D, hD⟩ : ∃ D, digL s.data.toList = D := ⟨_, rfl⟩
      obtain ⟨E, hE⟩ : ∃ E, digL t.data.toList = E := ⟨_, rfl⟩
      have HDL := hidp (show D.length = 68 from by rw [← hD]; exact digL_len _)
      have HEL := hidp (show E.length = 68 from by rw [← hE]; exact digL_len _)
      have HD4 := hidp (show ∀ j, D.getD j 0 < 4 from by rw [← hD]; exact digL_getD_lt _)
      rw [hD] at c1 hlaw; rw [hE] at c2 hlaw
      obtain ⟨M1, hM1⟩ : ∃ M, mkS (midL s.data.toList) = M := ⟨_, rfl⟩
      obtain ⟨M2, hM2⟩ : ∃ M, mkS (midL t.data.toList) = M := ⟨_, rfl⟩
      have c3 := hidp (show ∀ W, KT W → Calls Tryd.prog 20 #[.string s] W fun e w' => e = .returned (.string M1) ∧ Below W.heap.size W w' from fun W h => by rw [← hM1]; unfold midL; exact mid_any W s (by omega) h)
      have c4 := hidp (show ∀ W, KT W → Calls Tryd.prog 20 #[.string t] W fun e w' => e = .returned (.string M2) ∧ Below W.heap.size W w' from fun W h => by rw [← hM2]; unfold midL; exact mid_any W t (by omega) h)
      have HLAW := hidp (show gtK D E 68 = gtK E D 68 ∧ (gtK D E 68 = false → M1 = M2) from ⟨hlaw.1, fun h => by rw [← hM1, ← hM2, hlaw.2 h]⟩)
      clear hD hE hM1 hM2 hlaw
      go_enter Tryd.func14, Tryd.ntmps14
      go_wp2_with fail
      refine (L.out _ HK.out).mono ?_
      rintro e w1 ⟨rfl, hb1⟩
      have HB1 := hidp hb1; clear hb1
      go_wp2_with fail
      refine (c1.out _ (HK.out.below HB1.out hkp)).mono ?_
      rintro e w2 ⟨v1, rfl, hv1, hb2⟩
      have HB2 := hidp (HB1.out.trans (hb2.mono HB1.out.size)); have HV1 := hidp hv1.vals
      clear hb2 hv1
      go_wp2_with fail
      refine (c2.out _ (HK.out.below HB2.out hkp)).mono ?_
      rintro e w3 ⟨v2, rfl, hv2, hb3⟩
      have HB3 := hidp (HB2.out.trans (hb3.mono HB2.out.size)); have HV3 := hidp (HV1.out.below hb3 (Nat.le_refl _)); have HV2 := hidp hv2.vals
      have hs3 := HB3.out.size
      clear hb3 hv2
      obtain ⟨a1, c1', h1, -⟩ := HV3.out
      obtain ⟨a2, c2', h2, -⟩ := HV2.out
      rw [iv_length, HDL.out] at h1
      rw [iv_length, HEL.out] at h2
      subst h1; subst h2
      go_wp2_with fail
      go_loopw [7, 8, 34] (fun t7 t8 t34 wr => ∃ k : Nat, t34 = .int .i64 (k : Int) ∧ k ≤ 68 ∧ t7 = .bool (gtK D E k) ∧ t8 = .bool (gtK E D k) ∧ Below w3.heap.size w3 wr) (fun _ _ t34 _ => 68 - (intOf t34).toNat)
      case atStart => exact ⟨0, rfl, by omega, rfl, rfl, Below.refl _ _⟩
      case round =>
        obtain ⟨k, rfl, hk, rfl, rfl, hbw⟩ := hrel
        have HBW := hidp hbw
        have hbs := hbw.size
        by_cases hlt : k < 68
        · obtain ⟨a', cap', hve, hcells⟩ := (HV3.out.below hbw (Nat.le_refl _))
          obtain ⟨bk, off, hab, hcell⟩ := hcells k (by rw [iv_length, HDL.out]; exact hlt)
          have haa : a1 = some ⟨bk, off, none⟩ := by
            rw [iv_length, HDL.out] at hve
            injection hve with h1 h2 h3; rw [h1, hab]
          obtain ⟨b', cap'', hve', hcells'⟩ := (HV2.out.below hbw (Nat.le_refl _))
          obtain ⟨bk', off', hab', hcell'⟩ := hcells' k (by rw [iv_length, HEL.out]; exact hlt)
          have hbb : a2 = some ⟨bk', off', none⟩ := by
            rw [iv_length, HEL.out] at hve'
            injection hve' with h1 h2 h3; rw [h1, hab']
          subst haa; subst hbb
          have g1 : wr.cell? ⟨bk, off + k, none⟩ = some (.int .i64 ((D.getD k 0 : Nat) : Int)) := by
            rw [hcell]; simp [iv, List.getD_eq_getElem?_getD, HDL.out, hlt]
          have g2 : wr.cell? ⟨bk', off' + k, none⟩ = some (.int .i64 ((E.getD k 0 : Nat) : Int)) := by
            rw [hcell']; simp [iv, List.getD_eq_getElem?_getD, HEL.out, hlt]
          have hd4 := HD4.out k
          have hm := gtK_succ D E k
          have hl := gtK_succ E D k
          obtain ⟨d, hd⟩ : ∃ d, D.getD k 0 = d := ⟨_, rfl⟩
          obtain ⟨e, he⟩ : ∃ e, E.getD k 0 = e := ⟨_, rfl⟩
          rw [hd] at g1 hd4 hm hl; rw [he] at g2 hm hl
          clear hcells hcells' hve hve' hab hab' hcell hcell' hd he hbw
          have hi0 : (0 : Int) ≤ (k : Int) := by omega
          have hi1 : (k : Int) < (68 : Int) := by omega
          have t1 : decide ((d : Int) < 0) = false := decide_eq_false (by omega)
          have t2 : decide ((3 : Int) < (d : Int)) = false := decide_eq_false (by omega)
          have q1 : wr.drew.cell? ⟨bk, off + k, none⟩ = some (.int .i64 (d : Int)) := g1
          have q2 : wr.drew.cell? ⟨bk', off' + k, none⟩ = some (.int .i64 (e : Int)) := g2
          have q3 : wr.drew.drew.cell? ⟨bk, off + k, none⟩ = some (.int .i64 (d : Int)) := g1
          have q4 : wr.drew.drew.cell? ⟨bk', off' + k, none⟩ = some (.int .i64 (e : Int)) := g2
          obtain ⟨m, hme⟩ : ∃ m, gtK D E k = m := ⟨_, rfl⟩
          obtain ⟨l, hle⟩ : ∃ l, gtK E D k = l := ⟨_, rfl⟩
          rw [hme] at hm ⊢; rw [hle] at hl ⊢
          obtain ⟨x, hx⟩ : ∃ x, decide (e < d) = x := ⟨_, rfl⟩
          obtain ⟨y, hy⟩ : ∃ y, decide (d < e) = y := ⟨_, rfl⟩
          have t3 : decide ((e : Int) < (d : Int)) = x := by rw [← hx]; simp
          have t4 : decide ((d : Int) < (e : Int)) = y := by rw [← hy]; simp
          rw [hx] at hm; rw [hy] at hl
          have HM := hidp hm; have HL := hidp hl
          clear hm hl hme hle
          cases m <;> cases l
          all_goals go_wp2_with fail
          all_goals go_region
          all_goals go_wp2_with fail
          all_goals go_region
          all_goals go_wp2_with fail
          all_goals exact ⟨⟨k + 1, by go_num, by omega, by rw [HM.out]; first | rfl | simp [hx], by rw [HL.out]; first | rfl | simp [hy], HBW.out.drew.drew⟩, by simp [intOf]; omega⟩
        · obtain rfl : k = 68 := by omega
          have HBE := hidp (HB3.out.trans (HBW.out.mono hs3))
          obtain ⟨m, hme⟩ : ∃ m, gtK D E 68 = m := ⟨_, rfl⟩
          have hle : gtK E D 68 = m := by rw [← HLAW.out.1, hme]
          have hmm : m = false → M1 = M2 := fun h => HLAW.out.2 (by rw [hme, h])
          rw [hme, hle]
          clear hme hle
          cases m
          · obtain rfl := hmm rfl
            have hb := toList_yes (rfl : M1 = M1)
            clear hmm
            go_wp2_with fail
            refine (c3.out _ (HK.out.below HBE.out hkp)).mono ?_
            rintro e w4 ⟨rfl, hb4⟩
            have HB4 := hidp (HBE.out.trans (hb4.mono HBE.out.size)); clear hb4
            go_wp2_with fail
            refine (c4.out _ (HK.out.below HB4.out hkp)).mono ?_
            rintro e w5 ⟨rfl, hb5⟩
            have HB5 := hidp (HB4.out.trans (hb5.mono HB4.out.size)); clear hb5
            go_wp2_with fail
            go_ret
            exact ⟨rfl, HB5.out⟩
          · clear hmm
            go_wp2_with fail
            go_ret
            exact ⟨rfl, HBE.out⟩
end Go.Proofs.YtcjehpojckdfnaaDoor
