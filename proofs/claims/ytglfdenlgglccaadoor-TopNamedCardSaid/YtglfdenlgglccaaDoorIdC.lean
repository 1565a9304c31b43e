
/-
  ident: texts, and what they are read as.
-/
import Derived.Test.YtglfdenlgglccaaDoorIdB
namespace Go.Proofs.YtglfdenlgglccaaDoor
set_option maxRecDepth 100000
set_option linter.unusedVariables false
set_option linter.unusedSimpArgs false
open Go.RowKit

theorem idT_app {k : Nat} {nm : ByteArray} {n : Nat} (h : idOk k nm n = true) (M : ByteArray) (hM : M = mkS [kmark k]) :
    M ++ nm ++ ⟨#[58]⟩ ++ mkS (dig n) = idT k nm n := by
  unfold idT
  rw [if_pos h, hM, show (⟨#[58]⟩ : ByteArray) = mkS [58] from rfl, ← mkS_of nm, mkS_append, mkS_append, mkS_append]
  congr 1
  unfold idL
  simp [mkS_data]
theorem dig_size (n : Nat) : (mkS (dig n)).size ≤ 2 := by rw [mkS_size]; unfold dig; split <;> simp

set_option maxHeartbeats 4000000 in
theorem idText_any (w : World) (k : Nat) (hk : k < 256) (nm : ByteArray) (hs : nm.size ≤ 281474976710656) (s : Int) (hI : IT w) :
    Calls Tryd.prog 19 #[.agg #[.int .u8 (k : Int), .string nm, .int .i64 s]] w fun e w' => e = .returned (.tuple #[.string (idT k nm s), .int .i64 (idE k nm s)]) ∧ Below w.heap.size w w' := by
  have C := hidp (fun W => valid_any W k hk nm hs s)
  have HX := hidp ((Below.refl w.heap.size w).alloc (Nat.le_refl _) (.cells #[.int .u8 (k : Int), .string nm, .int .i64 s] 38))
  have HA := hidp (Arr.new w 38 [.int .u8 (k : Int), .string nm, .int .i64 s])
  have HI := hidp hI; clear hI
  cases hok : idOk k nm s with
  | false =>
    rw [hok] at C
    have hT : idT k nm s = ByteArray.empty := by unfold idT; rw [hok]; rfl
    have hE : idE k nm s = 2 := by unfold idE; rw [hok]; rfl
    rw [hT, hE]
    clear hT hE hok
    go_enter Tryd.func19, Tryd.ntmps19
    go_wp2_with (go_at_call 39; (refine (C.out _).mono ?_); rintro e w1 ⟨rfl, hb1⟩; have HB1 := hidp (HX.out.trans (hb1.mono HX.out.size)); clear hb1)
    go_ret2
    exact ⟨rfl, HB1.out⟩
  | true =>
    rw [hok] at C
    obtain ⟨g1, g2, g3, g4⟩ := idOk_name hok
    have hsz := idOk_size hok
    obtain ⟨n, rfl⟩ : ∃ n : Nat, s = n := ⟨s.toNat, by omega⟩
    obtain ⟨M, hM⟩ : ∃ M, mkS [kmark k] = M := ⟨_, rfl⟩
    have hMs : M.size = 1 := by rw [← hM, mkS_size]; rfl
    have hcs : (⟨#[58]⟩ : ByteArray).size = 1 := rfl
    obtain ⟨D, hD⟩ : ∃ D, mkS (dig n) = D := ⟨_, rfl⟩
    have hDs : D.size ≤ 2 := by rw [← hD]; exact dig_size n
    have hT : M ++ nm ++ ⟨#[58]⟩ ++ D = idT k nm n := by rw [← hD]; exact idT_app hok M hM.symm
    have hE : idE k nm n = 0 := by unfold idE; rw [hok]; rfl
    have CI := hidp (show ∀ W, Calls Tryd.prog 40 #[.int .i64 (n : Int)] W fun e w' => e = .returned (.string D) ∧ w' = W from fun W => by
      have := Tryd.strconv_Itoa_small n (by omega) W
      rw [dec_dig (by omega)] at this
      rw [← hD]; exact this)
    have hkM : Hid (∀ W, IT W → W.cell? ⟨1, k, none⟩ = some (.string M)) := fun W h => by
      rcases g4 with rfl | rfl
      · rw [← hM]; exact h.1.1
      · rw [← hM]; exact h.1.2
    have k0 : (0 : Int) ≤ (k : Int) := by omega
    have k3 : (k : Int) < 3 := by omega
    rw [← hT, hE]
    have HT := hidp hT
    clear hT hE hok hM hD g1 g4
    go_enter Tryd.func19, Tryd.ntmps19
    go_wp2_with (go_at_call 39; (refine (C.out _).mono ?_); rintro e w1 ⟨rfl, hb1⟩; have HB1 := hidp (HX.out.trans (hb1.mono HX.out.size)); have HA1 := hidp (HA.out.below hb1 HA.out.lt); clear hb1; have m1 := hkM.out _ (HI.out.below HB1.out (Nat.le_refl _)); obtain ⟨a0, a1, a2, -⟩ := arr3 HA1.out)
    go_quiet ((go_at_call 40; exact Calls.quiet_of_same (CI.out _)))
    go_wp2
    go_ret2
    exact ⟨rfl, below_drewN HB1.out _⟩

theorem pre_yes {t : ByteArray} {c : UInt8} {r : List UInt8} (h : t.data.toList = c :: r) : Lib.hasPrefix t.data.toList (⟨#[c]⟩ : ByteArray).data.toList = true ∧ (⟨(Lib.trimPrefix t.data.toList (⟨#[c]⟩ : ByteArray).data.toList).toArray⟩ : ByteArray) = mkS r := by
  have h1 : Lib.hasPrefix t.data.toList (⟨#[c]⟩ : ByteArray).data.toList = true := by rw [h]; simp [Lib.hasPrefix, List.isPrefixOf]
  refine ⟨h1, ?_⟩
  unfold Lib.trimPrefix
  rw [h1, if_pos rfl, h]; rfl
theorem pre_no {t : ByteArray} {c : UInt8} (h : ∀ r, t.data.toList ≠ c :: r) : Lib.hasPrefix t.data.toList (⟨#[c]⟩ : ByteArray).data.toList = false := by
  cases ht : t.data.toList with
  | nil => rfl
  | cons a r =>
    have : a ≠ c := by rintro rfl; exact h r ht
    show List.isPrefixOf [c] (a :: r) = false
    simp [List.isPrefixOf, Ne.symm this]

set_option maxHeartbeats 4000000 in
theorem cutMark_1 (w : World) (t : ByteArray) (r : List UInt8) (ht : t.data.toList = 64 :: r) (hI : IT w) :
    Calls Tryd.prog 35 #[.string t] w fun e w' => e = .returned (.tuple #[.int .u8 1, .string (mkS r)]) ∧ w' = w := by
  obtain ⟨p1, p2⟩ := pre_yes ht
  obtain ⟨R, hR⟩ : ∃ R, mkS r = R := ⟨_, rfl⟩
  have C := hidp (show ∀ W, Calls Tryd.prog 49 #[.string t, .string ⟨#[64]⟩] W fun e w' => e = .returned (.tuple #[.string R, .bool true]) ∧ w' = W from fun W => by
    have := Tryd.strings_CutPrefix t ⟨#[64]⟩ W
    rw [p1, p2, hR] at this; exact this)
  rw [hR]
  clear p1 p2 hR ht
  have m1 := hI.1.1
  clear hI
  go_enter Tryd.func35, Tryd.ntmps35
  go_wp2
  go_loop [4] (fun t4 => t4 = .int .u8 1) (fun _ => 0)
  case atStart => rfl
  case round =>
    subst hrel
    go_wp2_with (go_at_call 49; (refine (C.out _).mono ?_); rintro e w' ⟨rfl, rfl⟩)
    go_ret2
    exact ⟨rfl, rfl⟩
set_option maxHeartbeats 4000000 in
theorem cutMark_2 (w : World) (t : ByteArray) (r : List UInt8) (ht : t.data.toList = 33 :: r) (hI : IT w) :
    Calls Tryd.prog 35 #[.string t] w fun e w' => e = .returned (.tuple #[.int .u8 2, .string (mkS r)]) ∧ w' = w := by
  obtain ⟨p1, p2⟩ := pre_yes ht
  have p0 := pre_no (t := t) (c := 64) (fun r' h => by rw [ht] at h; simp at h)
  obtain ⟨R, hR⟩ : ∃ R, mkS r = R := ⟨_, rfl⟩
  have C := hidp (show ∀ W, Calls Tryd.prog 49 #[.string t, .string ⟨#[33]⟩] W fun e w' => e = .returned (.tuple #[.string R, .bool true]) ∧ w' = W from fun W => by
    have := Tryd.strings_CutPrefix t ⟨#[33]⟩ W
    rw [p1, p2, hR] at this; exact this)
  obtain ⟨X, hX⟩ : ∃ X, (⟨(Lib.trimPrefix t.data.toList (⟨#[64]⟩ : ByteArray).data.toList).toArray⟩ : ByteArray) = X := ⟨_, rfl⟩
  have C0 := hidp (show ∀ W, Calls Tryd.prog 49 #[.string t, .string ⟨#[64]⟩] W fun e w' => e = .returned (.tuple #[.string X, .bool false]) ∧ w' = W from fun W => by
    have := Tryd.strings_CutPrefix t ⟨#[64]⟩ W
    rw [p0, hX] at this; exact this)
  rw [hR]
  clear p0 p1 p2 hR ht hX
  have m1 := hI.1.1; have m2 := hI.1.2
  clear hI
  go_enter Tryd.func35, Tryd.ntmps35
  go_wp2
  go_loop [4] (fun t4 => t4 = .int .u8 1 ∨ t4 = .int .u8 2) (fun t4 => 2 - (intOf t4).toNat)
  case atStart => exact .inl rfl
  case round =>
    rcases hrel with rfl | rfl
    · go_wp2_with (go_at_call 49; (refine (C0.out _).mono ?_); rintro e w' ⟨rfl, rfl⟩)
      exact ⟨.inr rfl, by simp [intOf]⟩
    · go_wp2_with (go_at_call 49; (refine (C.out _).mono ?_); rintro e w' ⟨rfl, rfl⟩)
      go_ret2
      exact ⟨rfl, rfl⟩
set_option maxHeartbeats 4000000 in
theorem cutMark_0 (w : World) (t : ByteArray) (h64 : ∀ r, t.data.toList ≠ 64 :: r) (h33 : ∀ r, t.data.toList ≠ 33 :: r) (hI : IT w) :
    Calls Tryd.prog 35 #[.string t] w fun e w' => e = .returned (.tuple #[.int .u8 0, .string (mkS [])]) ∧ w' = w := by
  have p0 := pre_no h64
  have p1 := pre_no h33
  obtain ⟨X, hX⟩ : ∃ X, (⟨(Lib.trimPrefix t.data.toList (⟨#[64]⟩ : ByteArray).data.toList).toArray⟩ : ByteArray) = X := ⟨_, rfl⟩
  have C0 := hidp (show ∀ W, Calls Tryd.prog 49 #[.string t, .string ⟨#[64]⟩] W fun e w' => e = .returned (.tuple #[.string X, .bool false]) ∧ w' = W from fun W => by
    have := Tryd.strings_CutPrefix t ⟨#[64]⟩ W
    rw [p0, hX] at this; exact this)
  obtain ⟨Y, hY⟩ : ∃ X, (⟨(Lib.trimPrefix t.data.toList (⟨#[33]⟩ : ByteArray).data.toList).toArray⟩ : ByteArray) = X := ⟨_, rfl⟩
  have C := hidp (show ∀ W, Calls Tryd.prog 49 #[.string t, .string ⟨#[33]⟩] W fun e w' => e = .returned (.tuple #[.string Y, .bool false]) ∧ w' = W from fun W => by
    have := Tryd.strings_CutPrefix t ⟨#[33]⟩ W
    rw [p1, hY] at this; exact this)
  clear p0 p1 hX hY h64 h33
  have m1 := hI.1.1; have m2 := hI.1.2
  clear hI
  go_enter Tryd.func35, Tryd.ntmps35
  go_wp2
  go_loop [4] (fun t4 => t4 = .int .u8 1 ∨ t4 = .int .u8 2 ∨ t4 = .int .u8 3) (fun t4 => 3 - (intOf t4).toNat)
  case atStart => exact .inl rfl
  case round =>
    rcases hrel with rfl | rfl | rfl
    · go_wp2_with (go_at_call 49; (refine (C0.out _).mono ?_); rintro e w' ⟨rfl, rfl⟩)
      exact ⟨.inr (.inl rfl), by simp [intOf]⟩
    · go_wp2_with (go_at_call 49; (refine (C.out _).mono ?_); rintro e w' ⟨rfl, rfl⟩)
      exact ⟨.inr (.inr rfl), by simp [intOf]⟩
    · go_wp2
      go_ret2
      exact ⟨rfl, rfl⟩

theorem colon_at {l : List UInt8} {i : Nat} (h : Lib.indexByte l 58 = (i : Int)) : i < l.length ∧ upTo l = l.take i ∧ behind l = l.drop (i + 1) := by
  obtain ⟨h1, h2⟩ := Lib.indexByte_some h
  obtain ⟨hi, hv⟩ := List.getElem?_eq_some_iff.1 h1
  have e : l = l.take i ++ 58 :: l.drop (i + 1) := by
    conv => lhs; rw [← List.take_append_drop i l]
    rw [List.drop_eq_getElem_cons hi, hv]
  have hn : ∀ b ∈ l.take i, (b != 58) = true := by
    intro b hb
    obtain ⟨j, hj, rfl⟩ := List.getElem_of_mem hb
    simp only [List.length_take] at hj
    simp only [bne_iff_ne, ne_eq]
    intro e
    apply h2 j (by omega)
    rw [List.getElem?_eq_getElem (by omega), ← e, List.getElem_take]
  have e3 := upTo_app (d := l.drop (i + 1)) hn
  have e4 := behind_app (d := l.drop (i + 1)) hn
  rw [← e] at e3 e4
  exact ⟨hi, e3, e4⟩
theorem colon_none {l : List UInt8} (h : Lib.indexByte l 58 = -1) : upTo l = l ∧ behind l = [] := by
  have hn : ∀ b ∈ l, (b != 58) = true := by
    intro b hb
    obtain ⟨j, hj, rfl⟩ := List.getElem_of_mem hb
    simp only [bne_iff_ne, ne_eq]
    intro e
    apply Lib.indexByte_none h j
    rw [List.getElem?_eq_getElem hj, e]
  exact ⟨upTo_no hn, behind_no hn⟩

set_option maxHeartbeats 4000000 in
theorem cut_any (w : World) (s : ByteArray) (hs : s.size ≤ 281474976710656) :
    Calls Tryd.prog 36 #[.string s, .string ⟨#[58]⟩] w fun e w' => ∃ q, e = .returned (.tuple #[.string (mkS (upTo s.data.toList)), .string (mkS (behind s.data.toList)), .bool q]) ∧ Below w.heap.size w w' := by
  have C := hidp (fun W => Tryd.stringslite_Index_one s 58 W)
  rcases Int.lt_or_le (Lib.indexByte s.data.toList 58) 0 with h | h
  · have hm : Lib.indexByte s.data.toList 58 = -1 := by have := Lib.indexByte_ge s.data.toList 58; omega
    obtain ⟨e1, e2⟩ := colon_none hm
    rw [hm] at C
    rw [e1, e2, mkS_of]
    clear e1 e2 h hm
    go_enter Tryd.func36, Tryd.ntmps36
    go_wp2_with (first | (go_at_call 61; (refine (C.out _).mono ?_); rintro e w' ⟨rfl, rfl⟩) | go_in)
    go_ret3
    exact ⟨_, rfl, Below.refl _ _⟩
  · obtain ⟨i, hi⟩ : ∃ i : Nat, Lib.indexByte s.data.toList 58 = (i : Int) := ⟨_, (Int.toNat_of_nonneg h).symm⟩
    obtain ⟨g, e1, e2⟩ := colon_at hi
    rw [hi] at C
    rw [size_toList] at g
    have c0 : (0 : Int) ≤ (i : Int) := by omega
    have c1 : (i : Int) ≤ (s.size : Int) := by omega
    have c2 : (0 : Int) ≤ (i : Int) + 1 := by omega
    have c3 : (i : Int) + 1 ≤ (s.size : Int) := by omega
    have hcs : (⟨#[58]⟩ : ByteArray).size = 1 := rfl
    have f1 : mkS (upTo s.data.toList) = s.extract 0 i := by
      apply ba_ext; rw [mkS_data, e1, extract_toList]; simp
    have f2 : mkS (behind s.data.toList) = s.extract (i + 1) s.size := by rw [e2, ext_drop]
    rw [f1, f2]
    clear e1 e2 h hi f1 f2
    go_enter Tryd.func36, Tryd.ntmps36
    go_wp2_with (first | (go_at_call 61; (refine (C.out _).mono ?_); rintro e w' ⟨rfl, rfl⟩) | go_in)
    go_quiet (fail)
    go_wp2
    go_ret3
    exact ⟨_, rfl, below_drewN (Below.refl _ _) _⟩

theorem strClone_any (s : ByteArray) (w : World) (hlim : s.size ≤ 281474976710656) :
    Calls Tryd.prog 38 #[.string s] w fun e w' => e = .returned (.string s) ∧ Below w.heap.size w w' := by
  go_enter Tryd.func38, Tryd.ntmps38
  go_wp2_with (go_at_call 53; refine (Tryd.stringslite_Clone _ _ hlim).mono ?_; rintro e w1 ⟨rfl, hb1⟩)
  go_ret
  exact ⟨rfl, hb1⟩
end Go.Proofs.YtglfdenlgglccaaDoor
