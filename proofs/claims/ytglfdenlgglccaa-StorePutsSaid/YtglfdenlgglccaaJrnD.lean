
/-
  The document's Read of a journal.
-/
import Derived.Test.YtglfdenlgglccaaJrnC
namespace Go.Proofs.Ytglfdenlgglccaa
set_option maxRecDepth 100000
set_option linter.unusedVariables false
set_option linter.unusedSimpArgs false
open Go.RowKit

/-- The first record, as the document asks for it. -/
theorem fst1_err {s : ByteArray} {t : ByteArray} {j e : Nat} (h : gt s = (t, j, e)) (he : e ≠ 0) : fst1 s = none := by
  unfold fst1; rw [h]; simp only; rw [if_pos he]
theorem fst1_short {s : ByteArray} {t : ByteArray} {j : Nat} (h : gt s = (t, j, 0)) (hj : s.size < j + 4) : fst1 s = none := by
  unfold fst1; rw [h]; simp only; rw [if_neg (by simp), if_pos hj]
theorem gt_len {s : ByteArray} {t : ByteArray} {j : Nat} (h : gt s = (t, j, 0)) : (recB t).length = j + 4 := by
  obtain ⟨g1, g2, g3⟩ := gt_again _ _ _ h
  rw [recB_len, g1, List.length_take, size_toList]; omega
theorem fst1_bad {s : ByteArray} {t : ByteArray} {j : Nat} (h : gt s = (t, j, 0)) (hne : s.data.toList.take (j + 4) ≠ recB t) : fst1 s = none := by
  cases hf : fst1 s with
  | none => rfl
  | some x =>
    obtain ⟨t', k⟩ := x
    obtain ⟨r, h1, h2, h3⟩ := fst1_again _ _ _ hf
    exfalso
    have hg : gt s = (t', (encT t').length, 0) := by
      have e1 : s = mkS (encT t' ++ (bytesL (sumL (encT t')) ++ r)) := by
        apply ba_ext; rw [h1, mkS_data]; unfold recB; rw [List.append_assoc]
      rw [e1]; exact gt_back t' h3 _
    rw [h] at hg
    simp only [Prod.mk.injEq, and_true] at hg
    obtain ⟨rfl, rfl⟩ := hg
    apply hne
    rw [h1, ← recB_len, List.take_left]

theorem OwnV.form {w : World} {B e : Nat} {v : Value} {l : List Value} (h : OwnV w B e v l) : ∃ a n c, v = .slice a n c := by
  rcases h.2 with ⟨h, _⟩ | ⟨g, cap, cur, h, _⟩
  · exact ⟨_, _, _, h⟩
  · exact ⟨_, _, _, h⟩
set_option maxHeartbeats 8000000 in
theorem rread_any (w : World) (s : ByteArray) (hs : s.size ≤ 1099511627776) :
    Calls Try.prog 38 #[.string s] w fun e w' => ∃ v, e = .returned (.tuple #[v, .int .i64 ((rdN s.data.toList : Nat) : Int)]) ∧ OwnV w' w.heap.size 9 v (strV (rdT s.data.toList)) ∧ Below w.heap.size w w' := by
  obtain ⟨i0, hi, hz0, hz1, hz2⟩ := info_parts info9
  have HI := hidp hi; have HZ0 := hidp hz0; have HZ1 := hidp hz1; have HZ2 := hidp hz2
  clear hi hz0 hz1 hz2
  go_enter Try.func38, Try.ntmps38
  go_wp2
  go_loopw [4, 5] (fun t4 t5 wr => ∃ (a : List ByteArray) (rest : List UInt8) (va : Option Addr) (vn vc : Nat), t4 = .slice va vn vc ∧ t5 = .int .i64 (((cat a).length : Nat) : Int) ∧ s.data.toList = cat a ++ rest ∧ (∀ t ∈ a, t.size ≤ 8192) ∧ OwnV wr w.heap.size 9 t4 (strV a) ∧ Below w.heap.size w wr) (fun _ t5 _ => s.size - (intOf t5).toNat)
  case atStart => exact ⟨[], s.data.toList, none, 0, 0, rfl, rfl, rfl, by simp, OwnV.nil _ _ _, Below.refl _ _⟩
  case round =>
    obtain ⟨a, rest, va, vn, vc, rfl, rfl, hsr, ha8, hown, hb⟩ := hrel
    obtain ⟨p, hp⟩ : ∃ p, (cat a).length = p := ⟨_, rfl⟩
    have hcc := cat_count a
    have hps : p ≤ s.size := by rw [← size_toList s, hsr, List.length_append, hp]; omega
    have hex : s.extract p s.size = mkS rest := by rw [ext_drop, hsr, ← hp, List.drop_left]
    have hrs : (mkS rest).size + p = s.size := by rw [mkS_size, ← size_toList s, hsr, List.length_append, hp]; omega
    have hla : 5 * (strV a).length ≤ s.size := by rw [strV_length]; omega
    rw [hp]
    have hle := hb.size
    have HSR := hidp hsr; have HA8 := hidp ha8; have HO := hidp hown; have HB := hidp hb; have HP := hidp hp
    clear hsr ha8 hown hb hp hcc
    have c1 := hidp (fun W => refGetText_any W (mkS rest) (by omega))
    have hpt : ((p : Int)).toNat = p := by omega
    have hfin : ∀ (hn : fst1 (mkS rest) = none), rdT s.data.toList = a ∧ rdN s.data.toList = p := fun hn => by
      have e1 : rdT s.data.toList = a := by rw [HSR.out, rdT_cat a HA8.out, rdT_none hn, List.append_nil]
      exact ⟨e1, by unfold rdN; rw [e1]; exact HP.out⟩
    have HFIN := hidp hfin; clear hfin
    obtain ⟨⟨t, k, e⟩, hr⟩ : ∃ r, gt (mkS rest) = r := ⟨_, rfl⟩
    have hbd := gt_bd (mkS rest)
    rw [hr] at c1 hbd
    simp only [tupT] at c1 hbd
    obtain ⟨q1, q2, q3⟩ := hbd
    by_cases he : e = 0
    · have heb := errB0 he
      subst he
      have hlen := gt_len hr
      have c2 := hidp (fun W => rjbytes_any W t (by omega))
      rw [jbS_yes q3, textE_yes q3] at c2
      have hXs : (mkS (recB t)).size = k + 4 := by rw [mkS_size]; exact hlen
      have g1 : decide ((k : Int) > (k : Int) + 4 - 4) = false := by simp
      have g2 : decide ((k : Int) + 4 - 4 < (k : Int)) = false := by simp
      by_cases hk : (mkS rest).size < k + 4
      · have hn := HFIN.out (fst1_short hr hk)
        have g3 : decide ((s.size : Int) < (p : Int) + ((k + 4 : Nat) : Int)) = true := by simp; omega
        have g4 : decide ((s.size : Int) < (p : Int) + ((k : Int) + 4)) = true := by simp; omega
        obtain ⟨X, hX⟩ : ∃ X, mkS (recB t) = X := ⟨_, rfl⟩
        rw [hX] at c2 hXs
        obtain ⟨R, hR⟩ : ∃ R, mkS rest = R := ⟨_, rfl⟩
        rw [hR] at c1 hex hrs hk q1
        have HN := hidp hn
        clear hX hR hr hn hlen
        go_wp2_with fail
        refine (c1.out _).mono ?_
        rintro e w2 ⟨rfl, hb2⟩
        have HB2 := hidp (HB.out.trans (hb2.mono HB.out.size)); have HO2 := hidp (HO.out.kept hb2 (Nat.le_refl _)); clear hb2
        go_wp2_with fail
        refine (c2.out _).mono ?_
        rintro e w3 ⟨rfl, hb3⟩
        have HB3 := hidp (HB2.out.trans (hb3.mono HB2.out.size)); have HO3 := hidp (HO2.out.kept hb3 (Nat.le_refl _)); clear hb3
        go_wp2_with fail
        go_ret2
        exact ⟨_, by rw [HN.out.2]; rfl, by rw [HN.out.1]; exact HO3.out, HB3.out⟩
      · have g3 : decide ((s.size : Int) < (p : Int) + ((k + 4 : Nat) : Int)) = false := by simp; omega
        have g4 : decide ((s.size : Int) < (p : Int) + ((k : Int) + 4)) = false := by simp; omega
        have hxx : s.extract p (p + (k + 4)) = (mkS rest).extract 0 (k + 4) := by
          apply ba_ext
          rw [extract_toList, extract_toList, mkS_data, HSR.out, ← HP.out, List.drop_left]
          simp
        have hx2 : ((p : Int) + ((k : Int) + 4)).toNat = p + (k + 4) := by omega
        have hx3 : ((p : Int) + ((k + 4 : Nat) : Int)).toNat = p + (k + 4) := by omega
        have j1 : (0 : Int) ≤ (p : Int) := by omega
        have j2 : (p : Int) ≤ (p : Int) + ((k + 4 : Nat) : Int) := by omega
        have j3 : (p : Int) + ((k + 4 : Nat) : Int) ≤ (s.size : Int) := by omega
        have hxl : ((mkS rest).extract 0 (k + 4)).data.toList = rest.take (k + 4) := by rw [extract_toList, mkS_data]; simp
        by_cases hm : rest.take (k + 4) = recB t
        · have hre : rest = recB t ++ rest.drop (k + 4) := by conv => lhs; rw [← List.take_append_drop (k + 4) rest, hm]
          have hsr2 := hidp (show s.data.toList = cat (a ++ [t]) ++ rest.drop (k + 4) from by rw [cat_snoc, List.append_assoc, ← hre]; exact HSR.out)
          have hcl := hidp (show (cat (a ++ [t])).length = p + (k + 4) from by rw [cat_snoc, List.length_append, HP.out, hlen])
          have ha2 := hidp (show ∀ x ∈ a ++ [t], x.size ≤ 8192 from fun x hx => by
            rcases List.mem_append.1 hx with h | h
            · exact HA8.out x h
            · simp at h; subst h; exact q3)
          have hsn := hidp (strV_snoc a t)
          have hq : ((s.extract p (p + (k + 4))).toList == (mkS (recB t)).toList) = true := toList_yes (by rw [hxx]; apply ba_ext; rw [hxl, mkS_data]; exact hm)
          obtain ⟨X, hX⟩ : ∃ X, mkS (recB t) = X := ⟨_, rfl⟩
          rw [hX] at c2 hXs hq
          obtain ⟨R, hR⟩ : ∃ R, mkS rest = R := ⟨_, rfl⟩
          rw [hR] at c1 hex hrs hk q1
          obtain ⟨Z, hZ⟩ : ∃ Z, s.extract p (p + (k + 4)) = Z := ⟨_, rfl⟩
          rw [hZ] at hq
          clear hX hR hr hlen hxx hxl hm hre
          go_wp2_with fail
          refine (c1.out _).mono ?_
          rintro e w2 ⟨rfl, hb2⟩
          have HB2 := hidp (HB.out.trans (hb2.mono HB.out.size)); have HO2 := hidp (HO.out.kept hb2 (Nat.le_refl _)); clear hb2
          go_wp2_with fail
          refine (c2.out _).mono ?_
          rintro e w3 ⟨rfl, hb3⟩
          have HB3 := hidp (HB2.out.trans (hb3.mono HB2.out.size)); have HO3 := hidp (HO2.out.kept hb3 (Nat.le_refl _)); clear hb3
          have hle3 := HB3.out.size
          go_wp2_with ((at_builtin; (refine wpList_appV rfl (.tmp 55) (.tmp 57) 31 rfl w.heap.size 9 i0 _ 16 Try.underlying31 HI.out HZ0.out HZ1.out HZ2.out rfl _ (strV a) rfl (HO3.out.alloc _) ⟨w3.heap.size, 0, none⟩ 1 (.string t) rfl (cell_new1 _ _ _) rfl ?_ ?_ ?_ ?_)))
          · unfold maxLen; omega
          · omega
          · rw [heap_size_alloc]; omega
          · intro v' w4 ho4 hb4
            have HB4 := hidp ((HB3.out.alloc hle3 (.cells #[.string t] 9)).trans hb4)
            rw [hsn.out] at ho4
            obtain ⟨xa, xn, xc, rfl⟩ := ho4.form
            have HO4 := hidp ho4
            clear ho4 hb4
            go_wp2_with fail
            exact ⟨⟨a ++ [t], rest.drop (k + 4), xa, xn, xc, rfl, by rw [hcl.out]; go_num, hsr2.out, ha2.out, HO4.out, HB4.out⟩, by simp [intOf]; omega⟩
        · have hn := HFIN.out (fst1_bad hr (by rw [mkS_data]; exact hm))
          have hq : ((s.extract p (p + (k + 4))).toList == (mkS (recB t)).toList) = false := toList_no (fun h => hm (by rw [← hxl, ← hxx, h, mkS_data]))
          have HN := hidp hn
          obtain ⟨X, hX⟩ : ∃ X, mkS (recB t) = X := ⟨_, rfl⟩
          rw [hX] at c2 hXs hq
          obtain ⟨R, hR⟩ : ∃ R, mkS rest = R := ⟨_, rfl⟩
          rw [hR] at c1 hex hrs hk q1
          obtain ⟨Z, hZ⟩ : ∃ Z, s.extract p (p + (k + 4)) = Z := ⟨_, rfl⟩
          rw [hZ] at hq
          clear hX hR hr hlen hxx hxl hm hn
          go_wp2_with fail
          refine (c1.out _).mono ?_
          rintro e w2 ⟨rfl, hb2⟩
          have HB2 := hidp (HB.out.trans (hb2.mono HB.out.size)); have HO2 := hidp (HO.out.kept hb2 (Nat.le_refl _)); clear hb2
          go_wp2_with fail
          refine (c2.out _).mono ?_
          rintro e w3 ⟨rfl, hb3⟩
          have HB3 := hidp (HB2.out.trans (hb3.mono HB2.out.size)); have HO3 := hidp (HO2.out.kept hb3 (Nat.le_refl _)); clear hb3
          go_wp2_with fail
          go_ret2
          exact ⟨_, by rw [HN.out.2]; rfl, by rw [HN.out.1]; exact HO3.out, HB3.out⟩
    · have heb := errB he
      have hn := HFIN.out (fst1_err hr he)
      obtain ⟨R, hR⟩ : ∃ R, mkS rest = R := ⟨_, rfl⟩
      rw [hR] at c1 hex hrs
      have HN := hidp hn
      have H0 := hidp he
      clear hR hr hn he
      go_wp2_with fail
      refine (c1.out _).mono ?_
      rintro e w2 ⟨rfl, hb2⟩
      have HB2 := hidp (HB.out.trans (hb2.mono HB.out.size)); have HO2 := hidp (HO.out.kept hb2 (Nat.le_refl _)); clear hb2
      go_wp2_with fail
      go_ret2
      exact ⟨_, by rw [HN.out.2]; rfl, by rw [HN.out.1]; exact HO2.out, HB2.out⟩
end Go.Proofs.Ytglfdenlgglccaa
