
/-
  The document's ident: Parse, User, Room.
-/
import Derived.Test.YtglfdenlgglccaaDoorIdG
namespace Go.Proofs.YtglfdenlgglccaaDoor
set_option maxRecDepth 100000
set_option linter.unusedVariables false
set_option linter.unusedSimpArgs false
open Go.RowKit

set_option maxHeartbeats 16000000 in
theorem rparse_any (w : World) (t : ByteArray) (hs : t.size ≤ 281474976710656) :
    Calls Tryd.prog 48 #[.string t] w fun e w' => e = .returned (.tuple #[idV (idP t), .int .i64 (idX (idP t))]) ∧ Below w.heap.size w w' := by
  obtain ⟨X, hX⟩ : ∃ x, idP t = x := ⟨_, rfl⟩
  rw [hX]
  have HXX := hidp hX; clear hX
  have HB := hidp ((Below.refl w.heap.size w).alloc (Nat.le_refl _) (.cells #[.int .u8 0, .string ⟨#[]⟩, .int .i64 0] 38))
  have HA := hidp (Arr.new w 38 [.int .u8 0, .string ⟨#[]⟩, .int .i64 0])
  go_enter Tryd.func48, Tryd.ntmps48
  go_wp2
  go_loop [4] (fun t4 => ∃ (i : Nat), t4 = .int .i64 i ∧ 1 ≤ i ∧ (i ≤ t.size ∨ i = 1) ∧ (∀ j (hj : j < t.size), 1 ≤ j → j < i → (t[j]'hj).toNat ≠ 58)) (fun t4 => t.size + 1 - (intOf t4).toNat)
  case atStart => exact ⟨1, rfl, by omega, .inr rfl, fun j hj h1 h2 => by omega⟩
  case round =>
    obtain ⟨i, rfl, hi1, hi, hall⟩ := hrel
    have HALL := hidp hall; clear hall
    by_cases hl : i < t.size
    · obtain ⟨bn, hbn⟩ : ∃ bn, (t[i]'hl).toNat = bn := ⟨_, rfl⟩
      have hb : bn < 256 := by rw [← hbn]; exact UInt8.toNat_lt _
      have HBN := hidp hbn
      by_cases h58 : bn = 58
      · have e0 : ((bn : Int) != 58) = false := by rw [h58]; rfl
        have hP := idP_at i hi1 hl (by rw [HBN.out]; exact h58) (fun j hj h1 h2 => HALL.out j hj h1 h2)
        rw [HXX.out] at hP
        have f1 : mkS ((t.data.toList.drop 1).take (i - 1)) = t.extract 1 i := by apply ba_ext; rw [mkS_data, extract_toList]
        have f2 : t.data.toList.drop (i + 1) = (t.extract (i + 1) t.size).data.toList := by rw [ext_drop, mkS_data]
        rw [f2] at hP
        unfold idC at hP
        rw [f1] at hP
        have CC := hidp (fun W => rcount_any W (t.extract (i + 1) t.size) (by simp; omega))
        have hNs : (t.extract 1 i).size ≤ 281474976710656 := by simp; omega
        have c0 : (0 : Int) ≤ (i : Int) + 1 := by omega
        have c1 : (i : Int) + 1 ≤ (t.size : Int) := by omega
        have c2 : (1 : Int) ≤ (i : Int) := by omega
        have c3 : (i : Int) ≤ (t.size : Int) := by omega
        have c4 : (0 : Int) < (t.size : Int) := by omega
        have hl0 : 0 < t.size := by omega
        obtain ⟨cn, hcn⟩ : ∃ cn, (t[0]'hl0).toNat = cn := ⟨_, rfl⟩
        have hcb : cn < 256 := by rw [← hcn]; exact UInt8.toNat_lt _
        have hc33 : (t[0]'hl0 = 33) = (cn = 33) := by
          rw [← hcn]; apply propext
          exact ⟨fun e => by rw [e]; rfl, fun e => UInt8.toNat_inj.1 e⟩
        obtain ⟨NM, hNM⟩ : ∃ x, t.extract 1 i = x := ⟨_, rfl⟩
        obtain ⟨D, hD⟩ : ∃ x, t.extract (i + 1) t.size = x := ⟨_, rfl⟩
        have hNM0 := hNM; have hD0 := hD
        rw [hNM] at hP hNs
        rw [hD] at hP CC
        clear f1 f2 h58
        by_cases h33 : cn = 33
        · have e1 : ((cn : Int) == 33) = true := by rw [h33]; rfl
          simp only [hc33, h33, if_true] at hP
          clear hc33
          cases hd : decOf D.data.toList with
          | none =>
            rw [hd] at hP CC
            simp only at hP
            subst hP
            have CT := hidp (fun W => rtext_any W 2 (by omega) NM hNs 0)
            obtain ⟨S, hS⟩ : ∃ x, idT 2 NM 0 = x := ⟨_, rfl⟩
            obtain ⟨E, hE⟩ : ∃ x, idE 2 NM 0 = x := ⟨_, rfl⟩
            rw [hS, hE] at CT
            clear hS hE hd
            go_wp2_with fail
            refine (CC.out _).mono ?_
            rintro e w1 ⟨rfl, rfl⟩
            unfold whoV
            go_wp2_with fail
            have HN := hidp (show Arr ((w.alloc (.cells #[.int .u8 0, .string ⟨#[]⟩, .int .i64 0] 38)).alloc (.cells #[.int .u8 2, .string NM, .int .i64 0] 38)) (w.heap.size + 1) 38 [.int .u8 2, .string NM, .int .i64 0] from by
              have h := Arr.new (w.alloc (.cells #[.int .u8 0, .string ⟨#[]⟩, .int .i64 0] 38)) 38 [.int .u8 2, .string NM, .int .i64 0]
              rw [heap_size_alloc] at h; exact h)
            have HB1 := hidp (HB.out.alloc HB.out.size (.cells #[.int .u8 2, .string NM, .int .i64 0] 38)); have HA1 := hidp (HA.out.alloc (.cells #[.int .u8 2, .string NM, .int .i64 0] 38))
            have HN2 := HN; have HB2 := HB1; have HA2 := HA1
            generalize hW2 : ((w.alloc (.cells #[.int .u8 0, .string ⟨#[]⟩, .int .i64 0] 38)).alloc (.cells #[.int .u8 2, .string NM, .int .i64 0] 38)) = W2 at HN2 HB2 HA2 HN HB1 HA1 ⊢
            clear HN HB1 HA1 hW2
            refine (CT.out _).mono ?_
            rintro e w5 ⟨rfl, hb5⟩
            have HB5 := hidp (HB2.out.trans (hb5.mono HB2.out.size)); have HA5 := hidp (HA2.out.below hb5 HA2.out.lt); have HN5 := hidp (HN2.out.below hb5 HN2.out.lt)
            clear hb5
            obtain ⟨r0, r1, r2, rf⟩ := arr3 HA5.out
            have g0 := rf 0; have g1 := rf 1; have g2 := rf 2
            clear rf
            go_wp2_with fail
            refine bodyPost_ret (v := .tuple #[.agg #[.int .u8 0, .string ⟨#[]⟩, .int .i64 0], .int .i64 6]) (by simp [results, Tryd.results48, go_sem, r0, r1, r2]) rfl ⟨rfl, ?_⟩
            repeat (refine Below.setCell ?_ (by simp) _)
            exact HB5.out
          | some n =>
            rw [hd] at hP CC
            simp only at hP
            have CT := hidp (fun W => rtext_any W 2 (by omega) NM hNs n)
            have hn63 := (decOf_some hd).1
            clear hd
            by_cases hh : idOk 2 NM n = true ∧ mkS (idL 2 NM n) = t
            · rw [if_pos hh] at hP
              subst hP
              rw [idT_eq (v := (n : Int)) (by simpa using hh), idE_ok hh.1] at CT
              clear hh
              go_wp2_with fail
              refine (CC.out _).mono ?_
              rintro e w1 ⟨rfl, rfl⟩
              unfold whoV
              go_wp2_with fail
              have HN := hidp (show Arr ((w.alloc (.cells #[.int .u8 0, .string ⟨#[]⟩, .int .i64 0] 38)).alloc (.cells #[.int .u8 2, .string NM, .int .i64 (n : Int)] 38)) (w.heap.size + 1) 38 [.int .u8 2, .string NM, .int .i64 (n : Int)] from by
                have h := Arr.new (w.alloc (.cells #[.int .u8 0, .string ⟨#[]⟩, .int .i64 0] 38)) 38 [.int .u8 2, .string NM, .int .i64 (n : Int)]
                rw [heap_size_alloc] at h; exact h)
              have HB1 := hidp (HB.out.alloc HB.out.size (.cells #[.int .u8 2, .string NM, .int .i64 (n : Int)] 38)); have HA1 := hidp (HA.out.alloc (.cells #[.int .u8 2, .string NM, .int .i64 (n : Int)] 38))
              have HN2 := HN; have HB2 := HB1; have HA2 := HA1
              generalize hW2 : ((w.alloc (.cells #[.int .u8 0, .string ⟨#[]⟩, .int .i64 0] 38)).alloc (.cells #[.int .u8 2, .string NM, .int .i64 (n : Int)] 38)) = W2 at HN2 HB2 HA2 HN HB1 HA1 ⊢
              clear HN HB1 HA1 hW2
              refine (CT.out _).mono ?_
              rintro e w5 ⟨rfl, hb5⟩
              have HB5 := hidp (HB2.out.trans (hb5.mono HB2.out.size)); have HA5 := hidp (HA2.out.below hb5 HA2.out.lt); have HN5 := hidp (HN2.out.below hb5 HN2.out.lt)
              clear hb5
              obtain ⟨r0, r1, r2, rf⟩ := arr3 HA5.out
              have g0 := rf 0; have g1 := rf 1; have g2 := rf 2
              clear rf
              obtain ⟨n0, n1, n2, -⟩ := arr3 HN5.out
              go_wp2_with fail
              refine bodyPost_ret (v := .tuple #[.agg #[.int .u8 2, .string NM, .int .i64 (n : Int)], .int .i64 0]) (by simp [results, Tryd.results48, go_sem, r0, r1, r2]) rfl ⟨rfl, ?_⟩
              repeat (refine Below.setCell ?_ (by simp) _)
              exact HB5.out
            · rw [if_neg hh] at hP
              subst hP
              by_cases hok : idOk 2 NM n = true
              · have ht := toList_no (idT_ne (v := (n : Int)) (t := t) hok (by simpa using hh))
                rw [idE_ok hok] at CT
                obtain ⟨S, hS⟩ : ∃ x, idT 2 NM n = x := ⟨_, rfl⟩
                rw [hS] at CT ht
                clear hh hok hS
                go_wp2_with fail
                refine (CC.out _).mono ?_
                rintro e w1 ⟨rfl, rfl⟩
                unfold whoV
                go_wp2_with fail
                have HN := hidp (show Arr ((w.alloc (.cells #[.int .u8 0, .string ⟨#[]⟩, .int .i64 0] 38)).alloc (.cells #[.int .u8 2, .string NM, .int .i64 (n : Int)] 38)) (w.heap.size + 1) 38 [.int .u8 2, .string NM, .int .i64 (n : Int)] from by
                  have h := Arr.new (w.alloc (.cells #[.int .u8 0, .string ⟨#[]⟩, .int .i64 0] 38)) 38 [.int .u8 2, .string NM, .int .i64 (n : Int)]
                  rw [heap_size_alloc] at h; exact h)
                have HB1 := hidp (HB.out.alloc HB.out.size (.cells #[.int .u8 2, .string NM, .int .i64 (n : Int)] 38)); have HA1 := hidp (HA.out.alloc (.cells #[.int .u8 2, .string NM, .int .i64 (n : Int)] 38))
                have HN2 := HN; have HB2 := HB1; have HA2 := HA1
                generalize hW2 : ((w.alloc (.cells #[.int .u8 0, .string ⟨#[]⟩, .int .i64 0] 38)).alloc (.cells #[.int .u8 2, .string NM, .int .i64 (n : Int)] 38)) = W2 at HN2 HB2 HA2 HN HB1 HA1 ⊢
                clear HN HB1 HA1 hW2
                refine (CT.out _).mono ?_
                rintro e w5 ⟨rfl, hb5⟩
                have HB5 := hidp (HB2.out.trans (hb5.mono HB2.out.size)); have HA5 := hidp (HA2.out.below hb5 HA2.out.lt); have HN5 := hidp (HN2.out.below hb5 HN2.out.lt)
                clear hb5
                obtain ⟨r0, r1, r2, rf⟩ := arr3 HA5.out
                have g0 := rf 0; have g1 := rf 1; have g2 := rf 2
                clear rf
                go_wp2_with fail
                refine bodyPost_ret (v := .tuple #[.agg #[.int .u8 0, .string ⟨#[]⟩, .int .i64 0], .int .i64 6]) (by simp [results, Tryd.results48, go_sem, r0, r1, r2]) rfl ⟨rfl, ?_⟩
                repeat (refine Below.setCell ?_ (by simp) _)
                exact HB5.out
              · rw [idE_no hok] at CT
                obtain ⟨S, hS⟩ : ∃ x, idT 2 NM n = x := ⟨_, rfl⟩
                rw [hS] at CT
                clear hh hok hS
                go_wp2_with fail
                refine (CC.out _).mono ?_
                rintro e w1 ⟨rfl, rfl⟩
                unfold whoV
                go_wp2_with fail
                have HN := hidp (show Arr ((w.alloc (.cells #[.int .u8 0, .string ⟨#[]⟩, .int .i64 0] 38)).alloc (.cells #[.int .u8 2, .string NM, .int .i64 (n : Int)] 38)) (w.heap.size + 1) 38 [.int .u8 2, .string NM, .int .i64 (n : Int)] from by
                  have h := Arr.new (w.alloc (.cells #[.int .u8 0, .string ⟨#[]⟩, .int .i64 0] 38)) 38 [.int .u8 2, .string NM, .int .i64 (n : Int)]
                  rw [heap_size_alloc] at h; exact h)
                have HB1 := hidp (HB.out.alloc HB.out.size (.cells #[.int .u8 2, .string NM, .int .i64 (n : Int)] 38)); have HA1 := hidp (HA.out.alloc (.cells #[.int .u8 2, .string NM, .int .i64 (n : Int)] 38))
                have HN2 := HN; have HB2 := HB1; have HA2 := HA1
                generalize hW2 : ((w.alloc (.cells #[.int .u8 0, .string ⟨#[]⟩, .int .i64 0] 38)).alloc (.cells #[.int .u8 2, .string NM, .int .i64 (n : Int)] 38)) = W2 at HN2 HB2 HA2 HN HB1 HA1 ⊢
                clear HN HB1 HA1 hW2
                refine (CT.out _).mono ?_
                rintro e w5 ⟨rfl, hb5⟩
                have HB5 := hidp (HB2.out.trans (hb5.mono HB2.out.size)); have HA5 := hidp (HA2.out.below hb5 HA2.out.lt); have HN5 := hidp (HN2.out.below hb5 HN2.out.lt)
                clear hb5
                obtain ⟨r0, r1, r2, rf⟩ := arr3 HA5.out
                have g0 := rf 0; have g1 := rf 1; have g2 := rf 2
                clear rf
                go_wp2_with fail
                refine bodyPost_ret (v := .tuple #[.agg #[.int .u8 0, .string ⟨#[]⟩, .int .i64 0], .int .i64 6]) (by simp [results, Tryd.results48, go_sem, r0, r1, r2]) rfl ⟨rfl, ?_⟩
                repeat (refine Below.setCell ?_ (by simp) _)
                exact HB5.out
        · have e1 : ((cn : Int) == 33) = false := beq_eq_false_iff_ne.2 (by omega)
          have x1 : ¬ cn = 33 := h33
          simp only [hc33, h33, if_false] at hP
          clear hc33
          cases hd : decOf D.data.toList with
          | none =>
            rw [hd] at hP CC
            simp only at hP
            subst hP
            have CT := hidp (fun W => rtext_any W 1 (by omega) NM hNs 0)
            obtain ⟨S, hS⟩ : ∃ x, idT 1 NM 0 = x := ⟨_, rfl⟩
            obtain ⟨E, hE⟩ : ∃ x, idE 1 NM 0 = x := ⟨_, rfl⟩
            rw [hS, hE] at CT
            clear hS hE hd
            go_wp2_with fail
            refine (CC.out _).mono ?_
            rintro e w1 ⟨rfl, rfl⟩
            unfold whoV
            go_wp2_with fail
            have HN := hidp (show Arr ((w.alloc (.cells #[.int .u8 0, .string ⟨#[]⟩, .int .i64 0] 38)).alloc (.cells #[.int .u8 1, .string NM, .int .i64 0] 38)) (w.heap.size + 1) 38 [.int .u8 1, .string NM, .int .i64 0] from by
              have h := Arr.new (w.alloc (.cells #[.int .u8 0, .string ⟨#[]⟩, .int .i64 0] 38)) 38 [.int .u8 1, .string NM, .int .i64 0]
              rw [heap_size_alloc] at h; exact h)
            have HB1 := hidp (HB.out.alloc HB.out.size (.cells #[.int .u8 1, .string NM, .int .i64 0] 38)); have HA1 := hidp (HA.out.alloc (.cells #[.int .u8 1, .string NM, .int .i64 0] 38))
            have HN2 := HN; have HB2 := HB1; have HA2 := HA1
            generalize hW2 : ((w.alloc (.cells #[.int .u8 0, .string ⟨#[]⟩, .int .i64 0] 38)).alloc (.cells #[.int .u8 1, .string NM, .int .i64 0] 38)) = W2 at HN2 HB2 HA2 HN HB1 HA1 ⊢
            clear HN HB1 HA1 hW2
            refine (CT.out _).mono ?_
            rintro e w5 ⟨rfl, hb5⟩
            have HB5 := hidp (HB2.out.trans (hb5.mono HB2.out.size)); have HA5 := hidp (HA2.out.below hb5 HA2.out.lt); have HN5 := hidp (HN2.out.below hb5 HN2.out.lt)
            clear hb5
            obtain ⟨r0, r1, r2, rf⟩ := arr3 HA5.out
            have g0 := rf 0; have g1 := rf 1; have g2 := rf 2
            clear rf
            go_wp2_with fail
            refine bodyPost_ret (v := .tuple #[.agg #[.int .u8 0, .string ⟨#[]⟩, .int .i64 0], .int .i64 6]) (by simp [results, Tryd.results48, go_sem, r0, r1, r2]) rfl ⟨rfl, ?_⟩
            repeat (refine Below.setCell ?_ (by simp) _)
            exact HB5.out
          | some n =>
            rw [hd] at hP CC
            simp only at hP
            have CT := hidp (fun W => rtext_any W 1 (by omega) NM hNs n)
            have hn63 := (decOf_some hd).1
            clear hd
            by_cases hh : idOk 1 NM n = true ∧ mkS (idL 1 NM n) = t
            · rw [if_pos hh] at hP
              subst hP
              rw [idT_eq (v := (n : Int)) (by simpa using hh), idE_ok hh.1] at CT
              clear hh
              go_wp2_with fail
              refine (CC.out _).mono ?_
              rintro e w1 ⟨rfl, rfl⟩
              unfold whoV
              go_wp2_with fail
              have HN := hidp (show Arr ((w.alloc (.cells #[.int .u8 0, .string ⟨#[]⟩, .int .i64 0] 38)).alloc (.cells #[.int .u8 1, .string NM, .int .i64 (n : Int)] 38)) (w.heap.size + 1) 38 [.int .u8 1, .string NM, .int .i64 (n : Int)] from by
                have h := Arr.new (w.alloc (.cells #[.int .u8 0, .string ⟨#[]⟩, .int .i64 0] 38)) 38 [.int .u8 1, .string NM, .int .i64 (n : Int)]
                rw [heap_size_alloc] at h; exact h)
              have HB1 := hidp (HB.out.alloc HB.out.size (.cells #[.int .u8 1, .string NM, .int .i64 (n : Int)] 38)); have HA1 := hidp (HA.out.alloc (.cells #[.int .u8 1, .string NM, .int .i64 (n : Int)] 38))
              have HN2 := HN; have HB2 := HB1; have HA2 := HA1
              generalize hW2 : ((w.alloc (.cells #[.int .u8 0, .string ⟨#[]⟩, .int .i64 0] 38)).alloc (.cells #[.int .u8 1, .string NM, .int .i64 (n : Int)] 38)) = W2 at HN2 HB2 HA2 HN HB1 HA1 ⊢
              clear HN HB1 HA1 hW2
              refine (CT.out _).mono ?_
              rintro e w5 ⟨rfl, hb5⟩
              have HB5 := hidp (HB2.out.trans (hb5.mono HB2.out.size)); have HA5 := hidp (HA2.out.below hb5 HA2.out.lt); have HN5 := hidp (HN2.out.below hb5 HN2.out.lt)
              clear hb5
              obtain ⟨r0, r1, r2, rf⟩ := arr3 HA5.out
              have g0 := rf 0; have g1 := rf 1; have g2 := rf 2
              clear rf
              obtain ⟨n0, n1, n2, -⟩ := arr3 HN5.out
              go_wp2_with fail
              refine bodyPost_ret (v := .tuple #[.agg #[.int .u8 1, .string NM, .int .i64 (n : Int)], .int .i64 0]) (by simp [results, Tryd.results48, go_sem, r0, r1, r2]) rfl ⟨rfl, ?_⟩
              repeat (refine Below.setCell ?_ (by simp) _)
              exact HB5.out
            · rw [if_neg hh] at hP
              subst hP
              by_cases hok : idOk 1 NM n = true
              · have ht := toList_no (idT_ne (v := (n : Int)) (t := t) hok (by simpa using hh))
                rw [idE_ok hok] at CT
                obtain ⟨S, hS⟩ : ∃ x, idT 1 NM n = x := ⟨_, rfl⟩
                rw [hS] at CT ht
                clear hh hok hS
                go_wp2_with fail
                refine (CC.out _).mono ?_
                rintro e w1 ⟨rfl, rfl⟩
                unfold whoV
                go_wp2_with fail
                have HN := hidp (show Arr ((w.alloc (.cells #[.int .u8 0, .string ⟨#[]⟩, .int .i64 0] 38)).alloc (.cells #[.int .u8 1, .string NM, .int .i64 (n : Int)] 38)) (w.heap.size + 1) 38 [.int .u8 1, .string NM, .int .i64 (n : Int)] from by
                  have h := Arr.new (w.alloc (.cells #[.int .u8 0, .string ⟨#[]⟩, .int .i64 0] 38)) 38 [.int .u8 1, .string NM, .int .i64 (n : Int)]
                  rw [heap_size_alloc] at h; exact h)
                have HB1 := hidp (HB.out.alloc HB.out.size (.cells #[.int .u8 1, .string NM, .int .i64 (n : Int)] 38)); have HA1 := hidp (HA.out.alloc (.cells #[.int .u8 1, .string NM, .int .i64 (n : Int)] 38))
                have HN2 := HN; have HB2 := HB1; have HA2 := HA1
                generalize hW2 : ((w.alloc (.cells #[.int .u8 0, .string ⟨#[]⟩, .int .i64 0] 38)).alloc (.cells #[.int .u8 1, .string NM, .int .i64 (n : Int)] 38)) = W2 at HN2 HB2 HA2 HN HB1 HA1 ⊢
                clear HN HB1 HA1 hW2
                refine (CT.out _).mono ?_
                rintro e w5 ⟨rfl, hb5⟩
                have HB5 := hidp (HB2.out.trans (hb5.mono HB2.out.size)); have HA5 := hidp (HA2.out.below hb5 HA2.out.lt); have HN5 := hidp (HN2.out.below hb5 HN2.out.lt)
                clear hb5
                obtain ⟨r0, r1, r2, rf⟩ := arr3 HA5.out
                have g0 := rf 0; have g1 := rf 1; have g2 := rf 2
                clear rf
                go_wp2_with fail
                refine bodyPost_ret (v := .tuple #[.agg #[.int .u8 0, .string ⟨#[]⟩, .int .i64 0], .int .i64 6]) (by simp [results, Tryd.results48, go_sem, r0, r1, r2]) rfl ⟨rfl, ?_⟩
                repeat (refine Below.setCell ?_ (by simp) _)
                exact HB5.out
              · rw [idE_no hok] at CT
                obtain ⟨S, hS⟩ : ∃ x, idT 1 NM n = x := ⟨_, rfl⟩
                rw [hS] at CT
                clear hh hok hS
                go_wp2_with fail
                refine (CC.out _).mono ?_
                rintro e w1 ⟨rfl, rfl⟩
                unfold whoV
                go_wp2_with fail
                have HN := hidp (show Arr ((w.alloc (.cells #[.int .u8 0, .string ⟨#[]⟩, .int .i64 0] 38)).alloc (.cells #[.int .u8 1, .string NM, .int .i64 (n : Int)] 38)) (w.heap.size + 1) 38 [.int .u8 1, .string NM, .int .i64 (n : Int)] from by
                  have h := Arr.new (w.alloc (.cells #[.int .u8 0, .string ⟨#[]⟩, .int .i64 0] 38)) 38 [.int .u8 1, .string NM, .int .i64 (n : Int)]
                  rw [heap_size_alloc] at h; exact h)
                have HB1 := hidp (HB.out.alloc HB.out.size (.cells #[.int .u8 1, .string NM, .int .i64 (n : Int)] 38)); have HA1 := hidp (HA.out.alloc (.cells #[.int .u8 1, .string NM, .int .i64 (n : Int)] 38))
                have HN2 := HN; have HB2 := HB1; have HA2 := HA1
                generalize hW2 : ((w.alloc (.cells #[.int .u8 0, .string ⟨#[]⟩, .int .i64 0] 38)).alloc (.cells #[.int .u8 1, .string NM, .int .i64 (n : Int)] 38)) = W2 at HN2 HB2 HA2 HN HB1 HA1 ⊢
                clear HN HB1 HA1 hW2
                refine (CT.out _).mono ?_
                rintro e w5 ⟨rfl, hb5⟩
                have HB5 := hidp (HB2.out.trans (hb5.mono HB2.out.size)); have HA5 := hidp (HA2.out.below hb5 HA2.out.lt); have HN5 := hidp (HN2.out.below hb5 HN2.out.lt)
                clear hb5
                obtain ⟨r0, r1, r2, rf⟩ := arr3 HA5.out
                have g0 := rf 0; have g1 := rf 1; have g2 := rf 2
                clear rf
                go_wp2_with fail
                refine bodyPost_ret (v := .tuple #[.agg #[.int .u8 0, .string ⟨#[]⟩, .int .i64 0], .int .i64 6]) (by simp [results, Tryd.results48, go_sem, r0, r1, r2]) rfl ⟨rfl, ?_⟩
                repeat (refine Below.setCell ?_ (by simp) _)
                exact HB5.out
      · have e0 : ((bn : Int) != 58) = true := by simp; omega
        have x0 : ¬ bn = 58 := h58
        go_wp2
        refine ⟨⟨i + 1, by go_num, by omega, .inl (by omega), fun j hj h1 h2 => ?_⟩, by simp [intOf]; omega⟩
        by_cases hji : j = i
        · subst hji; have e2 := HBN.out; rw [e2]; exact h58
        · exact HALL.out j hj h1 (by omega)
    · have hF := idP_nocolon (t := t) (fun j hj h1 => HALL.out j hj h1 (by omega))
      rw [HXX.out] at hF
      subst hF
      obtain ⟨r0, r1, r2, rf⟩ := arr3 HA.out
      have g0 := rf 0; have g1 := rf 1; have g2 := rf 2
      clear rf
      go_wp2_with fail
      refine bodyPost_ret (v := .tuple #[.agg #[.int .u8 0, .string ⟨#[]⟩, .int .i64 0], .int .i64 6]) (by simp [results, Tryd.results48, go_sem, r0, r1, r2]) rfl ⟨rfl, ?_⟩
      repeat (refine Below.setCell ?_ (by simp) _)
      exact HB.out

set_option maxHeartbeats 4000000 in
theorem ruser_any (w : World) (t : ByteArray) (hs : t.size ≤ 281474976710656) :
    Calls Tryd.prog 34 #[.string t] w fun e w' => e = .returned (whoV (who 1 t)) ∧ Below w.heap.size w w' := by
  have C := hidp (rparse_any w t hs)
  cases hp : idP t with
  | none =>
    rw [hp] at C
    rw [who_no hp]
    clear hp
    unfold idV idX at C
    unfold whoV
    go_enter Tryd.func34, Tryd.ntmps34
    go_wp2_with (go_at_call 48; (refine C.out.mono ?_); rintro e w1 ⟨rfl, hb1⟩; have HB1 := hidp (hb1.alloc hb1.size (.cells #[.int .u8 0, .string ⟨#[]⟩, .int .i64 0] 38)); clear hb1)
    go_ret2
    exact ⟨rfl, HB1.out⟩
  | some x =>
    obtain ⟨k, nm, n⟩ := x
    rw [hp] at C
    unfold idV idX at C
    by_cases hk : k = 1
    · subst hk
      rw [who_yes hp]
      unfold whoV
      clear hp
      go_enter Tryd.func34, Tryd.ntmps34
      go_wp2_with (go_at_call 48; (refine C.out.mono ?_); rintro e w1 ⟨rfl, hb1⟩; have HB1 := hidp (hb1.alloc hb1.size (.cells #[.int .u8 ((1 : Nat) : Int), .string nm, .int .i64 (n : Int)] 38)); clear hb1)
      go_ret2
      exact ⟨rfl, HB1.out⟩
    · rw [who_other hp hk]
      unfold whoV
      have e0 : ((k : Int) != 1) = true := by simp; omega
      have x0 : ¬ k = 1 := hk
      clear hp
      go_enter Tryd.func34, Tryd.ntmps34
      go_wp2_with (go_at_call 48; (refine C.out.mono ?_); rintro e w1 ⟨rfl, hb1⟩; have HB1 := hidp (hb1.alloc hb1.size (.cells #[.int .u8 (k : Int), .string nm, .int .i64 (n : Int)] 38)); clear hb1)
      go_ret2
      exact ⟨rfl, HB1.out⟩
set_option maxHeartbeats 4000000 in
theorem rroom_any (w : World) (t : ByteArray) (hs : t.size ≤ 281474976710656) :
    Calls Tryd.prog 33 #[.string t] w fun e w' => e = .returned (whoV (who 2 t)) ∧ Below w.heap.size w w' := by
  have C := hidp (rparse_any w t hs)
  cases hp : idP t with
  | none =>
    rw [hp] at C
    rw [who_no hp]
    clear hp
    unfold idV idX at C
    unfold whoV
    go_enter Tryd.func33, Tryd.ntmps33
    go_wp2_with (go_at_call 48; (refine C.out.mono ?_); rintro e w1 ⟨rfl, hb1⟩; have HB1 := hidp (hb1.alloc hb1.size (.cells #[.int .u8 0, .string ⟨#[]⟩, .int .i64 0] 38)); clear hb1)
    go_ret2
    exact ⟨rfl, HB1.out⟩
  | some x =>
    obtain ⟨k, nm, n⟩ := x
    rw [hp] at C
    unfold idV idX at C
    by_cases hk : k = 2
    · subst hk
      rw [who_yes hp]
      unfold whoV
      clear hp
      go_enter Tryd.func33, Tryd.ntmps33
      go_wp2_with (go_at_call 48; (refine C.out.mono ?_); rintro e w1 ⟨rfl, hb1⟩; have HB1 := hidp (hb1.alloc hb1.size (.cells #[.int .u8 ((2 : Nat) : Int), .string nm, .int .i64 (n : Int)] 38)); clear hb1)
      go_ret2
      exact ⟨rfl, HB1.out⟩
    · rw [who_other hp hk]
      unfold whoV
      have e0 : ((k : Int) != 2) = true := by simp; omega
      have x0 : ¬ k = 2 := hk
      clear hp
      go_enter Tryd.func33, Tryd.ntmps33
      go_wp2_with (go_at_call 48; (refine C.out.mono ?_); rintro e w1 ⟨rfl, hb1⟩; have HB1 := hidp (hb1.alloc hb1.size (.cells #[.int .u8 (k : Int), .string nm, .int .i64 (n : Int)] 38)); clear hb1)
      go_ret2
      exact ⟨rfl, HB1.out⟩
end Go.Proofs.YtglfdenlgglccaaDoor
