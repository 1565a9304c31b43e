
/-
  ident: Parse, User, Room.
-/
import Derived.Test.YtglfdenlgglccaaDoorIdC
namespace Go.Proofs.YtglfdenlgglccaaDoor
set_option maxRecDepth 100000
set_option linter.unusedVariables false
set_option linter.unusedSimpArgs false
open Go.RowKit

/-- What a parse hands back: the identifier, or none. -/
def idV : Option (Nat × ByteArray × Nat) → Value
  | some (k, nm, n) => .agg #[.int .u8 (k : Int), .string nm, .int .i64 (n : Int)]
  | none => .agg #[.int .u8 0, .string ⟨#[]⟩, .int .i64 0]
def idX : Option (Nat × ByteArray × Nat) → Int
  | some _ => 0
  | none => 6
/-- What the code reads a text as: of a kind, and with what is behind its mark. -/
def codeP (t : ByteArray) (k : Nat) (R : List UInt8) : Option (Nat × ByteArray × Nat) :=
  match Lib.atoiAll (behind R) with
  | .ok v => if idOk k (mkS (upTo R)) v = true ∧ mkS (idL k (mkS (upTo R)) v.toNat) = t then some (k, mkS (upTo R), v.toNat) else none
  | _ => none
theorem codeP_ok {t : ByteArray} {k : Nat} {R : List UInt8} {v : Int} (h : Lib.atoiAll (behind R) = .ok v) : codeP t k R = if idOk k (mkS (upTo R)) v = true ∧ mkS (idL k (mkS (upTo R)) v.toNat) = t then some (k, mkS (upTo R), v.toNat) else none := by unfold codeP; rw [h]
theorem codeP_fails {t : ByteArray} {k : Nat} {R : List UInt8} (h : ∀ v, Lib.atoiAll (behind R) ≠ .ok v) : codeP t k R = none := by
  unfold codeP
  split
  · rename_i v hv; exact absurd hv (h v)
  · rfl
theorem atoi_fails (s : ByteArray) (hlim : s.size ≤ 281474976710656) (h : ∀ v, Lib.atoiAll s.data.toList ≠ .ok v) (w : World) (hI : IT w) :
    Calls Tryd.prog 37 #[.string s] w fun e w' => ∃ N z, e = .returned (.tuple #[.int .i64 z, .iface 95 (.pointer (some ⟨N, 0, none⟩))]) ∧ Below w.heap.size w w' := by
  obtain ⟨-, ⟨t1, p1, h1⟩, ⟨t2, p2, h2⟩⟩ := hI
  rcases ha : Lib.atoiAll s.data.toList with v | _ | _
  · exact absurd ha (h v)
  · refine Calls.mono (Any.strconv_Atoi_syntax Tryd.laysC172 s hlim ha _ w h1 (.inr ⟨_, _, rfl⟩)) ?_
    rintro e w' ⟨N, he, -, -, hb⟩
    exact ⟨N, _, he, hb⟩
  · refine Calls.mono (Any.strconv_Atoi_range Tryd.laysC172 s hlim ha _ w h2 (.inr ⟨_, _, rfl⟩)) ?_
    rintro e w' ⟨N, he, -, -, hb⟩
    exact ⟨N, _, he, hb⟩
theorem codeP_idP {t : ByteArray} {k : Nat} {r : List UInt8} (hk : k = 1 ∨ k = 2) (ht : t.data.toList = kmark k :: r) : codeP t k r = idP t := by
  unfold codeP
  split
  · rename_i v hv; exact (idP_read hk ht v hv).symm
  · rename_i hv; exact (idP_unread ht (fun v h => hv v h)).symm

theorem idT_ne {k : Nat} {nm : ByteArray} {v : Int} {t : ByteArray} (hok : idOk k nm v = true) (h : ¬ (idOk k nm v = true ∧ mkS (idL k nm v.toNat) = t)) : idT k nm v ≠ t := by
  unfold idT; rw [if_pos hok]; intro e; exact h ⟨hok, e⟩
theorem idT_eq {k : Nat} {nm : ByteArray} {v : Int} {t : ByteArray} (h : idOk k nm v = true ∧ mkS (idL k nm v.toNat) = t) : idT k nm v = t := by
  unfold idT; rw [if_pos h.1]; exact h.2
theorem idE_ok {k : Nat} {nm : ByteArray} {v : Int} (h : idOk k nm v = true) : idE k nm v = 0 := by unfold idE; rw [if_pos h]
theorem idE_no {k : Nat} {nm : ByteArray} {v : Int} (h : ¬ idOk k nm v = true) : idE k nm v = 2 := by unfold idE; rw [if_neg h]

theorem bytesW_below (w : World) (t : ByteArray) : Below w.heap.size w (Lib.bytesWorld w 5 t) :=
  Lib.bytesWorld_below _ _ _

set_option maxHeartbeats 8000000 in
theorem parse_w (w : World) (t : ByteArray) (hs : t.size ≤ 281474976710656) (hI : IT w) (k : Nat) (hk : k < 256) (R : List UInt8) (hR : R.length ≤ 281474976710656)
    (hc : Hid (∀ W, IT W → Calls Tryd.prog 35 #[.string t] W fun e w' => e = .returned (.tuple #[.int .u8 (k : Int), .string (mkS R)]) ∧ w' = W)) :
    Calls Tryd.prog 18 #[.string t] w fun e w' => e = .returned (.tuple #[idV (codeP t k R), .int .i64 (idX (codeP t k R))]) ∧ Below w.heap.size w w' := by
  have hle1 := (List.takeWhile_sublist (p := fun x : UInt8 => x != 58) (l := R)).length_le
  have hle2 : (behind R).length ≤ R.length := by
    unfold behind
    have := (List.dropWhile_sublist (p := fun x : UInt8 => x != 58) (l := R)).length_le
    rw [List.length_drop]; omega
  have C1 := hidp (fun W => cut_any W (mkS R) (by rw [mkS_size]; exact hR))
  rw [mkS_data] at C1
  obtain ⟨NM, hNM⟩ : ∃ x, mkS (upTo R) = x := ⟨_, rfl⟩
  obtain ⟨D, hD⟩ : ∃ x, mkS (behind R) = x := ⟨_, rfl⟩
  have hNs : NM.size ≤ 281474976710656 := by rw [← hNM, mkS_size]; unfold upTo; omega
  have hDs : D.size ≤ 281474976710656 := by rw [← hD, mkS_size]; omega
  have hDd : D.data.toList = behind R := by rw [← hD, mkS_data]
  rw [hNM, hD] at C1
  obtain ⟨X, hX⟩ : ∃ x, codeP t k R = x := ⟨_, rfl⟩
  rw [hX]
  have HX := hidp ((Below.refl w.heap.size w).alloc (Nat.le_refl _) (.cells #[.int .u8 0, .string ⟨#[]⟩, .int .i64 0] 38))
  have HA := hidp (Arr.new w 38 [.int .u8 0, .string ⟨#[]⟩, .int .i64 0])
  have HI := hidp hI; clear hI
  by_cases hat : ∃ v, Lib.atoiAll D.data.toList = .ok v
  · obtain ⟨v, hat⟩ := hat
    rw [codeP_ok (by rw [← hDd]; exact hat), hNM] at hX
    clear hle1 hle2 hNM hD hDd
    have CA := hidp (fun W => Tryd.strconv_Atoi_ok D (by omega) v hat W)
    have CT := hidp (fun W h => idText_any W k hk NM hNs v h)
    clear hat
    by_cases hh : idOk k NM v = true ∧ mkS (idL k NM v.toNat) = t
    · rw [if_pos hh] at hX
      rw [idT_eq hh, idE_ok hh.1] at CT
      have hvn := hidp (show ((v.toNat : Nat) : Int) = v from Int.toNat_of_nonneg (idOk_name hh.1).2.1)
      subst hX
      clear hh
      go_enter Tryd.func18, Tryd.ntmps18
      go_wp2_with fail
      refine (hc.out _ (HI.out.below HX.out (Nat.le_refl _))).mono ?_
      rintro e w1 ⟨rfl, rfl⟩
      go_wp2_with fail
      refine (C1.out _).mono ?_
      rintro e w2 ⟨q, rfl, hb2⟩
      have HB2 := hidp (HX.out.trans (hb2.mono HX.out.size)); have HA2 := hidp (HA.out.below hb2 HA.out.lt)
      clear hb2
      go_wp2_with fail
      refine (CA.out _).mono ?_
      rintro e w3 ⟨rfl, hw3⟩
      have hb3 : Below w2.heap.size w2 w3 := by
        rcases hw3 with rfl | ⟨t, rfl⟩
        · exact Below.refl _ _
        · exact bytesW_below _ _
      clear hw3
      have HB3 := hidp (HB2.out.trans (hb3.mono HB2.out.size)); have HA3 := hidp (HA2.out.below hb3 HA2.out.lt)
      clear hb3
      go_wp2_with fail
      have HX4 := hidp (HB3.out.alloc HB3.out.size (.cells #[.int .u8 (k : Int), .string NM, .int .i64 v] 38)); have HA4 := hidp (HA3.out.alloc (.cells #[.int .u8 (k : Int), .string NM, .int .i64 v] 38)); have HN4 := hidp (Arr.new w3 38 [.int .u8 (k : Int), .string NM, .int .i64 v])
      obtain ⟨bi, hbi⟩ : ∃ b, w3.heap.size = b := ⟨_, rfl⟩
      have hge : w.heap.size ≤ bi := by rw [← hbi]; exact HB3.out.size
      have hne : bi ≠ w.heap.size := by have := HA3.out.lt; omega
      generalize hW4 : (w3.alloc (.cells #[.int .u8 (k : Int), .string NM, .int .i64 v] 38)) = W4 at HX4 HA4 HN4 ⊢
      rw [hbi] at HN4 ⊢
      clear hW4 hbi
      refine (CT.out _ (HI.out.below HX4.out (Nat.le_refl _))).mono ?_
      rintro e w5 ⟨rfl, hb5⟩
      have HB5 := hidp (HX4.out.trans (hb5.mono HX4.out.size)); have HA5 := hidp (HA4.out.below hb5 HA4.out.lt); have HN5 := hidp (HN4.out.below hb5 HN4.out.lt)
      clear hb5
      go_wp2_with fail
      refine (strClone_any NM _ hNs).mono ?_
      rintro e w6 ⟨rfl, hb6⟩
      have HB6 := hidp (HB5.out.trans (hb6.mono HB5.out.size)); have HA6 := hidp (HA5.out.below hb6 HA5.out.lt); have HN6 := hidp (HN5.out.below hb6 HN5.out.lt)
      clear hb6
      obtain ⟨r0, r1, r2, rf⟩ := arr3 HA6.out
      have g0 := rf 0; have g1 := rf 1; have g2 := rf 2
      clear rf
      obtain ⟨n0, n1, n2, nf⟩ := arr3 HN6.out
      have f0 := nf 0; have f1 := nf 1; have f2 := nf 2
      clear nf
      go_wp2_with fail
      refine bodyPost_ret (v := .tuple #[.agg #[.int .u8 (k : Int), .string NM, .int .i64 ((v.toNat : Nat) : Int)], .int .i64 0]) (by simp [results, Tryd.results18, go_sem, r0, r1, r2, hvn.out]) rfl ⟨rfl, ?_⟩
      repeat (refine Below.setCell ?_ (by first | exact hge | simp) _)
      exact HB6.out
    · rw [if_neg hh] at hX
      subst hX
      by_cases hok : idOk k NM v = true
      · have ht := toList_no (idT_ne hok hh)
        rw [idE_ok hok] at CT
        obtain ⟨S, hS⟩ : ∃ S, idT k NM v = S := ⟨_, rfl⟩
        rw [hS] at CT ht
        clear hh hok hS
        go_enter Tryd.func18, Tryd.ntmps18
        go_wp2_with fail
        refine (hc.out _ (HI.out.below HX.out (Nat.le_refl _))).mono ?_
        rintro e w1 ⟨rfl, rfl⟩
        go_wp2_with fail
        refine (C1.out _).mono ?_
        rintro e w2 ⟨q, rfl, hb2⟩
        have HB2 := hidp (HX.out.trans (hb2.mono HX.out.size)); have HA2 := hidp (HA.out.below hb2 HA.out.lt)
        clear hb2
        go_wp2_with fail
        refine (CA.out _).mono ?_
        rintro e w3 ⟨rfl, hw3⟩
        have hb3 : Below w2.heap.size w2 w3 := by
          rcases hw3 with rfl | ⟨t, rfl⟩
          · exact Below.refl _ _
          · exact bytesW_below _ _
        clear hw3
        have HB3 := hidp (HB2.out.trans (hb3.mono HB2.out.size)); have HA3 := hidp (HA2.out.below hb3 HA2.out.lt)
        clear hb3
        go_wp2_with fail
        have HX4 := hidp (HB3.out.alloc HB3.out.size (.cells #[.int .u8 (k : Int), .string NM, .int .i64 v] 38)); have HA4 := hidp (HA3.out.alloc (.cells #[.int .u8 (k : Int), .string NM, .int .i64 v] 38)); have HN4 := hidp (Arr.new w3 38 [.int .u8 (k : Int), .string NM, .int .i64 v])
        obtain ⟨bi, hbi⟩ : ∃ b, w3.heap.size = b := ⟨_, rfl⟩
        have hge : w.heap.size ≤ bi := by rw [← hbi]; exact HB3.out.size
        have hne : bi ≠ w.heap.size := by have := HA3.out.lt; omega
        generalize hW4 : (w3.alloc (.cells #[.int .u8 (k : Int), .string NM, .int .i64 v] 38)) = W4 at HX4 HA4 HN4 ⊢
        rw [hbi] at HN4 ⊢
        clear hW4 hbi
        refine (CT.out _ (HI.out.below HX4.out (Nat.le_refl _))).mono ?_
        rintro e w5 ⟨rfl, hb5⟩
        have HB5 := hidp (HX4.out.trans (hb5.mono HX4.out.size)); have HA5 := hidp (HA4.out.below hb5 HA4.out.lt); have HN5 := hidp (HN4.out.below hb5 HN4.out.lt)
        clear hb5
        obtain ⟨r0, r1, r2, rf⟩ := arr3 HA5.out
        have g0 := rf 0; have g1 := rf 1; have g2 := rf 2
        clear rf
        go_wp2_with fail
        refine bodyPost_ret (v := .tuple #[.agg #[.int .u8 0, .string ⟨#[]⟩, .int .i64 0], .int .i64 6]) (by simp [results, Tryd.results18, go_sem, r0, r1, r2]) rfl ⟨rfl, ?_⟩
        repeat (refine Below.setCell ?_ (by simp) _)
        exact HB5.out
      · rw [idE_no hok] at CT
        clear hh hok
        go_enter Tryd.func18, Tryd.ntmps18
        go_wp2_with fail
        refine (hc.out _ (HI.out.below HX.out (Nat.le_refl _))).mono ?_
        rintro e w1 ⟨rfl, rfl⟩
        go_wp2_with fail
        refine (C1.out _).mono ?_
        rintro e w2 ⟨q, rfl, hb2⟩
        have HB2 := hidp (HX.out.trans (hb2.mono HX.out.size)); have HA2 := hidp (HA.out.below hb2 HA.out.lt)
        clear hb2
        go_wp2_with fail
        refine (CA.out _).mono ?_
        rintro e w3 ⟨rfl, hw3⟩
        have hb3 : Below w2.heap.size w2 w3 := by
          rcases hw3 with rfl | ⟨t, rfl⟩
          · exact Below.refl _ _
          · exact bytesW_below _ _
        clear hw3
        have HB3 := hidp (HB2.out.trans (hb3.mono HB2.out.size)); have HA3 := hidp (HA2.out.below hb3 HA2.out.lt)
        clear hb3
        go_wp2_with fail
        have HX4 := hidp (HB3.out.alloc HB3.out.size (.cells #[.int .u8 (k : Int), .string NM, .int .i64 v] 38)); have HA4 := hidp (HA3.out.alloc (.cells #[.int .u8 (k : Int), .string NM, .int .i64 v] 38)); have HN4 := hidp (Arr.new w3 38 [.int .u8 (k : Int), .string NM, .int .i64 v])
        obtain ⟨bi, hbi⟩ : ∃ b, w3.heap.size = b := ⟨_, rfl⟩
        have hge : w.heap.size ≤ bi := by rw [← hbi]; exact HB3.out.size
        have hne : bi ≠ w.heap.size := by have := HA3.out.lt; omega
        generalize hW4 : (w3.alloc (.cells #[.int .u8 (k : Int), .string NM, .int .i64 v] 38)) = W4 at HX4 HA4 HN4 ⊢
        rw [hbi] at HN4 ⊢
        clear hW4 hbi
        refine (CT.out _ (HI.out.below HX4.out (Nat.le_refl _))).mono ?_
        rintro e w5 ⟨rfl, hb5⟩
        have HB5 := hidp (HX4.out.trans (hb5.mono HX4.out.size)); have HA5 := hidp (HA4.out.below hb5 HA4.out.lt); have HN5 := hidp (HN4.out.below hb5 HN4.out.lt)
        clear hb5
        obtain ⟨r0, r1, r2, rf⟩ := arr3 HA5.out
        have g0 := rf 0; have g1 := rf 1; have g2 := rf 2
        clear rf
        go_wp2_with fail
        refine bodyPost_ret (v := .tuple #[.agg #[.int .u8 0, .string ⟨#[]⟩, .int .i64 0], .int .i64 6]) (by simp [results, Tryd.results18, go_sem, r0, r1, r2]) rfl ⟨rfl, ?_⟩
        repeat (refine Below.setCell ?_ (by simp) _)
        exact HB5.out
  · have hat2 : ∀ v, Lib.atoiAll D.data.toList ≠ .ok v := fun v h => hat ⟨v, h⟩
    rw [codeP_fails (by rw [← hDd]; exact hat2)] at hX
    subst hX
    have CA := hidp (fun W (h : IT W) => atoi_fails D hDs hat2 W h)
    have CT := hidp (fun W h z => idText_any W k hk NM hNs z h)
    clear hat hat2 hle1 hle2 hNM hD hDd
    go_enter Tryd.func18, Tryd.ntmps18
    go_wp2_with fail
    refine (hc.out _ (HI.out.below HX.out (Nat.le_refl _))).mono ?_
    rintro e w1 ⟨rfl, rfl⟩
    go_wp2_with fail
    refine (C1.out _).mono ?_
    rintro e w2 ⟨q, rfl, hb2⟩
    have HB2 := hidp (HX.out.trans (hb2.mono HX.out.size)); have HA2 := hidp (HA.out.below hb2 HA.out.lt)
    clear hb2
    go_wp2_with fail
    refine (CA.out _ (HI.out.below HB2.out (Nat.le_refl _))).mono ?_
    rintro e w3 ⟨N, z, rfl, hb3⟩
    have HB3 := hidp (HB2.out.trans (hb3.mono HB2.out.size)); have HA3 := hidp (HA2.out.below hb3 HA2.out.lt)
    clear hb3
    go_wp2_with fail
    have HX4 := hidp (HB3.out.alloc HB3.out.size (.cells #[.int .u8 (k : Int), .string NM, .int .i64 z] 38)); have HA4 := hidp (HA3.out.alloc (.cells #[.int .u8 (k : Int), .string NM, .int .i64 z] 38)); have HN4 := hidp (Arr.new w3 38 [.int .u8 (k : Int), .string NM, .int .i64 z])
    obtain ⟨bi, hbi⟩ : ∃ b, w3.heap.size = b := ⟨_, rfl⟩
    have hge : w.heap.size ≤ bi := by rw [← hbi]; exact HB3.out.size
    have hne : bi ≠ w.heap.size := by have := HA3.out.lt; omega
    generalize hW4 : (w3.alloc (.cells #[.int .u8 (k : Int), .string NM, .int .i64 z] 38)) = W4 at HX4 HA4 HN4 ⊢
    rw [hbi] at HN4 ⊢
    clear hW4 hbi
    refine (CT.out _ (HI.out.below HX4.out (Nat.le_refl _)) z).mono ?_
    rintro e w5 ⟨rfl, hb5⟩
    have HB5 := hidp (HX4.out.trans (hb5.mono HX4.out.size)); have HA5 := hidp (HA4.out.below hb5 HA4.out.lt); have HN5 := hidp (HN4.out.below hb5 HN4.out.lt)
    clear hb5
    obtain ⟨r0, r1, r2, rf⟩ := arr3 HA5.out
    have g0 := rf 0; have g1 := rf 1; have g2 := rf 2
    clear rf
    go_wp2_with fail
    refine bodyPost_ret (v := .tuple #[.agg #[.int .u8 0, .string ⟨#[]⟩, .int .i64 0], .int .i64 6]) (by simp [results, Tryd.results18, go_sem, r0, r1, r2]) rfl ⟨rfl, ?_⟩
    repeat (refine Below.setCell ?_ (by simp) _)
    exact HB5.out
end Go.Proofs.YtglfdenlgglccaaDoor
