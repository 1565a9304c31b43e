
/-
  StoreKeeps: the walk.
-/
import Derived.Test.YtglfdenlgglccaaStoQ
namespace Go.Proofs.Ytglfdenlgglccaa
set_option maxRecDepth 100000
set_option linter.unusedVariables false
set_option linter.unusedSimpArgs false
open Go.RowKit

/-- What holds at a round's head. -/
def SkI (w : World) (bd : Nat) (room : Int) (len : Nat) (t7 t8 t9 t10 t46 : Value) (wr : World) : Prop := ∃ (i p n cp mo : Nat) (rs al : List ByteArray) (va : Option Addr) (vc : Nat), t46 = .int .i64 i ∧ i ≤ len ∧ t7 = .slice va al.length vc ∧ t8 = .int .i64 n ∧ t9 = .int .i64 cp ∧ t10 = .int .i64 mo ∧ p ≤ rs.length ∧ (∀ t ∈ rs, t.size ≤ 8192) ∧ ((cat rs).length : Int) ≤ room ∧ ld rs = (al, mo, 0) ∧ (∃ ep, ld (rs.take p) = (ep, cp, 0) ∧ ep.length = n) ∧
  OwnV wr w.heap.size 9 (.slice va al.length vc) (strV al) ∧ Arr wr bd 23 [.string (mkS (cat rs)), .int .i64 (((cat (rs.take p)).length : Nat) : Int), .int .i64 room] ∧ Below w.heap.size w wr
set_option maxHeartbeats 16000000 in
theorem sk_some (w : World) (room : Int) (h0 : 0 ≤ room) (h1 : room ≤ 1048576) (B o c len : Nat) (hlen : len ≤ 60) (hc : len ≤ c) (hB : B < w.heap.size) (hl : Hid (∀ i, i < len → ∃ k t n b, ActAt w B (o + i * 4) k t n b)) :
    Calls Try.prog 5 #[.int .i64 room, .slice (some ⟨B, o, none⟩) len c] w fun e w' => e = .returned (.bool true) ∧ Below w.heap.size w w' := by
  obtain ⟨i0, hi, hz0, hz1, hz2⟩ := info_parts info9
  have HI := hidp hi; have HZ0 := hidp hz0; have HZ1 := hidp hz1; have HZ2 := hidp hz2
  clear hi hz0 hz1 hz2
  have c0 := hidp lives10_any
  have c1 := hidp (fun W => new_ok W room h0 h1)
  have hd : decide ((60 : Int) < (len : Int)) = false := by simp; omega
  go_enter Try.func5, Try.ntmps5
  go_wp2_with fail
  refine (c0.out _).mono ?_
  rintro e w1 ⟨rfl, hb1⟩
  have HB1 := hidp hb1; clear hb1
  go_wp2_with fail
  refine (c1.out _).mono ?_
  rintro e w2 ⟨rfl, hb2⟩
  have HB2 := hidp (HB1.out.trans (hb2.mono HB1.out.size)); clear hb2
  have hle2 := HB2.out.size
  go_wp2_with fail
  have HX2 := hidp (HB2.out.alloc hle2 (.cells #[.string ⟨#[]⟩, .int .i64 0, .int .i64 room] 23))
  have Gd2 := hidp (Arr.new w2 23 [.string ⟨#[]⟩, .int .i64 0, .int .i64 room])
  obtain ⟨bd, hbd⟩ : ∃ b, w2.heap.size = b := ⟨_, rfl⟩
  generalize hW2 : (w2.alloc (.cells #[.string ⟨#[]⟩, .int .i64 0, .int .i64 room] 23)) = W2 at HX2 Gd2 ⊢
  rw [hbd] at Gd2 ⊢
  have hged : w.heap.size ≤ bd := by rw [← hbd]; exact hle2
  clear hW2 hbd
  go_loopw [7, 8, 9, 10, 46] (fun t7 t8 t9 t10 t46 wr => SkI w bd room len t7 t8 t9 t10 t46 wr) (fun _ _ _ _ t46 _ => len - (intOf t46).toNat)
  case atStart => exact ⟨0, 0, 0, 0, 0, [], [], none, 0, rfl, by omega, rfl, rfl, rfl, rfl, by simp, by simp, by simpa [cat] using h0, rfl, ⟨[], rfl, rfl⟩, OwnV.nil _ _ _, Gd2.out, HX2.out⟩
  case round =>
    obtain ⟨i, p, n, cp, mo, rs, al, va, vc, rfl, hi, rfl, rfl, rfl, rfl, hp, h8, hr, hld, ⟨ep, hep, hepn⟩, hown, harr, hbw⟩ := hrel
    have hle := hbw.size
    obtain ⟨xa, vcx, hve, hvc⟩ := hown.formS
    simp only [Value.slice.injEq] at hve
    obtain ⟨-, -, rfl⟩ := hve
    have hcnt := cat_count rs
    have hbd2 := ld_bd rs
    rw [hld] at hbd2
    obtain ⟨hal, hal8, hmo, -⟩ := hbd2
    simp only at hal hal8 hmo
    obtain ⟨A, hA⟩ : ∃ A, mkS (cat rs) = A := ⟨_, rfl⟩
    obtain ⟨N, hN⟩ : ∃ N, (cat rs).length = N := ⟨_, rfl⟩
    obtain ⟨y, hy⟩ : ∃ y, (cat (rs.take p)).length = y := ⟨_, rfl⟩
    have hyN : y ≤ N := by
      rw [← hy, ← hN]
      have e : cat rs = cat (rs.take p) ++ cat (rs.drop p) := by rw [← cat_append, List.take_append_drop]
      rw [e, List.length_append]; omega
    have hAs : A.size = N := by rw [← hA, mkS_size, hN]
    rw [hA, hy] at harr
    rw [hN] at hr hcnt
    obtain ⟨ln, hlnn⟩ : ∃ q, al.length = q := ⟨_, rfl⟩
    rw [hlnn] at hown hvc hal ⊢
    have HO := hidp hown; have HD := hidp harr; have HB := hidp hbw
    have HA := hidp hA; have HN := hidp hN; have HY := hidp hy; have H8 := hidp h8; have HLN := hidp hlnn; have HLD := hidp hld; have HAL8 := hidp hal8
    have HEP := hidp hep; have HEPN := hidp hepn
    have hltD := HD.out.lt
    have okd : Hid (okD A (y : Int) room) := ⟨by omega, by omega, by omega, h1⟩
    have q1 := fun W => neq_disk W A y room
    have hnr : N ≤ 1048576 := by omega
    have hln1 : ln ≤ 1048576 := by omega
    have hls : (strV al).length = ln := by rw [strV_length]; exact hlnn
    clear hown harr hbw hA hN hy h8 hlnn c0 c1 hld hal8 hep hepn hal
    by_cases hlt : i < len
    · obtain ⟨k, t, m, bb, ha⟩ := hl.out i hlt
      have ha := ha.below HB.out hB
      obtain ⟨y0, y1, y2, y3⟩ := ha
      obtain ⟨d0, d1, d2, df⟩ := arr3 HD.out
      clear df
      by_cases hk0 : k = 0
      · have e0k : (k == 0) = true := by simpa using hk0
        clear hk0
        by_cases ht8 : t.size ≤ 8192
        · by_cases he8 : (entR t).size ≤ 8192
          · by_cases hfit : ((recB (entR t)).length : Int) ≤ room - A.size
            · as_aux_lemma =>
                have cc := hidp (fun W => pute_add W A y room t ht8 _ _ _ _ (fun W => add_ok W A y room (entR t) okd.out he8 hfit))
                obtain ⟨U, hU⟩ : ∃ U, A ++ mkS (recB (entR t)) = U := ⟨_, rfl⟩
                have HU := hidp (show mkS (cat (rs ++ [entR t])) = U from by rw [← hU, cat_snoc, ← mkS_append, HA.out])
                rw [hU] at cc
                clear hU
                have hM0 : (cat (rs ++ [entR t])).length = N + (recB (entR t)).length := by rw [cat_snoc, List.length_append, HN.out]
                have H8n := hidp (show ∀ zz ∈ rs ++ [entR t], zz.size ≤ 8192 from fun zz hzz => by
                  rcases List.mem_append.1 hzz with h | h
                  · exact H8.out zz h
                  · simp at h; subst h; exact he8)
                have ht0 : (rs ++ [entR t]).take p = rs.take p := List.take_append_of_le_length hp
                have HLD2 := hidp (ld_snoc_ent HLD.out ht8)
                have hp2 : p ≤ (rs ++ [entR t]).length := by rw [List.length_append]; omega
                obtain ⟨rs2, hrs2⟩ : ∃ zr, rs ++ [entR t] = zr := ⟨_, rfl⟩
                rw [hrs2] at HU hM0 H8n ht0 HLD2 hp2
                obtain ⟨M, hM⟩ : ∃ M, (cat rs2).length = M := ⟨_, rfl⟩
                rw [hM] at hM0
                have HM := hidp hM
                have hMr : (M : Int) ≤ room := by omega
                have hUs : U.size = M := by rw [← HU.out, mkS_size]; exact hM
                have HDn := hidp (show ∀ W, Arr W bd 23 [.string U, .int .i64 ((y : Nat) : Int), .int .i64 room] → Arr W bd 23 [.string (mkS (cat rs2)), .int .i64 (((cat (rs2.take p)).length : Nat) : Int), .int .i64 room] from fun W h => by
                  rw [HU.out, ht0, HY.out]; exact h)
                have HEP2 := hidp (show ld (rs2.take p) = (ep, cp, 0) from by rw [ht0]; exact HEP.out)
                clear hM hM0 ht0 hrs2 hfit
                have hl0 : (al ++ [t]).length = ln + 1 := by rw [List.length_append, HLN.out]; rfl
                obtain ⟨al2, hal2⟩ : ∃ q, al ++ [t] = q := ⟨_, rfl⟩
                rw [hal2] at HLD2 hl0
                have HA2 := hidp hal2
                have hln : al2.length ≤ 140737488351232 := by omega
                have HL2 := hidp hl0
                have cR := hidp (fun W => load_rs W rs2 H8n.out al2 mo HLD2.out U HU.out (by omega))
                clear hl0 hal2 ht8 he8
                go_wp2_with fail
                clear d0 d1 d2 y0 y1 y2 y3
                have HX := hidp ((HB.out.alloc hle (.cells #[.int .i64 k, .string t, .int .i64 m, .int .u8 (bb.toNat : Int)] 43)).alloc (HB.out.alloc hle (.cells #[.int .i64 k, .string t, .int .i64 m, .int .u8 (bb.toNat : Int)] 43)).size (.cells #[.string A, .int .i64 ((y : Nat) : Int), .int .i64 room] 23))
                have HDX := hidp ((HD.out.alloc (.cells #[.int .i64 k, .string t, .int .i64 m, .int .u8 (bb.toNat : Int)] 43)).alloc (.cells #[.string A, .int .i64 ((y : Nat) : Int), .int .i64 room] 23)); have HOX := hidp ((HO.out.alloc (.cells #[.int .i64 k, .string t, .int .i64 m, .int .u8 (bb.toNat : Int)] 43)).alloc (.cells #[.string A, .int .i64 ((y : Nat) : Int), .int .i64 room] 23)); have HAX := hidp ((Arr.new wr 43 [.int .i64 k, .string t, .int .i64 m, .int .u8 (bb.toNat : Int)]).alloc (.cells #[.string A, .int .i64 ((y : Nat) : Int), .int .i64 room] 23))
                have HEX := hidp (show Arr _ (wr.heap.size + 1) 23 [.string A, .int .i64 ((y : Nat) : Int), .int .i64 room] from by
                  have h := Arr.new (wr.alloc (.cells #[.int .i64 k, .string t, .int .i64 m, .int .u8 (bb.toNat : Int)] 43)) 23 [.string A, .int .i64 ((y : Nat) : Int), .int .i64 room]
                  rw [heap_size_alloc] at h
                  exact h)
                obtain ⟨bx, hbx⟩ : ∃ b, wr.heap.size = b := ⟨_, rfl⟩
                have hgex : w.heap.size ≤ bx := by rw [← hbx]; exact hle
                have hnxd : bx ≠ bd := by rw [← hbx]; omega
                have hned0 : bx + 1 ≠ bd := by rw [← hbx]; omega
                generalize hWX : ((wr.alloc (.cells #[.int .i64 k, .string t, .int .i64 m, .int .u8 (bb.toNat : Int)] 43)).alloc (.cells #[.string A, .int .i64 ((y : Nat) : Int), .int .i64 room] 23)) = WX at HX HDX HOX HAX HEX ⊢
                rw [hbx] at HAX HEX ⊢
                obtain ⟨be, hbe⟩ : ∃ b, bx + 1 = b := ⟨_, rfl⟩
                rw [hbe] at HEX hned0 ⊢
                have hned : be ≠ bd := hned0
                have hnde : bd ≠ be := fun h => hned0 h.symm
                have hnxe : bx ≠ be := by omega
                have hgee : w.heap.size ≤ be := by omega
                clear hWX hbx hle hned0 hbe
                refine (cc.out _).mono ?_
                rintro e w3 ⟨rfl, hb3⟩
                have HB3 := hidp (HX.out.trans (hb3.mono HX.out.size))
                have HD3 := hidp (HDX.out.below hb3 HDX.out.lt)
                have HA3 := hidp (HAX.out.below hb3 HAX.out.lt)
                have HE3 := hidp (HEX.out.below hb3 HEX.out.lt)
                have HO3 := hidp (HOX.out.kept hb3 (Nat.le_refl _))
                have hle3 := HB3.out.size
                clear hb3
                obtain ⟨d0, d1, d2, df⟩ := arr3 HD3.out
                have df0 := df 0; have df1 := df 1; have df2 := df 2
                clear df
                obtain ⟨e0, e1, e2, ef⟩ := arr3 HE3.out
                have ef0 := ef 0; have ef1 := ef 1; have ef2 := ef 2
                clear ef
                obtain ⟨y0, y1, y2, y3⟩ := arr4 HA3.out
                have hltx3 := HA3.out.lt; have hltd3 := HD3.out.lt; have hlte3 := HE3.out.lt
                go_wp2_with ((at_builtin; (refine wpList_appW rfl (.tmp 64) (.tmp 67) 31 rfl w.heap.size 9 i0 _ 16 Try.underlying31 HI.out HZ0.out HZ1.out HZ2.out rfl _ (strV al) rfl ?_ _ _ (.string t) rfl ?_ rfl ?_ ?_ ?_ ?_)))
                · exact (HO3.out.put3 HE3.out (by decide) (.string U) (.int .i64 ((y : Nat) : Int)) (.int .i64 room)).alloc _
                · have h := cell_new1 (((w3.setCell ⟨be, 0, none⟩ (.string U)).setCell ⟨be, 1, none⟩ (.int .i64 ((y : Nat) : Int))).setCell ⟨be, 2, none⟩ (.int .i64 room)) (.string t) 9
                  first | (rw [show ((((w3.setCell ⟨be, 0, none⟩ (.string U)).setCell ⟨be, 1, none⟩ (.int .i64 ((y : Nat) : Int))).setCell ⟨be, 2, none⟩ (.int .i64 room))).heap.size = w3.heap.size from by simp] at h; exact h) | simpa using h
                · unfold maxLen; omega
                · omega
                · simp; omega
                · intro v' w4 ho4 hb4 hg4
                  clear d0 df0 d1 df1 d2 df2 e0 ef0 e1 ef1 e2 ef2 y0 y1 y2 y3
                  have HO3p := hidp (HO3.out.put3 HE3.out (by decide) (.string U) (.int .i64 ((y : Nat) : Int)) (.int .i64 room))
                  have HE3p := hidp (arr3_set HE3.out (.string U) (.int .i64 ((y : Nat) : Int)) (.int .i64 room)); have HD3p := hidp (HD3.out.put3 hnde (.string U) (.int .i64 ((y : Nat) : Int)) (.int .i64 room)); have HB3p := hidp (below_put3 HB3.out hgee (.string U) (.int .i64 ((y : Nat) : Int)) (.int .i64 room))
                  have HB4 := hidp ((HB3p.out.alloc HB3p.out.size (.cells #[.string t] 9)).trans hb4)
                  have HO3x := hidp (HO3p.out.alloc (.cells #[.string t] 9))
                  have HD4 := hidp ((HD3p.out.alloc (.cells #[.string t] 9)).grown (by decide) HO3x.out hg4)
                  have HE4 := hidp ((HE3p.out.alloc (.cells #[.string t] 9)).grown (by decide) HO3x.out hg4)
                  rw [strV_snoc, HA2.out] at ho4
                  obtain ⟨xa2, xc2, hv4, -⟩ := ho4.formS
                  rw [HL2.out] at hv4
                  subst hv4
                  have HO4 := hidp ho4
                  clear hb4 hg4 ho4 HO3x HO3p HE3p HD3p HB3p hltx3 hltd3 hlte3
                  obtain ⟨d0, d1, d2, df⟩ := arr3 HD4.out
                  have df0 := df 0; have df1 := df 1; have df2 := df 2
                  clear df
                  obtain ⟨e0, e1, e2, ef⟩ := arr3 HE4.out
                  have ef0 := ef 0; have ef1 := ef 1; have ef2 := ef 2
                  clear ef
                  go_wp2_with fail
                  clear d0 df0 d1 df1 d2 df2 e0 ef0 e1 ef1 e2 ef2
                  have HD9 := hidp (arr3_set HD4.out (.string U) (.int .i64 ((y : Nat) : Int)) (.int .i64 room)); have HO9 := hidp (HO4.out.put3 HD4.out (by decide) (.string U) (.int .i64 ((y : Nat) : Int)) (.int .i64 room)); have HB9 := hidp (below_put3 HB4.out hged (.string U) (.int .i64 ((y : Nat) : Int)) (.int .i64 room))
                  generalize hW9 : (((w4.setCell ⟨bd, 0, none⟩ (.string U)).setCell ⟨bd, 1, none⟩ (.int .i64 ((y : Nat) : Int))).setCell ⟨bd, 2, none⟩ (.int .i64 room)) = W9 at HD9 HO9 HB9 ⊢
                  clear hW9
                  refine (cR.out _).mono ?_
                  rintro e wR ⟨vr, rfl, hvr, hbr⟩
                  obtain ⟨ra, rcc, hre, -⟩ := hvr.formS
                  rw [HL2.out] at hre
                  subst hre
                  have HBR := hidp (HB9.out.trans (hbr.mono HB9.out.size)); have HDR := hidp (HD9.out.below hbr HD9.out.lt); have HOR := hidp (HO9.out.kept hbr (Nat.le_refl _)); have HVR := hidp hvr
                  clear hbr hvr
                  have HBQ := hidp (HBR.out.alloc HBR.out.size (.cells #[.slice ra (ln + 1) rcc, .int .i64 ((mo : Nat) : Int)] 33)); have HDQ := hidp (HDR.out.alloc (.cells #[.slice ra (ln + 1) rcc, .int .i64 ((mo : Nat) : Int)] 33)); have HOQ := hidp (HOR.out.alloc (.cells #[.slice ra (ln + 1) rcc, .int .i64 ((mo : Nat) : Int)] 33))
                  have HS := hidp (same_any (wR.alloc (.cells #[.slice ra (ln + 1) rcc, .int .i64 ((mo : Nat) : Int)] 33)) _ _ _ _ (OwnV.strs (HVR.out.alloc _)) (OwnV.strs HOQ.out) hln hln)
                  rw [sameB_self] at HS
                  have HNW := hidp (Arr.new wR 33 [.slice ra (ln + 1) rcc, .int .i64 ((mo : Nat) : Int)])
                  have qmo : (((mo : Nat) : Int) != ((mo : Nat) : Int)) = false := by simp
                  go_wp2_with fail
                  generalize hWQ : (wR.alloc (.cells #[.slice ra (ln + 1) rcc, .int .i64 ((mo : Nat) : Int)] 33)) = WQ at HBQ HDQ HOQ HS HNW ⊢
                  obtain ⟨bq, hbq⟩ : ∃ b, wR.heap.size = b := ⟨_, rfl⟩
                  rw [hbq] at HNW ⊢
                  clear hWQ hbq
                  refine HS.out.mono ?_
                  rintro e wS ⟨rfl, hbs⟩
                  have HBS := hidp (HBQ.out.trans (hbs.mono HBQ.out.size)); have HDS := hidp (HDQ.out.below hbs HDQ.out.lt); have HOS := hidp (HOQ.out.kept hbs (Nat.le_refl _)); have HNS := hidp (HNW.out.below hbs HNW.out.lt)
                  clear hbs
                  obtain ⟨n0, n1, nf⟩ := arr2 HNS.out
                  clear nf
                  go_wp2_with fail
                  exact ⟨⟨i + 1, p, n, cp, mo, rs2, al2, xa2, xc2, by go_num, by omega, (by rw [HL2.out]), rfl, rfl, rfl, hp2, H8n.out, (by rw [HM.out]; exact hMr), HLD2.out, ⟨ep, HEP2.out, HEPN.out⟩, (by rw [HL2.out]; exact HOS.out), (HDn.out _ HDS.out), HBS.out⟩, by simp [intOf]; omega⟩
            · have cc := hidp (fun W => pute_add W A y room t ht8 A y room 8 (fun W => add_full W A y room (entR t) okd.out he8 (by omega)))
              clear hfit
              have hln : al.length ≤ 140737488351232 := by have := HLN.out; omega
              have cR := hidp (fun W => load_rs W rs H8.out al mo HLD.out A HA.out (by omega))
              go_wp2_with fail
              clear d0 d1 d2 y0 y1 y2 y3
              have HX := hidp ((HB.out.alloc hle (.cells #[.int .i64 k, .string t, .int .i64 m, .int .u8 (bb.toNat : Int)] 43)).alloc (HB.out.alloc hle (.cells #[.int .i64 k, .string t, .int .i64 m, .int .u8 (bb.toNat : Int)] 43)).size (.cells #[.string A, .int .i64 ((y : Nat) : Int), .int .i64 room] 23))
              have HDX := hidp ((HD.out.alloc (.cells #[.int .i64 k, .string t, .int .i64 m, .int .u8 (bb.toNat : Int)] 43)).alloc (.cells #[.string A, .int .i64 ((y : Nat) : Int), .int .i64 room] 23)); have HOX := hidp ((HO.out.alloc (.cells #[.int .i64 k, .string t, .int .i64 m, .int .u8 (bb.toNat : Int)] 43)).alloc (.cells #[.string A, .int .i64 ((y : Nat) : Int), .int .i64 room] 23)); have HAX := hidp ((Arr.new wr 43 [.int .i64 k, .string t, .int .i64 m, .int .u8 (bb.toNat : Int)]).alloc (.cells #[.string A, .int .i64 ((y : Nat) : Int), .int .i64 room] 23))
              have HEX := hidp (show Arr _ (wr.heap.size + 1) 23 [.string A, .int .i64 ((y : Nat) : Int), .int .i64 room] from by
                have h := Arr.new (wr.alloc (.cells #[.int .i64 k, .string t, .int .i64 m, .int .u8 (bb.toNat : Int)] 43)) 23 [.string A, .int .i64 ((y : Nat) : Int), .int .i64 room]
                rw [heap_size_alloc] at h
                exact h)
              obtain ⟨bx, hbx⟩ : ∃ b, wr.heap.size = b := ⟨_, rfl⟩
              have hgex : w.heap.size ≤ bx := by rw [← hbx]; exact hle
              have hnxd : bx ≠ bd := by rw [← hbx]; omega
              have hned0 : bx + 1 ≠ bd := by rw [← hbx]; omega
              generalize hWX : ((wr.alloc (.cells #[.int .i64 k, .string t, .int .i64 m, .int .u8 (bb.toNat : Int)] 43)).alloc (.cells #[.string A, .int .i64 ((y : Nat) : Int), .int .i64 room] 23)) = WX at HX HDX HOX HAX HEX ⊢
              rw [hbx] at HAX HEX ⊢
              obtain ⟨be, hbe⟩ : ∃ b, bx + 1 = b := ⟨_, rfl⟩
              rw [hbe] at HEX hned0 ⊢
              have hned : be ≠ bd := hned0
              have hnde : bd ≠ be := fun h => hned0 h.symm
              have hnxe : bx ≠ be := by omega
              have hgee : w.heap.size ≤ be := by omega
              clear hWX hbx hle hned0 hbe
              refine (cc.out _).mono ?_
              rintro e w3 ⟨rfl, hb3⟩
              have HB3 := hidp (HX.out.trans (hb3.mono HX.out.size))
              have HD3 := hidp (HDX.out.below hb3 HDX.out.lt)
              have HA3 := hidp (HAX.out.below hb3 HAX.out.lt)
              have HE3 := hidp (HEX.out.below hb3 HEX.out.lt)
              have HO3 := hidp (HOX.out.kept hb3 (Nat.le_refl _))
              have hle3 := HB3.out.size
              clear hb3
              obtain ⟨d0, d1, d2, df⟩ := arr3 HD3.out
              have df0 := df 0; have df1 := df 1; have df2 := df 2
              clear df
              obtain ⟨e0, e1, e2, ef⟩ := arr3 HE3.out
              have ef0 := ef 0; have ef1 := ef 1; have ef2 := ef 2
              clear ef
              go_wp2_with fail
              clear d0 df0 d1 df1 d2 df2 e0 ef0 e1 ef1 e2 ef2
              have HE8 := hidp (arr3_set HE3.out (.string A) (.int .i64 ((y : Nat) : Int)) (.int .i64 room)); have HD8 := hidp (HD3.out.put3 hnde (.string A) (.int .i64 ((y : Nat) : Int)) (.int .i64 room)); have HO8 := hidp (HO3.out.put3 HE3.out (by decide) (.string A) (.int .i64 ((y : Nat) : Int)) (.int .i64 room)); have HB8 := hidp (below_put3 HB3.out hgee (.string A) (.int .i64 ((y : Nat) : Int)) (.int .i64 room))
              have HD9 := hidp (arr3_set HD8.out (.string A) (.int .i64 ((y : Nat) : Int)) (.int .i64 room)); have HO9 := hidp (HO8.out.put3 HD8.out (by decide) (.string A) (.int .i64 ((y : Nat) : Int)) (.int .i64 room)); have HB9 := hidp (below_put3 HB8.out hged (.string A) (.int .i64 ((y : Nat) : Int)) (.int .i64 room))
              generalize hW9 : ((((((w3.setCell ⟨be, 0, none⟩ (.string A)).setCell ⟨be, 1, none⟩ (.int .i64 ((y : Nat) : Int))).setCell ⟨be, 2, none⟩ (.int .i64 room)).setCell ⟨bd, 0, none⟩ (.string A)).setCell ⟨bd, 1, none⟩ (.int .i64 ((y : Nat) : Int))).setCell ⟨bd, 2, none⟩ (.int .i64 room)) = W9 at HD9 HO9 HB9 ⊢
              clear hW9 HE8 HD8 HO8 HB8
              refine (cR.out _).mono ?_
              rintro e wR ⟨vr, rfl, hvr, hbr⟩
              obtain ⟨ra, rcc, hre, -⟩ := hvr.formS
              rw [HLN.out] at hre
              subst hre
              have HBR := hidp (HB9.out.trans (hbr.mono HB9.out.size)); have HDR := hidp (HD9.out.below hbr HD9.out.lt); have HOR := hidp (HO9.out.kept hbr (Nat.le_refl _)); have HVR := hidp hvr
              clear hbr hvr
              have HBQ := hidp (HBR.out.alloc HBR.out.size (.cells #[.slice ra ln rcc, .int .i64 ((mo : Nat) : Int)] 33)); have HDQ := hidp (HDR.out.alloc (.cells #[.slice ra ln rcc, .int .i64 ((mo : Nat) : Int)] 33)); have HOQ := hidp (HOR.out.alloc (.cells #[.slice ra ln rcc, .int .i64 ((mo : Nat) : Int)] 33))
              have HS := hidp (same_any (wR.alloc (.cells #[.slice ra ln rcc, .int .i64 ((mo : Nat) : Int)] 33)) _ _ _ _ (OwnV.strs (HVR.out.alloc _)) (OwnV.strs HOQ.out) hln hln)
              rw [sameB_self] at HS
              have HNW := hidp (Arr.new wR 33 [.slice ra ln rcc, .int .i64 ((mo : Nat) : Int)])
              have qmo : (((mo : Nat) : Int) != ((mo : Nat) : Int)) = false := by simp
              go_wp2_with fail
              generalize hWQ : (wR.alloc (.cells #[.slice ra ln rcc, .int .i64 ((mo : Nat) : Int)] 33)) = WQ at HBQ HDQ HOQ HS HNW ⊢
              obtain ⟨bq, hbq⟩ : ∃ b, wR.heap.size = b := ⟨_, rfl⟩
              rw [hbq] at HNW ⊢
              clear hWQ hbq
              refine HS.out.mono ?_
              rintro e wS ⟨rfl, hbs⟩
              have HBS := hidp (HBQ.out.trans (hbs.mono HBQ.out.size)); have HDS := hidp (HDQ.out.below hbs HDQ.out.lt); have HOS := hidp (HOQ.out.kept hbs (Nat.le_refl _)); have HNS := hidp (HNW.out.below hbs HNW.out.lt)
              clear hbs
              obtain ⟨n0, n1, nf⟩ := arr2 HNS.out
              clear nf
              go_wp2_with fail
              exact ⟨⟨i + 1, p, n, cp, mo, rs, al, va, vc, by go_num, by omega, (by rw [HLN.out]), rfl, rfl, rfl, hp, H8.out, (by rw [HN.out]; exact hr), HLD.out, ⟨ep, HEP.out, HEPN.out⟩, (by rw [HLN.out]; exact HOS.out), (by rw [HA.out, HY.out]; exact HDS.out), HBS.out⟩, by simp [intOf]; omega⟩
          · as_aux_lemma =>
              have cc := hidp (fun W => pute_longer' W A y room t okd.out ht8 he8)
              clear ht8 he8
              have hln : al.length ≤ 140737488351232 := by have := HLN.out; omega
              have cR := hidp (fun W => load_rs W rs H8.out al mo HLD.out A HA.out (by omega))
              go_wp2_with fail
              clear d0 d1 d2 y0 y1 y2 y3
              have HX := hidp ((HB.out.alloc hle (.cells #[.int .i64 k, .string t, .int .i64 m, .int .u8 (bb.toNat : Int)] 43)).alloc (HB.out.alloc hle (.cells #[.int .i64 k, .string t, .int .i64 m, .int .u8 (bb.toNat : Int)] 43)).size (.cells #[.string A, .int .i64 ((y : Nat) : Int), .int .i64 room] 23))
              have HDX := hidp ((HD.out.alloc (.cells #[.int .i64 k, .string t, .int .i64 m, .int .u8 (bb.toNat : Int)] 43)).alloc (.cells #[.string A, .int .i64 ((y : Nat) : Int), .int .i64 room] 23)); have HOX := hidp ((HO.out.alloc (.cells #[.int .i64 k, .string t, .int .i64 m, .int .u8 (bb.toNat : Int)] 43)).alloc (.cells #[.string A, .int .i64 ((y : Nat) : Int), .int .i64 room] 23)); have HAX := hidp ((Arr.new wr 43 [.int .i64 k, .string t, .int .i64 m, .int .u8 (bb.toNat : Int)]).alloc (.cells #[.string A, .int .i64 ((y : Nat) : Int), .int .i64 room] 23))
              have HEX := hidp (show Arr _ (wr.heap.size + 1) 23 [.string A, .int .i64 ((y : Nat) : Int), .int .i64 room] from by
                have h := Arr.new (wr.alloc (.cells #[.int .i64 k, .string t, .int .i64 m, .int .u8 (bb.toNat : Int)] 43)) 23 [.string A, .int .i64 ((y : Nat) : Int), .int .i64 room]
                rw [heap_size_alloc] at h
                exact h)
              obtain ⟨bx, hbx⟩ : ∃ b, wr.heap.size = b := ⟨_, rfl⟩
              have hgex : w.heap.size ≤ bx := by rw [← hbx]; exact hle
              have hnxd : bx ≠ bd := by rw [← hbx]; omega
              have hned0 : bx + 1 ≠ bd := by rw [← hbx]; omega
              generalize hWX : ((wr.alloc (.cells #[.int .i64 k, .string t, .int .i64 m, .int .u8 (bb.toNat : Int)] 43)).alloc (.cells #[.string A, .int .i64 ((y : Nat) : Int), .int .i64 room] 23)) = WX at HX HDX HOX HAX HEX ⊢
              rw [hbx] at HAX HEX ⊢
              obtain ⟨be, hbe⟩ : ∃ b, bx + 1 = b := ⟨_, rfl⟩
              rw [hbe] at HEX hned0 ⊢
              have hned : be ≠ bd := hned0
              have hnde : bd ≠ be := fun h => hned0 h.symm
              have hnxe : bx ≠ be := by omega
              have hgee : w.heap.size ≤ be := by omega
              clear hWX hbx hle hned0 hbe
              refine (cc.out _).mono ?_
              rintro e w3 ⟨rfl, hb3⟩
              have HB3 := hidp (HX.out.trans (hb3.mono HX.out.size))
              have HD3 := hidp (HDX.out.below hb3 HDX.out.lt)
              have HA3 := hidp (HAX.out.below hb3 HAX.out.lt)
              have HE3 := hidp (HEX.out.below hb3 HEX.out.lt)
              have HO3 := hidp (HOX.out.kept hb3 (Nat.le_refl _))
              have hle3 := HB3.out.size
              clear hb3
              obtain ⟨d0, d1, d2, df⟩ := arr3 HD3.out
              have df0 := df 0; have df1 := df 1; have df2 := df 2
              clear df
              obtain ⟨e0, e1, e2, ef⟩ := arr3 HE3.out
              have ef0 := ef 0; have ef1 := ef 1; have ef2 := ef 2
              clear ef
              go_wp2_with fail
              clear d0 df0 d1 df1 d2 df2 e0 ef0 e1 ef1 e2 ef2
              have HE8 := hidp (arr3_set HE3.out (.string A) (.int .i64 ((y : Nat) : Int)) (.int .i64 room)); have HD8 := hidp (HD3.out.put3 hnde (.string A) (.int .i64 ((y : Nat) : Int)) (.int .i64 room)); have HO8 := hidp (HO3.out.put3 HE3.out (by decide) (.string A) (.int .i64 ((y : Nat) : Int)) (.int .i64 room)); have HB8 := hidp (below_put3 HB3.out hgee (.string A) (.int .i64 ((y : Nat) : Int)) (.int .i64 room))
              have HD9 := hidp (arr3_set HD8.out (.string A) (.int .i64 ((y : Nat) : Int)) (.int .i64 room)); have HO9 := hidp (HO8.out.put3 HD8.out (by decide) (.string A) (.int .i64 ((y : Nat) : Int)) (.int .i64 room)); have HB9 := hidp (below_put3 HB8.out hged (.string A) (.int .i64 ((y : Nat) : Int)) (.int .i64 room))
              generalize hW9 : ((((((w3.setCell ⟨be, 0, none⟩ (.string A)).setCell ⟨be, 1, none⟩ (.int .i64 ((y : Nat) : Int))).setCell ⟨be, 2, none⟩ (.int .i64 room)).setCell ⟨bd, 0, none⟩ (.string A)).setCell ⟨bd, 1, none⟩ (.int .i64 ((y : Nat) : Int))).setCell ⟨bd, 2, none⟩ (.int .i64 room)) = W9 at HD9 HO9 HB9 ⊢
              clear hW9 HE8 HD8 HO8 HB8
              refine (cR.out _).mono ?_
              rintro e wR ⟨vr, rfl, hvr, hbr⟩
              obtain ⟨ra, rcc, hre, -⟩ := hvr.formS
              rw [HLN.out] at hre
              subst hre
              have HBR := hidp (HB9.out.trans (hbr.mono HB9.out.size)); have HDR := hidp (HD9.out.below hbr HD9.out.lt); have HOR := hidp (HO9.out.kept hbr (Nat.le_refl _)); have HVR := hidp hvr
              clear hbr hvr
              have HBQ := hidp (HBR.out.alloc HBR.out.size (.cells #[.slice ra ln rcc, .int .i64 ((mo : Nat) : Int)] 33)); have HDQ := hidp (HDR.out.alloc (.cells #[.slice ra ln rcc, .int .i64 ((mo : Nat) : Int)] 33)); have HOQ := hidp (HOR.out.alloc (.cells #[.slice ra ln rcc, .int .i64 ((mo : Nat) : Int)] 33))
              have HS := hidp (same_any (wR.alloc (.cells #[.slice ra ln rcc, .int .i64 ((mo : Nat) : Int)] 33)) _ _ _ _ (OwnV.strs (HVR.out.alloc _)) (OwnV.strs HOQ.out) hln hln)
              rw [sameB_self] at HS
              have HNW := hidp (Arr.new wR 33 [.slice ra ln rcc, .int .i64 ((mo : Nat) : Int)])
              have qmo : (((mo : Nat) : Int) != ((mo : Nat) : Int)) = false := by simp
              go_wp2_with fail
              generalize hWQ : (wR.alloc (.cells #[.slice ra ln rcc, .int .i64 ((mo : Nat) : Int)] 33)) = WQ at HBQ HDQ HOQ HS HNW ⊢
              obtain ⟨bq, hbq⟩ : ∃ b, wR.heap.size = b := ⟨_, rfl⟩
              rw [hbq] at HNW ⊢
              clear hWQ hbq
              refine HS.out.mono ?_
              rintro e wS ⟨rfl, hbs⟩
              have HBS := hidp (HBQ.out.trans (hbs.mono HBQ.out.size)); have HDS := hidp (HDQ.out.below hbs HDQ.out.lt); have HOS := hidp (HOQ.out.kept hbs (Nat.le_refl _)); have HNS := hidp (HNW.out.below hbs HNW.out.lt)
              clear hbs
              obtain ⟨n0, n1, nf⟩ := arr2 HNS.out
              clear nf
              go_wp2_with fail
              exact ⟨⟨i + 1, p, n, cp, mo, rs, al, va, vc, by go_num, by omega, (by rw [HLN.out]), rfl, rfl, rfl, hp, H8.out, (by rw [HN.out]; exact hr), HLD.out, ⟨ep, HEP.out, HEPN.out⟩, (by rw [HLN.out]; exact HOS.out), (by rw [HA.out, HY.out]; exact HDS.out), HBS.out⟩, by simp [intOf]; omega⟩
        · as_aux_lemma =>
            have cc := hidp (fun W => pute_longer W A y room t (by omega) ht8)
            clear ht8
            have hln : al.length ≤ 140737488351232 := by have := HLN.out; omega
            have cR := hidp (fun W => load_rs W rs H8.out al mo HLD.out A HA.out (by omega))
            go_wp2_with fail
            clear d0 d1 d2 y0 y1 y2 y3
            have HX := hidp ((HB.out.alloc hle (.cells #[.int .i64 k, .string t, .int .i64 m, .int .u8 (bb.toNat : Int)] 43)).alloc (HB.out.alloc hle (.cells #[.int .i64 k, .string t, .int .i64 m, .int .u8 (bb.toNat : Int)] 43)).size (.cells #[.string A, .int .i64 ((y : Nat) : Int), .int .i64 room] 23))
            have HDX := hidp ((HD.out.alloc (.cells #[.int .i64 k, .string t, .int .i64 m, .int .u8 (bb.toNat : Int)] 43)).alloc (.cells #[.string A, .int .i64 ((y : Nat) : Int), .int .i64 room] 23)); have HOX := hidp ((HO.out.alloc (.cells #[.int .i64 k, .string t, .int .i64 m, .int .u8 (bb.toNat : Int)] 43)).alloc (.cells #[.string A, .int .i64 ((y : Nat) : Int), .int .i64 room] 23)); have HAX := hidp ((Arr.new wr 43 [.int .i64 k, .string t, .int .i64 m, .int .u8 (bb.toNat : Int)]).alloc (.cells #[.string A, .int .i64 ((y : Nat) : Int), .int .i64 room] 23))
            have HEX := hidp (show Arr _ (wr.heap.size + 1) 23 [.string A, .int .i64 ((y : Nat) : Int), .int .i64 room] from by
              have h := Arr.new (wr.alloc (.cells #[.int .i64 k, .string t, .int .i64 m, .int .u8 (bb.toNat : Int)] 43)) 23 [.string A, .int .i64 ((y : Nat) : Int), .int .i64 room]
              rw [heap_size_alloc] at h
              exact h)
            obtain ⟨bx, hbx⟩ : ∃ b, wr.heap.size = b := ⟨_, rfl⟩
            have hgex : w.heap.size ≤ bx := by rw [← hbx]; exact hle
            have hnxd : bx ≠ bd := by rw [← hbx]; omega
            have hned0 : bx + 1 ≠ bd := by rw [← hbx]; omega
            generalize hWX : ((wr.alloc (.cells #[.int .i64 k, .string t, .int .i64 m, .int .u8 (bb.toNat : Int)] 43)).alloc (.cells #[.string A, .int .i64 ((y : Nat) : Int), .int .i64 room] 23)) = WX at HX HDX HOX HAX HEX ⊢
            rw [hbx] at HAX HEX ⊢
            obtain ⟨be, hbe⟩ : ∃ b, bx + 1 = b := ⟨_, rfl⟩
            rw [hbe] at HEX hned0 ⊢
            have hned : be ≠ bd := hned0
            have hnde : bd ≠ be := fun h => hned0 h.symm
            have hnxe : bx ≠ be := by omega
            have hgee : w.heap.size ≤ be := by omega
            clear hWX hbx hle hned0 hbe
            refine (cc.out _).mono ?_
            rintro e w3 ⟨rfl, hb3⟩
            have HB3 := hidp (HX.out.trans (hb3.mono HX.out.size))
            have HD3 := hidp (HDX.out.below hb3 HDX.out.lt)
            have HA3 := hidp (HAX.out.below hb3 HAX.out.lt)
            have HE3 := hidp (HEX.out.below hb3 HEX.out.lt)
            have HO3 := hidp (HOX.out.kept hb3 (Nat.le_refl _))
            have hle3 := HB3.out.size
            clear hb3
            obtain ⟨d0, d1, d2, df⟩ := arr3 HD3.out
            have df0 := df 0; have df1 := df 1; have df2 := df 2
            clear df
            obtain ⟨e0, e1, e2, ef⟩ := arr3 HE3.out
            have ef0 := ef 0; have ef1 := ef 1; have ef2 := ef 2
            clear ef
            go_wp2_with fail
            clear d0 df0 d1 df1 d2 df2 e0 ef0 e1 ef1 e2 ef2
            have HE8 := hidp (arr3_set HE3.out (.string A) (.int .i64 ((y : Nat) : Int)) (.int .i64 room)); have HD8 := hidp (HD3.out.put3 hnde (.string A) (.int .i64 ((y : Nat) : Int)) (.int .i64 room)); have HO8 := hidp (HO3.out.put3 HE3.out (by decide) (.string A) (.int .i64 ((y : Nat) : Int)) (.int .i64 room)); have HB8 := hidp (below_put3 HB3.out hgee (.string A) (.int .i64 ((y : Nat) : Int)) (.int .i64 room))
            have HD9 := hidp (arr3_set HD8.out (.string A) (.int .i64 ((y : Nat) : Int)) (.int .i64 room)); have HO9 := hidp (HO8.out.put3 HD8.out (by decide) (.string A) (.int .i64 ((y : Nat) : Int)) (.int .i64 room)); have HB9 := hidp (below_put3 HB8.out hged (.string A) (.int .i64 ((y : Nat) : Int)) (.int .i64 room))
            generalize hW9 : ((((((w3.setCell ⟨be, 0, none⟩ (.string A)).setCell ⟨be, 1, none⟩ (.int .i64 ((y : Nat) : Int))).setCell ⟨be, 2, none⟩ (.int .i64 room)).setCell ⟨bd, 0, none⟩ (.string A)).setCell ⟨bd, 1, none⟩ (.int .i64 ((y : Nat) : Int))).setCell ⟨bd, 2, none⟩ (.int .i64 room)) = W9 at HD9 HO9 HB9 ⊢
            clear hW9 HE8 HD8 HO8 HB8
            refine (cR.out _).mono ?_
            rintro e wR ⟨vr, rfl, hvr, hbr⟩
            obtain ⟨ra, rcc, hre, -⟩ := hvr.formS
            rw [HLN.out] at hre
            subst hre
            have HBR := hidp (HB9.out.trans (hbr.mono HB9.out.size)); have HDR := hidp (HD9.out.below hbr HD9.out.lt); have HOR := hidp (HO9.out.kept hbr (Nat.le_refl _)); have HVR := hidp hvr
            clear hbr hvr
            have HBQ := hidp (HBR.out.alloc HBR.out.size (.cells #[.slice ra ln rcc, .int .i64 ((mo : Nat) : Int)] 33)); have HDQ := hidp (HDR.out.alloc (.cells #[.slice ra ln rcc, .int .i64 ((mo : Nat) : Int)] 33)); have HOQ := hidp (HOR.out.alloc (.cells #[.slice ra ln rcc, .int .i64 ((mo : Nat) : Int)] 33))
            have HS := hidp (same_any (wR.alloc (.cells #[.slice ra ln rcc, .int .i64 ((mo : Nat) : Int)] 33)) _ _ _ _ (OwnV.strs (HVR.out.alloc _)) (OwnV.strs HOQ.out) hln hln)
            rw [sameB_self] at HS
            have HNW := hidp (Arr.new wR 33 [.slice ra ln rcc, .int .i64 ((mo : Nat) : Int)])
            have qmo : (((mo : Nat) : Int) != ((mo : Nat) : Int)) = false := by simp
            go_wp2_with fail
            generalize hWQ : (wR.alloc (.cells #[.slice ra ln rcc, .int .i64 ((mo : Nat) : Int)] 33)) = WQ at HBQ HDQ HOQ HS HNW ⊢
            obtain ⟨bq, hbq⟩ : ∃ b, wR.heap.size = b := ⟨_, rfl⟩
            rw [hbq] at HNW ⊢
            clear hWQ hbq
            refine HS.out.mono ?_
            rintro e wS ⟨rfl, hbs⟩
            have HBS := hidp (HBQ.out.trans (hbs.mono HBQ.out.size)); have HDS := hidp (HDQ.out.below hbs HDQ.out.lt); have HOS := hidp (HOQ.out.kept hbs (Nat.le_refl _)); have HNS := hidp (HNW.out.below hbs HNW.out.lt)
            clear hbs
            obtain ⟨n0, n1, nf⟩ := arr2 HNS.out
            clear nf
            go_wp2_with fail
            exact ⟨⟨i + 1, p, n, cp, mo, rs, al, va, vc, by go_num, by omega, (by rw [HLN.out]), rfl, rfl, rfl, hp, H8.out, (by rw [HN.out]; exact hr), HLD.out, ⟨ep, HEP.out, HEPN.out⟩, (by rw [HLN.out]; exact HOS.out), (by rw [HA.out, HY.out]; exact HDS.out), HBS.out⟩, by simp [intOf]; omega⟩
      · have e0k : (k == 0) = false := by simpa using hk0
        clear hk0
        by_cases hk1 : k = 1
        · have e1k : (k == 1) = true := by simpa using hk1
          clear hk1
          by_cases hm : m < 0 ∨ 1048576 < m
          · have cc := hidp (fun W => putc_no W A y room m (by omega) hm)
            clear hm
            have hln : al.length ≤ 140737488351232 := by have := HLN.out; omega
            have cR := hidp (fun W => load_rs W rs H8.out al mo HLD.out A HA.out (by omega))
            go_wp2_with fail
            clear d0 d1 d2 y0 y1 y2 y3
            have HX := hidp ((HB.out.alloc hle (.cells #[.int .i64 k, .string t, .int .i64 m, .int .u8 (bb.toNat : Int)] 43)).alloc (HB.out.alloc hle (.cells #[.int .i64 k, .string t, .int .i64 m, .int .u8 (bb.toNat : Int)] 43)).size (.cells #[.string A, .int .i64 ((y : Nat) : Int), .int .i64 room] 23))
            have HDX := hidp ((HD.out.alloc (.cells #[.int .i64 k, .string t, .int .i64 m, .int .u8 (bb.toNat : Int)] 43)).alloc (.cells #[.string A, .int .i64 ((y : Nat) : Int), .int .i64 room] 23)); have HOX := hidp ((HO.out.alloc (.cells #[.int .i64 k, .string t, .int .i64 m, .int .u8 (bb.toNat : Int)] 43)).alloc (.cells #[.string A, .int .i64 ((y : Nat) : Int), .int .i64 room] 23)); have HAX := hidp ((Arr.new wr 43 [.int .i64 k, .string t, .int .i64 m, .int .u8 (bb.toNat : Int)]).alloc (.cells #[.string A, .int .i64 ((y : Nat) : Int), .int .i64 room] 23))
            have HEX := hidp (show Arr _ (wr.heap.size + 1) 23 [.string A, .int .i64 ((y : Nat) : Int), .int .i64 room] from by
              have h := Arr.new (wr.alloc (.cells #[.int .i64 k, .string t, .int .i64 m, .int .u8 (bb.toNat : Int)] 43)) 23 [.string A, .int .i64 ((y : Nat) : Int), .int .i64 room]
              rw [heap_size_alloc] at h
              exact h)
            obtain ⟨bx, hbx⟩ : ∃ b, wr.heap.size = b := ⟨_, rfl⟩
            have hgex : w.heap.size ≤ bx := by rw [← hbx]; exact hle
            have hnxd : bx ≠ bd := by rw [← hbx]; omega
            have hned0 : bx + 1 ≠ bd := by rw [← hbx]; omega
            generalize hWX : ((wr.alloc (.cells #[.int .i64 k, .string t, .int .i64 m, .int .u8 (bb.toNat : Int)] 43)).alloc (.cells #[.string A, .int .i64 ((y : Nat) : Int), .int .i64 room] 23)) = WX at HX HDX HOX HAX HEX ⊢
            rw [hbx] at HAX HEX ⊢
            obtain ⟨be, hbe⟩ : ∃ b, bx + 1 = b := ⟨_, rfl⟩
            rw [hbe] at HEX hned0 ⊢
            have hned : be ≠ bd := hned0
            have hnde : bd ≠ be := fun h => hned0 h.symm
            have hnxe : bx ≠ be := by omega
            have hgee : w.heap.size ≤ be := by omega
            clear hWX hbx hle hned0 hbe
            refine (cc.out _).mono ?_
            rintro e w3 ⟨rfl, hb3⟩
            have HB3 := hidp (HX.out.trans (hb3.mono HX.out.size))
            have HD3 := hidp (HDX.out.below hb3 HDX.out.lt)
            have HA3 := hidp (HAX.out.below hb3 HAX.out.lt)
            have HE3 := hidp (HEX.out.below hb3 HEX.out.lt)
            have HO3 := hidp (HOX.out.kept hb3 (Nat.le_refl _))
            have hle3 := HB3.out.size
            clear hb3
            obtain ⟨d0, d1, d2, df⟩ := arr3 HD3.out
            have df0 := df 0; have df1 := df 1; have df2 := df 2
            clear df
            obtain ⟨e0, e1, e2, ef⟩ := arr3 HE3.out
            have ef0 := ef 0; have ef1 := ef 1; have ef2 := ef 2
            clear ef
            go_wp2_with fail
            clear d0 df0 d1 df1 d2 df2 e0 ef0 e1 ef1 e2 ef2
            have HE8 := hidp (arr3_set HE3.out (.string A) (.int .i64 ((y : Nat) : Int)) (.int .i64 room)); have HD8 := hidp (HD3.out.put3 hnde (.string A) (.int .i64 ((y : Nat) : Int)) (.int .i64 room)); have HO8 := hidp (HO3.out.put3 HE3.out (by decide) (.string A) (.int .i64 ((y : Nat) : Int)) (.int .i64 room)); have HB8 := hidp (below_put3 HB3.out hgee (.string A) (.int .i64 ((y : Nat) : Int)) (.int .i64 room))
            have HD9 := hidp (arr3_set HD8.out (.string A) (.int .i64 ((y : Nat) : Int)) (.int .i64 room)); have HO9 := hidp (HO8.out.put3 HD8.out (by decide) (.string A) (.int .i64 ((y : Nat) : Int)) (.int .i64 room)); have HB9 := hidp (below_put3 HB8.out hged (.string A) (.int .i64 ((y : Nat) : Int)) (.int .i64 room))
            generalize hW9 : ((((((w3.setCell ⟨be, 0, none⟩ (.string A)).setCell ⟨be, 1, none⟩ (.int .i64 ((y : Nat) : Int))).setCell ⟨be, 2, none⟩ (.int .i64 room)).setCell ⟨bd, 0, none⟩ (.string A)).setCell ⟨bd, 1, none⟩ (.int .i64 ((y : Nat) : Int))).setCell ⟨bd, 2, none⟩ (.int .i64 room)) = W9 at HD9 HO9 HB9 ⊢
            clear hW9 HE8 HD8 HO8 HB8
            refine (cR.out _).mono ?_
            rintro e wR ⟨vr, rfl, hvr, hbr⟩
            obtain ⟨ra, rcc, hre, -⟩ := hvr.formS
            rw [HLN.out] at hre
            subst hre
            have HBR := hidp (HB9.out.trans (hbr.mono HB9.out.size)); have HDR := hidp (HD9.out.below hbr HD9.out.lt); have HOR := hidp (HO9.out.kept hbr (Nat.le_refl _)); have HVR := hidp hvr
            clear hbr hvr
            have HBQ := hidp (HBR.out.alloc HBR.out.size (.cells #[.slice ra ln rcc, .int .i64 ((mo : Nat) : Int)] 33)); have HDQ := hidp (HDR.out.alloc (.cells #[.slice ra ln rcc, .int .i64 ((mo : Nat) : Int)] 33)); have HOQ := hidp (HOR.out.alloc (.cells #[.slice ra ln rcc, .int .i64 ((mo : Nat) : Int)] 33))
            have HS := hidp (same_any (wR.alloc (.cells #[.slice ra ln rcc, .int .i64 ((mo : Nat) : Int)] 33)) _ _ _ _ (OwnV.strs (HVR.out.alloc _)) (OwnV.strs HOQ.out) hln hln)
            rw [sameB_self] at HS
            have HNW := hidp (Arr.new wR 33 [.slice ra ln rcc, .int .i64 ((mo : Nat) : Int)])
            have qmo : (((mo : Nat) : Int) != ((mo : Nat) : Int)) = false := by simp
            go_wp2_with fail
            generalize hWQ : (wR.alloc (.cells #[.slice ra ln rcc, .int .i64 ((mo : Nat) : Int)] 33)) = WQ at HBQ HDQ HOQ HS HNW ⊢
            obtain ⟨bq, hbq⟩ : ∃ b, wR.heap.size = b := ⟨_, rfl⟩
            rw [hbq] at HNW ⊢
            clear hWQ hbq
            refine HS.out.mono ?_
            rintro e wS ⟨rfl, hbs⟩
            have HBS := hidp (HBQ.out.trans (hbs.mono HBQ.out.size)); have HDS := hidp (HDQ.out.below hbs HDQ.out.lt); have HOS := hidp (HOQ.out.kept hbs (Nat.le_refl _)); have HNS := hidp (HNW.out.below hbs HNW.out.lt)
            clear hbs
            obtain ⟨n0, n1, nf⟩ := arr2 HNS.out
            clear nf
            go_wp2_with fail
            exact ⟨⟨i + 1, p, n, cp, mo, rs, al, va, vc, by go_num, by omega, (by rw [HLN.out]), rfl, rfl, rfl, hp, H8.out, (by rw [HN.out]; exact hr), HLD.out, ⟨ep, HEP.out, HEPN.out⟩, (by rw [HLN.out]; exact HOS.out), (by rw [HA.out, HY.out]; exact HDS.out), HBS.out⟩, by simp [intOf]; omega⟩
          · obtain ⟨q, hqm⟩ : ∃ q : Nat, m = q := ⟨m.toNat, by omega⟩
            have HQM := hidp hqm
            have hq : q ≤ 1048576 := by omega
            have hcq : (cntR q).size ≤ 8192 := by have := cntR_size hq; omega
            clear hm hqm
            by_cases hfit : ((recB (cntR q)).length : Int) ≤ room - A.size
            · have cc := hidp (fun W => putc_add W A y room m q hq HQM.out _ _ _ _ (fun W => add_ok W A y room (cntR q) okd.out hcq hfit))
              obtain ⟨U, hU⟩ : ∃ U, A ++ mkS (recB (cntR q)) = U := ⟨_, rfl⟩
              have HU := hidp (show mkS (cat (rs ++ [cntR q])) = U from by rw [← hU, cat_snoc, ← mkS_append, HA.out])
              rw [hU] at cc
              clear hU
              have hM0 : (cat (rs ++ [cntR q])).length = N + (recB (cntR q)).length := by rw [cat_snoc, List.length_append, HN.out]
              have H8n := hidp (show ∀ zz ∈ rs ++ [cntR q], zz.size ≤ 8192 from fun zz hzz => by
                rcases List.mem_append.1 hzz with h | h
                · exact H8.out zz h
                · simp at h; subst h; exact hcq)
              have ht0 : (rs ++ [cntR q]).take p = rs.take p := List.take_append_of_le_length hp
              have HLD2 := hidp (ld_snoc_cnt HLD.out hq)
              have hp2 : p ≤ (rs ++ [cntR q]).length := by rw [List.length_append]; omega
              obtain ⟨rs2, hrs2⟩ : ∃ zr, rs ++ [cntR q] = zr := ⟨_, rfl⟩
              rw [hrs2] at HU hM0 H8n ht0 HLD2 hp2
              obtain ⟨M, hM⟩ : ∃ M, (cat rs2).length = M := ⟨_, rfl⟩
              rw [hM] at hM0
              have HM := hidp hM
              have hMr : (M : Int) ≤ room := by omega
              have hUs : U.size = M := by rw [← HU.out, mkS_size]; exact hM
              have HDn := hidp (show ∀ W, Arr W bd 23 [.string U, .int .i64 ((y : Nat) : Int), .int .i64 room] → Arr W bd 23 [.string (mkS (cat rs2)), .int .i64 (((cat (rs2.take p)).length : Nat) : Int), .int .i64 room] from fun W h => by
                rw [HU.out, ht0, HY.out]; exact h)
              have HEP2 := hidp (show ld (rs2.take p) = (ep, cp, 0) from by rw [ht0]; exact HEP.out)
              clear hM hM0 ht0 hrs2 hfit
              have hmx : ∀ W ts, (Builtin.max_ ts 3 #[.int .i64 (mo : Int), .int .i64 m]).run Try.prog W = .ok (.int .i64 ((max mo q : Nat) : Int)) W := fun W ts => by rw [HQM.out]; exact maxN W ts mo q
              obtain ⟨mq, hmq⟩ : ∃ z, max mo q = z := ⟨_, rfl⟩
              rw [hmq] at hmx HLD2
              clear hmq
              have hln : al.length ≤ 140737488351232 := by have := HLN.out; omega
              have cR := hidp (fun W => load_rs W rs2 H8n.out al mq HLD2.out U HU.out (by omega))
              go_wp2_with fail
              clear d0 d1 d2 y0 y1 y2 y3
              have HX := hidp ((HB.out.alloc hle (.cells #[.int .i64 k, .string t, .int .i64 m, .int .u8 (bb.toNat : Int)] 43)).alloc (HB.out.alloc hle (.cells #[.int .i64 k, .string t, .int .i64 m, .int .u8 (bb.toNat : Int)] 43)).size (.cells #[.string A, .int .i64 ((y : Nat) : Int), .int .i64 room] 23))
              have HDX := hidp ((HD.out.alloc (.cells #[.int .i64 k, .string t, .int .i64 m, .int .u8 (bb.toNat : Int)] 43)).alloc (.cells #[.string A, .int .i64 ((y : Nat) : Int), .int .i64 room] 23)); have HOX := hidp ((HO.out.alloc (.cells #[.int .i64 k, .string t, .int .i64 m, .int .u8 (bb.toNat : Int)] 43)).alloc (.cells #[.string A, .int .i64 ((y : Nat) : Int), .int .i64 room] 23)); have HAX := hidp ((Arr.new wr 43 [.int .i64 k, .string t, .int .i64 m, .int .u8 (bb.toNat : Int)]).alloc (.cells #[.string A, .int .i64 ((y : Nat) : Int), .int .i64 room] 23))
              have HEX := hidp (show Arr _ (wr.heap.size + 1) 23 [.string A, .int .i64 ((y : Nat) : Int), .int .i64 room] from by
                have h := Arr.new (wr.alloc (.cells #[.int .i64 k, .string t, .int .i64 m, .int .u8 (bb.toNat : Int)] 43)) 23 [.string A, .int .i64 ((y : Nat) : Int), .int .i64 room]
                rw [heap_size_alloc] at h
                exact h)
              obtain ⟨bx, hbx⟩ : ∃ b, wr.heap.size = b := ⟨_, rfl⟩
              have hgex : w.heap.size ≤ bx := by rw [← hbx]; exact hle
              have hnxd : bx ≠ bd := by rw [← hbx]; omega
              have hned0 : bx + 1 ≠ bd := by rw [← hbx]; omega
              generalize hWX : ((wr.alloc (.cells #[.int .i64 k, .string t, .int .i64 m, .int .u8 (bb.toNat : Int)] 43)).alloc (.cells #[.string A, .int .i64 ((y : Nat) : Int), .int .i64 room] 23)) = WX at HX HDX HOX HAX HEX ⊢
              rw [hbx] at HAX HEX ⊢
              obtain ⟨be, hbe⟩ : ∃ b, bx + 1 = b := ⟨_, rfl⟩
              rw [hbe] at HEX hned0 ⊢
              have hned : be ≠ bd := hned0
              have hnde : bd ≠ be := fun h => hned0 h.symm
              have hnxe : bx ≠ be := by omega
              have hgee : w.heap.size ≤ be := by omega
              clear hWX hbx hle hned0 hbe
              refine (cc.out _).mono ?_
              rintro e w3 ⟨rfl, hb3⟩
              have HB3 := hidp (HX.out.trans (hb3.mono HX.out.size))
              have HD3 := hidp (HDX.out.below hb3 HDX.out.lt)
              have HA3 := hidp (HAX.out.below hb3 HAX.out.lt)
              have HE3 := hidp (HEX.out.below hb3 HEX.out.lt)
              have HO3 := hidp (HOX.out.kept hb3 (Nat.le_refl _))
              have hle3 := HB3.out.size
              clear hb3
              obtain ⟨d0, d1, d2, df⟩ := arr3 HD3.out
              have df0 := df 0; have df1 := df 1; have df2 := df 2
              clear df
              obtain ⟨e0, e1, e2, ef⟩ := arr3 HE3.out
              have ef0 := ef 0; have ef1 := ef 1; have ef2 := ef 2
              clear ef
              obtain ⟨y0, y1, y2, y3⟩ := arr4 HA3.out
              go_wp2_with fail
              clear d0 df0 d1 df1 d2 df2 e0 ef0 e1 ef1 e2 ef2 y0 y1 y2 y3
              have HE8 := hidp (arr3_set HE3.out (.string U) (.int .i64 ((y : Nat) : Int)) (.int .i64 room)); have HD8 := hidp (HD3.out.put3 hnde (.string U) (.int .i64 ((y : Nat) : Int)) (.int .i64 room)); have HO8 := hidp (HO3.out.put3 HE3.out (by decide) (.string U) (.int .i64 ((y : Nat) : Int)) (.int .i64 room)); have HB8 := hidp (below_put3 HB3.out hgee (.string U) (.int .i64 ((y : Nat) : Int)) (.int .i64 room))
              have HD9 := hidp (arr3_set HD8.out (.string U) (.int .i64 ((y : Nat) : Int)) (.int .i64 room)); have HO9 := hidp (HO8.out.put3 HD8.out (by decide) (.string U) (.int .i64 ((y : Nat) : Int)) (.int .i64 room)); have HB9 := hidp (below_put3 HB8.out hged (.string U) (.int .i64 ((y : Nat) : Int)) (.int .i64 room))
              generalize hW9 : ((((((w3.setCell ⟨be, 0, none⟩ (.string U)).setCell ⟨be, 1, none⟩ (.int .i64 ((y : Nat) : Int))).setCell ⟨be, 2, none⟩ (.int .i64 room)).setCell ⟨bd, 0, none⟩ (.string U)).setCell ⟨bd, 1, none⟩ (.int .i64 ((y : Nat) : Int))).setCell ⟨bd, 2, none⟩ (.int .i64 room)) = W9 at HD9 HO9 HB9 ⊢
              clear hW9 HE8 HD8 HO8 HB8
              refine (cR.out _).mono ?_
              rintro e wR ⟨vr, rfl, hvr, hbr⟩
              obtain ⟨ra, rcc, hre, -⟩ := hvr.formS
              rw [HLN.out] at hre
              subst hre
              have HBR := hidp (HB9.out.trans (hbr.mono HB9.out.size)); have HDR := hidp (HD9.out.below hbr HD9.out.lt); have HOR := hidp (HO9.out.kept hbr (Nat.le_refl _)); have HVR := hidp hvr
              clear hbr hvr
              have HBQ := hidp (HBR.out.alloc HBR.out.size (.cells #[.slice ra ln rcc, .int .i64 ((mq : Nat) : Int)] 33)); have HDQ := hidp (HDR.out.alloc (.cells #[.slice ra ln rcc, .int .i64 ((mq : Nat) : Int)] 33)); have HOQ := hidp (HOR.out.alloc (.cells #[.slice ra ln rcc, .int .i64 ((mq : Nat) : Int)] 33))
              have HS := hidp (same_any (wR.alloc (.cells #[.slice ra ln rcc, .int .i64 ((mq : Nat) : Int)] 33)) _ _ _ _ (OwnV.strs (HVR.out.alloc _)) (OwnV.strs HOQ.out) hln hln)
              rw [sameB_self] at HS
              have HNW := hidp (Arr.new wR 33 [.slice ra ln rcc, .int .i64 ((mq : Nat) : Int)])
              have qmo : (((mq : Nat) : Int) != ((mq : Nat) : Int)) = false := by simp
              go_wp2_with fail
              generalize hWQ : (wR.alloc (.cells #[.slice ra ln rcc, .int .i64 ((mq : Nat) : Int)] 33)) = WQ at HBQ HDQ HOQ HS HNW ⊢
              obtain ⟨bq, hbq⟩ : ∃ b, wR.heap.size = b := ⟨_, rfl⟩
              rw [hbq] at HNW ⊢
              clear hWQ hbq
              refine HS.out.mono ?_
              rintro e wS ⟨rfl, hbs⟩
              have HBS := hidp (HBQ.out.trans (hbs.mono HBQ.out.size)); have HDS := hidp (HDQ.out.below hbs HDQ.out.lt); have HOS := hidp (HOQ.out.kept hbs (Nat.le_refl _)); have HNS := hidp (HNW.out.below hbs HNW.out.lt)
              clear hbs
              obtain ⟨n0, n1, nf⟩ := arr2 HNS.out
              clear nf
              go_wp2_with fail
              exact ⟨⟨i + 1, p, n, cp, mq, rs2, al, va, vc, by go_num, by omega, (by rw [HLN.out]), rfl, rfl, rfl, hp2, H8n.out, (by rw [HM.out]; exact hMr), HLD2.out, ⟨ep, HEP2.out, HEPN.out⟩, (by rw [HLN.out]; exact HOS.out), (HDn.out _ HDS.out), HBS.out⟩, by simp [intOf]; omega⟩
            · have cc := hidp (fun W => putc_add W A y room m q hq HQM.out A y room 8 (fun W => add_full W A y room (cntR q) okd.out hcq (by omega)))
              clear hfit
              have hln : al.length ≤ 140737488351232 := by have := HLN.out; omega
              have cR := hidp (fun W => load_rs W rs H8.out al mo HLD.out A HA.out (by omega))
              go_wp2_with fail
              clear d0 d1 d2 y0 y1 y2 y3
              have HX := hidp ((HB.out.alloc hle (.cells #[.int .i64 k, .string t, .int .i64 m, .int .u8 (bb.toNat : Int)] 43)).alloc (HB.out.alloc hle (.cells #[.int .i64 k, .string t, .int .i64 m, .int .u8 (bb.toNat : Int)] 43)).size (.cells #[.string A, .int .i64 ((y : Nat) : Int), .int .i64 room] 23))
              have HDX := hidp ((HD.out.alloc (.cells #[.int .i64 k, .string t, .int .i64 m, .int .u8 (bb.toNat : Int)] 43)).alloc (.cells #[.string A, .int .i64 ((y : Nat) : Int), .int .i64 room] 23)); have HOX := hidp ((HO.out.alloc (.cells #[.int .i64 k, .string t, .int .i64 m, .int .u8 (bb.toNat : Int)] 43)).alloc (.cells #[.string A, .int .i64 ((y : Nat) : Int), .int .i64 room] 23)); have HAX := hidp ((Arr.new wr 43 [.int .i64 k, .string t, .int .i64 m, .int .u8 (bb.toNat : Int)]).alloc (.cells #[.string A, .int .i64 ((y : Nat) : Int), .int .i64 room] 23))
              have HEX := hidp (show Arr _ (wr.heap.size + 1) 23 [.string A, .int .i64 ((y : Nat) : Int), .int .i64 room] from by
                have h := Arr.new (wr.alloc (.cells #[.int .i64 k, .string t, .int .i64 m, .int .u8 (bb.toNat : Int)] 43)) 23 [.string A, .int .i64 ((y : Nat) : Int), .int .i64 room]
                rw [heap_size_alloc] at h
                exact h)
              obtain ⟨bx, hbx⟩ : ∃ b, wr.heap.size = b := ⟨_, rfl⟩
              have hgex : w.heap.size ≤ bx := by rw [← hbx]; exact hle
              have hnxd : bx ≠ bd := by rw [← hbx]; omega
              have hned0 : bx + 1 ≠ bd := by rw [← hbx]; omega
              generalize hWX : ((wr.alloc (.cells #[.int .i64 k, .string t, .int .i64 m, .int .u8 (bb.toNat : Int)] 43)).alloc (.cells #[.string A, .int .i64 ((y : Nat) : Int), .int .i64 room] 23)) = WX at HX HDX HOX HAX HEX ⊢
              rw [hbx] at HAX HEX ⊢
              obtain ⟨be, hbe⟩ : ∃ b, bx + 1 = b := ⟨_, rfl⟩
              rw [hbe] at HEX hned0 ⊢
              have hned : be ≠ bd := hned0
              have hnde : bd ≠ be := fun h => hned0 h.symm
              have hnxe : bx ≠ be := by omega
              have hgee : w.heap.size ≤ be := by omega
              clear hWX hbx hle hned0 hbe
              refine (cc.out _).mono ?_
              rintro e w3 ⟨rfl, hb3⟩
              have HB3 := hidp (HX.out.trans (hb3.mono HX.out.size))
              have HD3 := hidp (HDX.out.below hb3 HDX.out.lt)
              have HA3 := hidp (HAX.out.below hb3 HAX.out.lt)
              have HE3 := hidp (HEX.out.below hb3 HEX.out.lt)
              have HO3 := hidp (HOX.out.kept hb3 (Nat.le_refl _))
              have hle3 := HB3.out.size
              clear hb3
              obtain ⟨d0, d1, d2, df⟩ := arr3 HD3.out
              have df0 := df 0; have df1 := df 1; have df2 := df 2
              clear df
              obtain ⟨e0, e1, e2, ef⟩ := arr3 HE3.out
              have ef0 := ef 0; have ef1 := ef 1; have ef2 := ef 2
              clear ef
              go_wp2_with fail
              clear d0 df0 d1 df1 d2 df2 e0 ef0 e1 ef1 e2 ef2
              have HE8 := hidp (arr3_set HE3.out (.string A) (.int .i64 ((y : Nat) : Int)) (.int .i64 room)); have HD8 := hidp (HD3.out.put3 hnde (.string A) (.int .i64 ((y : Nat) : Int)) (.int .i64 room)); have HO8 := hidp (HO3.out.put3 HE3.out (by decide) (.string A) (.int .i64 ((y : Nat) : Int)) (.int .i64 room)); have HB8 := hidp (below_put3 HB3.out hgee (.string A) (.int .i64 ((y : Nat) : Int)) (.int .i64 room))
              have HD9 := hidp (arr3_set HD8.out (.string A) (.int .i64 ((y : Nat) : Int)) (.int .i64 room)); have HO9 := hidp (HO8.out.put3 HD8.out (by decide) (.string A) (.int .i64 ((y : Nat) : Int)) (.int .i64 room)); have HB9 := hidp (below_put3 HB8.out hged (.string A) (.int .i64 ((y : Nat) : Int)) (.int .i64 room))
              generalize hW9 : ((((((w3.setCell ⟨be, 0, none⟩ (.string A)).setCell ⟨be, 1, none⟩ (.int .i64 ((y : Nat) : Int))).setCell ⟨be, 2, none⟩ (.int .i64 room)).setCell ⟨bd, 0, none⟩ (.string A)).setCell ⟨bd, 1, none⟩ (.int .i64 ((y : Nat) : Int))).setCell ⟨bd, 2, none⟩ (.int .i64 room)) = W9 at HD9 HO9 HB9 ⊢
              clear hW9 HE8 HD8 HO8 HB8
              refine (cR.out _).mono ?_
              rintro e wR ⟨vr, rfl, hvr, hbr⟩
              obtain ⟨ra, rcc, hre, -⟩ := hvr.formS
              rw [HLN.out] at hre
              subst hre
              have HBR := hidp (HB9.out.trans (hbr.mono HB9.out.size)); have HDR := hidp (HD9.out.below hbr HD9.out.lt); have HOR := hidp (HO9.out.kept hbr (Nat.le_refl _)); have HVR := hidp hvr
              clear hbr hvr
              have HBQ := hidp (HBR.out.alloc HBR.out.size (.cells #[.slice ra ln rcc, .int .i64 ((mo : Nat) : Int)] 33)); have HDQ := hidp (HDR.out.alloc (.cells #[.slice ra ln rcc, .int .i64 ((mo : Nat) : Int)] 33)); have HOQ := hidp (HOR.out.alloc (.cells #[.slice ra ln rcc, .int .i64 ((mo : Nat) : Int)] 33))
              have HS := hidp (same_any (wR.alloc (.cells #[.slice ra ln rcc, .int .i64 ((mo : Nat) : Int)] 33)) _ _ _ _ (OwnV.strs (HVR.out.alloc _)) (OwnV.strs HOQ.out) hln hln)
              rw [sameB_self] at HS
              have HNW := hidp (Arr.new wR 33 [.slice ra ln rcc, .int .i64 ((mo : Nat) : Int)])
              have qmo : (((mo : Nat) : Int) != ((mo : Nat) : Int)) = false := by simp
              go_wp2_with fail
              generalize hWQ : (wR.alloc (.cells #[.slice ra ln rcc, .int .i64 ((mo : Nat) : Int)] 33)) = WQ at HBQ HDQ HOQ HS HNW ⊢
              obtain ⟨bq, hbq⟩ : ∃ b, wR.heap.size = b := ⟨_, rfl⟩
              rw [hbq] at HNW ⊢
              clear hWQ hbq
              refine HS.out.mono ?_
              rintro e wS ⟨rfl, hbs⟩
              have HBS := hidp (HBQ.out.trans (hbs.mono HBQ.out.size)); have HDS := hidp (HDQ.out.below hbs HDQ.out.lt); have HOS := hidp (HOQ.out.kept hbs (Nat.le_refl _)); have HNS := hidp (HNW.out.below hbs HNW.out.lt)
              clear hbs
              obtain ⟨n0, n1, nf⟩ := arr2 HNS.out
              clear nf
              go_wp2_with fail
              exact ⟨⟨i + 1, p, n, cp, mo, rs, al, va, vc, by go_num, by omega, (by rw [HLN.out]), rfl, rfl, rfl, hp, H8.out, (by rw [HN.out]; exact hr), HLD.out, ⟨ep, HEP.out, HEPN.out⟩, (by rw [HLN.out]; exact HOS.out), (by rw [HA.out, HY.out]; exact HDS.out), HBS.out⟩, by simp [intOf]; omega⟩
        · have e1k : (k == 1) = false := by simpa using hk1
          clear hk1
          by_cases hk2 : k = 2
          · have e2k : (k == 2) = true := by simpa using hk2
            clear hk2
            have cc := hidp (fun W => sync_ok W A y room okd.out)
            rw [hAs] at cc
            have hln : al.length ≤ 140737488351232 := by have := HLN.out; omega
            have cR := hidp (fun W => load_rs W rs H8.out al mo HLD.out A HA.out (by omega))
            go_wp2_with fail
            clear d0 d1 d2 y0 y1 y2 y3
            have HX := hidp ((HB.out.alloc hle (.cells #[.int .i64 k, .string t, .int .i64 m, .int .u8 (bb.toNat : Int)] 43)).alloc (HB.out.alloc hle (.cells #[.int .i64 k, .string t, .int .i64 m, .int .u8 (bb.toNat : Int)] 43)).size (.cells #[.string A, .int .i64 ((y : Nat) : Int), .int .i64 room] 23))
            have HDX := hidp ((HD.out.alloc (.cells #[.int .i64 k, .string t, .int .i64 m, .int .u8 (bb.toNat : Int)] 43)).alloc (.cells #[.string A, .int .i64 ((y : Nat) : Int), .int .i64 room] 23)); have HOX := hidp ((HO.out.alloc (.cells #[.int .i64 k, .string t, .int .i64 m, .int .u8 (bb.toNat : Int)] 43)).alloc (.cells #[.string A, .int .i64 ((y : Nat) : Int), .int .i64 room] 23)); have HAX := hidp ((Arr.new wr 43 [.int .i64 k, .string t, .int .i64 m, .int .u8 (bb.toNat : Int)]).alloc (.cells #[.string A, .int .i64 ((y : Nat) : Int), .int .i64 room] 23))
            have HEX := hidp (show Arr _ (wr.heap.size + 1) 23 [.string A, .int .i64 ((y : Nat) : Int), .int .i64 room] from by
              have h := Arr.new (wr.alloc (.cells #[.int .i64 k, .string t, .int .i64 m, .int .u8 (bb.toNat : Int)] 43)) 23 [.string A, .int .i64 ((y : Nat) : Int), .int .i64 room]
              rw [heap_size_alloc] at h
              exact h)
            obtain ⟨bx, hbx⟩ : ∃ b, wr.heap.size = b := ⟨_, rfl⟩
            have hgex : w.heap.size ≤ bx := by rw [← hbx]; exact hle
            have hnxd : bx ≠ bd := by rw [← hbx]; omega
            have hned0 : bx + 1 ≠ bd := by rw [← hbx]; omega
            generalize hWX : ((wr.alloc (.cells #[.int .i64 k, .string t, .int .i64 m, .int .u8 (bb.toNat : Int)] 43)).alloc (.cells #[.string A, .int .i64 ((y : Nat) : Int), .int .i64 room] 23)) = WX at HX HDX HOX HAX HEX ⊢
            rw [hbx] at HAX HEX ⊢
            obtain ⟨be, hbe⟩ : ∃ b, bx + 1 = b := ⟨_, rfl⟩
            rw [hbe] at HEX hned0 ⊢
            have hned : be ≠ bd := hned0
            have hnde : bd ≠ be := fun h => hned0 h.symm
            have hnxe : bx ≠ be := by omega
            have hgee : w.heap.size ≤ be := by omega
            clear hWX hbx hle hned0 hbe
            refine (cc.out _).mono ?_
            rintro e w3 ⟨rfl, hb3⟩
            have HB3 := hidp (HX.out.trans (hb3.mono HX.out.size))
            have HD3 := hidp (HDX.out.below hb3 HDX.out.lt)
            have HA3 := hidp (HAX.out.below hb3 HAX.out.lt)
            have HE3 := hidp (HEX.out.below hb3 HEX.out.lt)
            have HO3 := hidp (HOX.out.kept hb3 (Nat.le_refl _))
            have hle3 := HB3.out.size
            clear hb3
            obtain ⟨d0, d1, d2, df⟩ := arr3 HD3.out
            have df0 := df 0; have df1 := df 1; have df2 := df 2
            clear df
            obtain ⟨e0, e1, e2, ef⟩ := arr3 HE3.out
            have ef0 := ef 0; have ef1 := ef 1; have ef2 := ef 2
            clear ef
            go_wp2_with fail
            clear d0 df0 d1 df1 d2 df2 e0 ef0 e1 ef1 e2 ef2
            have HE8 := hidp (arr3_set HE3.out (.string A) (.int .i64 ((N : Nat) : Int)) (.int .i64 room)); have HD8 := hidp (HD3.out.put3 hnde (.string A) (.int .i64 ((N : Nat) : Int)) (.int .i64 room)); have HO8 := hidp (HO3.out.put3 HE3.out (by decide) (.string A) (.int .i64 ((N : Nat) : Int)) (.int .i64 room)); have HB8 := hidp (below_put3 HB3.out hgee (.string A) (.int .i64 ((N : Nat) : Int)) (.int .i64 room))
            have HD9 := hidp (arr3_set HD8.out (.string A) (.int .i64 ((N : Nat) : Int)) (.int .i64 room)); have HO9 := hidp (HO8.out.put3 HD8.out (by decide) (.string A) (.int .i64 ((N : Nat) : Int)) (.int .i64 room)); have HB9 := hidp (below_put3 HB8.out hged (.string A) (.int .i64 ((N : Nat) : Int)) (.int .i64 room))
            generalize hW9 : ((((((w3.setCell ⟨be, 0, none⟩ (.string A)).setCell ⟨be, 1, none⟩ (.int .i64 ((N : Nat) : Int))).setCell ⟨be, 2, none⟩ (.int .i64 room)).setCell ⟨bd, 0, none⟩ (.string A)).setCell ⟨bd, 1, none⟩ (.int .i64 ((N : Nat) : Int))).setCell ⟨bd, 2, none⟩ (.int .i64 room)) = W9 at HD9 HO9 HB9 ⊢
            clear hW9 HE8 HD8 HO8 HB8
            refine (cR.out _).mono ?_
            rintro e wR ⟨vr, rfl, hvr, hbr⟩
            obtain ⟨ra, rcc, hre, -⟩ := hvr.formS
            rw [HLN.out] at hre
            subst hre
            have HBR := hidp (HB9.out.trans (hbr.mono HB9.out.size)); have HDR := hidp (HD9.out.below hbr HD9.out.lt); have HOR := hidp (HO9.out.kept hbr (Nat.le_refl _)); have HVR := hidp hvr
            clear hbr hvr
            have HBQ := hidp (HBR.out.alloc HBR.out.size (.cells #[.slice ra ln rcc, .int .i64 ((mo : Nat) : Int)] 33)); have HDQ := hidp (HDR.out.alloc (.cells #[.slice ra ln rcc, .int .i64 ((mo : Nat) : Int)] 33)); have HOQ := hidp (HOR.out.alloc (.cells #[.slice ra ln rcc, .int .i64 ((mo : Nat) : Int)] 33))
            have HS := hidp (same_any (wR.alloc (.cells #[.slice ra ln rcc, .int .i64 ((mo : Nat) : Int)] 33)) _ _ _ _ (OwnV.strs (HVR.out.alloc _)) (OwnV.strs HOQ.out) hln hln)
            rw [sameB_self] at HS
            have HNW := hidp (Arr.new wR 33 [.slice ra ln rcc, .int .i64 ((mo : Nat) : Int)])
            have qmo : (((mo : Nat) : Int) != ((mo : Nat) : Int)) = false := by simp
            go_wp2_with fail
            generalize hWQ : (wR.alloc (.cells #[.slice ra ln rcc, .int .i64 ((mo : Nat) : Int)] 33)) = WQ at HBQ HDQ HOQ HS HNW ⊢
            obtain ⟨bq, hbq⟩ : ∃ b, wR.heap.size = b := ⟨_, rfl⟩
            rw [hbq] at HNW ⊢
            clear hWQ hbq
            refine HS.out.mono ?_
            rintro e wS ⟨rfl, hbs⟩
            have HBS := hidp (HBQ.out.trans (hbs.mono HBQ.out.size)); have HDS := hidp (HDQ.out.below hbs HDQ.out.lt); have HOS := hidp (HOQ.out.kept hbs (Nat.le_refl _)); have HNS := hidp (HNW.out.below hbs HNW.out.lt)
            clear hbs
            obtain ⟨n0, n1, nf⟩ := arr2 HNS.out
            clear nf
            go_wp2_with fail
            exact ⟨⟨i + 1, rs.length, ln, mo, mo, rs, al, va, vc, by go_num, by omega, (by rw [HLN.out]), rfl, rfl, rfl, Nat.le_refl _, H8.out, (by rw [HN.out]; exact hr), HLD.out, ⟨al, (by rw [List.take_of_length_le (Nat.le_refl _)]; exact HLD.out), HLN.out⟩, (by rw [HLN.out]; exact HOS.out), (by rw [HA.out, List.take_of_length_le (Nat.le_refl _), HN.out]; exact HDS.out), HBS.out⟩, by simp [intOf]; omega⟩
          · have e2k : (k == 2) = false := by simpa using hk2
            clear hk2
            by_cases hk3 : k = 3
            · have e3k : (k == 3) = true := by simpa using hk3
              clear hk3
              have cc := hidp (fun W => fail_ok W A y room m bb okd.out)
              have hAd : A.data.toList = cat rs := by rw [← HA.out, mkS_data]
              obtain ⟨qq, hqq⟩ : ∃ z, keepN A.size y m = z := ⟨_, rfl⟩
              have hqN : y + qq ≤ N := by have : keepN A.size y m ≤ A.size - y := by unfold keepN; omega
                                          omega
              obtain ⟨j, hj1, hj2, hj3⟩ := torn rs H8.out p qq bb hp (by rw [HY.out, HN.out]; exact hqN)
              rw [HY.out] at hj3
              rw [hqq, hAd] at cc
              obtain ⟨P, hP⟩ : ∃ P, failL (cat rs) y qq bb = P := ⟨_, rfl⟩
              rw [hP] at cc hj3
              have hPl : P.length = y + qq := by rw [← hP]; exact failL_len _ _ _ _ (by rw [HN.out]; exact hqN)
              obtain ⟨G, hG⟩ : ∃ G, mkS P = G := ⟨_, rfl⟩
              have hGs : G.size = y + qq := by rw [← hG, mkS_size]; exact hPl
              have okg : okD G ((y + qq : Nat) : Int) room := ⟨by omega, by omega, by omega, h1⟩
              have hGd : G.data.toList = P := by rw [← hG, mkS_data]
              obtain ⟨ej, cj, x1, x2, x3, x4, x5, x6⟩ := ld_between HLD.out p j hj1 ep cp HEP.out
              have cm := hidp (fun W => rst_ok W G ((y + qq : Nat) : Int) room okg ej cj (by rw [hGd, hj3]; exact x1))
              unfold rdN at cm
              rw [hGd, hj3] at cm
              rw [hG] at cc
              rw [HEPN.out] at x3
              rw [HLN.out] at x4
              obtain ⟨rs2, hrs2⟩ : ∃ z, rs.take j = z := ⟨_, rfl⟩
              rw [hrs2] at cm x1
              obtain ⟨Z, hZ⟩ : ∃ Z, mkS (cat rs2) = Z := ⟨_, rfl⟩
              obtain ⟨NM, hNM⟩ : ∃ z, (cat rs2).length = z := ⟨_, rfl⟩
              rw [hZ, hNM] at cm
              have hZs : Z.size = NM := by rw [← hZ, mkS_size]; exact hNM
              have hNMr : NM ≤ N := by
                rw [← hNM, ← HN.out, ← hrs2]
                have e : cat rs = cat (rs.take j) ++ cat (rs.drop j) := by rw [← cat_append, List.take_append_drop]
                rw [e, List.length_append]; omega
              have H8n := hidp (show ∀ z ∈ rs2, z.size ≤ 8192 from fun z hz => by rw [← hrs2] at hz; exact H8.out z (List.mem_of_mem_take hz))
              have HZZ := hidp hZ; have HNM := hidp hNM; have HLD2 := hidp x1
              obtain ⟨q, hq⟩ : ∃ z, ej.length = z := ⟨_, rfl⟩
              rw [hq] at x2 x3 x4
              have HQ := hidp hq; have HX2x := hidp x2
              have hln : ej.length ≤ 140737488351232 := by omega
              have cR := hidp (fun W => load_rs W rs2 H8n.out ej cj HLD2.out Z HZZ.out (by omega))
              have u1 : decide ((q : Int) < (n : Int)) = false := by simp; omega
              have u2 : decide ((ln : Int) < (q : Int)) = false := by simp; omega
              have u3 : (0 : Int) ≤ (q : Int) := by omega
              have u4 : (q : Int) ≤ (vc : Int) := by omega
              have u5 : ((q : Int)).toNat = q := by omega
              have u6 : decide ((cj : Int) < (cp : Int)) = false := by simp; omega
              have u7 : decide ((mo : Int) < (cj : Int)) = false := by simp; omega
              have u8 : q ≤ vc := by omega
              obtain ⟨yq, hyq⟩ : ∃ z, y + qq = z := ⟨_, rfl⟩
              rw [hyq] at cc cm
              clear hP hG hqq hPl hGs okg hGd hj3 hrs2 hZ hNM hAd hyq hqN x1 x2 hq hj1 hj2
              go_wp2_with fail
              clear d0 d1 d2 y0 y1 y2 y3
              have HX := hidp ((HB.out.alloc hle (.cells #[.int .i64 k, .string t, .int .i64 m, .int .u8 (bb.toNat : Int)] 43)).alloc (HB.out.alloc hle (.cells #[.int .i64 k, .string t, .int .i64 m, .int .u8 (bb.toNat : Int)] 43)).size (.cells #[.string A, .int .i64 ((y : Nat) : Int), .int .i64 room] 23))
              have HDX := hidp ((HD.out.alloc (.cells #[.int .i64 k, .string t, .int .i64 m, .int .u8 (bb.toNat : Int)] 43)).alloc (.cells #[.string A, .int .i64 ((y : Nat) : Int), .int .i64 room] 23)); have HOX := hidp ((HO.out.alloc (.cells #[.int .i64 k, .string t, .int .i64 m, .int .u8 (bb.toNat : Int)] 43)).alloc (.cells #[.string A, .int .i64 ((y : Nat) : Int), .int .i64 room] 23)); have HAX := hidp ((Arr.new wr 43 [.int .i64 k, .string t, .int .i64 m, .int .u8 (bb.toNat : Int)]).alloc (.cells #[.string A, .int .i64 ((y : Nat) : Int), .int .i64 room] 23))
              have HEX := hidp (show Arr _ (wr.heap.size + 1) 23 [.string A, .int .i64 ((y : Nat) : Int), .int .i64 room] from by
                have h := Arr.new (wr.alloc (.cells #[.int .i64 k, .string t, .int .i64 m, .int .u8 (bb.toNat : Int)] 43)) 23 [.string A, .int .i64 ((y : Nat) : Int), .int .i64 room]
                rw [heap_size_alloc] at h
                exact h)
              obtain ⟨bx, hbx⟩ : ∃ b, wr.heap.size = b := ⟨_, rfl⟩
              have hgex : w.heap.size ≤ bx := by rw [← hbx]; exact hle
              have hnxd : bx ≠ bd := by rw [← hbx]; omega
              have hned0 : bx + 1 ≠ bd := by rw [← hbx]; omega
              generalize hWX : ((wr.alloc (.cells #[.int .i64 k, .string t, .int .i64 m, .int .u8 (bb.toNat : Int)] 43)).alloc (.cells #[.string A, .int .i64 ((y : Nat) : Int), .int .i64 room] 23)) = WX at HX HDX HOX HAX HEX ⊢
              rw [hbx] at HAX HEX ⊢
              obtain ⟨be, hbe⟩ : ∃ b, bx + 1 = b := ⟨_, rfl⟩
              rw [hbe] at HEX hned0 ⊢
              have hned : be ≠ bd := hned0
              have hnde : bd ≠ be := fun h => hned0 h.symm
              have hnxe : bx ≠ be := by omega
              have hgee : w.heap.size ≤ be := by omega
              clear hWX hbx hle hned0 hbe
              refine (cc.out _).mono ?_
              rintro e w3 ⟨rfl, hb3⟩
              have HB3 := hidp (HX.out.trans (hb3.mono HX.out.size))
              have HD3 := hidp (HDX.out.below hb3 HDX.out.lt)
              have HA3 := hidp (HAX.out.below hb3 HAX.out.lt)
              have HE3 := hidp (HEX.out.below hb3 HEX.out.lt)
              have HO3 := hidp (HOX.out.kept hb3 (Nat.le_refl _))
              have hle3 := HB3.out.size
              clear hb3
              go_wp2_with fail
              have HB4 := hidp (HB3.out.alloc hle3 (.cells #[.string G, .int .i64 ((yq : Nat) : Int), .int .i64 room] 23)); have HD4 := hidp (HD3.out.alloc (.cells #[.string G, .int .i64 ((yq : Nat) : Int), .int .i64 room] 23)); have HA4 := hidp (HA3.out.alloc (.cells #[.string G, .int .i64 ((yq : Nat) : Int), .int .i64 room] 23)); have HE4 := hidp (HE3.out.alloc (.cells #[.string G, .int .i64 ((yq : Nat) : Int), .int .i64 room] 23)); have HO4 := hidp (HO3.out.alloc (.cells #[.string G, .int .i64 ((yq : Nat) : Int), .int .i64 room] 23))
              generalize hW4 : (w3.alloc (.cells #[.string G, .int .i64 ((yq : Nat) : Int), .int .i64 room] 23)) = W4 at HB4 HD4 HA4 HE4 HO4 ⊢
              clear hW4
              have hle4 := HB4.out.size
              refine (cm.out _).mono ?_
              rintro e w5 ⟨vm, rfl, hvm, hb5⟩
              obtain ⟨ma, ma2, hme, -⟩ := hvm.formS
              rw [HQ.out] at hme
              subst hme
              have HM5 := hidp (hvm.base hle4)
              have HB5 := hidp (HB4.out.trans (hb5.mono HB4.out.size))
              have HD5 := hidp (HD4.out.below hb5 HD4.out.lt)
              have HA5 := hidp (HA4.out.below hb5 HA4.out.lt)
              have HE5 := hidp (HE4.out.below hb5 HE4.out.lt)
              have HO5 := hidp (HO4.out.kept hb5 (Nat.le_refl _))
              have hle5 := HB5.out.size
              clear hb5
              clear hvm
              go_wp2_with fail
              have HB6 := hidp ((HB5.out.alloc hle5 (.cells #[.string Z, .int .i64 ((NM : Nat) : Int), .int .i64 room] 23)).alloc (HB5.out.alloc hle5 (.cells #[.string Z, .int .i64 ((NM : Nat) : Int), .int .i64 room] 23)).size (.cells #[.slice ma q ma2, .int .i64 ((cj : Nat) : Int)] 33)); have HD6 := hidp ((HD5.out.alloc (.cells #[.string Z, .int .i64 ((NM : Nat) : Int), .int .i64 room] 23)).alloc (.cells #[.slice ma q ma2, .int .i64 ((cj : Nat) : Int)] 33)); have HE6 := hidp ((HE5.out.alloc (.cells #[.string Z, .int .i64 ((NM : Nat) : Int), .int .i64 room] 23)).alloc (.cells #[.slice ma q ma2, .int .i64 ((cj : Nat) : Int)] 33)); have HO6 := hidp ((HO5.out.alloc (.cells #[.string Z, .int .i64 ((NM : Nat) : Int), .int .i64 room] 23)).alloc (.cells #[.slice ma q ma2, .int .i64 ((cj : Nat) : Int)] 33)); have HM6 := hidp ((HM5.out.alloc (.cells #[.string Z, .int .i64 ((NM : Nat) : Int), .int .i64 room] 23)).alloc (.cells #[.slice ma q ma2, .int .i64 ((cj : Nat) : Int)] 33))
              have HG6 := hidp ((Arr.new w5 23 [.string Z, .int .i64 ((NM : Nat) : Int), .int .i64 room]).alloc (.cells #[.slice ma q ma2, .int .i64 ((cj : Nat) : Int)] 33))
              have HS6 := hidp (show Arr _ (w5.heap.size + 1) 33 [.slice ma q ma2, .int .i64 ((cj : Nat) : Int)] from by
                have h := Arr.new (w5.alloc (.cells #[.string Z, .int .i64 ((NM : Nat) : Int), .int .i64 room] 23)) 33 [.slice ma q ma2, .int .i64 ((cj : Nat) : Int)]
                rw [heap_size_alloc] at h
                exact h)
              obtain ⟨bg, hbg⟩ : ∃ b, w5.heap.size = b := ⟨_, rfl⟩
              have hgne : bg ≠ be := by have := HE5.out.lt; omega
              have hsne : bg + 1 ≠ be := by have := HE5.out.lt; omega
              generalize hW6 : ((w5.alloc (.cells #[.string Z, .int .i64 ((NM : Nat) : Int), .int .i64 room] 23)).alloc (.cells #[.slice ma q ma2, .int .i64 ((cj : Nat) : Int)] 33)) = W6 at HB6 HD6 HE6 HO6 HM6 HG6 HS6 ⊢
              rw [hbg] at HG6 HS6 ⊢
              clear hW6 hbg
              have hle6 := HB6.out.size
              have cr := hidp (show ∀ W, Cls W6.heap.size W6 W → W.cell? ⟨bg + 1, 0, none⟩ = some (.slice ma q ma2) ∧ W.cell? ⟨bg + 1, 1, none⟩ = some (.int .i64 ((cj : Nat) : Int)) from fun W h => by
                obtain ⟨z0, z1, _⟩ := arr2 (HS6.out.below h HS6.out.lt); exact ⟨z0, z1⟩)
              have cs := hidp (show ∀ W, Cls W6.heap.size W6 W → Calls Try.prog 21 #[.slice ma q ma2, .slice va q vc] W fun e w' => e = .returned (.bool true) ∧ Cls W6.heap.size W6 w' from fun W h => by
                have hh := same_any W _ _ _ _ (OwnV.strs (HM6.out.kept h (Nat.le_refl _))) ((OwnV.strs (HO6.out.kept h (Nat.le_refl _))).take q (by rw [HLN.out]; exact x4)) hln (by rw [List.length_take]; have := HLN.out; omega)
                rw [← HX2x.out, sameB_self] at hh
                exact hh.mono fun e w' ⟨h1, h2⟩ => ⟨h1, h.step (Nat.le_refl _) h2⟩)
              refine wp_region_quiet (C := Cls W6.heap.size W6) (by kernel_rfl) (by kernel_rfl) (Cls.start _ _) ?_
              simp only []
              repeat (first
                | (refine q_call ?_ 21 #[.slice ma q ma2, .slice va q vc] ?_ cs.out ?_
                   · rfl
                   · intro w; go_simp; done
                   simp only [Act.put, List.setIfInBounds_toArray, List.set_cons_zero, List.set_cons_succ])
                | (refine q_val (v := .bool false) ?_ ?_ ?_
                   · rfl
                   · intro w hw; obtain ⟨z0, z1⟩ := cr.out w hw; go_simp; done
                   simp only [Act.put, List.setIfInBounds_toArray, List.set_cons_zero, List.set_cons_succ])
                | (apply q_val
                   · rfl
                   · intro w hw; obtain ⟨z0, z1⟩ := cr.out w hw; go_simp; first | done | with_reducible rfl | rfl
                   simp only [Act.put, List.setIfInBounds_toArray, List.set_cons_zero, List.set_cons_succ]))
              refine wpQuiet_nil ?_
              intro w7 hC
              have HB7 := hidp (HB6.out.trans (Below.mono hC HB6.out.size)); have HD7 := hidp (HD6.out.below hC HD6.out.lt); have HE7 := hidp (HE6.out.below hC HE6.out.lt); have HG7 := hidp (HG6.out.below hC HG6.out.lt); have HS7 := hidp (HS6.out.below hC HS6.out.lt); have HO7 := hidp (HM6.out.kept hC (Nat.le_refl _))
              clear hC cr cs
              go_wp2_with fail
              obtain ⟨U, hU⟩ : ∃ U, ({ w7 with drawn := w7.drawn + 1 } : World) = U := ⟨_, rfl⟩
              have bU : Below w7.heap.size w7 U := by rw [← hU]; exact (Below.refl _ _).drew
              have HBU := hidp (HB7.out.trans (bU.mono HB7.out.size)); have HDU := hidp (HD7.out.below bU HD7.out.lt); have HEU := hidp (HE7.out.below bU HE7.out.lt); have HGU := hidp (HG7.out.below bU HG7.out.lt); have HSU := hidp (HS7.out.below bU HS7.out.lt); have HOU := hidp (HO7.out.kept bU (Nat.le_refl _))
              clear bU
              have hS0 : ∀ W, Arr W bg 23 [.string Z, .int .i64 ((NM : Nat) : Int), .int .i64 room] → Arr W (bg + 1) 33 [.slice ma q ma2, .int .i64 ((cj : Nat) : Int)] → W.cell? ⟨bg, 0, none⟩ = some (.string Z) ∧ W.cell? ⟨bg, 1, none⟩ = some (.int .i64 ((NM : Nat) : Int)) ∧ W.cell? ⟨bg, 2, none⟩ = some (.int .i64 room) ∧ W.cell? ⟨bg + 1, 0, none⟩ = some (.slice ma q ma2) ∧ W.cell? ⟨bg + 1, 1, none⟩ = some (.int .i64 ((cj : Nat) : Int)) := fun W g1 g2 => by
                obtain ⟨q0, q1, q2, _⟩ := arr3 g1
                obtain ⟨z0, z1, _⟩ := arr2 g2
                exact ⟨q0, q1, q2, z0, z1⟩
              have hS1 := hS0 U HGU.out HSU.out
              have hS2 := hS0 (((U.setCell ⟨be, 0, none⟩ (.string Z)).setCell ⟨be, 1, none⟩ (.int .i64 ((NM : Nat) : Int))).setCell ⟨be, 2, none⟩ (.int .i64 room)) (HGU.out.put3 hgne (.string Z) (.int .i64 ((NM : Nat) : Int)) (.int .i64 room)) (HSU.out.put3 hsne (.string Z) (.int .i64 ((NM : Nat) : Int)) (.int .i64 room))
              obtain ⟨e0, e1, e2, ef⟩ := arr3 HEU.out
              have ef0 := ef 0; have ef1 := ef 1; have ef2 := ef 2
              clear ef hS0
              refine wp_region_noPanic ?_
              refine wp_region_scr (S := fun W => W.cell? ⟨bg, 0, none⟩ = some (.string Z) ∧ W.cell? ⟨bg, 1, none⟩ = some (.int .i64 ((NM : Nat) : Int)) ∧ W.cell? ⟨bg, 2, none⟩ = some (.int .i64 room) ∧ W.cell? ⟨bg + 1, 0, none⟩ = some (.slice ma q ma2) ∧ W.cell? ⟨bg + 1, 1, none⟩ = some (.int .i64 ((cj : Nat) : Int))) (.take 0 (.take 1 (.take 2 (.take 3 (.take 4 (.take 5 (.take 6 (.take 7 (.one 8 (.take 9 (.take 10 (.take 11 (.take 12 .done))))))))))))) (by kernel_rfl) (by kernel_rfl) (fun _ _ _ _ _ h => h) (by simp [Scr.depth]) (by kernel_rfl) (by rw [hU]; exact hS1) ?_
              simp only [hU]
              apply s_val
              case ho => rfl
              case hw => rfl
              case hv => intro w hw; obtain ⟨x0, x1, x2, x3, x4⟩ := hw; go_simp; first | done | with_reducible rfl | rfl
              simp only [Act.put, List.getElem_toArray, List.getElem_cons_zero, List.getElem_cons_succ, List.setIfInBounds_toArray, List.set_cons_zero, List.set_cons_succ]
              apply s_val
              case ho => rfl
              case hw => rfl
              case hv => intro w hw; obtain ⟨x0, x1, x2, x3, x4⟩ := hw; go_simp; first | done | with_reducible rfl | rfl
              simp only [Act.put, List.getElem_toArray, List.getElem_cons_zero, List.getElem_cons_succ, List.setIfInBounds_toArray, List.set_cons_zero, List.set_cons_succ]
              apply s_val
              case ho => rfl
              case hw => rfl
              case hv => intro w hw; obtain ⟨x0, x1, x2, x3, x4⟩ := hw; go_simp; first | done | with_reducible rfl | rfl
              simp only [Act.put, List.getElem_toArray, List.getElem_cons_zero, List.getElem_cons_succ, List.setIfInBounds_toArray, List.set_cons_zero, List.set_cons_succ]
              apply s_val
              case ho => rfl
              case hw => rfl
              case hv => intro w hw; obtain ⟨x0, x1, x2, x3, x4⟩ := hw; go_simp; first | done | with_reducible rfl | rfl
              simp only [Act.put, List.getElem_toArray, List.getElem_cons_zero, List.getElem_cons_succ, List.setIfInBounds_toArray, List.set_cons_zero, List.set_cons_succ]
              apply s_val
              case ho => rfl
              case hw => rfl
              case hv => intro w hw; obtain ⟨x0, x1, x2, x3, x4⟩ := hw; go_simp; first | done | with_reducible rfl | rfl
              simp only [Act.put, List.getElem_toArray, List.getElem_cons_zero, List.getElem_cons_succ, List.setIfInBounds_toArray, List.set_cons_zero, List.set_cons_succ]
              apply s_val
              case ho => rfl
              case hw => rfl
              case hv => intro w hw; obtain ⟨x0, x1, x2, x3, x4⟩ := hw; go_simp; first | done | with_reducible rfl | rfl
              simp only [Act.put, List.getElem_toArray, List.getElem_cons_zero, List.getElem_cons_succ, List.setIfInBounds_toArray, List.set_cons_zero, List.set_cons_succ]
              apply s_val
              case ho => rfl
              case hw => rfl
              case hv => intro w hw; obtain ⟨x0, x1, x2, x3, x4⟩ := hw; go_simp; first | done | with_reducible rfl | rfl
              simp only [Act.put, List.getElem_toArray, List.getElem_cons_zero, List.getElem_cons_succ, List.setIfInBounds_toArray, List.set_cons_zero, List.set_cons_succ]
              apply s_val
              case ho => rfl
              case hw => rfl
              case hv => intro w hw; obtain ⟨x0, x1, x2, x3, x4⟩ := hw; go_simp; first | done | with_reducible rfl | rfl
              simp only [Act.put, List.getElem_toArray, List.getElem_cons_zero, List.getElem_cons_succ, List.setIfInBounds_toArray, List.set_cons_zero, List.set_cons_succ]
              apply o_put (W := (((U.setCell ⟨be, 0, none⟩ (.string Z)).setCell ⟨be, 1, none⟩ (.int .i64 ((NM : Nat) : Int))).setCell ⟨be, 2, none⟩ (.int .i64 room))) (hS := hS2)
              case ho => rfl
              case hw => rfl
              case hop => go_simp; done
              simp only [Act.put, List.getElem_toArray, List.getElem_cons_zero, List.getElem_cons_succ, List.setIfInBounds_toArray, List.set_cons_zero, List.set_cons_succ]
              apply s_val
              case ho => rfl
              case hw => rfl
              case hv => intro w hw; obtain ⟨x0, x1, x2, x3, x4⟩ := hw; go_simp; first | done | with_reducible rfl | rfl
              simp only [Act.put, List.getElem_toArray, List.getElem_cons_zero, List.getElem_cons_succ, List.setIfInBounds_toArray, List.set_cons_zero, List.set_cons_succ]
              apply s_val
              case ho => rfl
              case hw => rfl
              case hv => intro w hw; obtain ⟨x0, x1, x2, x3, x4⟩ := hw; go_simp; first | done | with_reducible rfl | rfl
              simp only [Act.put, List.getElem_toArray, List.getElem_cons_zero, List.getElem_cons_succ, List.setIfInBounds_toArray, List.set_cons_zero, List.set_cons_succ]
              apply s_val
              case ho => rfl
              case hw => rfl
              case hv => intro w hw; obtain ⟨x0, x1, x2, x3, x4⟩ := hw; go_simp; first | done | with_reducible rfl | rfl
              simp only [Act.put, List.getElem_toArray, List.getElem_cons_zero, List.getElem_cons_succ, List.setIfInBounds_toArray, List.set_cons_zero, List.set_cons_succ]
              apply s_val
              case ho => rfl
              case hw => rfl
              case hv => intro w hw; obtain ⟨x0, x1, x2, x3, x4⟩ := hw; go_simp; first | done | with_reducible rfl | rfl
              simp only [Act.put, List.getElem_toArray, List.getElem_cons_zero, List.getElem_cons_succ, List.setIfInBounds_toArray, List.set_cons_zero, List.set_cons_succ]
              refine NoPanic.normal ?_
              clear hS1 hS2 hU e0 e1 e2 ef0 ef1 ef2
              obtain ⟨d0, d1, d2, df⟩ := arr3 HDU.out
              have df0 := df 0; have df1 := df 1; have df2 := df 2
              clear df
              obtain ⟨e0, e1, e2, ef⟩ := arr3 HEU.out
              have ef0 := ef 0; have ef1 := ef 1; have ef2 := ef 2
              clear ef
              go_wp2_with fail
              clear d0 df0 d1 df1 d2 df2 e0 ef0 e1 ef1 e2 ef2
              have HE8 := hidp (arr3_set HEU.out (.string Z) (.int .i64 ((NM : Nat) : Int)) (.int .i64 room)); have HD8 := hidp (HDU.out.put3 hnde (.string Z) (.int .i64 ((NM : Nat) : Int)) (.int .i64 room)); have HO8 := hidp (HOU.out.put3 HEU.out (by decide) (.string Z) (.int .i64 ((NM : Nat) : Int)) (.int .i64 room)); have HB8 := hidp (below_put3 HBU.out hgee (.string Z) (.int .i64 ((NM : Nat) : Int)) (.int .i64 room))
              have HD9 := hidp (arr3_set HD8.out (.string Z) (.int .i64 ((NM : Nat) : Int)) (.int .i64 room)); have HO9 := hidp (HO8.out.put3 HD8.out (by decide) (.string Z) (.int .i64 ((NM : Nat) : Int)) (.int .i64 room)); have HB9 := hidp (below_put3 HB8.out hged (.string Z) (.int .i64 ((NM : Nat) : Int)) (.int .i64 room))
              generalize hW9 : ((((((U.setCell ⟨be, 0, none⟩ (.string Z)).setCell ⟨be, 1, none⟩ (.int .i64 ((NM : Nat) : Int))).setCell ⟨be, 2, none⟩ (.int .i64 room)).setCell ⟨bd, 0, none⟩ (.string Z)).setCell ⟨bd, 1, none⟩ (.int .i64 ((NM : Nat) : Int))).setCell ⟨bd, 2, none⟩ (.int .i64 room)) = W9 at HD9 HO9 HB9 ⊢
              clear hW9 HE8 HD8 HO8 HB8
              refine (cR.out _).mono ?_
              rintro e wR ⟨vr, rfl, hvr, hbr⟩
              obtain ⟨ra, rcc, hre, -⟩ := hvr.formS
              rw [HQ.out] at hre
              subst hre
              have HBR := hidp (HB9.out.trans (hbr.mono HB9.out.size)); have HDR := hidp (HD9.out.below hbr HD9.out.lt); have HOR := hidp (HO9.out.kept hbr (Nat.le_refl _)); have HVR := hidp hvr
              clear hbr hvr
              have HBQ := hidp (HBR.out.alloc HBR.out.size (.cells #[.slice ra q rcc, .int .i64 ((cj : Nat) : Int)] 33)); have HDQ := hidp (HDR.out.alloc (.cells #[.slice ra q rcc, .int .i64 ((cj : Nat) : Int)] 33)); have HOQ := hidp (HOR.out.alloc (.cells #[.slice ra q rcc, .int .i64 ((cj : Nat) : Int)] 33))
              have HS := hidp (same_any (wR.alloc (.cells #[.slice ra q rcc, .int .i64 ((cj : Nat) : Int)] 33)) _ _ _ _ (OwnV.strs (HVR.out.alloc _)) (OwnV.strs HOQ.out) hln hln)
              rw [sameB_self] at HS
              have HNW := hidp (Arr.new wR 33 [.slice ra q rcc, .int .i64 ((cj : Nat) : Int)])
              have qmo : (((cj : Nat) : Int) != ((cj : Nat) : Int)) = false := by simp
              go_wp2_with fail
              generalize hWQ : (wR.alloc (.cells #[.slice ra q rcc, .int .i64 ((cj : Nat) : Int)] 33)) = WQ at HBQ HDQ HOQ HS HNW ⊢
              obtain ⟨bq, hbq⟩ : ∃ b, wR.heap.size = b := ⟨_, rfl⟩
              rw [hbq] at HNW ⊢
              clear hWQ hbq
              refine HS.out.mono ?_
              rintro e wS ⟨rfl, hbs⟩
              have HBS := hidp (HBQ.out.trans (hbs.mono HBQ.out.size)); have HDS := hidp (HDQ.out.below hbs HDQ.out.lt); have HOS := hidp (HOQ.out.kept hbs (Nat.le_refl _)); have HNS := hidp (HNW.out.below hbs HNW.out.lt)
              clear hbs
              obtain ⟨n0, n1, nf⟩ := arr2 HNS.out
              clear nf
              go_wp2_with fail
              exact ⟨⟨i + 1, rs2.length, q, cj, cj, rs2, ej, ma, ma2, by go_num, by omega, (by rw [HQ.out]), rfl, rfl, rfl, Nat.le_refl _, H8n.out, (by rw [HNM.out]; omega), HLD2.out, ⟨ej, (by rw [List.take_of_length_le (Nat.le_refl _)]; exact HLD2.out), HQ.out⟩, (by rw [HQ.out]; exact HOS.out), (by rw [HZZ.out, List.take_of_length_le (Nat.le_refl _), HNM.out]; exact HDS.out), HBS.out⟩, by simp [intOf]; omega⟩
            · have e3k : (k == 3) = false := by simpa using hk3
              clear hk3
              by_cases hk4 : k = 4
              · have e4k : (k == 4) = true := by simpa using hk4
                clear hk4
                have hAd : A.data.toList = cat rs := by rw [← HA.out, mkS_data]
                have hrd : rdT A.data.toList = rs := by rw [hAd]; exact rdT_whole rs H8.out
                have cc := hidp (fun W => comp_ok W A y room okd.out al mo (by rw [hrd]; exact HLD.out))
                have hdl := dat_le H8.out HLD.out
                rw [HN.out] at hdl
                rw [anew_cat H8.out HLD.out] at cc hdl
                have H8n := hidp (anew_small H8.out HLD.out)
                have HLD2 := hidp (ld_anew HLD.out)
                obtain ⟨rs2, hrs2⟩ : ∃ q, anew al mo = q := ⟨_, rfl⟩
                rw [hrs2] at cc hdl H8n HLD2
                obtain ⟨U, hU⟩ : ∃ U, mkS (cat rs2) = U := ⟨_, rfl⟩
                obtain ⟨M, hM⟩ : ∃ M, (cat rs2).length = M := ⟨_, rfl⟩
                rw [hU, hM] at cc
                rw [hM] at hdl
                have HU := hidp hU; have HM := hidp hM
                have hUs : U.size = M := by rw [← hU, mkS_size]; exact hM
                have hMr : (M : Int) ≤ room := by omega
                have qgt : decide ((A.size : Int) < (U.size : Int)) = false := by simp; omega
                have qgt2 : decide ((N : Int) < (M : Int)) = false := by simp; omega
                have hln : al.length ≤ 140737488351232 := by have := HLN.out; omega
                have cR := hidp (fun W => load_rs W rs2 H8n.out al mo HLD2.out U HU.out (by omega))
                clear hU hM hrs2 hAd hrd
                go_wp2_with fail
                clear d0 d1 d2 y0 y1 y2 y3
                have HX := hidp ((HB.out.alloc hle (.cells #[.int .i64 k, .string t, .int .i64 m, .int .u8 (bb.toNat : Int)] 43)).alloc (HB.out.alloc hle (.cells #[.int .i64 k, .string t, .int .i64 m, .int .u8 (bb.toNat : Int)] 43)).size (.cells #[.string A, .int .i64 ((y : Nat) : Int), .int .i64 room] 23))
                have HDX := hidp ((HD.out.alloc (.cells #[.int .i64 k, .string t, .int .i64 m, .int .u8 (bb.toNat : Int)] 43)).alloc (.cells #[.string A, .int .i64 ((y : Nat) : Int), .int .i64 room] 23)); have HOX := hidp ((HO.out.alloc (.cells #[.int .i64 k, .string t, .int .i64 m, .int .u8 (bb.toNat : Int)] 43)).alloc (.cells #[.string A, .int .i64 ((y : Nat) : Int), .int .i64 room] 23)); have HAX := hidp ((Arr.new wr 43 [.int .i64 k, .string t, .int .i64 m, .int .u8 (bb.toNat : Int)]).alloc (.cells #[.string A, .int .i64 ((y : Nat) : Int), .int .i64 room] 23))
                have HEX := hidp (show Arr _ (wr.heap.size + 1) 23 [.string A, .int .i64 ((y : Nat) : Int), .int .i64 room] from by
                  have h := Arr.new (wr.alloc (.cells #[.int .i64 k, .string t, .int .i64 m, .int .u8 (bb.toNat : Int)] 43)) 23 [.string A, .int .i64 ((y : Nat) : Int), .int .i64 room]
                  rw [heap_size_alloc] at h
                  exact h)
                obtain ⟨bx, hbx⟩ : ∃ b, wr.heap.size = b := ⟨_, rfl⟩
                have hgex : w.heap.size ≤ bx := by rw [← hbx]; exact hle
                have hnxd : bx ≠ bd := by rw [← hbx]; omega
                have hned0 : bx + 1 ≠ bd := by rw [← hbx]; omega
                generalize hWX : ((wr.alloc (.cells #[.int .i64 k, .string t, .int .i64 m, .int .u8 (bb.toNat : Int)] 43)).alloc (.cells #[.string A, .int .i64 ((y : Nat) : Int), .int .i64 room] 23)) = WX at HX HDX HOX HAX HEX ⊢
                rw [hbx] at HAX HEX ⊢
                obtain ⟨be, hbe⟩ : ∃ b, bx + 1 = b := ⟨_, rfl⟩
                rw [hbe] at HEX hned0 ⊢
                have hned : be ≠ bd := hned0
                have hnde : bd ≠ be := fun h => hned0 h.symm
                have hnxe : bx ≠ be := by omega
                have hgee : w.heap.size ≤ be := by omega
                clear hWX hbx hle hned0 hbe
                refine (cc.out _).mono ?_
                rintro e w3 ⟨rfl, hb3⟩
                have HB3 := hidp (HX.out.trans (hb3.mono HX.out.size))
                have HD3 := hidp (HDX.out.below hb3 HDX.out.lt)
                have HA3 := hidp (HAX.out.below hb3 HAX.out.lt)
                have HE3 := hidp (HEX.out.below hb3 HEX.out.lt)
                have HO3 := hidp (HOX.out.kept hb3 (Nat.le_refl _))
                have hle3 := HB3.out.size
                clear hb3
                obtain ⟨d0, d1, d2, df⟩ := arr3 HD3.out
                have df0 := df 0; have df1 := df 1; have df2 := df 2
                clear df
                obtain ⟨e0, e1, e2, ef⟩ := arr3 HE3.out
                have ef0 := ef 0; have ef1 := ef 1; have ef2 := ef 2
                clear ef
                go_wp2_with fail
                clear d0 df0 d1 df1 d2 df2 e0 ef0 e1 ef1 e2 ef2
                have HE8 := hidp (arr3_set HE3.out (.string U) (.int .i64 ((M : Nat) : Int)) (.int .i64 room)); have HD8 := hidp (HD3.out.put3 hnde (.string U) (.int .i64 ((M : Nat) : Int)) (.int .i64 room)); have HO8 := hidp (HO3.out.put3 HE3.out (by decide) (.string U) (.int .i64 ((M : Nat) : Int)) (.int .i64 room)); have HB8 := hidp (below_put3 HB3.out hgee (.string U) (.int .i64 ((M : Nat) : Int)) (.int .i64 room))
                have HD9 := hidp (arr3_set HD8.out (.string U) (.int .i64 ((M : Nat) : Int)) (.int .i64 room)); have HO9 := hidp (HO8.out.put3 HD8.out (by decide) (.string U) (.int .i64 ((M : Nat) : Int)) (.int .i64 room)); have HB9 := hidp (below_put3 HB8.out hged (.string U) (.int .i64 ((M : Nat) : Int)) (.int .i64 room))
                generalize hW9 : ((((((w3.setCell ⟨be, 0, none⟩ (.string U)).setCell ⟨be, 1, none⟩ (.int .i64 ((M : Nat) : Int))).setCell ⟨be, 2, none⟩ (.int .i64 room)).setCell ⟨bd, 0, none⟩ (.string U)).setCell ⟨bd, 1, none⟩ (.int .i64 ((M : Nat) : Int))).setCell ⟨bd, 2, none⟩ (.int .i64 room)) = W9 at HD9 HO9 HB9 ⊢
                clear hW9 HE8 HD8 HO8 HB8
                refine (cR.out _).mono ?_
                rintro e wR ⟨vr, rfl, hvr, hbr⟩
                obtain ⟨ra, rcc, hre, -⟩ := hvr.formS
                rw [HLN.out] at hre
                subst hre
                have HBR := hidp (HB9.out.trans (hbr.mono HB9.out.size)); have HDR := hidp (HD9.out.below hbr HD9.out.lt); have HOR := hidp (HO9.out.kept hbr (Nat.le_refl _)); have HVR := hidp hvr
                clear hbr hvr
                have HBQ := hidp (HBR.out.alloc HBR.out.size (.cells #[.slice ra ln rcc, .int .i64 ((mo : Nat) : Int)] 33)); have HDQ := hidp (HDR.out.alloc (.cells #[.slice ra ln rcc, .int .i64 ((mo : Nat) : Int)] 33)); have HOQ := hidp (HOR.out.alloc (.cells #[.slice ra ln rcc, .int .i64 ((mo : Nat) : Int)] 33))
                have HS := hidp (same_any (wR.alloc (.cells #[.slice ra ln rcc, .int .i64 ((mo : Nat) : Int)] 33)) _ _ _ _ (OwnV.strs (HVR.out.alloc _)) (OwnV.strs HOQ.out) hln hln)
                rw [sameB_self] at HS
                have HNW := hidp (Arr.new wR 33 [.slice ra ln rcc, .int .i64 ((mo : Nat) : Int)])
                have qmo : (((mo : Nat) : Int) != ((mo : Nat) : Int)) = false := by simp
                go_wp2_with fail
                generalize hWQ : (wR.alloc (.cells #[.slice ra ln rcc, .int .i64 ((mo : Nat) : Int)] 33)) = WQ at HBQ HDQ HOQ HS HNW ⊢
                obtain ⟨bq, hbq⟩ : ∃ b, wR.heap.size = b := ⟨_, rfl⟩
                rw [hbq] at HNW ⊢
                clear hWQ hbq
                refine HS.out.mono ?_
                rintro e wS ⟨rfl, hbs⟩
                have HBS := hidp (HBQ.out.trans (hbs.mono HBQ.out.size)); have HDS := hidp (HDQ.out.below hbs HDQ.out.lt); have HOS := hidp (HOQ.out.kept hbs (Nat.le_refl _)); have HNS := hidp (HNW.out.below hbs HNW.out.lt)
                clear hbs
                obtain ⟨n0, n1, nf⟩ := arr2 HNS.out
                clear nf
                go_wp2_with fail
                exact ⟨⟨i + 1, rs2.length, ln, mo, mo, rs2, al, va, vc, by go_num, by omega, (by rw [HLN.out]), rfl, rfl, rfl, Nat.le_refl _, H8n.out, (by rw [HM.out]; exact hMr), HLD2.out, ⟨al, (by rw [List.take_of_length_le (Nat.le_refl _)]; exact HLD2.out), HLN.out⟩, (by rw [HLN.out]; exact HOS.out), (by rw [HU.out, List.take_of_length_le (Nat.le_refl _), HM.out]; exact HDS.out), HBS.out⟩, by simp [intOf]; omega⟩
              · have e4k : (k == 4) = false := by simpa using hk4
                clear hk4
                as_aux_lemma =>
                  have hln : al.length ≤ 140737488351232 := by have := HLN.out; omega
                  have cR := hidp (fun W => load_rs W rs H8.out al mo HLD.out A HA.out (by omega))
                  have qf := (arr3 HD.out).2.2.2
                  have df0 := qf 0; have df1 := qf 1; have df2 := qf 2
                  clear qf
                  go_wp2_with fail
                  clear d0 d1 d2 y0 y1 y2 y3 df0 df1 df2
                  have HD9 := hidp (arr3_set HD.out (.string A) (.int .i64 ((y : Nat) : Int)) (.int .i64 room)); have HO9 := hidp (HO.out.put3 HD.out (by decide) (.string A) (.int .i64 ((y : Nat) : Int)) (.int .i64 room)); have HB9 := hidp (below_put3 HB.out hged (.string A) (.int .i64 ((y : Nat) : Int)) (.int .i64 room))
                  generalize hW9 : (((wr.setCell ⟨bd, 0, none⟩ (.string A)).setCell ⟨bd, 1, none⟩ (.int .i64 ((y : Nat) : Int))).setCell ⟨bd, 2, none⟩ (.int .i64 room)) = W9 at HD9 HO9 HB9 ⊢
                  clear hW9
                  have HBa := hidp ((HB9.out.alloc HB9.out.size (.cells #[.int .i64 k, .string t, .int .i64 m, .int .u8 (bb.toNat : Int)] 43)).alloc (HB9.out.alloc HB9.out.size (.cells #[.int .i64 k, .string t, .int .i64 m, .int .u8 (bb.toNat : Int)] 43)).size (.cells #[.string A, .int .i64 ((y : Nat) : Int), .int .i64 room] 23)); have HDa := hidp ((HD9.out.alloc (.cells #[.int .i64 k, .string t, .int .i64 m, .int .u8 (bb.toNat : Int)] 43)).alloc (.cells #[.string A, .int .i64 ((y : Nat) : Int), .int .i64 room] 23)); have HOa := hidp ((HO9.out.alloc (.cells #[.int .i64 k, .string t, .int .i64 m, .int .u8 (bb.toNat : Int)] 43)).alloc (.cells #[.string A, .int .i64 ((y : Nat) : Int), .int .i64 room] 23))
                  generalize hWa : ((W9.alloc (.cells #[.int .i64 k, .string t, .int .i64 m, .int .u8 (bb.toNat : Int)] 43)).alloc (.cells #[.string A, .int .i64 ((y : Nat) : Int), .int .i64 room] 23)) = Wa at HBa HDa HOa ⊢
                  clear hWa HB9 HD9 HO9
                  have HB9 := HBa; have HD9 := HDa; have HO9 := HOa
                  refine (cR.out _).mono ?_
                  rintro e wR ⟨vr, rfl, hvr, hbr⟩
                  obtain ⟨ra, rcc, hre, -⟩ := hvr.formS
                  rw [HLN.out] at hre
                  subst hre
                  have HBR := hidp (HB9.out.trans (hbr.mono HB9.out.size)); have HDR := hidp (HD9.out.below hbr HD9.out.lt); have HOR := hidp (HO9.out.kept hbr (Nat.le_refl _)); have HVR := hidp hvr
                  clear hbr hvr
                  have HBQ := hidp (HBR.out.alloc HBR.out.size (.cells #[.slice ra ln rcc, .int .i64 ((mo : Nat) : Int)] 33)); have HDQ := hidp (HDR.out.alloc (.cells #[.slice ra ln rcc, .int .i64 ((mo : Nat) : Int)] 33)); have HOQ := hidp (HOR.out.alloc (.cells #[.slice ra ln rcc, .int .i64 ((mo : Nat) : Int)] 33))
                  have HS := hidp (same_any (wR.alloc (.cells #[.slice ra ln rcc, .int .i64 ((mo : Nat) : Int)] 33)) _ _ _ _ (OwnV.strs (HVR.out.alloc _)) (OwnV.strs HOQ.out) hln hln)
                  rw [sameB_self] at HS
                  have HNW := hidp (Arr.new wR 33 [.slice ra ln rcc, .int .i64 ((mo : Nat) : Int)])
                  have qmo : (((mo : Nat) : Int) != ((mo : Nat) : Int)) = false := by simp
                  go_wp2_with fail
                  generalize hWQ : (wR.alloc (.cells #[.slice ra ln rcc, .int .i64 ((mo : Nat) : Int)] 33)) = WQ at HBQ HDQ HOQ HS HNW ⊢
                  obtain ⟨bq, hbq⟩ : ∃ b, wR.heap.size = b := ⟨_, rfl⟩
                  rw [hbq] at HNW ⊢
                  clear hWQ hbq
                  refine HS.out.mono ?_
                  rintro e wS ⟨rfl, hbs⟩
                  have HBS := hidp (HBQ.out.trans (hbs.mono HBQ.out.size)); have HDS := hidp (HDQ.out.below hbs HDQ.out.lt); have HOS := hidp (HOQ.out.kept hbs (Nat.le_refl _)); have HNS := hidp (HNW.out.below hbs HNW.out.lt)
                  clear hbs
                  obtain ⟨n0, n1, nf⟩ := arr2 HNS.out
                  clear nf
                  go_wp2_with fail
                  exact ⟨⟨i + 1, p, n, cp, mo, rs, al, va, vc, by go_num, by omega, (by rw [HLN.out]), rfl, rfl, rfl, hp, H8.out, (by rw [HN.out]; exact hr), HLD.out, ⟨ep, HEP.out, HEPN.out⟩, (by rw [HLN.out]; exact HOS.out), (by rw [HA.out, HY.out]; exact HDS.out), HBS.out⟩, by simp [intOf]; omega⟩
    · obtain rfl : i = len := by omega
      go_wp2_with fail
      go_ret
      exact ⟨rfl, HB.out⟩
end Go.Proofs.Ytglfdenlgglccaa
