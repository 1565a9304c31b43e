/-
  JournalKeeps: the walk.
-/
import Derived.Test.YtlplnkddbhmnbaaJrnG
namespace Go.Proofs.Ytlplnkddbhmnbaa
set_option maxRecDepth 100000
set_option linter.unusedVariables false
set_option linter.unusedSimpArgs false
open Go.RowKit

theorem read_cat (W : World) (al : List ByteArray) (A : ByteArray) (N : Nat) (hA : mkS (cat al) = A) (hN : (cat al).length = N) (h8 : ∀ t ∈ al, t.size ≤ 8192) (hs : N ≤ 1048576) :
    Calls Try.prog 11 #[.string A] W fun e w' => ∃ v, e = .returned (.tuple #[v, .int .i64 ((N : Nat) : Int)]) ∧ OwnV w' W.heap.size 9 v (strV al) ∧ Below W.heap.size W w' := by
  have h := read_any W A (by rw [← hA, mkS_size, hN]; omega)
  unfold rdN at h
  rw [← hA, mkS_data, rdT_whole al h8, hN] at h
  rw [← hA]
  exact h
/-- What holds at a round's head. -/
def JkI (w : World) (bd : Nat) (room : Int) (len : Nat) (t7 t8 t46 : Value) (wr : World) : Prop := ∃ (i n : Nat) (al : List ByteArray) (va : Option Addr) (vc : Nat), t46 = .int .i64 i ∧ i ≤ len ∧ t7 = .slice va al.length vc ∧ t8 = .int .i64 n ∧ n ≤ al.length ∧ (∀ t ∈ al, t.size ≤ 8192) ∧ ((cat al).length : Int) ≤ room ∧
  OwnV wr w.heap.size 9 (.slice va al.length vc) (strV al) ∧ Arr wr bd 32 [.string (mkS (cat al)), .int .i64 (((cat (al.take n)).length : Nat) : Int), .int .i64 room] ∧ Below w.heap.size w wr
set_option maxHeartbeats 16000000 in
theorem jk_some (w : World) (room : Int) (h0 : 0 ≤ room) (h1 : room ≤ 1048576) (B o c len : Nat) (hlen : len ≤ 60) (hc : len ≤ c) (hB : B < w.heap.size) (hl : Hid (∀ i, i < len → ∃ k t n b, ActAt w B (o + i * 4) k t n b)) :
    Calls Try.prog 5 #[.int .i64 room, .slice (some ⟨B, o, none⟩) len c] w fun e w' => e = .returned (.bool true) ∧ Below w.heap.size w w' := by
  obtain ⟨i0, hi, hz0, hz1, hz2⟩ := info_parts info9
  have HI := hidp hi; have HZ0 := hidp hz0; have HZ1 := hidp hz1; have HZ2 := hidp hz2
  clear hi hz0 hz1 hz2
  have c0 := hidp lives9_any
  have c1 := hidp (fun W => new_ok W room h0 h1)
  have hd : decide ((60 : Int) < (len : Int)) = false := by simp; omega
  go_enter Try.func5, Try.ntmps5
  go_wp2_with fail
  refine (c0.out _).mono ?_
  rintro e w1 ⟨rfl, hb1⟩
  have HB1 := hidp hb1; clear hb1
  go_wp2_with fail
  refine (c1.out _).mono ?_
  rintro e w2 ⟨rfl, hb2⟩
  have HB2 := hidp (HB1.out.trans (hb2.mono HB1.out.size)); clear hb2
  have hle2 := HB2.out.size
  go_wp2_with fail
  have HX2 := hidp (HB2.out.alloc hle2 (.cells #[.string ⟨#[]⟩, .int .i64 0, .int .i64 room] 32))
  have Gd2 := hidp (Arr.new w2 32 [.string ⟨#[]⟩, .int .i64 0, .int .i64 room])
  obtain ⟨bd, hbd⟩ : ∃ b, w2.heap.size = b := ⟨_, rfl⟩
  generalize hW2 : (w2.alloc (.cells #[.string ⟨#[]⟩, .int .i64 0, .int .i64 room] 32)) = W2 at HX2 Gd2 ⊢
  rw [hbd] at Gd2 ⊢
  have hged : w.heap.size ≤ bd := by rw [← hbd]; exact hle2
  clear hW2 hbd
  go_loopw [7, 8, 46] (fun t7 t8 t46 wr => JkI w bd room len t7 t8 t46 wr) (fun _ _ t46 _ => len - (intOf t46).toNat)
  case atStart => exact ⟨0, 0, [], none, 0, rfl, by omega, rfl, rfl, by simp, by simp, by simpa [cat] using h0, OwnV.nil _ _ _, Gd2.out, HX2.out⟩
  case round =>
    obtain ⟨i, n, al, va, vc, rfl, hi, rfl, rfl, hn, h8, hr, hown, harr, hbw⟩ := hrel
    have hle := hbw.size
    obtain ⟨xa, vcx, hve, hvc⟩ := hown.formS
    simp only [Value.slice.injEq] at hve
    obtain ⟨-, -, rfl⟩ := hve
    have hcnt := cat_count al
    obtain ⟨A, hA⟩ : ∃ A, mkS (cat al) = A := ⟨_, rfl⟩
    obtain ⟨N, hN⟩ : ∃ N, (cat al).length = N := ⟨_, rfl⟩
    obtain ⟨y, hy⟩ : ∃ y, (cat (al.take n)).length = y := ⟨_, rfl⟩
    have hyN : y ≤ N := by
      rw [← hy, ← hN]
      have e : cat al = cat (al.take n) ++ cat (al.drop n) := by rw [← cat_append, List.take_append_drop]
      rw [e, List.length_append]; omega
    have hAs : A.size = N := by rw [← hA, mkS_size, hN]
    rw [hA, hy] at harr
    rw [hN] at hr hcnt
    obtain ⟨ln, hlnn⟩ : ∃ q, al.length = q := ⟨_, rfl⟩
    rw [hlnn] at hn hown hvc hcnt ⊢
    have HO := hidp hown; have HD := hidp harr; have HB := hidp hbw
    have HA := hidp hA; have HN := hidp hN; have HY := hidp hy; have H8 := hidp h8; have HLN := hidp hlnn
    have hltD := HD.out.lt
    have okd : Hid (okD A (y : Int) room) := ⟨by omega, by omega, by omega, h1⟩
    have q1 := fun W => neq_disk W A y room
    have hnr : N ≤ 1048576 := by omega
    have hls : (strV al).length = ln := by rw [strV_length]; exact hlnn
    clear hown harr hbw hA hN hy h8 hlnn c0 c1
    by_cases hlt : i < len
    · obtain ⟨k, t, m, bb, ha⟩ := hl.out i hlt
      have ha := ha.below HB.out hB
      obtain ⟨y0, y1, y2, y3⟩ := ha
      by_cases hk0 : k = 0
      · have e0 : (k == 0) = true := by simpa using hk0
        clear hk0
        by_cases ht8 : t.size ≤ 8192
        · by_cases hfit : ((recB t).length : Int) ≤ room - A.size
          · have cc := hidp (fun W => add_ok W A y room t okd.out ht8 hfit)
            obtain ⟨U, hU⟩ : ∃ U, A ++ mkS (recB t) = U := ⟨_, rfl⟩
            have HU := hidp (show mkS (cat (al ++ [t])) = U from by rw [← hU, cat_snoc, ← mkS_append, HA.out])
            rw [hU] at cc
            clear hU
            have hM0 : (cat (al ++ [t])).length = N + (recB t).length := by rw [cat_snoc, List.length_append, HN.out]
            have H8n := hidp (show ∀ x ∈ al ++ [t], x.size ≤ 8192 from fun x hx => by
              rcases List.mem_append.1 hx with h | h
              · exact H8.out x h
              · simp at h; subst h; exact ht8)
            have hl0 : (al ++ [t]).length = ln + 1 := by rw [List.length_append, HLN.out]; rfl
            have ht0 : (al ++ [t]).take n = al.take n := List.take_append_of_le_length (by rw [HLN.out]; exact hn)
            obtain ⟨al2, hal2⟩ : ∃ x, al ++ [t] = x := ⟨_, rfl⟩
            rw [hal2] at HU hM0 H8n hl0 ht0
            have HA2 := hidp hal2
            obtain ⟨M, hM⟩ : ∃ M, (cat al2).length = M := ⟨_, rfl⟩
            rw [hM] at hM0
            have HM := hidp hM
            have hMr : M ≤ 1048576 := by omega
            have hUs : U.size = M := by rw [← HU.out, mkS_size]; exact hM
            have HRn := hidp (show ((cat al2).length : Int) ≤ room by rw [HM.out]; omega)
            have HDn := hidp (show ∀ W, Arr W bd 32 [.string U, .int .i64 ((y : Nat) : Int), .int .i64 room] → Arr W bd 32 [.string (mkS (cat al2)), .int .i64 (((cat (al2.take n)).length : Nat) : Int), .int .i64 room] from fun W h => by
              rw [HU.out, ht0, HY.out]; exact h)
            have hln : al2.length ≤ 140737488351232 := by omega
            have HL2 := hidp hl0
            have cR := hidp (show ∀ W, Calls Try.prog 11 #[.string U] W fun e w' => ∃ v, e = .returned (.tuple #[v, .int .i64 ((M : Nat) : Int)]) ∧ OwnV w' W.heap.size 9 v (strV al2) ∧ Below W.heap.size W w' from fun W => read_cat W al2 U M HU.out HM.out H8n.out hMr)
            have t5 : (((M : Nat) : Int) != (U.size : Int)) = false := by rw [hUs]; simp
            clear hM ht8 hfit hM0 hl0 ht0 hal2
            obtain ⟨d0, d1, d2, df⟩ := arr3 HD.out
            clear df
            go_wp2_with fail
            clear d0 d1 d2 y0 y1 y2 y3
            have HX := hidp (HB.out.alloc hle (.cells #[.int .i64 k, .string t, .int .i64 m, .int .u8 (bb.toNat : Int)] 40))
            have HDX := hidp (HD.out.alloc (.cells #[.int .i64 k, .string t, .int .i64 m, .int .u8 (bb.toNat : Int)] 40))
            have HOX := hidp (HO.out.alloc (.cells #[.int .i64 k, .string t, .int .i64 m, .int .u8 (bb.toNat : Int)] 40))
            have HAX := hidp (Arr.new wr 40 [.int .i64 k, .string t, .int .i64 m, .int .u8 (bb.toNat : Int)])
            obtain ⟨bx, hbx⟩ : ∃ b, wr.heap.size = b := ⟨_, rfl⟩
            have hgex : w.heap.size ≤ bx := by rw [← hbx]; exact hle
            have hnxd : bx ≠ bd := by rw [← hbx]; omega
            generalize hWX : (wr.alloc (.cells #[.int .i64 k, .string t, .int .i64 m, .int .u8 (bb.toNat : Int)] 40)) = WX at HX HDX HOX HAX ⊢
            rw [hbx] at HAX ⊢
            clear hWX hbx hle
            have hleX := HX.out.size
            refine (cc.out _).mono ?_
            rintro e w3 ⟨rfl, hb3⟩
            have HB3 := hidp (HX.out.trans (hb3.mono HX.out.size)); have HD3 := hidp (HDX.out.below hb3 HDX.out.lt); have HO3 := hidp (HOX.out.kept hb3 (Nat.le_refl _)); have HA3 := hidp (HAX.out.below hb3 HAX.out.lt)
            have hle3 := HB3.out.size
            clear hb3
            obtain ⟨y0, y1, y2, y3⟩ := arr4 HA3.out
            have hltx3 := HA3.out.lt; have hltd3 := HD3.out.lt
            obtain ⟨d0, d1, d2, df⟩ := arr3 HD3.out
            clear df
            go_wp2_with ((at_builtin; (refine wpList_appW rfl (.tmp 63) (.tmp 66) 23 rfl w.heap.size 9 i0 _ 16 Try.underlying23 HI.out HZ0.out HZ1.out HZ2.out rfl _ (strV al) rfl ?_ _ _ (.string t) rfl ?_ rfl ?_ ?_ ?_ ?_)))
            · exact (HO3.out.alloc _).alloc _
            · have h := cell_new1 (w3.alloc (.cells #[.string U, .int .i64 ((y : Nat) : Int), .int .i64 room] 32)) (.string t) 9
              rw [heap_size_alloc] at h
              exact h
            · unfold maxLen; omega
            · omega
            · simp; omega
            · intro v' w4 ho4 hb4 hg4
              clear d0 d1 d2 y0 y1 y2 y3
              have HB4 := hidp (((HB3.out.alloc hle3 (.cells #[.string U, .int .i64 ((y : Nat) : Int), .int .i64 room] 32)).alloc (by simp; omega) (.cells #[.string t] 9)).trans hb4)
              have HO3x := hidp ((HO3.out.alloc (.cells #[.string U, .int .i64 ((y : Nat) : Int), .int .i64 room] 32)).alloc (.cells #[.string t] 9))
              have HD4 := hidp (((HD3.out.alloc (.cells #[.string U, .int .i64 ((y : Nat) : Int), .int .i64 room] 32)).alloc (.cells #[.string t] 9)).grown (by decide) HO3x.out hg4)
              have HE4 := hidp (((Arr.new w3 32 [.string U, .int .i64 ((y : Nat) : Int), .int .i64 room]).alloc (.cells #[.string t] 9)).grown (by decide) HO3x.out hg4)
              rw [strV_snoc, HA2.out] at ho4
              obtain ⟨xa2, xc2, rfl, hxc2⟩ := ho4.formS
              clear hxc2
              have HO4 := hidp ho4
              clear hb4 hg4 ho4 HO3x
              obtain ⟨e0, e1, e2, ef⟩ := arr3 HE4.out
              obtain ⟨d0, d1, d2, df⟩ := arr3 HD4.out
              have f0 := df 0; have f1 := df 1; have f2 := df 2
              clear df ef
              go_wp2_with fail
              clear d0 d1 d2 f0 f1 f2 e0 e1 e2
              have HD9 := hidp (arr3_set HD4.out (.string U) (.int .i64 ((y : Nat) : Int)) (.int .i64 room))
              have HO9 := hidp (HO4.out.put3 HD4.out (by decide) (.string U) (.int .i64 ((y : Nat) : Int)) (.int .i64 room))
              have HB9 := hidp (below_put3 HB4.out hged (.string U) (.int .i64 ((y : Nat) : Int)) (.int .i64 room))
              generalize hW9 : (((w4.setCell ⟨bd, 0, none⟩ (.string U)).setCell ⟨bd, 1, none⟩ (.int .i64 ((y : Nat) : Int))).setCell ⟨bd, 2, none⟩ (.int .i64 room)) = W9 at HD9 HO9 HB9 ⊢
              clear hW9
              refine (cR.out _).mono ?_
              rintro e wR ⟨vr, rfl, hvr, hbr⟩
              have HBR := hidp (HB9.out.trans (hbr.mono HB9.out.size)); have HDR := hidp (HD9.out.below hbr HD9.out.lt); have HOR := hidp (HO9.out.kept hbr (Nat.le_refl _))
              have hS := hidp (same_any wR _ _ _ _ (OwnV.strs hvr) (OwnV.strs HOR.out) hln hln)
              rw [sameB_self] at hS
              clear hbr hvr
              go_wp2_with fail
              refine hS.out.mono ?_
              rintro e wS ⟨rfl, hbs⟩
              have HBS := hidp (HBR.out.trans (hbs.mono HBR.out.size)); have HDS := hidp (HDR.out.below hbs HDR.out.lt); have HOS := hidp (HOR.out.kept hbs (Nat.le_refl _))
              clear hbs
              obtain ⟨d0, d1, d2, df⟩ := arr3 HDS.out
              clear df
              go_wp2_with fail
              exact ⟨⟨i + 1, n, al2, xa2, xc2, by go_num, by omega, rfl, rfl, (by have := HL2.out; omega), H8n.out, HRn.out, HOS.out, HDn.out _ HDS.out, HBS.out⟩, by simp [intOf]; omega⟩
          · have cc := hidp (fun W => add_full W A y room t okd.out ht8 (by omega))
            clear hfit
            have HRo := hidp (show ((cat al).length : Int) ≤ room by rw [HN.out]; exact hr)
            have hln : al.length ≤ 140737488351232 := by have := HLN.out; omega
            have cR := hidp (show ∀ W, Calls Try.prog 11 #[.string A] W fun e w' => ∃ v, e = .returned (.tuple #[v, .int .i64 ((N : Nat) : Int)]) ∧ OwnV w' W.heap.size 9 v (strV al) ∧ Below W.heap.size W w' from fun W => read_cat W al A N HA.out HN.out H8.out hnr)
            have t5 : (((N : Nat) : Int) != (A.size : Int)) = false := by rw [hAs]; simp
            obtain ⟨d0, d1, d2, df⟩ := arr3 HD.out
            clear df
            go_wp2_with fail
            clear d0 d1 d2 y0 y1 y2 y3
            have HX := hidp (HB.out.alloc hle (.cells #[.int .i64 k, .string t, .int .i64 m, .int .u8 (bb.toNat : Int)] 40))
            have HDX := hidp (HD.out.alloc (.cells #[.int .i64 k, .string t, .int .i64 m, .int .u8 (bb.toNat : Int)] 40))
            have HOX := hidp (HO.out.alloc (.cells #[.int .i64 k, .string t, .int .i64 m, .int .u8 (bb.toNat : Int)] 40))
            have HAX := hidp (Arr.new wr 40 [.int .i64 k, .string t, .int .i64 m, .int .u8 (bb.toNat : Int)])
            obtain ⟨bx, hbx⟩ : ∃ b, wr.heap.size = b := ⟨_, rfl⟩
            have hgex : w.heap.size ≤ bx := by rw [← hbx]; exact hle
            have hnxd : bx ≠ bd := by rw [← hbx]; omega
            generalize hWX : (wr.alloc (.cells #[.int .i64 k, .string t, .int .i64 m, .int .u8 (bb.toNat : Int)] 40)) = WX at HX HDX HOX HAX ⊢
            rw [hbx] at HAX ⊢
            clear hWX hbx hle
            have hleX := HX.out.size
            refine (cc.out _).mono ?_
            rintro e w3 ⟨rfl, hb3⟩
            have HB3 := hidp (HX.out.trans (hb3.mono HX.out.size)); have HD3 := hidp (HDX.out.below hb3 HDX.out.lt); have HO3 := hidp (HOX.out.kept hb3 (Nat.le_refl _)); have HA3 := hidp (HAX.out.below hb3 HAX.out.lt)
            have hle3 := HB3.out.size
            clear hb3
            have HE3 := hidp (Arr.new w3 32 [.string A, .int .i64 ((y : Nat) : Int), .int .i64 room])
            have HB4 := hidp (HB3.out.alloc hle3 (.cells #[.string A, .int .i64 ((y : Nat) : Int), .int .i64 room] 32)); have HD4 := hidp (HD3.out.alloc (.cells #[.string A, .int .i64 ((y : Nat) : Int), .int .i64 room] 32)); have HO4 := hidp (HO3.out.alloc (.cells #[.string A, .int .i64 ((y : Nat) : Int), .int .i64 room] 32)); have HA4 := hidp (HA3.out.alloc (.cells #[.string A, .int .i64 ((y : Nat) : Int), .int .i64 room] 32))
            have HE4 := hidp (Arr.new w3 32 [.string A, .int .i64 ((y : Nat) : Int), .int .i64 room])
            clear HE3 HE4
            obtain ⟨d0, d1, d2, df⟩ := arr3 HD3.out
            have f0 := df 0; have f1 := df 1; have f2 := df 2
            clear df
            have hltd3 := HD3.out.lt
            go_wp2_with fail
            clear d0 d1 d2 f0 f1 f2
            have HD9 := hidp (arr3_set HD3.out (.string A) (.int .i64 ((y : Nat) : Int)) (.int .i64 room))
            have HO9 := hidp (HO3.out.put3 HD3.out (by decide) (.string A) (.int .i64 ((y : Nat) : Int)) (.int .i64 room))
            have HB9 := hidp (below_put3 HB3.out hged (.string A) (.int .i64 ((y : Nat) : Int)) (.int .i64 room))
            generalize hW9 : (((w3.setCell ⟨bd, 0, none⟩ (.string A)).setCell ⟨bd, 1, none⟩ (.int .i64 ((y : Nat) : Int))).setCell ⟨bd, 2, none⟩ (.int .i64 room)) = W9 at HD9 HO9 HB9 ⊢
            clear hW9
            have HBa := hidp (HB9.out.alloc HB9.out.size (.cells #[.string A, .int .i64 ((y : Nat) : Int), .int .i64 room] 32)); have HDa := hidp (HD9.out.alloc (.cells #[.string A, .int .i64 ((y : Nat) : Int), .int .i64 room] 32)); have HOa := hidp (HO9.out.alloc (.cells #[.string A, .int .i64 ((y : Nat) : Int), .int .i64 room] 32))
            generalize hWa : (W9.alloc (.cells #[.string A, .int .i64 ((y : Nat) : Int), .int .i64 room] 32)) = Wa at HBa HDa HOa ⊢
            clear hWa
            refine (cR.out _).mono ?_
            rintro e wR ⟨vr, rfl, hvr, hbr⟩
            have HBR := hidp (HBa.out.trans (hbr.mono HBa.out.size)); have HDR := hidp (HDa.out.below hbr HDa.out.lt); have HOR := hidp (HOa.out.kept hbr (Nat.le_refl _))
            have hS := hidp (same_any wR _ _ _ _ (OwnV.strs hvr) (OwnV.strs HOR.out) hln hln)
            rw [sameB_self] at hS
            clear hbr hvr
            go_wp2_with fail
            refine hS.out.mono ?_
            rintro e wS ⟨rfl, hbs⟩
            have HBS := hidp (HBR.out.trans (hbs.mono HBR.out.size)); have HDS := hidp (HDR.out.below hbs HDR.out.lt); have HOS := hidp (HOR.out.kept hbs (Nat.le_refl _))
            clear hbs
            obtain ⟨d0, d1, d2, df⟩ := arr3 HDS.out
            clear df
            go_wp2_with fail
            exact ⟨⟨i + 1, n, al, va, vc, by go_num, by omega, (by rw [HLN.out]), rfl, (by have := HLN.out; omega), H8.out, HRo.out, (by rw [HLN.out]; exact HOS.out), (by rw [HA.out, HY.out]; exact HDS.out), HBS.out⟩, by simp [intOf]; omega⟩
        · have cc := hidp (fun W => add_longer W A y room t okd.out ht8)
          clear ht8
          have HRo := hidp (show ((cat al).length : Int) ≤ room by rw [HN.out]; exact hr)
          have hln : al.length ≤ 140737488351232 := by have := HLN.out; omega
          have cR := hidp (show ∀ W, Calls Try.prog 11 #[.string A] W fun e w' => ∃ v, e = .returned (.tuple #[v, .int .i64 ((N : Nat) : Int)]) ∧ OwnV w' W.heap.size 9 v (strV al) ∧ Below W.heap.size W w' from fun W => read_cat W al A N HA.out HN.out H8.out hnr)
          have t5 : (((N : Nat) : Int) != (A.size : Int)) = false := by rw [hAs]; simp
          obtain ⟨d0, d1, d2, df⟩ := arr3 HD.out
          clear df
          go_wp2_with fail
          clear d0 d1 d2 y0 y1 y2 y3
          have HX := hidp (HB.out.alloc hle (.cells #[.int .i64 k, .string t, .int .i64 m, .int .u8 (bb.toNat : Int)] 40))
          have HDX := hidp (HD.out.alloc (.cells #[.int .i64 k, .string t, .int .i64 m, .int .u8 (bb.toNat : Int)] 40))
          have HOX := hidp (HO.out.alloc (.cells #[.int .i64 k, .string t, .int .i64 m, .int .u8 (bb.toNat : Int)] 40))
          have HAX := hidp (Arr.new wr 40 [.int .i64 k, .string t, .int .i64 m, .int .u8 (bb.toNat : Int)])
          obtain ⟨bx, hbx⟩ : ∃ b, wr.heap.size = b := ⟨_, rfl⟩
          have hgex : w.heap.size ≤ bx := by rw [← hbx]; exact hle
          have hnxd : bx ≠ bd := by rw [← hbx]; omega
          generalize hWX : (wr.alloc (.cells #[.int .i64 k, .string t, .int .i64 m, .int .u8 (bb.toNat : Int)] 40)) = WX at HX HDX HOX HAX ⊢
          rw [hbx] at HAX ⊢
          clear hWX hbx hle
          have hleX := HX.out.size
          refine (cc.out _).mono ?_
          rintro e w3 ⟨rfl, hb3⟩
          have HB3 := hidp (HX.out.trans (hb3.mono HX.out.size)); have HD3 := hidp (HDX.out.below hb3 HDX.out.lt); have HO3 := hidp (HOX.out.kept hb3 (Nat.le_refl _)); have HA3 := hidp (HAX.out.below hb3 HAX.out.lt)
          have hle3 := HB3.out.size
          clear hb3
          have HE3 := hidp (Arr.new w3 32 [.string A, .int .i64 ((y : Nat) : Int), .int .i64 room])
          have HB4 := hidp (HB3.out.alloc hle3 (.cells #[.string A, .int .i64 ((y : Nat) : Int), .int .i64 room] 32)); have HD4 := hidp (HD3.out.alloc (.cells #[.string A, .int .i64 ((y : Nat) : Int), .int .i64 room] 32)); have HO4 := hidp (HO3.out.alloc (.cells #[.string A, .int .i64 ((y : Nat) : Int), .int .i64 room] 32)); have HA4 := hidp (HA3.out.alloc (.cells #[.string A, .int .i64 ((y : Nat) : Int), .int .i64 room] 32))
          have HE4 := hidp (Arr.new w3 32 [.string A, .int .i64 ((y : Nat) : Int), .int .i64 room])
          clear HE3 HE4
          obtain ⟨d0, d1, d2, df⟩ := arr3 HD3.out
          have f0 := df 0; have f1 := df 1; have f2 := df 2
          clear df
          have hltd3 := HD3.out.lt
          go_wp2_with fail
          clear d0 d1 d2 f0 f1 f2
          have HD9 := hidp (arr3_set HD3.out (.string A) (.int .i64 ((y : Nat) : Int)) (.int .i64 room))
          have HO9 := hidp (HO3.out.put3 HD3.out (by decide) (.string A) (.int .i64 ((y : Nat) : Int)) (.int .i64 room))
          have HB9 := hidp (below_put3 HB3.out hged (.string A) (.int .i64 ((y : Nat) : Int)) (.int .i64 room))
          generalize hW9 : (((w3.setCell ⟨bd, 0, none⟩ (.string A)).setCell ⟨bd, 1, none⟩ (.int .i64 ((y : Nat) : Int))).setCell ⟨bd, 2, none⟩ (.int .i64 room)) = W9 at HD9 HO9 HB9 ⊢
          clear hW9
          have HBa := hidp (HB9.out.alloc HB9.out.size (.cells #[.string A, .int .i64 ((y : Nat) : Int), .int .i64 room] 32)); have HDa := hidp (HD9.out.alloc (.cells #[.string A, .int .i64 ((y : Nat) : Int), .int .i64 room] 32)); have HOa := hidp (HO9.out.alloc (.cells #[.string A, .int .i64 ((y : Nat) : Int), .int .i64 room] 32))
          generalize hWa : (W9.alloc (.cells #[.string A, .int .i64 ((y : Nat) : Int), .int .i64 room] 32)) = Wa at HBa HDa HOa ⊢
          clear hWa
          refine (cR.out _).mono ?_
          rintro e wR ⟨vr, rfl, hvr, hbr⟩
          have HBR := hidp (HBa.out.trans (hbr.mono HBa.out.size)); have HDR := hidp (HDa.out.below hbr HDa.out.lt); have HOR := hidp (HOa.out.kept hbr (Nat.le_refl _))
          have hS := hidp (same_any wR _ _ _ _ (OwnV.strs hvr) (OwnV.strs HOR.out) hln hln)
          rw [sameB_self] at hS
          clear hbr hvr
          go_wp2_with fail
          refine hS.out.mono ?_
          rintro e wS ⟨rfl, hbs⟩
          have HBS := hidp (HBR.out.trans (hbs.mono HBR.out.size)); have HDS := hidp (HDR.out.below hbs HDR.out.lt); have HOS := hidp (HOR.out.kept hbs (Nat.le_refl _))
          clear hbs
          obtain ⟨d0, d1, d2, df⟩ := arr3 HDS.out
          clear df
          go_wp2_with fail
          exact ⟨⟨i + 1, n, al, va, vc, by go_num, by omega, (by rw [HLN.out]), rfl, (by have := HLN.out; omega), H8.out, HRo.out, (by rw [HLN.out]; exact HOS.out), (by rw [HA.out, HY.out]; exact HDS.out), HBS.out⟩, by simp [intOf]; omega⟩
      · have e0 : (k == 0) = false := by simpa using hk0
        clear hk0
        by_cases hk1 : k = 1
        · have e1 : (k == 1) = true := by simpa using hk1
          clear hk1
          have cc := hidp (fun W => sync_ok W A y room okd.out)
          rw [hAs] at cc
          have HRo := hidp (show ((cat al).length : Int) ≤ room by rw [HN.out]; exact hr)
          have hln : al.length ≤ 140737488351232 := by have := HLN.out; omega
          have cR := hidp (show ∀ W, Calls Try.prog 11 #[.string A] W fun e w' => ∃ v, e = .returned (.tuple #[v, .int .i64 ((N : Nat) : Int)]) ∧ OwnV w' W.heap.size 9 v (strV al) ∧ Below W.heap.size W w' from fun W => read_cat W al A N HA.out HN.out H8.out hnr)
          have t5 : (((N : Nat) : Int) != (A.size : Int)) = false := by rw [hAs]; simp
          obtain ⟨d0, d1, d2, df⟩ := arr3 HD.out
          clear df
          go_wp2_with fail
          clear d0 d1 d2 y0 y1 y2 y3
          have HX := hidp (HB.out.alloc hle (.cells #[.int .i64 k, .string t, .int .i64 m, .int .u8 (bb.toNat : Int)] 40))
          have HDX := hidp (HD.out.alloc (.cells #[.int .i64 k, .string t, .int .i64 m, .int .u8 (bb.toNat : Int)] 40))
          have HOX := hidp (HO.out.alloc (.cells #[.int .i64 k, .string t, .int .i64 m, .int .u8 (bb.toNat : Int)] 40))
          have HAX := hidp (Arr.new wr 40 [.int .i64 k, .string t, .int .i64 m, .int .u8 (bb.toNat : Int)])
          obtain ⟨bx, hbx⟩ : ∃ b, wr.heap.size = b := ⟨_, rfl⟩
          have hgex : w.heap.size ≤ bx := by rw [← hbx]; exact hle
          have hnxd : bx ≠ bd := by rw [← hbx]; omega
          generalize hWX : (wr.alloc (.cells #[.int .i64 k, .string t, .int .i64 m, .int .u8 (bb.toNat : Int)] 40)) = WX at HX HDX HOX HAX ⊢
          rw [hbx] at HAX ⊢
          clear hWX hbx hle
          have hleX := HX.out.size
          refine (cc.out _).mono ?_
          rintro e w3 ⟨rfl, hb3⟩
          have HB3 := hidp (HX.out.trans (hb3.mono HX.out.size)); have HD3 := hidp (HDX.out.below hb3 HDX.out.lt); have HO3 := hidp (HOX.out.kept hb3 (Nat.le_refl _)); have HA3 := hidp (HAX.out.below hb3 HAX.out.lt)
          have hle3 := HB3.out.size
          clear hb3
          have HB4 := hidp (HB3.out.alloc hle3 (.cells #[.string A, .int .i64 ((N : Nat) : Int), .int .i64 room] 32)); have HD4 := hidp (HD3.out.alloc (.cells #[.string A, .int .i64 ((N : Nat) : Int), .int .i64 room] 32)); have HO4 := hidp (HO3.out.alloc (.cells #[.string A, .int .i64 ((N : Nat) : Int), .int .i64 room] 32)); have HA4 := hidp (HA3.out.alloc (.cells #[.string A, .int .i64 ((N : Nat) : Int), .int .i64 room] 32))
          have HE4 := hidp (Arr.new w3 32 [.string A, .int .i64 ((N : Nat) : Int), .int .i64 room])
          clear HE4
          obtain ⟨d0, d1, d2, df⟩ := arr3 HD3.out
          have f0 := df 0; have f1 := df 1; have f2 := df 2
          clear df
          have hltd3 := HD3.out.lt
          go_wp2_with fail
          clear d0 d1 d2 f0 f1 f2
          have HD9 := hidp (arr3_set HD3.out (.string A) (.int .i64 ((N : Nat) : Int)) (.int .i64 room))
          have HO9 := hidp (HO3.out.put3 HD3.out (by decide) (.string A) (.int .i64 ((N : Nat) : Int)) (.int .i64 room))
          have HB9 := hidp (below_put3 HB3.out hged (.string A) (.int .i64 ((N : Nat) : Int)) (.int .i64 room))
          generalize hW9 : (((w3.setCell ⟨bd, 0, none⟩ (.string A)).setCell ⟨bd, 1, none⟩ (.int .i64 ((N : Nat) : Int))).setCell ⟨bd, 2, none⟩ (.int .i64 room)) = W9 at HD9 HO9 HB9 ⊢
          clear hW9
          have HBa := hidp (HB9.out.alloc HB9.out.size (.cells #[.string A, .int .i64 ((N : Nat) : Int), .int .i64 room] 32)); have HDa := hidp (HD9.out.alloc (.cells #[.string A, .int .i64 ((N : Nat) : Int), .int .i64 room] 32)); have HOa := hidp (HO9.out.alloc (.cells #[.string A, .int .i64 ((N : Nat) : Int), .int .i64 room] 32))
          generalize hWa : (W9.alloc (.cells #[.string A, .int .i64 ((N : Nat) : Int), .int .i64 room] 32)) = Wa at HBa HDa HOa ⊢
          clear hWa
          refine (cR.out _).mono ?_
          rintro e wR ⟨vr, rfl, hvr, hbr⟩
          have HBR := hidp (HBa.out.trans (hbr.mono HBa.out.size)); have HDR := hidp (HDa.out.below hbr HDa.out.lt); have HOR := hidp (HOa.out.kept hbr (Nat.le_refl _))
          have hS := hidp (same_any wR _ _ _ _ (OwnV.strs hvr) (OwnV.strs HOR.out) hln hln)
          rw [sameB_self] at hS
          clear hbr hvr
          go_wp2_with fail
          refine hS.out.mono ?_
          rintro e wS ⟨rfl, hbs⟩
          have HBS := hidp (HBR.out.trans (hbs.mono HBR.out.size)); have HDS := hidp (HDR.out.below hbs HDR.out.lt); have HOS := hidp (HOR.out.kept hbs (Nat.le_refl _))
          clear hbs
          obtain ⟨d0, d1, d2, df⟩ := arr3 HDS.out
          clear df
          go_wp2_with fail
          exact ⟨⟨i + 1, ln, al, va, vc, by go_num, by omega, (by rw [HLN.out]), rfl, (by have := HLN.out; omega), H8.out, HRo.out, (by rw [HLN.out]; exact HOS.out), (by rw [HA.out, List.take_of_length_le (by rw [HLN.out]; exact Nat.le_refl _), HN.out]; exact HDS.out), HBS.out⟩, by simp [intOf]; omega⟩
        · have e1 : (k == 1) = false := by simpa using hk1
          clear hk1
          by_cases hk2 : k = 2
          · have e2 : (k == 2) = true := by simpa using hk2
            clear hk2
            have cc := hidp (fun W => fail_ok W A y room m bb okd.out)
            have hAd : A.data.toList = cat al := by rw [← HA.out, mkS_data]
            obtain ⟨q, hq⟩ : ∃ q, keepN A.size y m = q := ⟨_, rfl⟩
            have hqN : y + q ≤ N := by have : keepN A.size y m ≤ A.size - y := by unfold keepN; omega
                                       omega
            obtain ⟨j, hj1, hj2, hj3⟩ := torn al H8.out n q bb (by rw [HLN.out]; exact hn) (by rw [HY.out, HN.out]; exact hqN)
            rw [HY.out] at hj3
            rw [hq, hAd] at cc
            obtain ⟨P, hP⟩ : ∃ P, failL (cat al) y q bb = P := ⟨_, rfl⟩
            rw [hP] at cc hj3
            have hPl : P.length = y + q := by rw [← hP]; exact failL_len _ _ _ _ (by rw [HN.out]; exact hqN)
            obtain ⟨G, hG⟩ : ∃ G, mkS P = G := ⟨_, rfl⟩
            have hGs : G.size = y + q := by rw [← hG, mkS_size]; exact hPl
            have okg : okD G ((y + q : Nat) : Int) room := ⟨by omega, by omega, by omega, h1⟩
            have cm := hidp (fun W => mend_ok W G ((y + q : Nat) : Int) room okg)
            have hGd : G.data.toList = P := by rw [← hG, mkS_data]
            unfold rdN at cm
            rw [hGd, hj3] at cm
            rw [hG] at cc
            obtain ⟨M, hM⟩ : ∃ M, al.take j = M := ⟨_, rfl⟩
            rw [hM] at cm
            have hMl : M.length = j := by rw [← hM, List.length_take]; omega
            obtain ⟨Z, hZ⟩ : ∃ Z, mkS (cat M) = Z := ⟨_, rfl⟩
            obtain ⟨NM, hNM⟩ : ∃ z, (cat M).length = z := ⟨_, rfl⟩
            rw [hZ, hNM] at cm
            have hZs : Z.size = NM := by rw [← hZ, mkS_size]; exact hNM
            have hNMr : NM ≤ N := by
              rw [← hNM, ← HN.out, ← hM]
              have e : cat al = cat (al.take j) ++ cat (al.drop j) := by rw [← cat_append, List.take_append_drop]
              rw [e, List.length_append]; omega
            have hM8 := hidp (show ∀ x ∈ M, x.size ≤ 8192 from fun x hx => by rw [← hM] at hx; exact H8.out x (List.mem_of_mem_take hx))
            have HZ := hidp hZ; have HNM := hidp hNM; have HMM := hidp hM
            have cR := hidp (show ∀ W, Calls Try.prog 11 #[.string Z] W fun e w' => ∃ v, e = .returned (.tuple #[v, .int .i64 ((NM : Nat) : Int)]) ∧ OwnV w' W.heap.size 9 v (strV M) ∧ Below W.heap.size W w' from fun W => read_cat W M Z NM HZ.out HNM.out hM8.out (by omega))
            have hln : M.length ≤ 140737488351232 := by have := HLN.out; omega
            have t5 : (((NM : Nat) : Int) != (Z.size : Int)) = false := by rw [hZs]; simp
            have t6 : (((NM : Nat) : Int) != ((NM : Nat) : Int)) = false := by simp
            have t7 : decide ((j : Int) < (n : Int)) = false := by simp; omega
            have t8 : decide ((ln : Int) < (j : Int)) = false := by have := HLN.out; simp; omega
            have hjl : j ≤ ln := by have := HLN.out; omega
            have t9 : (0 : Int) ≤ (j : Int) := by omega
            have t10 : (j : Int) ≤ (vc : Int) := by have := HLN.out; omega
            have t11 : ((j : Int)).toNat = j := by omega
            have HML := hidp hMl
            clear hMl
            obtain ⟨yq, hyq⟩ : ∃ z, y + q = z := ⟨_, rfl⟩
            rw [hyq] at cc cm
            clear hP hG hq hPl hGs okg hGd hj3 hM hZ hNM hAd hyq hqN
            obtain ⟨d0, d1, d2, df⟩ := arr3 HD.out
            clear df
            go_wp2_with fail
            clear d0 d1 d2 y0 y1 y2 y3
            have HX := hidp (HB.out.alloc hle (.cells #[.int .i64 k, .string t, .int .i64 m, .int .u8 (bb.toNat : Int)] 40))
            have HDX := hidp (HD.out.alloc (.cells #[.int .i64 k, .string t, .int .i64 m, .int .u8 (bb.toNat : Int)] 40))
            have HOX := hidp (HO.out.alloc (.cells #[.int .i64 k, .string t, .int .i64 m, .int .u8 (bb.toNat : Int)] 40))
            have HAX := hidp (Arr.new wr 40 [.int .i64 k, .string t, .int .i64 m, .int .u8 (bb.toNat : Int)])
            obtain ⟨bx, hbx⟩ : ∃ b, wr.heap.size = b := ⟨_, rfl⟩
            have hgex : w.heap.size ≤ bx := by rw [← hbx]; exact hle
            have hnxd : bx ≠ bd := by rw [← hbx]; omega
            generalize hWX : (wr.alloc (.cells #[.int .i64 k, .string t, .int .i64 m, .int .u8 (bb.toNat : Int)] 40)) = WX at HX HDX HOX HAX ⊢
            rw [hbx] at HAX ⊢
            clear hWX hbx hle
            have hleX := HX.out.size
            refine (cc.out _).mono ?_
            rintro e w3 ⟨rfl, hb3⟩
            have HB3 := hidp (HX.out.trans (hb3.mono HX.out.size)); have HD3 := hidp (HDX.out.below hb3 HDX.out.lt); have HO3 := hidp (HOX.out.kept hb3 (Nat.le_refl _)); have HA3 := hidp (HAX.out.below hb3 HAX.out.lt)
            have hle3 := HB3.out.size
            clear hb3
            go_wp2_with fail
            have HB4 := hidp (HB3.out.alloc hle3 (.cells #[.string G, .int .i64 ((yq : Nat) : Int), .int .i64 room] 32)); have HD4 := hidp (HD3.out.alloc (.cells #[.string G, .int .i64 ((yq : Nat) : Int), .int .i64 room] 32)); have HO4 := hidp (HO3.out.alloc (.cells #[.string G, .int .i64 ((yq : Nat) : Int), .int .i64 room] 32)); have HA4 := hidp (HA3.out.alloc (.cells #[.string G, .int .i64 ((yq : Nat) : Int), .int .i64 room] 32))
            have HE4 := hidp (Arr.new w3 32 [.string G, .int .i64 ((yq : Nat) : Int), .int .i64 room])
            generalize hW4 : (w3.alloc (.cells #[.string G, .int .i64 ((yq : Nat) : Int), .int .i64 room] 32)) = W4 at HB4 HD4 HO4 HA4 HE4 ⊢
            clear hW4 HE4
            have hle4 := HB4.out.size
            refine (cm.out _).mono ?_
            rintro e w5 ⟨rfl, hb5⟩
            have HB5 := hidp (HB4.out.trans (hb5.mono HB4.out.size)); have HD5 := hidp (HD4.out.below hb5 HD4.out.lt); have HO5 := hidp (HO4.out.kept hb5 (Nat.le_refl _)); have HA5 := hidp (HA4.out.below hb5 HA4.out.lt)
            have hle5 := HB5.out.size
            clear hb5
            go_wp2_with fail
            have HB6 := hidp (HB5.out.alloc hle5 (.cells #[.string Z, .int .i64 ((NM : Nat) : Int), .int .i64 room] 32)); have HD6 := hidp (HD5.out.alloc (.cells #[.string Z, .int .i64 ((NM : Nat) : Int), .int .i64 room] 32)); have HO6 := hidp (HO5.out.alloc (.cells #[.string Z, .int .i64 ((NM : Nat) : Int), .int .i64 room] 32)); have HA6 := hidp (HA5.out.alloc (.cells #[.string Z, .int .i64 ((NM : Nat) : Int), .int .i64 room] 32))
            have HE6 := hidp (Arr.new w5 32 [.string Z, .int .i64 ((NM : Nat) : Int), .int .i64 room])
            obtain ⟨bg, hbg⟩ : ∃ b, w5.heap.size = b := ⟨_, rfl⟩
            generalize hW6 : (w5.alloc (.cells #[.string Z, .int .i64 ((NM : Nat) : Int), .int .i64 room] 32)) = W6 at HB6 HD6 HO6 HA6 HE6 ⊢
            rw [hbg] at HE6 ⊢
            clear hW6 hbg
            have hle6 := HB6.out.size
            refine (cR.out _).mono ?_
            rintro e w7 ⟨vm, rfl, hvm, hb7⟩
            obtain ⟨ma, mc, hve7, hmc⟩ := hvm.formS
            rw [HML.out] at hve7
            subst hve7
            clear hmc
            have HE7 := hidp (HE6.out.below hb7 HE6.out.lt)
            have HM7 := hidp (hvm.base hle6)
            have HB7 := hidp (HB6.out.trans (hb7.mono HB6.out.size)); have HD7 := hidp (HD6.out.below hb7 HD6.out.lt); have HO7 := hidp (HO6.out.kept hb7 (Nat.le_refl _)); have HA7 := hidp (HA6.out.below hb7 HA6.out.lt)
            have hle7 := HB7.out.size
            clear hb7
            clear hvm
            obtain ⟨e0, e1x, e2x, ef⟩ := arr3 HE7.out
            obtain ⟨d0, d1, d2, df⟩ := arr3 HD7.out
            have f0 := df 0; have f1 := df 1; have f2 := df 2
            clear df ef
            have hS7 := hidp (same_any w7 _ _ _ _ (OwnV.strs HM7.out) (((OwnV.strs HO7.out).take' j (by rw [HLN.out]; exact hjl))) hln (by rw [HMM.out]; exact hln))
            rw [HMM.out, sameB_self] at hS7
            go_wp2_with fail
            refine hS7.out.mono ?_
            rintro e w8 ⟨rfl, hb8⟩
            clear d0 d1 d2 f0 f1 f2 e0 e1x e2x
            have HE8 := hidp (HE7.out.below hb8 HE7.out.lt)
            have HM8 := hidp (HM7.out.kept hb8 (Nat.le_refl _))
            have HB8 := hidp (HB7.out.trans (hb8.mono HB7.out.size)); have HD8 := hidp (HD7.out.below hb8 HD7.out.lt); have HO8 := hidp (HO7.out.kept hb8 (Nat.le_refl _)); have HA8 := hidp (HA7.out.below hb8 HA7.out.lt)
            have hle8 := HB8.out.size
            clear hb8
            obtain ⟨e0, e1x, e2x, ef⟩ := arr3 HE8.out
            obtain ⟨d0, d1, d2, df⟩ := arr3 HD8.out
            have f0 := df 0; have f1 := df 1; have f2 := df 2
            clear df ef
            go_wp2_with fail
            clear d0 d1 d2 f0 f1 f2 e0 e1x e2x HO8
            have HO8 := HM8
            have HD9 := hidp (arr3_set HD8.out (.string Z) (.int .i64 ((NM : Nat) : Int)) (.int .i64 room))
            have HO9 := hidp (HO8.out.put3 HD8.out (by decide) (.string Z) (.int .i64 ((NM : Nat) : Int)) (.int .i64 room))
            have HB9 := hidp (below_put3 HB8.out hged (.string Z) (.int .i64 ((NM : Nat) : Int)) (.int .i64 room))
            generalize hW9 : (((w8.setCell ⟨bd, 0, none⟩ (.string Z)).setCell ⟨bd, 1, none⟩ (.int .i64 ((NM : Nat) : Int))).setCell ⟨bd, 2, none⟩ (.int .i64 room)) = W9 at HD9 HO9 HB9 ⊢
            clear hW9
            refine (cR.out _).mono ?_
            rintro e wR ⟨vr, rfl, hvr, hbr⟩
            have HBR := hidp (HB9.out.trans (hbr.mono HB9.out.size)); have HDR := hidp (HD9.out.below hbr HD9.out.lt); have HOR := hidp (HO9.out.kept hbr (Nat.le_refl _))
            have hS := hidp (same_any wR _ _ _ _ (OwnV.strs hvr) (OwnV.strs HOR.out) hln hln)
            rw [sameB_self] at hS
            clear hbr hvr
            go_wp2_with fail
            refine hS.out.mono ?_
            rintro e wS ⟨rfl, hbs⟩
            have HBS := hidp (HBR.out.trans (hbs.mono HBR.out.size)); have HDS := hidp (HDR.out.below hbs HDR.out.lt); have HOS := hidp (HOR.out.kept hbs (Nat.le_refl _))
            clear hbs
            obtain ⟨d0, d1, d2, df⟩ := arr3 HDS.out
            clear df
            go_wp2_with fail
            exact ⟨⟨i + 1, j, M, ma, mc, by go_num, by omega, (by rw [HML.out]), rfl, (by rw [HML.out]; exact Nat.le_refl _), hM8.out, (by rw [HNM.out]; omega), (by rw [HML.out]; exact HOS.out), (by rw [HZ.out, List.take_of_length_le (by rw [HML.out]; exact Nat.le_refl _), HNM.out]; exact HDS.out), HBS.out⟩, by simp [intOf]; omega⟩
          · have e2 : (k == 2) = false := by simpa using hk2
            clear hk2
            have HRo := hidp (show ((cat al).length : Int) ≤ room by rw [HN.out]; exact hr)
            have hln : al.length ≤ 140737488351232 := by have := HLN.out; omega
            have cR := hidp (show ∀ W, Calls Try.prog 11 #[.string A] W fun e w' => ∃ v, e = .returned (.tuple #[v, .int .i64 ((N : Nat) : Int)]) ∧ OwnV w' W.heap.size 9 v (strV al) ∧ Below W.heap.size W w' from fun W => read_cat W al A N HA.out HN.out H8.out hnr)
            have t5 : (((N : Nat) : Int) != (A.size : Int)) = false := by rw [hAs]; simp
            obtain ⟨d0, d1, d2, df⟩ := arr3 HD.out
            clear df
            go_wp2_with fail
            clear d0 d1 d2 y0 y1 y2 y3
            have HX := hidp (HB.out.alloc hle (.cells #[.int .i64 k, .string t, .int .i64 m, .int .u8 (bb.toNat : Int)] 40))
            have HDX := hidp (HD.out.alloc (.cells #[.int .i64 k, .string t, .int .i64 m, .int .u8 (bb.toNat : Int)] 40))
            have HOX := hidp (HO.out.alloc (.cells #[.int .i64 k, .string t, .int .i64 m, .int .u8 (bb.toNat : Int)] 40))
            have HAX := hidp (Arr.new wr 40 [.int .i64 k, .string t, .int .i64 m, .int .u8 (bb.toNat : Int)])
            obtain ⟨bx, hbx⟩ : ∃ b, wr.heap.size = b := ⟨_, rfl⟩
            have hgex : w.heap.size ≤ bx := by rw [← hbx]; exact hle
            have hnxd : bx ≠ bd := by rw [← hbx]; omega
            generalize hWX : (wr.alloc (.cells #[.int .i64 k, .string t, .int .i64 m, .int .u8 (bb.toNat : Int)] 40)) = WX at HX HDX HOX HAX ⊢
            rw [hbx] at HAX ⊢
            clear hWX hbx hle
            have hleX := HX.out.size
            have HBX := HX
            refine (cR.out _).mono ?_
            rintro e wR ⟨vr, rfl, hvr, hbr⟩
            have HBR := hidp (HBX.out.trans (hbr.mono HBX.out.size)); have HDR := hidp (HDX.out.below hbr HDX.out.lt); have HOR := hidp (HOX.out.kept hbr (Nat.le_refl _))
            have hS := hidp (same_any wR _ _ _ _ (OwnV.strs hvr) (OwnV.strs HOR.out) hln hln)
            rw [sameB_self] at hS
            clear hbr hvr
            go_wp2_with fail
            refine hS.out.mono ?_
            rintro e wS ⟨rfl, hbs⟩
            have HBS := hidp (HBR.out.trans (hbs.mono HBR.out.size)); have HDS := hidp (HDR.out.below hbs HDR.out.lt); have HOS := hidp (HOR.out.kept hbs (Nat.le_refl _))
            clear hbs
            obtain ⟨d0, d1, d2, df⟩ := arr3 HDS.out
            clear df
            go_wp2_with fail
            exact ⟨⟨i + 1, n, al, va, vc, by go_num, by omega, (by rw [HLN.out]), rfl, (by have := HLN.out; omega), H8.out, HRo.out, (by rw [HLN.out]; exact HOS.out), (by rw [HA.out, HY.out]; exact HDS.out), HBS.out⟩, by simp [intOf]; omega⟩
    · obtain rfl : i = len := by omega
      go_wp2_with fail
      go_ret
      exact ⟨rfl, HB.out⟩
end Go.Proofs.Ytlplnkddbhmnbaa
