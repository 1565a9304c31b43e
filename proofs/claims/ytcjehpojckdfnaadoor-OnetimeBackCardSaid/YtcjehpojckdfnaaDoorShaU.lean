/-
  palaverlaw02.lives.
-/
import Derived.Test.YtcjehpojckdfnaaDoorShaW
namespace Go.Proofs.YtcjehpojckdfnaaDoor
set_option linter.unusedVariables false
set_option linter.unusedSimpArgs false
open Go.RowKit

theorem hex_abc : mkS (hexL abcL) = ⟨#[98, 97, 55, 56, 49, 54, 98, 102, 56, 102, 48, 49, 99, 102, 101, 97, 52, 49, 52, 49, 52, 48, 100, 101, 53, 100, 97, 101, 50, 50, 50, 51, 98, 48, 48, 51, 54, 49, 97, 51, 57, 54, 49, 55, 55, 97, 57, 99, 98, 52, 49, 48, 102, 102, 54, 49, 102, 50, 48, 48, 49, 53, 97, 100]⟩ := by kernel_rfl
theorem hex_no : mkS (hexL noL) = ⟨#[101, 51, 98, 48, 99, 52, 52, 50, 57, 56, 102, 99, 49, 99, 49, 52, 57, 97, 102, 98, 102, 52, 99, 56, 57, 57, 54, 102, 98, 57, 50, 52, 50, 55, 97, 101, 52, 49, 101, 52, 54, 52, 57, 98, 57, 51, 52, 99, 97, 52, 57, 53, 57, 57, 49, 98, 55, 56, 53, 50, 98, 56, 53, 53]⟩ := by kernel_rfl
theorem un_abc : unV (hexL abcL) = abcL ∧ unE (hexL abcL) = 0 := by decide +kernel
theorem un_ba : unV [66, 65] = z32 ∧ unE [66, 65] = 6 := by decide +kernel
set_option maxRecDepth 100000 in
set_option maxHeartbeats 8000000 in
theorem lives_any (w : World) (hK : KT w) : Calls Tryd.prog 17 #[] w fun e w' => e = .returned (.bool true) ∧ Below w.heap.size w w' := by
  have hu := Tryd.underlying24
  obtain ⟨A, hA⟩ : ∃ A, u8s abcL = A := ⟨_, rfl⟩
  obtain ⟨E, hE⟩ : ∃ A, u8s noL = A := ⟨_, rfl⟩
  obtain ⟨Z, hZ⟩ : ∃ A, u8s z32 = A := ⟨_, rfl⟩
  obtain ⟨HA1, hHA1⟩ : ∃ H, (⟨#[98, 97, 55, 56, 49, 54, 98, 102, 56, 102, 48, 49, 99, 102, 101, 97, 52, 49, 52, 49, 52, 48, 100, 101, 53, 100, 97, 101, 50, 50, 50, 51, 98, 48, 48, 51, 54, 49, 97, 51, 57, 54, 49, 55, 55, 97, 57, 99, 98, 52, 49, 48, 102, 102, 54, 49, 102, 50, 48, 48, 49, 53, 97, 100]⟩ : ByteArray) = H := ⟨_, rfl⟩
  obtain ⟨HE1, hHE1⟩ : ∃ H, (⟨#[101, 51, 98, 48, 99, 52, 52, 50, 57, 56, 102, 99, 49, 99, 49, 52, 57, 97, 102, 98, 102, 52, 99, 56, 57, 57, 54, 102, 98, 57, 50, 52, 50, 55, 97, 101, 52, 49, 101, 52, 54, 52, 57, 98, 57, 51, 52, 99, 97, 52, 57, 53, 57, 57, 49, 98, 55, 56, 53, 50, 98, 56, 53, 53]⟩ : ByteArray) = H := ⟨_, rfl⟩
  have HHA1 := hidp (show (HA1.toList == ([98, 97, 55, 56, 49, 54, 98, 102, 56, 102, 48, 49, 99, 102, 101, 97, 52, 49, 52, 49, 52, 48, 100, 101, 53, 100, 97, 101, 50, 50, 50, 51, 98, 48, 48, 51, 54, 49, 97, 51, 57, 54, 49, 55, 55, 97, 57, 99, 98, 52, 49, 48, 102, 102, 54, 49, 102, 50, 48, 48, 49, 53, 97, 100] : List UInt8)) = true from by rw [← hHA1, ByteArray.toList_eq]; simp)
  have HHE1 := hidp (show (HE1.toList == ([101, 51, 98, 48, 99, 52, 52, 50, 57, 56, 102, 99, 49, 99, 49, 52, 57, 97, 102, 98, 102, 52, 99, 56, 57, 57, 54, 102, 98, 57, 50, 52, 50, 55, 97, 101, 52, 49, 101, 52, 54, 52, 57, 98, 57, 51, 52, 99, 97, 52, 57, 53, 57, 57, 49, 98, 55, 56, 53, 50, 98, 56, 53, 53] : List UInt8)) = true from by rw [← hHE1, ByteArray.toList_eq]; simp)
  have hAl : A.length = 32 := by rw [← hA]; rfl
  have hEl : E.length = 32 := by rw [← hE]; rfl
  have hZl : Z.length = 32 := by rw [← hZ]; rfl
  have hA1 := hidp (show A.toArray.all (·.oneCell') = true from by rw [← hA]; exact u8s_one _)
  have hE1 := hidp (show E.toArray.all (·.oneCell') = true from by rw [← hE]; exact u8s_one _)
  have hZ1 := hidp (show Z.toArray.all (·.oneCell') = true from by rw [← hZ]; exact u8s_one _)
  have hsz32 := hidp (show (Tryd.prog.info? 24).map (·.size) = some 32 from by kernel_rfl)
  have c1 := hidp (show ∀ W, KT W → Calls Tryd.prog 18 #[.string ⟨#[97, 98, 99]⟩] W fun e w' => e = .returned (.agg A.toArray) ∧ Below W.heap.size W w' from fun W h => by
    have := sum_any W ⟨#[97, 98, 99]⟩ (by decide) h; rw [show (ByteArray.mk #[97, 98, 99]).data.toList = [97, 98, 99] from rfl, sum_abc, hA] at this; exact this)
  have c2 := hidp (show ∀ W, KT W → Calls Tryd.prog 18 #[.string ⟨#[]⟩] W fun e w' => e = .returned (.agg E.toArray) ∧ Below W.heap.size W w' from fun W h => by
    have := sum_any W ⟨#[]⟩ (by decide) h; rw [show (ByteArray.mk #[]).data.toList = [] from rfl, sum_no, hE] at this; exact this)
  have c3 := hidp (show ∀ W, Calls Tryd.prog 22 #[.string ⟨#[98, 97, 55, 56, 49, 54, 98, 102, 56, 102, 48, 49, 99, 102, 101, 97, 52, 49, 52, 49, 52, 48, 100, 101, 53, 100, 97, 101, 50, 50, 50, 51, 98, 48, 48, 51, 54, 49, 97, 51, 57, 54, 49, 55, 55, 97, 57, 99, 98, 52, 49, 48, 102, 102, 54, 49, 102, 50, 48, 48, 49, 53, 97, 100]⟩] W fun e w' => e = .returned (.tuple #[.agg A.toArray, .int .i64 0]) ∧ Below W.heap.size W w' from fun W => by
    have := unhex_any W (mkS (hexL abcL)) (by decide +kernel); rw [mkS_data, un_abc.1, un_abc.2, hA, hex_abc] at this; exact this)
  have c4 := hidp (show ∀ W, Calls Tryd.prog 22 #[.string ⟨#[66, 65]⟩] W fun e w' => e = .returned (.tuple #[.agg Z.toArray, .int .i64 6]) ∧ Below W.heap.size W w' from fun W => by
    have := unhex_any W ⟨#[66, 65]⟩ (by decide); rw [show (ByteArray.mk #[66, 65]).data.toList = [66, 65] from rfl, un_ba.1, un_ba.2, hZ] at this; exact this)
  have c5 := hidp (show ∀ W, Calls Tryd.prog 24 #[.agg A.toArray] W fun e w' => e = .returned (.string HA1) ∧ Below W.heap.size W w' from fun W => by
    have := hex_any W abcL rfl; rw [hA, hex_abc, hHA1] at this; exact this)
  have c6 := hidp (show ∀ W, Calls Tryd.prog 24 #[.agg E.toArray] W fun e w' => e = .returned (.string HE1) ∧ Below W.heap.size W w' from fun W => by
    have := hex_any W noL rfl; rw [hE, hex_no, hHE1] at this; exact this)
  have c7 := hidp (show ∀ W, KT W → Calls Tryd.prog 20 #[.string ⟨#[97, 98, 99]⟩] W fun e w' => e = .returned (.string (mkS (abcL.take 16))) ∧ Below W.heap.size W w' from fun W h => by
    have := mid_any W ⟨#[97, 98, 99]⟩ (by decide) h; rw [show (ByteArray.mk #[97, 98, 99]).data.toList = [97, 98, 99] from rfl, sum_abc] at this; exact this)
  have HA := hidp hA
  have HK := hidp hK
  have hkp := hK.pos
  clear hA hE hZ hK hHA1 hHE1
  go_enter Tryd.func17, Tryd.ntmps17
  go_wp2_with fail
  refine (c1.out _ HK.out).mono ?_
  rintro e w1 ⟨rfl, hb1⟩
  have hs1 := hb1.size
  have HK1 := hidp (HK.out.below hb1 hkp)
  have HB1 := hidp hb1
  clear hb1
  go_wp2_with fail
  refine (c2.out _ HK1.out).mono ?_
  rintro e w2 ⟨rfl, hb2⟩
  have hs2 := hb2.size
  have HK2 := hidp (HK1.out.below hb2 (by omega))
  have HB2 := hidp (HB1.out.trans (hb2.mono hs1))
  clear hb2
  have hv2 := hidp (fun cur cur' => var_two w2 cur cur' 24 24 A E)
  have HIA := hidp (show (Tryd.prog.info? 24).map (·.size) = some A.toArray.size from by rw [hsz32.out]; simp [hAl])
  have HIE := hidp (show (Tryd.prog.info? 24).map (·.size) = some E.toArray.size from by rw [hsz32.out]; simp [hEl])
  have HIZ := hidp (show (Tryd.prog.info? 24).map (·.size) = some Z.toArray.size from by rw [hsz32.out]; simp [hZl])
  have HLA := hidp (show A.toArray.size = 32 from by simp [hAl])
  have HLE := hidp (show E.toArray.size = 32 from by simp [hEl])
  have HLZ := hidp (show Z.toArray.size = 32 from by simp [hZl])
  go_wp2_with (first
    | (refine wpList_store_row rfl 24 (.tmp 1) (.tmp 7) rfl w2.heap.size A.toArray rfl rfl 24 _ (hv2.out _ _).1 HIA.out (by rw [HLA.out]; rfl) hA1.out ?_)
    | (refine wpList_store_row rfl 24 (.tmp 2) (.tmp 8) rfl (w2.heap.size + 1) E.toArray rfl rfl 24 _ (hv2.out _ _).2.1 HIE.out (by rw [HLE.out]; rfl) hE1.out ?_))
  go_simp
  have hv3 := hidp ((hv2.out #[Value.int .u8 0, Value.int .u8 0, Value.int .u8 0, Value.int .u8 0, Value.int .u8 0, Value.int .u8 0, Value.int .u8 0, Value.int .u8 0, Value.int .u8 0, Value.int .u8 0, Value.int .u8 0, Value.int .u8 0, Value.int .u8 0, Value.int .u8 0, Value.int .u8 0, Value.int .u8 0, Value.int .u8 0, Value.int .u8 0, Value.int .u8 0, Value.int .u8 0, Value.int .u8 0, Value.int .u8 0, Value.int .u8 0, Value.int .u8 0, Value.int .u8 0, Value.int .u8 0, Value.int .u8 0, Value.int .u8 0, Value.int .u8 0, Value.int .u8 0, Value.int .u8 0, Value.int .u8 0] #[Value.int .u8 0, Value.int .u8 0, Value.int .u8 0, Value.int .u8 0, Value.int .u8 0, Value.int .u8 0, Value.int .u8 0, Value.int .u8 0, Value.int .u8 0, Value.int .u8 0, Value.int .u8 0, Value.int .u8 0, Value.int .u8 0, Value.int .u8 0, Value.int .u8 0, Value.int .u8 0, Value.int .u8 0, Value.int .u8 0, Value.int .u8 0, Value.int .u8 0, Value.int .u8 0, Value.int .u8 0, Value.int .u8 0, Value.int .u8 0, Value.int .u8 0, Value.int .u8 0, Value.int .u8 0, Value.int .u8 0, Value.int .u8 0, Value.int .u8 0, Value.int .u8 0, Value.int .u8 0]).2.2)
  generalize hW3 : ((((w2.alloc (.cells _ 24)).alloc (.cells _ 24)).setRow w2.heap.size A.toArray).setRow (w2.heap.size + 1) E.toArray) = W3 at hv3 ⊢
  clear hv2 hW3
  have hz3 := hv3.out.2.2.2
  have HB3 := hidp (HB2.out.trans (hv3.out.2.2.1.mono (by omega)))
  have HK3 := hidp (HK2.out.below hv3.out.2.2.1 (by omega))
  have HA3 := hidp hv3.out.1; have HE3 := hidp hv3.out.2.1
  clear hv3
  refine (c3.out _).mono ?_
  rintro e w4 ⟨rfl, hb4⟩
  have hs4 := hb4.size
  have hv4 := hidp (var_new w4 #[Value.int .u8 0, Value.int .u8 0, Value.int .u8 0, Value.int .u8 0, Value.int .u8 0, Value.int .u8 0, Value.int .u8 0, Value.int .u8 0, Value.int .u8 0, Value.int .u8 0, Value.int .u8 0, Value.int .u8 0, Value.int .u8 0, Value.int .u8 0, Value.int .u8 0, Value.int .u8 0, Value.int .u8 0, Value.int .u8 0, Value.int .u8 0, Value.int .u8 0, Value.int .u8 0, Value.int .u8 0, Value.int .u8 0, Value.int .u8 0, Value.int .u8 0, Value.int .u8 0, Value.int .u8 0, Value.int .u8 0, Value.int .u8 0, Value.int .u8 0, Value.int .u8 0, Value.int .u8 0] 24 A)
  have HB4 := hidp (HB3.out.trans ((hb4.trans (hv4.out.2.1.mono hs4)).mono (by omega)))
  have HK4 := hidp (HK3.out.below (hb4.trans (hv4.out.2.1.mono hs4)) (by omega))
  have HA4 := hidp (HA3.out.below (hb4.trans (hv4.out.2.1.mono hs4)) (by omega)); have HE4 := hidp (HE3.out.below (hb4.trans (hv4.out.2.1.mono hs4)) (by omega))
  clear hb4
  go_wp2_with (refine wpList_store_row rfl 24 (.tmp 3) (.tmp 11) rfl w4.heap.size A.toArray rfl rfl 24 _ (heap_alloc_new w4 _) HIA.out (by rw [HLA.out]; rfl) hA1.out ?_)
  generalize hW4 : ((w4.alloc (.cells _ 24)).setRow w4.heap.size A.toArray) = W4 at hv4 HB4 HK4 HA4 HE4 ⊢
  have hz4 := hv4.out.2.2
  have HC4 := hidp hv4.out.1
  clear hv4 hW4
  refine (c4.out _).mono ?_
  rintro e w5 ⟨rfl, hb5⟩
  have hs5 := hb5.size
  have hv5 := hidp (var_new w5 #[Value.int .u8 0, Value.int .u8 0, Value.int .u8 0, Value.int .u8 0, Value.int .u8 0, Value.int .u8 0, Value.int .u8 0, Value.int .u8 0, Value.int .u8 0, Value.int .u8 0, Value.int .u8 0, Value.int .u8 0, Value.int .u8 0, Value.int .u8 0, Value.int .u8 0, Value.int .u8 0, Value.int .u8 0, Value.int .u8 0, Value.int .u8 0, Value.int .u8 0, Value.int .u8 0, Value.int .u8 0, Value.int .u8 0, Value.int .u8 0, Value.int .u8 0, Value.int .u8 0, Value.int .u8 0, Value.int .u8 0, Value.int .u8 0, Value.int .u8 0, Value.int .u8 0, Value.int .u8 0] 24 Z)
  have hbb := hb5.trans (hv5.out.2.1.mono hs5)
  have HB5 := hidp (HB4.out.trans (hbb.mono (by omega)))
  have HK5 := hidp (HK4.out.below hbb (by omega))
  have HA5 := hidp (HA4.out.below hbb (by omega)); have HE5 := hidp (HE4.out.below hbb (by omega)); have HC5 := hidp (HC4.out.below hbb (by omega))
  clear hb5 hbb
  go_wp2_with (refine wpList_store_row rfl 24 (.tmp 5) (.tmp 15) rfl w5.heap.size Z.toArray rfl rfl 24 _ (heap_alloc_new w5 _) HIZ.out (by rw [HLZ.out]; rfl) hZ1.out ?_)
  generalize hW5 : ((w5.alloc (.cells _ 24)).setRow w5.heap.size Z.toArray) = W5 at hv5 HB5 HK5 HA5 HE5 HC5 ⊢
  have hz5 := hv5.out.2.2
  clear hv5 hW5
  have hq : ∀ W, (Op.equalIn 10000 24 (.agg A.toArray) (.agg A.toArray)).run Tryd.prog W = .ok true W := by
    intro W; rw [← HA.out, eqin_hash W _ _ rfl rfl, decide_eq_true rfl]
  have hcv : ∀ W, W.rangeAt w2.heap.size 0 A → (convert 59 9 (.slice (some ⟨w2.heap.size, 0, none⟩) 16 32)).run Tryd.prog W = .ok (.string (mkS (abcL.take 16))) W := by
    intro W h; rw [← HA.out] at h; exact mid_conv W _ _ rfl h
  have hs0 := hidp (show W5.rangeAt w2.heap.size 0 A ∧ W5.rangeAt (w2.heap.size + 1) 0 E ∧ W5.rangeAt w4.heap.size 0 A ∧ Below W5.heap.size W5 W5 from ⟨HA5.out.range, HE5.out.range, HC5.out.range, Below.refl _ _⟩)
  have hn1 : w2.heap.size < W5.heap.size := by omega
  have hn2 : w2.heap.size + 1 < W5.heap.size := by omega
  have hn3 : w4.heap.size < W5.heap.size := by omega
  have hn0 : 0 < W5.heap.size := by omega
  have hinf : (Tryd.prog.info? 24).map (·.size) = some A.length := by rw [hsz32.out, hAl]
  have hinfE : (Tryd.prog.info? 24).map (·.size) = some E.length := by rw [hsz32.out, hEl]
  obtain ⟨M, hM⟩ : ∃ M, mkS (abcL.take 16) = M := ⟨_, rfl⟩
  rw [hM] at hcv c7
  clear hM
  have hbe1 := HHA1.out
  have hbe2 := HHE1.out
  have r1 := hidp (show ∀ w, Cls W5.heap.size W5 w → w.rangeAt w2.heap.size 0 A from fun w h => h.range hs0.out.1 hn1)
  have r2 := hidp (show ∀ w, Cls W5.heap.size W5 w → w.rangeAt (w2.heap.size + 1) 0 E from fun w h => h.range hs0.out.2.1 hn2)
  have r3 := hidp (show ∀ w, Cls W5.heap.size W5 w → w.rangeAt w4.heap.size 0 A from fun w h => h.range hs0.out.2.2.1 hn3)
  have k5 := hidp (show ∀ w, Cls W5.heap.size W5 w → Calls Tryd.prog 24 #[.agg A.toArray] w fun e w' => e = .returned (.string HA1) ∧ Cls W5.heap.size W5 w' from fun w h => (c5.out w).mono fun e w' ⟨h1, h2⟩ => ⟨h1, h.step (Nat.le_refl _) h2⟩)
  have k6 := hidp (show ∀ w, Cls W5.heap.size W5 w → Calls Tryd.prog 24 #[.agg E.toArray] w fun e w' => e = .returned (.string HE1) ∧ Cls W5.heap.size W5 w' from fun w h => (c6.out w).mono fun e w' ⟨h1, h2⟩ => ⟨h1, h.step (Nat.le_refl _) h2⟩)
  have k7 := hidp (show ∀ w, Cls W5.heap.size W5 w → Calls Tryd.prog 20 #[.string ⟨#[97, 98, 99]⟩] w fun e w' => e = .returned (.string M) ∧ Cls W5.heap.size W5 w' from fun w h => (c7.out w (h.kt HK5.out hn0)).mono fun e w' ⟨h1, h2⟩ => ⟨h1, h.step (Nat.le_refl _) h2⟩)
  have hcv2 := hidp (show ∀ w, Cls W5.heap.size W5 w → (convert 59 9 (.slice (some ⟨w2.heap.size, 0, none⟩) 16 32)).run Tryd.prog w = .ok (.string M) w from fun w h => hcv w (r1.out w h))
  clear hcv
  refine wp_region_quiet (C := Cls W5.heap.size W5) (by kernel_rfl) (by kernel_rfl) (Cls.start _ _) ?_
  simp only []
  repeat (first
    | (refine q_row ?_ 24 _ rfl w2.heap.size rfl A _ r1.out hu rfl hinf ?_
       · rfl
       simp only [Act.put, List.setIfInBounds_toArray, List.set_cons_zero, List.set_cons_succ])
    | (refine q_row ?_ 24 _ rfl (w2.heap.size + 1) rfl E _ r2.out hu rfl hinfE ?_
       · rfl
       simp only [Act.put, List.setIfInBounds_toArray, List.set_cons_zero, List.set_cons_succ])
    | (refine q_row ?_ 24 _ rfl w4.heap.size rfl A _ r3.out hu rfl hinf ?_
       · rfl
       simp only [Act.put, List.setIfInBounds_toArray, List.set_cons_zero, List.set_cons_succ])
    | (refine q_call ?_ 24 #[.agg A.toArray] ?_ k5.out ?_
       · rfl
       · intro w; go_simp; done
       simp only [Act.put, List.setIfInBounds_toArray, List.set_cons_zero, List.set_cons_succ])
    | (refine q_call ?_ 24 #[.agg E.toArray] ?_ k6.out ?_
       · rfl
       · intro w; go_simp; done
       simp only [Act.put, List.setIfInBounds_toArray, List.set_cons_zero, List.set_cons_succ])
    | (refine q_call ?_ 20 #[.string ⟨#[97, 98, 99]⟩] ?_ k7.out ?_
       · rfl
       · intro w; go_simp; done
       simp only [Act.put, List.setIfInBounds_toArray, List.set_cons_zero, List.set_cons_succ])
    | (refine q_val (v := .string M) ?_ ?_ ?_
       · rfl
       · intro w hw; have hx := hcv2.out w hw; go_simp; done
       simp only [Act.put, List.setIfInBounds_toArray, List.set_cons_zero, List.set_cons_succ])
    | (apply q_val
       · rfl
       · intro w hw; go_simp; first | done | with_reducible rfl | rfl
       simp only [Act.put, List.setIfInBounds_toArray, List.set_cons_zero, List.set_cons_succ]))
  refine wpQuiet_nil ?_
  intro w6 hC6
  have HB6 := hidp (HB5.out.trans (Below.mono hC6 (by omega)))
  go_wp2
  go_ret
  exact ⟨rfl, HB6.out⟩
end Go.Proofs.YtcjehpojckdfnaaDoor
