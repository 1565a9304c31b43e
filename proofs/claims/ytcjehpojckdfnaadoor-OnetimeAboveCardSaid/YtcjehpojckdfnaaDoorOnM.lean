/-
  Layer 4: the walks of OnetimeRecovers, OnetimeBack.
-/
import Derived.Test.YtcjehpojckdfnaaDoorOnGL
namespace Go.Proofs.YtcjehpojckdfnaaDoor
set_option maxRecDepth 100000
set_option linter.unusedVariables false
set_option linter.unusedSimpArgs false
open Go.RowKit

set_option maxHeartbeats 8000000 in
theorem walk_onetimeRecovers (w : World) (s : ByteArray) (hs : s.size ≤ 140737488351232) (t : ByteArray) (ht : t.size ≤ 140737488351232) (hK : KT w) :
    Calls Tryd.prog 12 #[.string s, .string t] w fun e w' => e = .returned (.bool true) ∧ Below w.heap.size w w' := by
  have L := hidp (fun W (h : KT W) => lives4_any W h)
  have HK := hidp hK
  have hkp := hK.pos
  clear hK
  by_cases h16 : 16384 < s.size
  · go_enter Tryd.func12, Tryd.ntmps12
    go_wp2_with fail
    refine (L.out _ HK.out).mono ?_
    rintro e w1 ⟨rfl, hb1⟩
    go_wp2_with fail
    go_ret
    exact ⟨rfl, hb1⟩
  · obtain ⟨A, hA⟩ : ∃ A, u8s (recV s.data.toList t.data.toList) = A := ⟨_, rfl⟩
    have hq := hidp (eq_row (recV s.data.toList t.data.toList) (recV_len _ _) A hA)
    obtain ⟨E, hE⟩ : ∃ E, recE t.data.toList = E := ⟨_, rfl⟩
    have c1 := hidp (show ∀ W, KT W → Calls Tryd.prog 45 #[.string s, .string t] W fun e w' => e = .returned (.tuple #[.agg A.toArray, .int .i64 (E : Int)]) ∧ Below W.heap.size W w' from fun W h => by rw [← hA, ← hE]; exact recover_any W s t (by omega) (by omega) h)
    have c2 := hidp (show ∀ W, Calls Tryd.prog 46 #[.string s, .string t] W fun e w' => e = .returned (.tuple #[.agg A.toArray, .int .i64 (E : Int)]) ∧ Below W.heap.size W w' from fun W => by rw [← hA, ← hE]; exact rrecover_any W s t (by omega) (by omega))
    have hAl : A.length = 32 := by rw [← hA, u8s_length, recV_len]
    have hA1 := hidp (show A.toArray.all (·.oneCell') = true from by rw [← hA]; exact u8s_one _)
    have hsz32 := hidp (show (Tryd.prog.info? 24).map (·.size) = some 32 from by kernel_rfl)
    have HIA := hidp (show (Tryd.prog.info? 24).map (·.size) = some A.toArray.size from by rw [hsz32.out]; simp [hAl])
    have HLA := hidp (show A.toArray.size = 32 from by simp [hAl])
    have hu := Tryd.underlying24
    have hee : ((E : Int) == (E : Int)) = true := by simp
    clear hA hE
    go_enter Tryd.func12, Tryd.ntmps12
    go_wp2_with fail
    refine (c1.out _ HK.out).mono ?_
    rintro e w1 ⟨rfl, hb1⟩
    have hs1 := hb1.size
    have hv1 := hidp (var_new w1 #[Value.int .u8 0, Value.int .u8 0, Value.int .u8 0, Value.int .u8 0, Value.int .u8 0, Value.int .u8 0, Value.int .u8 0, Value.int .u8 0, Value.int .u8 0, Value.int .u8 0, Value.int .u8 0, Value.int .u8 0, Value.int .u8 0, Value.int .u8 0, Value.int .u8 0, Value.int .u8 0, Value.int .u8 0, Value.int .u8 0, Value.int .u8 0, Value.int .u8 0, Value.int .u8 0, Value.int .u8 0, Value.int .u8 0, Value.int .u8 0, Value.int .u8 0, Value.int .u8 0, Value.int .u8 0, Value.int .u8 0, Value.int .u8 0, Value.int .u8 0, Value.int .u8 0, Value.int .u8 0] 24 A)
    have HB1 := hidp (hb1.trans (hv1.out.2.1.mono hs1))
    clear hb1
    go_wp2_with (refine wpList_store_row rfl 24 (.tmp 5) (.tmp 17) rfl w1.heap.size A.toArray rfl rfl 24 _ (heap_alloc_new w1 _) HIA.out (by rw [HLA.out]; rfl) hA1.out ?_)
    generalize hW1 : ((w1.alloc (.cells _ 24)).setRow w1.heap.size A.toArray) = W1 at hv1 HB1 ⊢
    have hz1 := hv1.out.2.2
    have HX1 := hidp hv1.out.1
    clear hv1 hW1
    refine (c2.out _).mono ?_
    rintro e w2 ⟨rfl, hb2⟩
    have hs2 := hb2.size
    have hv2 := hidp (var_new w2 #[Value.int .u8 0, Value.int .u8 0, Value.int .u8 0, Value.int .u8 0, Value.int .u8 0, Value.int .u8 0, Value.int .u8 0, Value.int .u8 0, Value.int .u8 0, Value.int .u8 0, Value.int .u8 0, Value.int .u8 0, Value.int .u8 0, Value.int .u8 0, Value.int .u8 0, Value.int .u8 0, Value.int .u8 0, Value.int .u8 0, Value.int .u8 0, Value.int .u8 0, Value.int .u8 0, Value.int .u8 0, Value.int .u8 0, Value.int .u8 0, Value.int .u8 0, Value.int .u8 0, Value.int .u8 0, Value.int .u8 0, Value.int .u8 0, Value.int .u8 0, Value.int .u8 0, Value.int .u8 0] 24 A)
    have hbb := hb2.trans (hv2.out.2.1.mono hs2)
    have HB2 := hidp (HB1.out.trans (hbb.mono HB1.out.size))
    have HX2 := hidp (HX1.out.below hbb HX1.out.lt)
    clear hb2 hbb
    go_wp2_with (refine wpList_store_row rfl 24 (.tmp 7) (.tmp 23) rfl w2.heap.size A.toArray rfl rfl 24 _ (heap_alloc_new w2 _) HIA.out (by rw [HLA.out]; rfl) hA1.out ?_)
    generalize hW2 : ((w2.alloc (.cells _ 24)).setRow w2.heap.size A.toArray) = W2 at hv2 HB2 HX2 ⊢
    have hz2 := hv2.out.2.2
    have HY2 := hidp hv2.out.1
    clear hv2 hW2
    have HK2 := hidp (HK.out.below HB2.out hkp)
    refine (L.out _ HK2.out).mono ?_
    rintro e w3 ⟨rfl, hb3⟩
    have HB3 := hidp (HB2.out.trans (hb3.mono HB2.out.size))
    have HX3 := hidp (HX2.out.below hb3 HX2.out.lt)
    have HY3 := hidp (HY2.out.below hb3 HY2.out.lt)
    clear hb3
    have hqW := fun W => hq.out W
    go_wp2_with (first
      | (refine wpList_load_row_g rfl 24 (.tmp 5) rfl w1.heap.size rfl 24 A.toArray (0, 0) _ HX3.out hu rfl HIA.out ?_)
      | (refine wpList_load_row_g rfl 24 (.tmp 7) rfl w2.heap.size rfl 24 A.toArray (0, 0) _ HY3.out hu rfl HIA.out ?_))
    go_ret
    exact ⟨rfl, HB3.out⟩
set_option maxHeartbeats 8000000 in
theorem walk_onetimeBack (w : World) (s : ByteArray) (hs : s.size ≤ 140737488351232) (t : ByteArray) (ht : t.size ≤ 140737488351232) (hK : KT w) :
    Calls Tryd.prog 13 #[.string s, .string t] w fun e w' => e = .returned (.bool true) ∧ Below w.heap.size w w' := by
  have L := hidp (fun W (h : KT W) => lives4_any W h)
  have HK := hidp hK
  have hkp := hK.pos
  clear hK
  by_cases h16 : 16384 < s.size
  · go_enter Tryd.func13, Tryd.ntmps13
    go_wp2_with fail
    refine (L.out _ HK.out).mono ?_
    rintro e w1 ⟨rfl, hb1⟩
    go_wp2_with fail
    go_ret
    exact ⟨rfl, hb1⟩
  · by_cases h17 : 16384 < t.size
    · go_enter Tryd.func13, Tryd.ntmps13
      go_wp2_with fail
      refine (L.out _ HK.out).mono ?_
      rintro e w1 ⟨rfl, hb1⟩
      go_wp2_with fail
      go_ret
      exact ⟨rfl, hb1⟩
    · obtain ⟨G, hG⟩ : ∃ G, signL s.data.toList t.data.toList = G := ⟨_, rfl⟩
      have hGl : G.length = 1088 := by rw [← hG]; exact signL_len _ _
      obtain ⟨A, hA⟩ : ∃ A, u8s (pubL s.data.toList) = A := ⟨_, rfl⟩
      have hq := hidp (eq_row (pubL s.data.toList) (pubL_len _) A hA)
      obtain ⟨S, hS⟩ : ∃ S, mkS G = S := ⟨_, rfl⟩
      have hSs : S.size = 1088 := by rw [← hS, mkS_size, hGl]
      have hSd : S.data.toList = G := by rw [← hS]; rfl
      have c1 := hidp (show ∀ W, KT W → Calls Tryd.prog 43 #[.string s, .string t] W fun e w' => e = .returned (.string S) ∧ Below W.heap.size W w' from fun W h => by
        rw [← hS, ← hG]; exact sign_any W s t (by omega) (by omega) h)
      have c2 := hidp (show ∀ W, KT W → Calls Tryd.prog 45 #[.string t, .string S] W fun e w' => e = .returned (.tuple #[.agg A.toArray, .int .i64 0]) ∧ Below W.heap.size W w' from fun W h => by
        have := recover_any W t S (by omega) (by omega) h
        rw [hSd, recV_yes _ _ hGl, recE_yes _ hGl, ← hG, rec_sign, hA] at this; exact this)
      have c3 := hidp (show ∀ W, KT W → Calls Tryd.prog 41 #[.string s] W fun e w' => e = .returned (.agg A.toArray) ∧ Below W.heap.size W w' from fun W h => by rw [← hA]; exact public_any W s (by omega) h)
      have hAl : A.length = 32 := by rw [← hA, u8s_length, pubL_len]
      have hA1 := hidp (show A.toArray.all (·.oneCell') = true from by rw [← hA]; exact u8s_one _)
      have hsz32 := hidp (show (Tryd.prog.info? 24).map (·.size) = some 32 from by kernel_rfl)
      have HIA := hidp (show (Tryd.prog.info? 24).map (·.size) = some A.toArray.size from by rw [hsz32.out]; simp [hAl])
      have hinf : (Tryd.prog.info? 24).map (·.size) = some A.length := by rw [hsz32.out, hAl]
      have HLA := hidp (show A.toArray.size = 32 from by simp [hAl])
      have hu := Tryd.underlying24
      clear hA hG hS hSd hGl
      go_enter Tryd.func13, Tryd.ntmps13
      go_wp2_with fail
      refine (L.out _ HK.out).mono ?_
      rintro e w0 ⟨rfl, hb0⟩
      have HB0 := hidp hb0
      clear hb0
      go_wp2_with fail
      refine (c1.out _ (HK.out.below HB0.out hkp)).mono ?_
      rintro e w1 ⟨rfl, hb1⟩
      have HB1 := hidp (HB0.out.trans (hb1.mono HB0.out.size))
      clear hb1
      go_wp2_with fail
      refine (c2.out _ (HK.out.below HB1.out hkp)).mono ?_
      rintro e w2 ⟨rfl, hb2⟩
      have hs2 := hb2.size
      have hv2 := hidp (var_new w2 #[Value.int .u8 0, Value.int .u8 0, Value.int .u8 0, Value.int .u8 0, Value.int .u8 0, Value.int .u8 0, Value.int .u8 0, Value.int .u8 0, Value.int .u8 0, Value.int .u8 0, Value.int .u8 0, Value.int .u8 0, Value.int .u8 0, Value.int .u8 0, Value.int .u8 0, Value.int .u8 0, Value.int .u8 0, Value.int .u8 0, Value.int .u8 0, Value.int .u8 0, Value.int .u8 0, Value.int .u8 0, Value.int .u8 0, Value.int .u8 0, Value.int .u8 0, Value.int .u8 0, Value.int .u8 0, Value.int .u8 0, Value.int .u8 0, Value.int .u8 0, Value.int .u8 0, Value.int .u8 0] 24 A)
      have HB2 := hidp (HB1.out.trans ((hb2.trans (hv2.out.2.1.mono hs2)).mono HB1.out.size))
      clear hb2
      go_wp2_with (refine wpList_store_row rfl 24 (.tmp 6) (.tmp 25) rfl w2.heap.size A.toArray rfl rfl 24 _ (heap_alloc_new w2 _) HIA.out (by rw [HLA.out]; rfl) hA1.out ?_)
      go_simp
      generalize hW2 : ((w2.alloc (.cells _ 24)).setRow w2.heap.size A.toArray) = W2 at hv2 HB2 ⊢
      have hz2 := hv2.out.2.2
      have HX2 := hidp hv2.out.1
      clear hv2 hW2
      have HK2 := hidp (HK.out.below HB2.out hkp)
      have hn2 : w2.heap.size < W2.heap.size := by omega
      have r2 := hidp (show ∀ w', Cls W2.heap.size W2 w' → w'.rangeAt w2.heap.size 0 A from fun w' h => h.range HX2.out.range hn2)
      have k3 := hidp (show ∀ w', Cls W2.heap.size W2 w' → Calls Tryd.prog 41 #[.string s] w' fun e w'' => e = .returned (.agg A.toArray) ∧ Cls W2.heap.size W2 w'' from fun w' h => (c3.out w' (h.kt HK2.out (by omega))).mono fun e w'' ⟨h1, h2⟩ => ⟨h1, h.step (Nat.le_refl _) h2⟩)
      have hqW := fun W => hq.out W
      refine wp_region_quiet (C := Cls W2.heap.size W2) (by kernel_rfl) (by kernel_rfl) (Cls.start _ _) ?_
      simp only []
      repeat (first
        | (refine q_row ?_ 24 _ rfl w2.heap.size rfl A _ r2.out hu rfl hinf ?_
           · rfl
           simp only [Act.put, List.setIfInBounds_toArray, List.set_cons_zero, List.set_cons_succ])
        | (refine q_call ?_ 41 #[.string s] ?_ k3.out ?_
           · rfl
           · intro w; go_simp; done
           simp only [Act.put, List.setIfInBounds_toArray, List.set_cons_zero, List.set_cons_succ])
        | (apply q_val
           · rfl
           · intro w hw; go_simp; first | done | with_reducible rfl | rfl
           simp only [Act.put, List.setIfInBounds_toArray, List.set_cons_zero, List.set_cons_succ]))
      refine wpQuiet_nil ?_
      intro w6 hC6
      have HB6 := hidp (HB2.out.trans (Below.mono hC6 HB2.out.size))
      go_wp2
      go_ret
      exact ⟨rfl, HB6.out⟩
end Go.Proofs.YtcjehpojckdfnaaDoor
