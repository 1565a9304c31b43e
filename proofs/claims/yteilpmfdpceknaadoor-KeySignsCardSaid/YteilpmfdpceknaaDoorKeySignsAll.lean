/-
  KeySigns.
-/
import Derived.Test.YteilpmfdpceknaaDoorKyU
import Derived.Test.YteilpmfdpceknaaDoorFrmH
import Derived.Lib.SmallJoins
import Derived.Deep.DeepWitnessRowRef
import Derived.Test.YteilpmfdpceknaaDoorKyJ

namespace Go.Proofs.YteilpmfdpceknaaDoor
set_option maxRecDepth 100000
set_option linter.unusedVariables false
set_option linter.unusedSimpArgs false
open Go.RowKit

set_option maxHeartbeats 16000000 in
theorem walk_keySigns (w : World) (S : ByteArray) (H N : Int) (hS : S.size ≤ 140737488351232) (hH : (Lit.int .i64 H).wf = true) (hN : (Lit.int .i64 N).wf = true) (t : ByteArray) (ht : t.size ≤ 140737488351232) (hK : KT w) :
    Calls Tryd.prog 3 #[.agg #[.string S, .int .i64 H, .int .i64 N], .string t] w fun e w' => e = .returned (.bool true) ∧ Below w.heap.size w w' := by
  have L := hidp (fun W (h : KT W) => lives5_any W h)
  have HK := hidp hK; have hkp := hK.pos; clear hK
  by_cases h16 : 16384 < t.size
  · have e1 : decide ((t.size : Int) > 16384) = true := by simp; omega
    have n1 : 16384 < t.size := h16
    go_enter Tryd.func3, Tryd.ntmps3
    go_wp2_with (refine wpL_boxK rfl _ rfl [.string S, .int .i64 H, .int .i64 N] rfl ?_; intro b2 w0 n2; have HA0 := hidp n2.arr; have HB0 := hidp n2.below; obtain ⟨x0, x1, x2, -⟩ := arr3k HA0.out; clear n2)
    clear x0 x1 x2
    refine (L.out _ (HK.out.below HB0.out hkp)).mono ?_
    rintro e w1 ⟨rfl, hb1⟩
    go_wp2_with fail
    go_ret
    exact ⟨rfl, HB0.out.trans (hb1.mono HB0.out.size)⟩
  · have e1 : decide ((t.size : Int) > 16384) = false := by simp; omega
    have n1 : ¬ 16384 < t.size := h16
    obtain ⟨S', H', N', hA⟩ := sgA_form S H N
    obtain ⟨M, hM⟩ : ∃ M, sgS S H N t.data.toList = M := ⟨_, rfl⟩
    obtain ⟨E1, hE1⟩ : ∃ E, sgE S H N = E := ⟨_, rfl⟩
    obtain ⟨E0, hE0⟩ : ∃ E, kyE S H N = E := ⟨_, rfl⟩
    have hRl := hidp (keyR_len S H N)
    obtain ⟨R, hR⟩ : ∃ R, keyR S H N = R := ⟨_, rfl⟩
    rw [hR] at hRl
    have c1 := hidp (show ∀ W, KT W → Calls Tryd.prog 12 #[.agg #[.string S, .int .i64 H, .int .i64 N]] W fun e w' => e = .returned (.tuple #[.agg (u8s R).toArray, .int .i64 E0]) ∧ Below W.heap.size W w' from fun W k => by rw [← hR, ← hE0]; exact kroot_any W S H N k)
    have c2 := hidp (show ∀ W, Calls Tryd.prog 13 #[.agg #[.string S, .int .i64 H, .int .i64 N]] W fun e w' => e = .returned (.tuple #[.agg (u8s R).toArray, .int .i64 E0]) ∧ Below W.heap.size W w' from fun W => by rw [← hR, ← hE0]; exact rkroot_any W S H N)
    have c3 := hidp (show ∀ W, KT W → Calls Tryd.prog 14 #[.agg #[.string S, .int .i64 H, .int .i64 N], .string t] W fun e w' => e = .returned (.tuple #[.agg #[.string S', .int .i64 H', .int .i64 N'], .string M, .int .i64 E1]) ∧ Below W.heap.size W w' from fun W k => by
      have := ksign_any W S H N t (by omega) k
      rw [hA, hM, hE1] at this; exact this)
    have c4 := hidp (show ∀ W, Calls Tryd.prog 15 #[.agg #[.string S, .int .i64 H, .int .i64 N], .string t] W fun e w' => e = .returned (.tuple #[.agg #[.string S', .int .i64 H', .int .i64 N'], .string M, .int .i64 E1]) ∧ Below W.heap.size W w' from fun W => by
      have := rksign_any W S H N t (by omega)
      rw [hA, hM, hE1] at this; exact this)
    have c5 := hidp (show ∀ W, Calls Tryd.prog 16 #[.agg #[.string S, .int .i64 H, .int .i64 N]] W fun e w' => e = .returned (.int .i64 E0) ∧ Below W.heap.size W w' from fun W => by rw [← hE0]; exact kyCheck_any W S H N)
    have c6 := hidp (show ∀ W, Calls Tryd.prog 17 #[.agg #[.string S, .int .i64 H, .int .i64 N]] W fun e w' => e = .returned (.int .i64 E0) ∧ Below W.heap.size W w' from fun W => by rw [← hE0]; exact rkyCheck_any W S H N)
    have tl := toList_yes (rfl : M = M)
    clear hA hM hE1 hE0 hR
    by_cases h4 : 4 < H
    · have e2 : decide (H > 4) = true := by simp; omega
      have n2 : 4 < H := h4
      by_cases h7 : H ≤ 7
      · have e3 : decide (H ≤ 7) = true := by simp; omega
        have n3 : H ≤ 7 := h7
        go_enter Tryd.func3, Tryd.ntmps3
        go_wp2_with (refine wpL_boxK rfl _ rfl [.string S, .int .i64 H, .int .i64 N] rfl ?_; intro b2 w0 n2; have HA0 := hidp n2.arr; have HB0 := hidp n2.below; obtain ⟨x0, x1, x2, -⟩ := arr3k HA0.out; clear n2)
        clear x0 x1 x2
        refine (L.out _ (HK.out.below HB0.out hkp)).mono ?_
        rintro e w1 ⟨rfl, hb1⟩
        go_wp2_with fail
        go_ret
        exact ⟨rfl, HB0.out.trans (hb1.mono HB0.out.size)⟩
      · have e3 : decide (H ≤ 7) = false := by simp; omega
        have n3 : ¬ H ≤ 7 := h7
        go_enter Tryd.func3, Tryd.ntmps3
        go_wp2_with (refine wpL_boxK rfl _ rfl [.string S, .int .i64 H, .int .i64 N] rfl ?_; intro b2 w0 n2; have HA0 := hidp n2.arr; have HB0 := hidp n2.below; obtain ⟨x0, x1, x2, -⟩ := arr3k HA0.out; clear n2)
        clear x0 x1 x2
        refine (c1.out _ (HK.out.below HB0.out hkp)).mono ?_
        rintro e w1 ⟨rfl, hb1⟩
        have HB1 := hidp (HB0.out.trans (hb1.mono HB0.out.size))
        have HA1 := hidp (HA0.out.below hb1 HA0.out.lt)
        clear hb1 HB0 HA0
        go_wp2_with (first | (refine wpL_new rfl rfl ?_; intro b5 v3 n3) | (refine wpL_put rfl (.tmp 5) (.tmp 32) rfl b5 R rfl rfl hRl.out (u8s z32) rfl n3.arr ?_; intro w3 ha hp; have HR3 := hidp ha; have HB3 := hidp (HB1.out.trans ((n3.put hp).mono HB1.out.size)); have HA3 := hidp (hp.old (n3.old HA1.out) (by have := n3.at_; have := HA1.out.lt; omega)); clear ha hp n3 HB1 HA1; obtain ⟨x0, x1, x2, -⟩ := arr3k HA3.out))
        clear x0 x1 x2
        refine (c2.out _).mono ?_
        rintro e w4 ⟨rfl, hb4⟩
        have HB4 := hidp (HB3.out.trans (hb4.mono HB3.out.size))
        have HA4 := hidp (HA3.out.below hb4 HA3.out.lt)
        have HR4 := hidp (HR3.out.below hb4 HR3.out.lt)
        clear hb4 HB3 HA3 HR3
        go_wp2_with (first | (refine wpL_new rfl rfl ?_; intro b7 v6 n6) | (refine wpL_put rfl (.tmp 7) (.tmp 37) rfl b7 R rfl rfl hRl.out (u8s z32) rfl n6.arr ?_; intro w6 ha hp; have HT6 := hidp ha; have HB6 := hidp (HB4.out.trans ((n6.put hp).mono HB4.out.size)); have HA6 := hidp (hp.old (n6.old HA4.out) (by have := n6.at_; have := HA4.out.lt; omega)); have HR6 := hidp (hp.old (n6.old HR4.out) (by have := n6.at_; have := HR4.out.lt; omega)); clear ha hp n6 HB4 HA4 HR4; obtain ⟨x0, x1, x2, -⟩ := arr3k HA6.out))
        clear x0 x1 x2
        refine (c3.out _ (HK.out.below HB6.out hkp)).mono ?_
        rintro e w7 ⟨rfl, hb7⟩
        have HB7 := hidp (HB6.out.trans (hb7.mono HB6.out.size))
        have HA7 := hidp (HA6.out.below hb7 HA6.out.lt)
        have HR7 := hidp (HR6.out.below hb7 HR6.out.lt)
        have HT7 := hidp (HT6.out.below hb7 HT6.out.lt)
        clear hb7 HB6 HA6 HR6 HT6
        obtain ⟨x0, x1, x2, -⟩ := arr3k (HA7.out.alloc (.cells #[.string S', .int .i64 H', .int .i64 N'] 23))
        go_wp2_with fail
        clear x0 x1 x2
        have HB8 := hidp (HB7.out.alloc HB7.out.size (.cells #[.string S', .int .i64 H', .int .i64 N'] 23)); have HP8 := hidp (Arr.new w7 23 [.string S', .int .i64 H', .int .i64 N'])
        have HA8 := hidp (HA7.out.alloc (.cells #[.string S', .int .i64 H', .int .i64 N'] 23))
        have HR8 := hidp (HR7.out.alloc (.cells #[.string S', .int .i64 H', .int .i64 N'] 23))
        have HT8 := hidp (HT7.out.alloc (.cells #[.string S', .int .i64 H', .int .i64 N'] 23))
        obtain ⟨b9, hbb9⟩ : ∃ b, w7.heap.size = b := ⟨_, rfl⟩
        generalize hW8 : (w7.alloc (.cells #[.string S', .int .i64 H', .int .i64 N'] 23)) = w8 at HB8 HP8 HA8 HR8 HT8 ⊢
        rw [hbb9] at HP8 ⊢
        clear hW8 hbb9 HB7 HA7 HR7 HT7
        refine (c4.out _).mono ?_
        rintro e w9 ⟨rfl, hb9⟩
        have HB9 := hidp (HB8.out.trans (hb9.mono HB8.out.size))
        have HA9 := hidp (HA8.out.below hb9 HA8.out.lt)
        have HR9 := hidp (HR8.out.below hb9 HR8.out.lt)
        have HT9 := hidp (HT8.out.below hb9 HT8.out.lt)
        have HP9 := hidp (HP8.out.below hb9 HP8.out.lt)
        clear hb9 HB8 HA8 HR8 HT8 HP8
        go_wp2_with fail
        have HB10 := hidp (HB9.out.alloc HB9.out.size (.cells #[.string S', .int .i64 H', .int .i64 N'] 23)); have HQ10 := hidp (Arr.new w9 23 [.string S', .int .i64 H', .int .i64 N'])
        have HA10 := hidp (HA9.out.alloc (.cells #[.string S', .int .i64 H', .int .i64 N'] 23))
        have HR10 := hidp (HR9.out.alloc (.cells #[.string S', .int .i64 H', .int .i64 N'] 23))
        have HT10 := hidp (HT9.out.alloc (.cells #[.string S', .int .i64 H', .int .i64 N'] 23))
        have HP10 := hidp (HP9.out.alloc (.cells #[.string S', .int .i64 H', .int .i64 N'] 23))
        obtain ⟨b12, hbb12⟩ : ∃ b, w9.heap.size = b := ⟨_, rfl⟩
        generalize hW10 : (w9.alloc (.cells #[.string S', .int .i64 H', .int .i64 N'] 23)) = w10 at HB10 HQ10 HA10 HR10 HT10 HP10 ⊢
        rw [hbb12] at HQ10 ⊢
        clear hW10 hbb12 HB9 HA9 HR9 HT9 HP9
        obtain ⟨U, hU⟩ : ∃ U, ({ w10 with drawn := w10.drawn + 1 } : World) = U := ⟨_, rfl⟩
        have bU : Below w10.heap.size w10 U := by rw [← hU]; exact (Below.refl _ _).drew
        have HS0 := hidp (show (fun W => Arr W b2 23 [.string S, .int .i64 H, .int .i64 N] ∧ Arr W b5 26 (u8s R) ∧ Arr W b7 26 (u8s R) ∧ Arr W b9 23 [.string S', .int .i64 H', .int .i64 N'] ∧ Arr W b12 23 [.string S', .int .i64 H', .int .i64 N']) U from ⟨HA10.out.below bU HA10.out.lt, HR10.out.below bU HR10.out.lt, HT10.out.below bU HT10.out.lt, HP10.out.below bU HP10.out.lt, HQ10.out.below bU HQ10.out.lt⟩)
        have HB0' := hidp (HB10.out.trans (bU.mono HB10.out.size))
        clear bU HA10 HR10 HT10 HP10 HQ10 HB10
        have HB0 := HB0'; clear HB0'
        refine wp_region_noPanic ?_
        refine wp_region_scr (S := fun W => Arr W b2 23 [.string S, .int .i64 H, .int .i64 N] ∧ Arr W b5 26 (u8s R) ∧ Arr W b7 26 (u8s R) ∧ Arr W b9 23 [.string S', .int .i64 H', .int .i64 N'] ∧ Arr W b12 23 [.string S', .int .i64 H', .int .i64 N']) (.one 0 (.take 1 (.take 2 (.take 4 (.one 3 (.one 5 (.take 6 (.take 7 (.take 8 (.take 9 (.take 10 (.take 11 (.take 12 (.take 13 (.take 14 (.take 15 (.take 16 (.take 17 (.take 18 (.take 19 (.take 20 (.take 21 (.take 22 (.take 23 (.take 24 (.take 25 (.take 26 (.take 27 (.take 28 (.take 29 (.take 30 (.take 31 (.take 32 (.take 33 .done)))))))))))))))))))))))))))))))))) (by kernel_rfl) (by kernel_rfl) (fun _ _ _ _ _ h => h) (by simp [Scr.depth]) (by kernel_rfl) (by rw [hU]; exact HS0.out) ?_
        simp only [hU]
        clear hU
        apply o_call (f := 11) (args := #[]) (v := .bool true) (hc := L.out _ (HK.out.below HB0.out hkp))
        case ho => rfl
        case hw => rfl
        case hop => go_simp; first | done | rfl
        rintro X1 hb
        have HS1 := hidp (show (fun W => Arr W b2 23 [.string S, .int .i64 H, .int .i64 N] ∧ Arr W b5 26 (u8s R) ∧ Arr W b7 26 (u8s R) ∧ Arr W b9 23 [.string S', .int .i64 H', .int .i64 N'] ∧ Arr W b12 23 [.string S', .int .i64 H', .int .i64 N']) X1 from ⟨HS0.out.1.below hb HS0.out.1.lt, HS0.out.2.1.below hb HS0.out.2.1.lt, HS0.out.2.2.1.below hb HS0.out.2.2.1.lt, HS0.out.2.2.2.1.below hb HS0.out.2.2.2.1.lt, HS0.out.2.2.2.2.below hb HS0.out.2.2.2.2.lt⟩)
        have HB1 := hidp (HB0.out.trans (hb.mono HB0.out.size))
        clear hb
        refine ⟨HS1.out, ?_⟩
        simp only [Act.put, List.getElem_toArray, List.getElem_cons_zero, List.getElem_cons_succ, List.setIfInBounds_toArray, List.set_cons_zero, List.set_cons_succ]
        apply s_val
        case ho => rfl
        case hw => rfl
        case hv => intro w hw; go_simp; first | done | with_reducible rfl | rfl
        simp only [Act.put, List.getElem_toArray, List.getElem_cons_zero, List.getElem_cons_succ, List.setIfInBounds_toArray, List.set_cons_zero, List.set_cons_succ]
        apply s_val
        case ho => rfl
        case hw => rfl
        case hv => intro w hw; obtain ⟨x0, x1, x2, -⟩ := arr3k hw.1; go_simp; first | done | with_reducible rfl | rfl
        simp only [Act.put, List.getElem_toArray, List.getElem_cons_zero, List.getElem_cons_succ, List.setIfInBounds_toArray, List.set_cons_zero, List.set_cons_succ]
        apply s_val
        case ho => rfl
        case hw => rfl
        case hv => intro w hw; obtain ⟨x0, x1, x2, -⟩ := arr3k hw.1; go_simp; first | done | with_reducible rfl | rfl
        simp only [Act.put, List.getElem_toArray, List.getElem_cons_zero, List.getElem_cons_succ, List.setIfInBounds_toArray, List.set_cons_zero, List.set_cons_succ]
        apply o_call (f := 16) (args := #[.agg #[.string S, .int .i64 H, .int .i64 N]]) (v := .int .i64 E0) (hc := c5.out _)
        case ho => rfl
        case hw => rfl
        case hop => go_simp; first | done | rfl
        rintro X2 hb
        have HS2 := hidp (show (fun W => Arr W b2 23 [.string S, .int .i64 H, .int .i64 N] ∧ Arr W b5 26 (u8s R) ∧ Arr W b7 26 (u8s R) ∧ Arr W b9 23 [.string S', .int .i64 H', .int .i64 N'] ∧ Arr W b12 23 [.string S', .int .i64 H', .int .i64 N']) X2 from ⟨HS1.out.1.below hb HS1.out.1.lt, HS1.out.2.1.below hb HS1.out.2.1.lt, HS1.out.2.2.1.below hb HS1.out.2.2.1.lt, HS1.out.2.2.2.1.below hb HS1.out.2.2.2.1.lt, HS1.out.2.2.2.2.below hb HS1.out.2.2.2.2.lt⟩)
        have HB2 := hidp (HB1.out.trans (hb.mono HB1.out.size))
        clear hb
        refine ⟨HS2.out, ?_⟩
        simp only [Act.put, List.getElem_toArray, List.getElem_cons_zero, List.getElem_cons_succ, List.setIfInBounds_toArray, List.set_cons_zero, List.set_cons_succ]
        apply o_call (f := 17) (args := #[.agg #[.string S, .int .i64 H, .int .i64 N]]) (v := .int .i64 E0) (hc := c6.out _)
        case ho => rfl
        case hw => rfl
        case hop => go_simp; first | done | rfl
        rintro X3 hb
        have HS3 := hidp (show (fun W => Arr W b2 23 [.string S, .int .i64 H, .int .i64 N] ∧ Arr W b5 26 (u8s R) ∧ Arr W b7 26 (u8s R) ∧ Arr W b9 23 [.string S', .int .i64 H', .int .i64 N'] ∧ Arr W b12 23 [.string S', .int .i64 H', .int .i64 N']) X3 from ⟨HS2.out.1.below hb HS2.out.1.lt, HS2.out.2.1.below hb HS2.out.2.1.lt, HS2.out.2.2.1.below hb HS2.out.2.2.1.lt, HS2.out.2.2.2.1.below hb HS2.out.2.2.2.1.lt, HS2.out.2.2.2.2.below hb HS2.out.2.2.2.2.lt⟩)
        have HB3 := hidp (HB2.out.trans (hb.mono HB2.out.size))
        clear hb
        refine ⟨HS3.out, ?_⟩
        simp only [Act.put, List.getElem_toArray, List.getElem_cons_zero, List.getElem_cons_succ, List.setIfInBounds_toArray, List.set_cons_zero, List.set_cons_succ]
        apply s_val
        case ho => rfl
        case hw => rfl
        case hv => intro w hw; go_simp; first | done | with_reducible rfl | rfl
        simp only [Act.put, List.getElem_toArray, List.getElem_cons_zero, List.getElem_cons_succ, List.setIfInBounds_toArray, List.set_cons_zero, List.set_cons_succ]
        apply s_val
        case ho => rfl
        case hw => rfl
        case hv => intro w hw; go_simp; first | done | with_reducible rfl | rfl
        simp only [Act.put, List.getElem_toArray, List.getElem_cons_zero, List.getElem_cons_succ, List.setIfInBounds_toArray, List.set_cons_zero, List.set_cons_succ]
        apply s_val
        case ho => rfl
        case hw => rfl
        case hv => intro w hw; go_simp; first | done | with_reducible rfl | rfl
        simp only [Act.put, List.getElem_toArray, List.getElem_cons_zero, List.getElem_cons_succ, List.setIfInBounds_toArray, List.set_cons_zero, List.set_cons_succ]
        refine s_getH rfl rfl (.tmp 5) rfl b5 R rfl hRl.out (fun _ h => h.2.1) ?_
        simp only [Act.put, List.getElem_toArray, List.getElem_cons_zero, List.getElem_cons_succ, List.setIfInBounds_toArray, List.set_cons_zero, List.set_cons_succ]
        refine s_getH rfl rfl (.tmp 7) rfl b7 R rfl hRl.out (fun _ h => h.2.2.1) ?_
        simp only [Act.put, List.getElem_toArray, List.getElem_cons_zero, List.getElem_cons_succ, List.setIfInBounds_toArray, List.set_cons_zero, List.set_cons_succ]
        refine s_eqH rfl rfl (.tmp 62) (.tmp 63) _ rfl R rfl rfl hRl.out ?_
        simp only [Act.put, List.getElem_toArray, List.getElem_cons_zero, List.getElem_cons_succ, List.setIfInBounds_toArray, List.set_cons_zero, List.set_cons_succ]
        apply s_val
        case ho => rfl
        case hw => rfl
        case hv => intro w hw; go_simp; first | done | with_reducible rfl | rfl
        simp only [Act.put, List.getElem_toArray, List.getElem_cons_zero, List.getElem_cons_succ, List.setIfInBounds_toArray, List.set_cons_zero, List.set_cons_succ]
        apply s_val
        case ho => rfl
        case hw => rfl
        case hv => intro w hw; go_simp; first | done | with_reducible rfl | rfl
        simp only [Act.put, List.getElem_toArray, List.getElem_cons_zero, List.getElem_cons_succ, List.setIfInBounds_toArray, List.set_cons_zero, List.set_cons_succ]
        apply s_val
        case ho => rfl
        case hw => rfl
        case hv => intro w hw; go_simp; first | done | with_reducible rfl | rfl
        simp only [Act.put, List.getElem_toArray, List.getElem_cons_zero, List.getElem_cons_succ, List.setIfInBounds_toArray, List.set_cons_zero, List.set_cons_succ]
        apply s_val
        case ho => rfl
        case hw => rfl
        case hv => intro w hw; go_simp; first | done | with_reducible rfl | rfl
        simp only [Act.put, List.getElem_toArray, List.getElem_cons_zero, List.getElem_cons_succ, List.setIfInBounds_toArray, List.set_cons_zero, List.set_cons_succ]
        apply s_val
        case ho => rfl
        case hw => rfl
        case hv => intro w hw; go_simp; first | done | with_reducible rfl | rfl
        simp only [Act.put, List.getElem_toArray, List.getElem_cons_zero, List.getElem_cons_succ, List.setIfInBounds_toArray, List.set_cons_zero, List.set_cons_succ]
        apply s_val
        case ho => rfl
        case hw => rfl
        case hv => intro w hw; go_simp; first | done | with_reducible rfl | rfl
        simp only [Act.put, List.getElem_toArray, List.getElem_cons_zero, List.getElem_cons_succ, List.setIfInBounds_toArray, List.set_cons_zero, List.set_cons_succ]
        apply s_val
        case ho => rfl
        case hw => rfl
        case hv => intro w hw; go_simp; first | done | with_reducible rfl | rfl
        simp only [Act.put, List.getElem_toArray, List.getElem_cons_zero, List.getElem_cons_succ, List.setIfInBounds_toArray, List.set_cons_zero, List.set_cons_succ]
        apply s_val
        case ho => rfl
        case hw => rfl
        case hv => intro w hw; obtain ⟨x0, x1, x2, -⟩ := arr3k hw.2.2.2.1; go_simp; first | done | with_reducible rfl | rfl
        simp only [Act.put, List.getElem_toArray, List.getElem_cons_zero, List.getElem_cons_succ, List.setIfInBounds_toArray, List.set_cons_zero, List.set_cons_succ]
        apply s_val
        case ho => rfl
        case hw => rfl
        case hv => intro w hw; obtain ⟨x0, x1, x2, -⟩ := arr3k hw.2.2.2.2; go_simp; first | done | with_reducible rfl | rfl
        simp only [Act.put, List.getElem_toArray, List.getElem_cons_zero, List.getElem_cons_succ, List.setIfInBounds_toArray, List.set_cons_zero, List.set_cons_succ]
        apply s_val
        case ho => rfl
        case hw => rfl
        case hv => intro w hw; have q1 := eq_key w S' H' N'; go_simp; first | done | with_reducible rfl | rfl
        simp only [Act.put, List.getElem_toArray, List.getElem_cons_zero, List.getElem_cons_succ, List.setIfInBounds_toArray, List.set_cons_zero, List.set_cons_succ]
        apply s_val
        case ho => rfl
        case hw => rfl
        case hv => intro w hw; go_simp; first | done | with_reducible rfl | rfl
        simp only [Act.put, List.getElem_toArray, List.getElem_cons_zero, List.getElem_cons_succ, List.setIfInBounds_toArray, List.set_cons_zero, List.set_cons_succ]
        apply s_val
        case ho => rfl
        case hw => rfl
        case hv => intro w hw; go_simp; first | done | with_reducible rfl | rfl
        simp only [Act.put, List.getElem_toArray, List.getElem_cons_zero, List.getElem_cons_succ, List.setIfInBounds_toArray, List.set_cons_zero, List.set_cons_succ]
        apply s_val
        case ho => rfl
        case hw => rfl
        case hv => intro w hw; go_simp; first | done | with_reducible rfl | rfl
        simp only [Act.put, List.getElem_toArray, List.getElem_cons_zero, List.getElem_cons_succ, List.setIfInBounds_toArray, List.set_cons_zero, List.set_cons_succ]
        apply s_val
        case ho => rfl
        case hw => rfl
        case hv => intro w hw; go_simp; first | done | with_reducible rfl | rfl
        simp only [Act.put, List.getElem_toArray, List.getElem_cons_zero, List.getElem_cons_succ, List.setIfInBounds_toArray, List.set_cons_zero, List.set_cons_succ]
        apply s_val
        case ho => rfl
        case hw => rfl
        case hv => intro w hw; have q2 := tl; go_simp; first | done | with_reducible rfl | rfl
        simp only [Act.put, List.getElem_toArray, List.getElem_cons_zero, List.getElem_cons_succ, List.setIfInBounds_toArray, List.set_cons_zero, List.set_cons_succ]
        apply s_val
        case ho => rfl
        case hw => rfl
        case hv => intro w hw; go_simp; first | done | with_reducible rfl | rfl
        simp only [Act.put, List.getElem_toArray, List.getElem_cons_zero, List.getElem_cons_succ, List.setIfInBounds_toArray, List.set_cons_zero, List.set_cons_succ]
        apply s_val
        case ho => rfl
        case hw => rfl
        case hv => intro w hw; go_simp; first | done | with_reducible rfl | rfl
        simp only [Act.put, List.getElem_toArray, List.getElem_cons_zero, List.getElem_cons_succ, List.setIfInBounds_toArray, List.set_cons_zero, List.set_cons_succ]
        apply s_val
        case ho => rfl
        case hw => rfl
        case hv => intro w hw; go_simp; first | done | with_reducible rfl | rfl
        simp only [Act.put, List.getElem_toArray, List.getElem_cons_zero, List.getElem_cons_succ, List.setIfInBounds_toArray, List.set_cons_zero, List.set_cons_succ]
        apply s_val
        case ho => rfl
        case hw => rfl
        case hv => intro w hw; go_simp; first | done | with_reducible rfl | rfl
        simp only [Act.put, List.getElem_toArray, List.getElem_cons_zero, List.getElem_cons_succ, List.setIfInBounds_toArray, List.set_cons_zero, List.set_cons_succ]
        apply s_val
        case ho => rfl
        case hw => rfl
        case hv => intro w hw; go_simp; first | done | with_reducible rfl | rfl
        simp only [Act.put, List.getElem_toArray, List.getElem_cons_zero, List.getElem_cons_succ, List.setIfInBounds_toArray, List.set_cons_zero, List.set_cons_succ]
        apply s_val
        case ho => rfl
        case hw => rfl
        case hv => intro w hw; go_simp; first | done | with_reducible rfl | rfl
        simp only [Act.put, List.getElem_toArray, List.getElem_cons_zero, List.getElem_cons_succ, List.setIfInBounds_toArray, List.set_cons_zero, List.set_cons_succ]
        apply s_val
        case ho => rfl
        case hw => rfl
        case hv => intro w hw; go_simp; first | done | with_reducible rfl | rfl
        simp only [Act.put, List.getElem_toArray, List.getElem_cons_zero, List.getElem_cons_succ, List.setIfInBounds_toArray, List.set_cons_zero, List.set_cons_succ]
        refine NoPanic.normal ?_
        go_wp2_with fail
        go_ret
        exact ⟨rfl, HB3.out⟩
    · have e2 : decide (H > 4) = false := by simp; omega
      have n2 : ¬ 4 < H := h4
      go_enter Tryd.func3, Tryd.ntmps3
      go_wp2_with (refine wpL_boxK rfl _ rfl [.string S, .int .i64 H, .int .i64 N] rfl ?_; intro b2 w0 n2; have HA0 := hidp n2.arr; have HB0 := hidp n2.below; obtain ⟨x0, x1, x2, -⟩ := arr3k HA0.out; clear n2)
      clear x0 x1 x2
      refine (c1.out _ (HK.out.below HB0.out hkp)).mono ?_
      rintro e w1 ⟨rfl, hb1⟩
      have HB1 := hidp (HB0.out.trans (hb1.mono HB0.out.size))
      have HA1 := hidp (HA0.out.below hb1 HA0.out.lt)
      clear hb1 HB0 HA0
      go_wp2_with (first | (refine wpL_new rfl rfl ?_; intro b5 v3 n3) | (refine wpL_put rfl (.tmp 5) (.tmp 32) rfl b5 R rfl rfl hRl.out (u8s z32) rfl n3.arr ?_; intro w3 ha hp; have HR3 := hidp ha; have HB3 := hidp (HB1.out.trans ((n3.put hp).mono HB1.out.size)); have HA3 := hidp (hp.old (n3.old HA1.out) (by have := n3.at_; have := HA1.out.lt; omega)); clear ha hp n3 HB1 HA1; obtain ⟨x0, x1, x2, -⟩ := arr3k HA3.out))
      clear x0 x1 x2
      refine (c2.out _).mono ?_
      rintro e w4 ⟨rfl, hb4⟩
      have HB4 := hidp (HB3.out.trans (hb4.mono HB3.out.size))
      have HA4 := hidp (HA3.out.below hb4 HA3.out.lt)
      have HR4 := hidp (HR3.out.below hb4 HR3.out.lt)
      clear hb4 HB3 HA3 HR3
      go_wp2_with (first | (refine wpL_new rfl rfl ?_; intro b7 v6 n6) | (refine wpL_put rfl (.tmp 7) (.tmp 37) rfl b7 R rfl rfl hRl.out (u8s z32) rfl n6.arr ?_; intro w6 ha hp; have HT6 := hidp ha; have HB6 := hidp (HB4.out.trans ((n6.put hp).mono HB4.out.size)); have HA6 := hidp (hp.old (n6.old HA4.out) (by have := n6.at_; have := HA4.out.lt; omega)); have HR6 := hidp (hp.old (n6.old HR4.out) (by have := n6.at_; have := HR4.out.lt; omega)); clear ha hp n6 HB4 HA4 HR4; obtain ⟨x0, x1, x2, -⟩ := arr3k HA6.out))
      clear x0 x1 x2
      refine (c3.out _ (HK.out.below HB6.out hkp)).mono ?_
      rintro e w7 ⟨rfl, hb7⟩
      have HB7 := hidp (HB6.out.trans (hb7.mono HB6.out.size))
      have HA7 := hidp (HA6.out.below hb7 HA6.out.lt)
      have HR7 := hidp (HR6.out.below hb7 HR6.out.lt)
      have HT7 := hidp (HT6.out.below hb7 HT6.out.lt)
      clear hb7 HB6 HA6 HR6 HT6
      obtain ⟨x0, x1, x2, -⟩ := arr3k (HA7.out.alloc (.cells #[.string S', .int .i64 H', .int .i64 N'] 23))
      go_wp2_with fail
      clear x0 x1 x2
      have HB8 := hidp (HB7.out.alloc HB7.out.size (.cells #[.string S', .int .i64 H', .int .i64 N'] 23)); have HP8 := hidp (Arr.new w7 23 [.string S', .int .i64 H', .int .i64 N'])
      have HA8 := hidp (HA7.out.alloc (.cells #[.string S', .int .i64 H', .int .i64 N'] 23))
      have HR8 := hidp (HR7.out.alloc (.cells #[.string S', .int .i64 H', .int .i64 N'] 23))
      have HT8 := hidp (HT7.out.alloc (.cells #[.string S', .int .i64 H', .int .i64 N'] 23))
      obtain ⟨b9, hbb9⟩ : ∃ b, w7.heap.size = b := ⟨_, rfl⟩
      generalize hW8 : (w7.alloc (.cells #[.string S', .int .i64 H', .int .i64 N'] 23)) = w8 at HB8 HP8 HA8 HR8 HT8 ⊢
      rw [hbb9] at HP8 ⊢
      clear hW8 hbb9 HB7 HA7 HR7 HT7
      refine (c4.out _).mono ?_
      rintro e w9 ⟨rfl, hb9⟩
      have HB9 := hidp (HB8.out.trans (hb9.mono HB8.out.size))
      have HA9 := hidp (HA8.out.below hb9 HA8.out.lt)
      have HR9 := hidp (HR8.out.below hb9 HR8.out.lt)
      have HT9 := hidp (HT8.out.below hb9 HT8.out.lt)
      have HP9 := hidp (HP8.out.below hb9 HP8.out.lt)
      clear hb9 HB8 HA8 HR8 HT8 HP8
      go_wp2_with fail
      have HB10 := hidp (HB9.out.alloc HB9.out.size (.cells #[.string S', .int .i64 H', .int .i64 N'] 23)); have HQ10 := hidp (Arr.new w9 23 [.string S', .int .i64 H', .int .i64 N'])
      have HA10 := hidp (HA9.out.alloc (.cells #[.string S', .int .i64 H', .int .i64 N'] 23))
      have HR10 := hidp (HR9.out.alloc (.cells #[.string S', .int .i64 H', .int .i64 N'] 23))
      have HT10 := hidp (HT9.out.alloc (.cells #[.string S', .int .i64 H', .int .i64 N'] 23))
      have HP10 := hidp (HP9.out.alloc (.cells #[.string S', .int .i64 H', .int .i64 N'] 23))
      obtain ⟨b12, hbb12⟩ : ∃ b, w9.heap.size = b := ⟨_, rfl⟩
      generalize hW10 : (w9.alloc (.cells #[.string S', .int .i64 H', .int .i64 N'] 23)) = w10 at HB10 HQ10 HA10 HR10 HT10 HP10 ⊢
      rw [hbb12] at HQ10 ⊢
      clear hW10 hbb12 HB9 HA9 HR9 HT9 HP9
      obtain ⟨U, hU⟩ : ∃ U, ({ w10 with drawn := w10.drawn + 1 } : World) = U := ⟨_, rfl⟩
      have bU : Below w10.heap.size w10 U := by rw [← hU]; exact (Below.refl _ _).drew
      have HS0 := hidp (show (fun W => Arr W b2 23 [.string S, .int .i64 H, .int .i64 N] ∧ Arr W b5 26 (u8s R) ∧ Arr W b7 26 (u8s R) ∧ Arr W b9 23 [.string S', .int .i64 H', .int .i64 N'] ∧ Arr W b12 23 [.string S', .int .i64 H', .int .i64 N']) U from ⟨HA10.out.below bU HA10.out.lt, HR10.out.below bU HR10.out.lt, HT10.out.below bU HT10.out.lt, HP10.out.below bU HP10.out.lt, HQ10.out.below bU HQ10.out.lt⟩)
      have HB0' := hidp (HB10.out.trans (bU.mono HB10.out.size))
      clear bU HA10 HR10 HT10 HP10 HQ10 HB10
      have HB0 := HB0'; clear HB0'
      refine wp_region_noPanic ?_
      refine wp_region_scr (S := fun W => Arr W b2 23 [.string S, .int .i64 H, .int .i64 N] ∧ Arr W b5 26 (u8s R) ∧ Arr W b7 26 (u8s R) ∧ Arr W b9 23 [.string S', .int .i64 H', .int .i64 N'] ∧ Arr W b12 23 [.string S', .int .i64 H', .int .i64 N']) (.one 0 (.take 1 (.take 2 (.take 4 (.one 3 (.one 5 (.take 6 (.take 7 (.take 8 (.take 9 (.take 10 (.take 11 (.take 12 (.take 13 (.take 14 (.take 15 (.take 16 (.take 17 (.take 18 (.take 19 (.take 20 (.take 21 (.take 22 (.take 23 (.take 24 (.take 25 (.take 26 (.take 27 (.take 28 (.take 29 (.take 30 (.take 31 (.take 32 (.take 33 .done)))))))))))))))))))))))))))))))))) (by kernel_rfl) (by kernel_rfl) (fun _ _ _ _ _ h => h) (by simp [Scr.depth]) (by kernel_rfl) (by rw [hU]; exact HS0.out) ?_
      simp only [hU]
      clear hU
      apply o_call (f := 11) (args := #[]) (v := .bool true) (hc := L.out _ (HK.out.below HB0.out hkp))
      case ho => rfl
      case hw => rfl
      case hop => go_simp; first | done | rfl
      rintro X1 hb
      have HS1 := hidp (show (fun W => Arr W b2 23 [.string S, .int .i64 H, .int .i64 N] ∧ Arr W b5 26 (u8s R) ∧ Arr W b7 26 (u8s R) ∧ Arr W b9 23 [.string S', .int .i64 H', .int .i64 N'] ∧ Arr W b12 23 [.string S', .int .i64 H', .int .i64 N']) X1 from ⟨HS0.out.1.below hb HS0.out.1.lt, HS0.out.2.1.below hb HS0.out.2.1.lt, HS0.out.2.2.1.below hb HS0.out.2.2.1.lt, HS0.out.2.2.2.1.below hb HS0.out.2.2.2.1.lt, HS0.out.2.2.2.2.below hb HS0.out.2.2.2.2.lt⟩)
      have HB1 := hidp (HB0.out.trans (hb.mono HB0.out.size))
      clear hb
      refine ⟨HS1.out, ?_⟩
      simp only [Act.put, List.getElem_toArray, List.getElem_cons_zero, List.getElem_cons_succ, List.setIfInBounds_toArray, List.set_cons_zero, List.set_cons_succ]
      apply s_val
      case ho => rfl
      case hw => rfl
      case hv => intro w hw; go_simp; first | done | with_reducible rfl | rfl
      simp only [Act.put, List.getElem_toArray, List.getElem_cons_zero, List.getElem_cons_succ, List.setIfInBounds_toArray, List.set_cons_zero, List.set_cons_succ]
      apply s_val
      case ho => rfl
      case hw => rfl
      case hv => intro w hw; obtain ⟨x0, x1, x2, -⟩ := arr3k hw.1; go_simp; first | done | with_reducible rfl | rfl
      simp only [Act.put, List.getElem_toArray, List.getElem_cons_zero, List.getElem_cons_succ, List.setIfInBounds_toArray, List.set_cons_zero, List.set_cons_succ]
      apply s_val
      case ho => rfl
      case hw => rfl
      case hv => intro w hw; obtain ⟨x0, x1, x2, -⟩ := arr3k hw.1; go_simp; first | done | with_reducible rfl | rfl
      simp only [Act.put, List.getElem_toArray, List.getElem_cons_zero, List.getElem_cons_succ, List.setIfInBounds_toArray, List.set_cons_zero, List.set_cons_succ]
      apply o_call (f := 16) (args := #[.agg #[.string S, .int .i64 H, .int .i64 N]]) (v := .int .i64 E0) (hc := c5.out _)
      case ho => rfl
      case hw => rfl
      case hop => go_simp; first | done | rfl
      rintro X2 hb
      have HS2 := hidp (show (fun W => Arr W b2 23 [.string S, .int .i64 H, .int .i64 N] ∧ Arr W b5 26 (u8s R) ∧ Arr W b7 26 (u8s R) ∧ Arr W b9 23 [.string S', .int .i64 H', .int .i64 N'] ∧ Arr W b12 23 [.string S', .int .i64 H', .int .i64 N']) X2 from ⟨HS1.out.1.below hb HS1.out.1.lt, HS1.out.2.1.below hb HS1.out.2.1.lt, HS1.out.2.2.1.below hb HS1.out.2.2.1.lt, HS1.out.2.2.2.1.below hb HS1.out.2.2.2.1.lt, HS1.out.2.2.2.2.below hb HS1.out.2.2.2.2.lt⟩)
      have HB2 := hidp (HB1.out.trans (hb.mono HB1.out.size))
      clear hb
      refine ⟨HS2.out, ?_⟩
      simp only [Act.put, List.getElem_toArray, List.getElem_cons_zero, List.getElem_cons_succ, List.setIfInBounds_toArray, List.set_cons_zero, List.set_cons_succ]
      apply o_call (f := 17) (args := #[.agg #[.string S, .int .i64 H, .int .i64 N]]) (v := .int .i64 E0) (hc := c6.out _)
      case ho => rfl
      case hw => rfl
      case hop => go_simp; first | done | rfl
      rintro X3 hb
      have HS3 := hidp (show (fun W => Arr W b2 23 [.string S, .int .i64 H, .int .i64 N] ∧ Arr W b5 26 (u8s R) ∧ Arr W b7 26 (u8s R) ∧ Arr W b9 23 [.string S', .int .i64 H', .int .i64 N'] ∧ Arr W b12 23 [.string S', .int .i64 H', .int .i64 N']) X3 from ⟨HS2.out.1.below hb HS2.out.1.lt, HS2.out.2.1.below hb HS2.out.2.1.lt, HS2.out.2.2.1.below hb HS2.out.2.2.1.lt, HS2.out.2.2.2.1.below hb HS2.out.2.2.2.1.lt, HS2.out.2.2.2.2.below hb HS2.out.2.2.2.2.lt⟩)
      have HB3 := hidp (HB2.out.trans (hb.mono HB2.out.size))
      clear hb
      refine ⟨HS3.out, ?_⟩
      simp only [Act.put, List.getElem_toArray, List.getElem_cons_zero, List.getElem_cons_succ, List.setIfInBounds_toArray, List.set_cons_zero, List.set_cons_succ]
      apply s_val
      case ho => rfl
      case hw => rfl
      case hv => intro w hw; go_simp; first | done | with_reducible rfl | rfl
      simp only [Act.put, List.getElem_toArray, List.getElem_cons_zero, List.getElem_cons_succ, List.setIfInBounds_toArray, List.set_cons_zero, List.set_cons_succ]
      apply s_val
      case ho => rfl
      case hw => rfl
      case hv => intro w hw; go_simp; first | done | with_reducible rfl | rfl
      simp only [Act.put, List.getElem_toArray, List.getElem_cons_zero, List.getElem_cons_succ, List.setIfInBounds_toArray, List.set_cons_zero, List.set_cons_succ]
      apply s_val
      case ho => rfl
      case hw => rfl
      case hv => intro w hw; go_simp; first | done | with_reducible rfl | rfl
      simp only [Act.put, List.getElem_toArray, List.getElem_cons_zero, List.getElem_cons_succ, List.setIfInBounds_toArray, List.set_cons_zero, List.set_cons_succ]
      refine s_getH rfl rfl (.tmp 5) rfl b5 R rfl hRl.out (fun _ h => h.2.1) ?_
      simp only [Act.put, List.getElem_toArray, List.getElem_cons_zero, List.getElem_cons_succ, List.setIfInBounds_toArray, List.set_cons_zero, List.set_cons_succ]
      refine s_getH rfl rfl (.tmp 7) rfl b7 R rfl hRl.out (fun _ h => h.2.2.1) ?_
      simp only [Act.put, List.getElem_toArray, List.getElem_cons_zero, List.getElem_cons_succ, List.setIfInBounds_toArray, List.set_cons_zero, List.set_cons_succ]
      refine s_eqH rfl rfl (.tmp 62) (.tmp 63) _ rfl R rfl rfl hRl.out ?_
      simp only [Act.put, List.getElem_toArray, List.getElem_cons_zero, List.getElem_cons_succ, List.setIfInBounds_toArray, List.set_cons_zero, List.set_cons_succ]
      apply s_val
      case ho => rfl
      case hw => rfl
      case hv => intro w hw; go_simp; first | done | with_reducible rfl | rfl
      simp only [Act.put, List.getElem_toArray, List.getElem_cons_zero, List.getElem_cons_succ, List.setIfInBounds_toArray, List.set_cons_zero, List.set_cons_succ]
      apply s_val
      case ho => rfl
      case hw => rfl
      case hv => intro w hw; go_simp; first | done | with_reducible rfl | rfl
      simp only [Act.put, List.getElem_toArray, List.getElem_cons_zero, List.getElem_cons_succ, List.setIfInBounds_toArray, List.set_cons_zero, List.set_cons_succ]
      apply s_val
      case ho => rfl
      case hw => rfl
      case hv => intro w hw; go_simp; first | done | with_reducible rfl | rfl
      simp only [Act.put, List.getElem_toArray, List.getElem_cons_zero, List.getElem_cons_succ, List.setIfInBounds_toArray, List.set_cons_zero, List.set_cons_succ]
      apply s_val
      case ho => rfl
      case hw => rfl
      case hv => intro w hw; go_simp; first | done | with_reducible rfl | rfl
      simp only [Act.put, List.getElem_toArray, List.getElem_cons_zero, List.getElem_cons_succ, List.setIfInBounds_toArray, List.set_cons_zero, List.set_cons_succ]
      apply s_val
      case ho => rfl
      case hw => rfl
      case hv => intro w hw; go_simp; first | done | with_reducible rfl | rfl
      simp only [Act.put, List.getElem_toArray, List.getElem_cons_zero, List.getElem_cons_succ, List.setIfInBounds_toArray, List.set_cons_zero, List.set_cons_succ]
      apply s_val
      case ho => rfl
      case hw => rfl
      case hv => intro w hw; go_simp; first | done | with_reducible rfl | rfl
      simp only [Act.put, List.getElem_toArray, List.getElem_cons_zero, List.getElem_cons_succ, List.setIfInBounds_toArray, List.set_cons_zero, List.set_cons_succ]
      apply s_val
      case ho => rfl
      case hw => rfl
      case hv => intro w hw; go_simp; first | done | with_reducible rfl | rfl
      simp only [Act.put, List.getElem_toArray, List.getElem_cons_zero, List.getElem_cons_succ, List.setIfInBounds_toArray, List.set_cons_zero, List.set_cons_succ]
      apply s_val
      case ho => rfl
      case hw => rfl
      case hv => intro w hw; obtain ⟨x0, x1, x2, -⟩ := arr3k hw.2.2.2.1; go_simp; first | done | with_reducible rfl | rfl
      simp only [Act.put, List.getElem_toArray, List.getElem_cons_zero, List.getElem_cons_succ, List.setIfInBounds_toArray, List.set_cons_zero, List.set_cons_succ]
      apply s_val
      case ho => rfl
      case hw => rfl
      case hv => intro w hw; obtain ⟨x0, x1, x2, -⟩ := arr3k hw.2.2.2.2; go_simp; first | done | with_reducible rfl | rfl
      simp only [Act.put, List.getElem_toArray, List.getElem_cons_zero, List.getElem_cons_succ, List.setIfInBounds_toArray, List.set_cons_zero, List.set_cons_succ]
      apply s_val
      case ho => rfl
      case hw => rfl
      case hv => intro w hw; have q1 := eq_key w S' H' N'; go_simp; first | done | with_reducible rfl | rfl
      simp only [Act.put, List.getElem_toArray, List.getElem_cons_zero, List.getElem_cons_succ, List.setIfInBounds_toArray, List.set_cons_zero, List.set_cons_succ]
      apply s_val
      case ho => rfl
      case hw => rfl
      case hv => intro w hw; go_simp; first | done | with_reducible rfl | rfl
      simp only [Act.put, List.getElem_toArray, List.getElem_cons_zero, List.getElem_cons_succ, List.setIfInBounds_toArray, List.set_cons_zero, List.set_cons_succ]
      apply s_val
      case ho => rfl
      case hw => rfl
      case hv => intro w hw; go_simp; first | done | with_reducible rfl | rfl
      simp only [Act.put, List.getElem_toArray, List.getElem_cons_zero, List.getElem_cons_succ, List.setIfInBounds_toArray, List.set_cons_zero, List.set_cons_succ]
      apply s_val
      case ho => rfl
      case hw => rfl
      case hv => intro w hw; go_simp; first | done | with_reducible rfl | rfl
      simp only [Act.put, List.getElem_toArray, List.getElem_cons_zero, List.getElem_cons_succ, List.setIfInBounds_toArray, List.set_cons_zero, List.set_cons_succ]
      apply s_val
      case ho => rfl
      case hw => rfl
      case hv => intro w hw; go_simp; first | done | with_reducible rfl | rfl
      simp only [Act.put, List.getElem_toArray, List.getElem_cons_zero, List.getElem_cons_succ, List.setIfInBounds_toArray, List.set_cons_zero, List.set_cons_succ]
      apply s_val
      case ho => rfl
      case hw => rfl
      case hv => intro w hw; have q2 := tl; go_simp; first | done | with_reducible rfl | rfl
      simp only [Act.put, List.getElem_toArray, List.getElem_cons_zero, List.getElem_cons_succ, List.setIfInBounds_toArray, List.set_cons_zero, List.set_cons_succ]
      apply s_val
      case ho => rfl
      case hw => rfl
      case hv => intro w hw; go_simp; first | done | with_reducible rfl | rfl
      simp only [Act.put, List.getElem_toArray, List.getElem_cons_zero, List.getElem_cons_succ, List.setIfInBounds_toArray, List.set_cons_zero, List.set_cons_succ]
      apply s_val
      case ho => rfl
      case hw => rfl
      case hv => intro w hw; go_simp; first | done | with_reducible rfl | rfl
      simp only [Act.put, List.getElem_toArray, List.getElem_cons_zero, List.getElem_cons_succ, List.setIfInBounds_toArray, List.set_cons_zero, List.set_cons_succ]
      apply s_val
      case ho => rfl
      case hw => rfl
      case hv => intro w hw; go_simp; first | done | with_reducible rfl | rfl
      simp only [Act.put, List.getElem_toArray, List.getElem_cons_zero, List.getElem_cons_succ, List.setIfInBounds_toArray, List.set_cons_zero, List.set_cons_succ]
      apply s_val
      case ho => rfl
      case hw => rfl
      case hv => intro w hw; go_simp; first | done | with_reducible rfl | rfl
      simp only [Act.put, List.getElem_toArray, List.getElem_cons_zero, List.getElem_cons_succ, List.setIfInBounds_toArray, List.set_cons_zero, List.set_cons_succ]
      apply s_val
      case ho => rfl
      case hw => rfl
      case hv => intro w hw; go_simp; first | done | with_reducible rfl | rfl
      simp only [Act.put, List.getElem_toArray, List.getElem_cons_zero, List.getElem_cons_succ, List.setIfInBounds_toArray, List.set_cons_zero, List.set_cons_succ]
      apply s_val
      case ho => rfl
      case hw => rfl
      case hv => intro w hw; go_simp; first | done | with_reducible rfl | rfl
      simp only [Act.put, List.getElem_toArray, List.getElem_cons_zero, List.getElem_cons_succ, List.setIfInBounds_toArray, List.set_cons_zero, List.set_cons_succ]
      apply s_val
      case ho => rfl
      case hw => rfl
      case hv => intro w hw; go_simp; first | done | with_reducible rfl | rfl
      simp only [Act.put, List.getElem_toArray, List.getElem_cons_zero, List.getElem_cons_succ, List.setIfInBounds_toArray, List.set_cons_zero, List.set_cons_succ]
      refine NoPanic.normal ?_
      go_wp2_with fail
      go_ret
      exact ⟨rfl, HB3.out⟩
end Go.Proofs.YteilpmfdpceknaaDoor

namespace Go.Proofs.YteilpmfdpceknaaDoor
set_option maxRecDepth 100000
set_option linter.unusedVariables false
set_option linter.unusedSimpArgs false
open Go.RowKit Go.ChangeShapes Go.WideShapes Go.ChangeAt

theorem sized_agg {H : Type} {P : Program} {ts : List TypeId} {ds : List (DataW H)} (h : (DataW.weightsEach P ts ds).all (· ≤ reachBytes) = true) {j : Nat} {t : TypeId} {parts : List (DataW H)} {fs : Array Field}
    (ht : ts[j]? = some t) (hd : ds[j]? = some (.agg parts)) (hu : P.underlying t = some (.struct fs)) : (DataW.weightsEach P (fs.toList.map (·.type)) parts).all (· ≤ reachBytes) = true := by
  rw [List.all_eq_true]
  intro x hx
  exact List.all_eq_true.1 h x (DataW.weights_mem_each ht hd x (by simp only [DataW.weights, hu]; exact hx))
section
variable {H : Type} {enc : TypeId × Value → H} {w : World} {base : Nat} {spare : Nat → Bool} {held : Bool}
theorem open_key {r : Reach} {b0 : Nat} {v : Value} {d : DataW H} {ps : List MemPlace} (hval : Value.okWide Tryd.prog w r b0 23 v) (hd : DataW.Trod enc Tryd.prog w base spare held 23 v d ps) :
    ∃ (s : ByteArray) (x y : Int), v = .agg #[.string s, .int .i64 x, .int .i64 y] ∧ (Lit.int .i64 x).wf = true ∧ (Lit.int .i64 y).wf = true ∧ d = .agg [.lit (.string s.data.toList), .lit (.int .i64 x), .lit (.int .i64 y)] := by
  obtain ⟨v0, v1, v2, y0, y1, y2, n, rfl, hd1, -, h0, h1, h2⟩ := Go.Joins.open_agg3 Tryd.underlying23 (by kernel_rfl) (by kernel_rfl) hval hd
  obtain ⟨s, hs, hy0, _⟩ := DataW.trod_string Tryd.underlying9 h0
  obtain ⟨x, hx, hy1, wx⟩ := DataW.trod_int Tryd.underlying3 h1
  obtain ⟨y, hy, hy2, wy⟩ := DataW.trod_int Tryd.underlying3 h2
  simp at hs hx hy
  subst hs hx hy
  exact ⟨s, x, y, rfl, wx, wy, by rw [hd1, hy0, hy1, hy2]⟩
end
end Go.Proofs.YteilpmfdpceknaaDoor

namespace Go.Proofs.YteilpmfdpceknaaDoor.keySigns
open Go.ChangeShapes Go.WideShapes Go.ChangeAt Go.RowKit
open Go.ChangeMaps (open_string shut_string)
open Go.ChangeShapes (open_strings)
set_option linter.unusedVariables false

theorem own : ownKnob Tryd.prog.godebug = none := by kernel_rfl
theorem laidOut : laidOutB Tryd.prog = true := by kernel_rfl

set_option maxRecDepth 100000 in
theorem contract (H : Type) (enc : TypeId × Value → H) (W : World) (base : Nat) (args : Array Value) (ds gs : List (DataW H)) (before : List MemPlace)
    (hval0 : ∀ (j : Nat) t v, Tryd.f3.params[j]? = some t → args[j]? = some v → Value.okWide Tryd.prog W .any base t v)
    (hW : DataW.Whole enc Tryd.prog Tryd.f3.params.toList Rows.keySignsSpec.vars false W args.toList ds gs before)
    (hsz0 : (DataW.weightsEach Tryd.prog (Tryd.f3.params.toList ++ Rows.keySignsSpec.plain.varTypes Tryd.prog) (ds ++ gs)).all (· ≤ reachBytes) = true)
    (hL : laidMetH Tryd.prog Rows.keySignsRow.laid W) :
    Calls Tryd.prog 3 args W fun e W' => ∃ v, e = .returned v ∧ Rows.keySignsSpec.post enc Tryd.prog Tryd.f3 false true false false W args v W' := by
  have hsz := hsz0
  have hval := hval0
  have hW' := hW
  obtain ⟨p, q, hA0, hV, rfl, hfz, hnd⟩ := hW
  have hA : DataW.TrodAll enc Tryd.prog W 0 (fun _ => true) true Tryd.f3.params.toList args.toList ds p := hA0
  rw [Tryd.params3] at hA hval hsz
  obtain ⟨v0, vs0, d0, ds0, p0, q0, hargs, rfl, rfl, h0, r0⟩ := trodAll_cons hA
  obtain ⟨v1, vs1, d1, ds1, p1, q1, rfl, rfl, rfl, h1, r1⟩ := trodAll_cons r0
  obtain ⟨rfl, rfl, rfl⟩ := trodAll_nil r1
  obtain rfl : args = #[v0, v1] := by cases args; simp_all
  obtain ⟨rfl, rfl⟩ := trodVars_none hV
  have k0 := h0
  have lt0 : ∀ x ∈ p0, x.block < W.heap.size := by obtain ⟨m, hm⟩ := k0; exact DataW.trod_lt m _ _ _ hm
  obtain ⟨a0, b0, c0, rfl, wb0, wc0, rfl⟩ := open_key (hval 0 23 v0 rfl rfl) h0
  have wa0 : a0.size ≤ 140737488351232 := by
    have := sized_string (sized_agg hsz (j := 0) rfl rfl Tryd.underlying23) (j := 0) rfl rfl
    simpa [reachBytes] using this
  obtain ⟨a1, rfl, rfl, rfl, w1⟩ := open_string Tryd.underlying9 (hval 1 9 v1 rfl rfl) h1
  clear hA0 hval0
  simp only [List.append_nil] at hW'
  refine (walk_keySigns W a0 b0 c0 wa0 wb0 wc0 a1 (by have := sized_string hsz (j := 1) rfl rfl; simpa [reachBytes] using this) (kt_of_laid (rest := []) hL)).mono fun e W' ⟨he, bel⟩ => ?_
  subst he
  exact ⟨_, rfl, _, _, _, [], _, [], hW', trodAll_mk1 (shut_bool Tryd.underlying4 _), (trodAll_cons_mk (Below.trod laidOut (by kernel_rfl) (of_decide_eq_true (by kernel_rfl)) k0 bel lt0) (trodAll_cons_mk (shut_string Tryd.underlying9 w1) trodAll_mk0)), rfl, bel.frame _, fun h => by cases h⟩

noncomputable def laidWorld (os : Os) : World :=
  { World.holding Tryd.prog os ⟨#[], #[], []⟩ with heap := (World.holding Tryd.prog os ⟨#[], #[], []⟩).heap.modify 0 fun
      | .cells _ t frozen => .cells (u32s kk).toArray t frozen
      | o => o }
theorem laid_met (os : Os) : laidMet Tryd.prog Rows.keySignsRow.laid ((laidWorld os).forCall (fun _ _ => 0) ⟨#[], #[.agg #[.string ByteArray.empty, .int .i64 0, .int .i64 0], .string ByteArray.empty], []⟩).memory :=
  laidMet_of_run' 8 (by kernel_rfl) (by kernel_rfl)
theorem reads (os : Os) {H : Type} (enc : TypeId × Value → H) : ∃ places, DataW.whole enc Tryd.prog ((laidWorld os).forCall (fun _ _ => 0) ⟨#[], #[.agg #[.string ByteArray.empty, .int .i64 0, .int .i64 0], .string ByteArray.empty], []⟩).memory Tryd.f3.params.toList Rows.keySignsSpec.vars false (#[.agg #[.string ByteArray.empty, .int .i64 0, .int .i64 0], .string ByteArray.empty] : Array Value).toList 8 = some ([.agg [.lit (.string []), .lit (.int .i64 0), .lit (.int .i64 0)], .lit (.string [])], [], places) :=
  ⟨[], by kernel_rfl⟩

set_option maxRecDepth 100000 in
theorem lifted (os : Os) (started : os.Started) (H : Type) (enc : TypeId × Value → H) (G : Stop.Interp) :
    ReturnsInHanded {} Tryd.checked os 3 .any ((OpenSpec.ofChange Rows.keySignsSpec).preRow enc Tryd.prog Tryd.f3 Rows.keySignsRow.domain false Rows.keySignsRow.laid) (((OpenSpec.ofChange Rows.keySignsSpec).at G).post enc Tryd.prog Tryd.f3 false true false false) := by
  obtain ⟨places, hx⟩ := reads os enc
  refine returnsInHanded_of_row (C := Tryd.checked) (s := OpenSpec.ofChange Rows.keySignsSpec) own started (by kernel_rfl) Tryd.func3
    (witness_row_at (enc := enc) (C := Tryd.checked) false (laidWorld os) #[.agg #[.string ByteArray.empty, .int .i64 0, .int .i64 0], .string ByteArray.empty] rfl (by kernel_rfl) (by kernel_rfl) (by kernel_rfl)
      (OpenSpec.preRow_of_cond 8 hx (by kernel_rfl) (fun k hk => by cases hk) (by kernel_rfl) (laid_met os))) ?_
  intro W base args ds gs before hval hW _ _ hsz hL _ _
  exact contract H enc W base args ds gs before hval hW hsz hL

theorem said : Rows.KeySignsSaid :=
  OpenClaim.holds_of_cond 3 Tryd.f3 rfl rfl rfl rfl rfl rfl rfl ⟨rfl, rfl, rfl, rfl, rfl⟩ rfl rfl rfl rfl rfl (by kernel_rfl) Tryd.func3 (by kernel_rfl)
    (of_decide_eq_true (by kernel_rfl)) (by unfold Func.isWrapper; first | (rw [if_pos (by decide +kernel)]; kernel_rfl) | (rw [if_neg (by decide +kernel)]; exact ⟨rfl, rfl⟩))
    (fun os started H enc _ G => by rw [OpenClaim.pre_eq_preRow]; exact lifted os started H enc G)

theorem plain (f : FuncId) (fn : Func) (hf : Tryd.pinned.checked.prog.funcNamed "palaver/palaverlaw05.KeySigns" = some f) (hfn : Tryd.pinned.checked.prog.funcs[f]? = some fn) :
    false = Tryd.pinned.checked.prog.looks [] ∧ ∀ (j : Nat) t, fn.params[j]? = some t → Tryd.pinned.checked.prog.wantsStandIn t = false := by
  obtain rfl : f = 3 := Option.some.inj ((show Tryd.prog.funcNamed "palaver/palaverlaw05.KeySigns" = some 3 by kernel_rfl).symm.trans hf) |>.symm
  obtain rfl : fn = Tryd.f3 := (Option.some.inj (Tryd.func3.symm.trans hfn)).symm
  refine ⟨by kernel_rfl, fun j t ht => ?_⟩
  rw [Tryd.params3] at ht
  have hm : t = 23 ∨ t = 9 := by simpa using Array.mem_of_getElem? ht
  rcases hm with rfl | rfl
  · exact (show Tryd.prog.wantsStandIn 23 = false by kernel_rfl)
  · exact (show Tryd.prog.wantsStandIn 9 = false by kernel_rfl)

theorem proved : Rows.KeySignsCardSaid :=
  Claim7.holds_tied_plain_at .later [] _ _ _ _ said (fun _ h => by cases h) (by kernel_rfl) (fun _ h => by cases h) keySigns_row_tie rfl ⟨rfl, rfl⟩ (by kernel_rfl) rfl plain (by kernel_rfl)
end Go.Proofs.YteilpmfdpceknaaDoor.keySigns
