/-
  Redaction: the walks.
-/
import Derived.Test.YtdaiichpihhckaaDoorRdC
namespace Go.Proofs.YtdaiichpihhckaaDoor
set_option maxRecDepth 100000
set_option linter.unusedVariables false
set_option linter.unusedSimpArgs false
open Go.RowKit

set_option maxHeartbeats 16000000 in
theorem walk_redactTells (w : World) (r s : ByteArray) (k : Nat) (y b : ByteArray) (n : Int) (hk : k < 256) (hn : (Lit.int .i64 n).wf = true) (hr : r.size ≤ 140737488351232) (hs : s.size ≤ 140737488351232) (hy : y.size ≤ 140737488351232) (hb : b.size ≤ 140737488351232) (hI : IT w) (hW : WT w) (hK : Sh.KT w) :
    Calls Tryd.prog 3 #[.agg #[.string r, .string s, .int .u8 (k : Int), .string y, .string b, .int .i64 n]] w fun e w' => e = .returned (.bool true) ∧ Below w.heap.size w w' := by
  have HI := hidp hI; have HW := hidp hW; have HK := hidp hK; have hkp := hK.pos; clear hI hW hK
  have L := hidp (fun W (a : IT W) (b : WT W) (c : Sh.KT W) => lives13_any W a b c)
  have c1 := hidp (fun W a b' c => ref_any W r s k y b n hk (by omega) (by omega) (by omega) (by omega) a b' c)
  have c2 := hidp (fun W => dref_any W r s k y b n hk (by omega) (by omega) (by omega) (by omega))
  have c3 := hidp (fun W a b' c => content_any W r s k y b n hk (by omega) (by omega) (by omega) (by omega) a b' c)
  have c4 := hidp (fun W => dcontent_any W r s k y b n hk (by omega) (by omega) (by omega) (by omega))
  have c5 := hidp (fun W => redact_any W r s k y b n hk (by omega) (by omega) (by omega) (by omega))
  have c6 := hidp (fun W => dredact_any W r s k y b n hk (by omega) (by omega) (by omega) (by omega))
  have hAl := hidp (refH_len r s k y b n); have hCl := hidp (markH_len 7 (⟨r, s, k, y, b, n⟩ : Ev))
  obtain ⟨A, hA⟩ : ∃ A, refH r s k y b n = A := ⟨_, rfl⟩
  obtain ⟨C, hC⟩ : ∃ A, markH 7 (⟨r, s, k, y, b, n⟩ : Ev) = A := ⟨_, rfl⟩
  obtain ⟨E, hE⟩ : ∃ A, evE (⟨r, s, k, y, b, n⟩ : Ev) = A := ⟨_, rfl⟩
  obtain ⟨d, hd⟩ : ∃ A, rdb k b = A := ⟨_, rfl⟩
  rw [hA, hE] at c1 c2
  rw [hC, hE] at c3 c4
  rw [hd] at c5 c6
  rw [hA] at hAl
  rw [hC] at hCl
  have eE : (E == E) = true := by simp
  clear hA hC hE hd
  go_enter Tryd.func3, Tryd.ntmps3
  go_wp2_with (first | (refine wpL_boxT 24 rfl _ rfl [.string r, .string s, .int .u8 (k : Int), .string y, .string b, .int .i64 n] rfl ?_; intro b1 w1 n1; have HB1 := hidp n1.below; have hg_b1 := hidp n1.le; have HA1 := hidp n1.arr; clear n1) | (refine wpL_getE rfl (.tmp 1) rfl b1 [.string r, .string s, .int .u8 (k : Int), .string y, .string b, .int .i64 n] rfl rfl HA1.out ?_))
  refine (c1.out _ (HI.out.below HB1.out (Nat.le_refl _)) (HW.out.below HB1.out (Nat.le_refl _)) (HK.out.below HB1.out hkp)).mono ?_
  rintro e w2 ⟨rfl, hb⟩
  have HB2 := hidp (HB1.out.trans (hb.mono HB1.out.size))
  have HA2 := hidp (HA1.out.below hb HA1.out.lt)
  clear hb HB1 HA1
  go_wp2_with (first | (refine wpL_new rfl rfl ?_; intro b3 w3 n3; have HB3 := hidp (HB2.out.trans (n3.below.mono HB2.out.size)); have hg_b3 := hidp (Nat.le_trans HB2.out.size n3.le); have HA3 := hidp (n3.old HA2.out); have hl_HA_b3 := hidp (show b1 < b3 from by have := n3.at_; have := HA2.out.lt; omega); have H33 := hidp n3.arr; clear n3 HA2 HB2) | (refine wpL_put rfl (.tmp 3) (.tmp 14) rfl b3 A rfl rfl hAl.out _ rfl H33.out ?_; intro w4 ha hp; have HB4 := hidp (hp.below' HB3.out hg_b3.out); have HA4 := hidp (hp.arr (by have := hl_HA_b3.out; omega) HA3.out); have H34 := hidp ha; clear ha hp HB3 HA3 H33) | (refine wpL_getE rfl (.tmp 1) rfl b1 [.string r, .string s, .int .u8 (k : Int), .string y, .string b, .int .i64 n] rfl rfl HA4.out ?_))
  refine (c2.out _).mono ?_
  rintro e w5 ⟨rfl, hb⟩
  have HB5 := hidp (HB4.out.trans (hb.mono HB4.out.size))
  have HA5 := hidp (HA4.out.below hb HA4.out.lt)
  have H35 := hidp (H34.out.below hb H34.out.lt)
  clear hb HB4 HA4 H34
  go_wp2_with (first | (refine wpL_new rfl rfl ?_; intro b5 w6 n6; have HB6 := hidp (HB5.out.trans (n6.below.mono HB5.out.size)); have hg_b5 := hidp (Nat.le_trans HB5.out.size n6.le); have HA6 := hidp (n6.old HA5.out); have hl_HA_b5 := hidp (show b1 < b5 from by have := n6.at_; have := HA5.out.lt; omega); have H36 := hidp (n6.old H35.out); have hl_H3_b5 := hidp (show b3 < b5 from by have := n6.at_; have := H35.out.lt; omega); have H56 := hidp n6.arr; clear n6 HA5 H35 HB5) | (refine wpL_put rfl (.tmp 5) (.tmp 19) rfl b5 A rfl rfl hAl.out _ rfl H56.out ?_; intro w7 ha hp; have HB7 := hidp (hp.below' HB6.out hg_b5.out); have HA7 := hidp (hp.arr (by have := hl_HA_b5.out; omega) HA6.out); have H37 := hidp (hp.arr (by have := hl_H3_b5.out; omega) H36.out); have H57 := hidp ha; clear ha hp HB6 HA6 H36 H56) | (refine wpL_getE rfl (.tmp 1) rfl b1 [.string r, .string s, .int .u8 (k : Int), .string y, .string b, .int .i64 n] rfl rfl HA7.out ?_))
  refine (c3.out _ (HI.out.below HB7.out (Nat.le_refl _)) (HW.out.below HB7.out (Nat.le_refl _)) (HK.out.below HB7.out hkp)).mono ?_
  rintro e w8 ⟨rfl, hb⟩
  have HB8 := hidp (HB7.out.trans (hb.mono HB7.out.size))
  have HA8 := hidp (HA7.out.below hb HA7.out.lt)
  have H38 := hidp (H37.out.below hb H37.out.lt)
  have H58 := hidp (H57.out.below hb H57.out.lt)
  clear hb HB7 HA7 H37 H57
  go_wp2_with (first | (refine wpL_new rfl rfl ?_; intro b7 w9 n9; have HB9 := hidp (HB8.out.trans (n9.below.mono HB8.out.size)); have hg_b7 := hidp (Nat.le_trans HB8.out.size n9.le); have HA9 := hidp (n9.old HA8.out); have hl_HA_b7 := hidp (show b1 < b7 from by have := n9.at_; have := HA8.out.lt; omega); have H39 := hidp (n9.old H38.out); have hl_H3_b7 := hidp (show b3 < b7 from by have := n9.at_; have := H38.out.lt; omega); have H59 := hidp (n9.old H58.out); have hl_H5_b7 := hidp (show b5 < b7 from by have := n9.at_; have := H58.out.lt; omega); have H79 := hidp n9.arr; clear n9 HA8 H38 H58 HB8) | (refine wpL_put rfl (.tmp 7) (.tmp 24) rfl b7 C rfl rfl hCl.out _ rfl H79.out ?_; intro w10 ha hp; have HB10 := hidp (hp.below' HB9.out hg_b7.out); have HA10 := hidp (hp.arr (by have := hl_HA_b7.out; omega) HA9.out); have H310 := hidp (hp.arr (by have := hl_H3_b7.out; omega) H39.out); have H510 := hidp (hp.arr (by have := hl_H5_b7.out; omega) H59.out); have H710 := hidp ha; clear ha hp HB9 HA9 H39 H59 H79) | (refine wpL_getE rfl (.tmp 1) rfl b1 [.string r, .string s, .int .u8 (k : Int), .string y, .string b, .int .i64 n] rfl rfl HA10.out ?_))
  refine (c4.out _).mono ?_
  rintro e w11 ⟨rfl, hb⟩
  have HB11 := hidp (HB10.out.trans (hb.mono HB10.out.size))
  have HA11 := hidp (HA10.out.below hb HA10.out.lt)
  have H311 := hidp (H310.out.below hb H310.out.lt)
  have H511 := hidp (H510.out.below hb H510.out.lt)
  have H711 := hidp (H710.out.below hb H710.out.lt)
  clear hb HB10 HA10 H310 H510 H710
  go_wp2_with (first | (refine wpL_new rfl rfl ?_; intro b9 w12 n12; have HB12 := hidp (HB11.out.trans (n12.below.mono HB11.out.size)); have hg_b9 := hidp (Nat.le_trans HB11.out.size n12.le); have HA12 := hidp (n12.old HA11.out); have hl_HA_b9 := hidp (show b1 < b9 from by have := n12.at_; have := HA11.out.lt; omega); have H312 := hidp (n12.old H311.out); have hl_H3_b9 := hidp (show b3 < b9 from by have := n12.at_; have := H311.out.lt; omega); have H512 := hidp (n12.old H511.out); have hl_H5_b9 := hidp (show b5 < b9 from by have := n12.at_; have := H511.out.lt; omega); have H712 := hidp (n12.old H711.out); have hl_H7_b9 := hidp (show b7 < b9 from by have := n12.at_; have := H711.out.lt; omega); have H912 := hidp n12.arr; clear n12 HA11 H311 H511 H711 HB11) | (refine wpL_put rfl (.tmp 9) (.tmp 29) rfl b9 C rfl rfl hCl.out _ rfl H912.out ?_; intro w13 ha hp; have HB13 := hidp (hp.below' HB12.out hg_b9.out); have HA13 := hidp (hp.arr (by have := hl_HA_b9.out; omega) HA12.out); have H313 := hidp (hp.arr (by have := hl_H3_b9.out; omega) H312.out); have H513 := hidp (hp.arr (by have := hl_H5_b9.out; omega) H512.out); have H713 := hidp (hp.arr (by have := hl_H7_b9.out; omega) H712.out); have H913 := hidp ha; clear ha hp HB12 HA12 H312 H512 H712 H912))
  obtain ⟨U, hU⟩ : ∃ U, ({ w13 with drawn := w13.drawn + 1 } : World) = U := ⟨_, rfl⟩
  have bU : Below w13.heap.size w13 U := by rw [← hU]; exact (Below.refl _ _).drew
  have HB14 := hidp (HB13.out.trans (bU.mono HB13.out.size))
  have HA14 := hidp (HA13.out.below bU HA13.out.lt)
  have H314 := hidp (H313.out.below bU H313.out.lt)
  have H514 := hidp (H513.out.below bU H513.out.lt)
  have H714 := hidp (H713.out.below bU H713.out.lt)
  have H914 := hidp (H913.out.below bU H913.out.lt)
  clear bU HB13 HA13 H313 H513 H713 H913
  have HS0 := hidp (show Arr U b1 24 [.string r, .string s, .int .u8 (k : Int), .string y, .string b, .int .i64 n] ∧ Arr U b3 26 (u8s A) ∧ Arr U b5 26 (u8s A) ∧ Arr U b7 26 (u8s C) ∧ Arr U b9 26 (u8s C) from ⟨HA14.out, H314.out, H514.out, H714.out, H914.out⟩)
  have HX0 := HB14
  refine wp_region_noPanic ?_
  refine wp_region_scr (S := fun W => Arr W b1 24 [.string r, .string s, .int .u8 (k : Int), .string y, .string b, .int .i64 n] ∧ Arr W b3 26 (u8s A) ∧ Arr W b5 26 (u8s A) ∧ Arr W b7 26 (u8s C) ∧ Arr W b9 26 (u8s C)) (.one 0 (.take 1 (.take 2 (.take 4 (.one 3 (.one 5 (.take 6 (.take 7 (.take 8 (.take 9 (.take 10 (.take 11 (.take 12 (.take 13 (.take 14 (.take 15 (.take 16 (.take 17 (.take 18 (.take 19 (.take 20 (.take 21 (.take 22 (.take 23 (.take 24 (.take 25 (.take 26 (.take 27 (.take 28 .done))))))))))))))))))))))))))))) (by kernel_rfl) (by kernel_rfl) (fun _ _ _ _ _ h => h) (by simp [Scr.depth]) (by kernel_rfl) (by rw [hU]; exact HS0.out) ?_
  simp only [hU]
  clear hU
  apply o_call (f := 13) (args := #[]) (v := .bool true) (hc := L.out _ (HI.out.below HX0.out (Nat.le_refl _)) (HW.out.below HX0.out (Nat.le_refl _)) (HK.out.below HX0.out hkp))
  case ho => rfl
  case hw => rfl
  case hop => go_simp; first | done | rfl
  rintro X1 hb
  have HX1 := hidp (HX0.out.trans (hb.mono HX0.out.size))
  have HS1 := hidp (show Arr X1 b1 24 [.string r, .string s, .int .u8 (k : Int), .string y, .string b, .int .i64 n] ∧ Arr X1 b3 26 (u8s A) ∧ Arr X1 b5 26 (u8s A) ∧ Arr X1 b7 26 (u8s C) ∧ Arr X1 b9 26 (u8s C) from ⟨(HS0.out.1).below hb (HS0.out.1).lt, (HS0.out.2.1).below hb (HS0.out.2.1).lt, (HS0.out.2.2.1).below hb (HS0.out.2.2.1).lt, (HS0.out.2.2.2.1).below hb (HS0.out.2.2.2.1).lt, (HS0.out.2.2.2.2).below hb (HS0.out.2.2.2.2).lt⟩)
  refine ⟨HS1.out, ?_⟩
  clear hb
  simp only [Act.put, List.getElem_toArray, List.getElem_cons_zero, List.getElem_cons_succ, List.setIfInBounds_toArray, List.set_cons_zero, List.set_cons_succ]
  apply s_val
  case ho => rfl
  case hw => rfl
  case hv => intro w hw; go_simp; first | done | with_reducible rfl | rfl
  simp only [Act.put, List.getElem_toArray, List.getElem_cons_zero, List.getElem_cons_succ, List.setIfInBounds_toArray, List.set_cons_zero, List.set_cons_succ]
  refine s_getE rfl rfl (.tmp 1) rfl b1 [.string r, .string s, .int .u8 (k : Int), .string y, .string b, .int .i64 n] rfl rfl (fun w h => h.1) ?_
  simp only [Act.put, List.getElem_toArray, List.getElem_cons_zero, List.getElem_cons_succ, List.setIfInBounds_toArray, List.set_cons_zero, List.set_cons_succ]
  refine s_getE rfl rfl (.tmp 1) rfl b1 [.string r, .string s, .int .u8 (k : Int), .string y, .string b, .int .i64 n] rfl rfl (fun w h => h.1) ?_
  simp only [Act.put, List.getElem_toArray, List.getElem_cons_zero, List.getElem_cons_succ, List.setIfInBounds_toArray, List.set_cons_zero, List.set_cons_succ]
  apply o_call (f := 14) (args := #[.agg #[.string r, .string s, .int .u8 (k : Int), .string y, .string b, .int .i64 n]]) (v := .agg #[.string r, .string s, .int .u8 (k : Int), .string y, .string d, .int .i64 n]) (hc := c5.out _)
  case ho => rfl
  case hw => rfl
  case hop => go_simp; first | done | rfl
  rintro X2 hb
  have HX2 := hidp (HX1.out.trans (hb.mono HX1.out.size))
  have HS2 := hidp (show Arr X2 b1 24 [.string r, .string s, .int .u8 (k : Int), .string y, .string b, .int .i64 n] ∧ Arr X2 b3 26 (u8s A) ∧ Arr X2 b5 26 (u8s A) ∧ Arr X2 b7 26 (u8s C) ∧ Arr X2 b9 26 (u8s C) from ⟨(HS1.out.1).below hb (HS1.out.1).lt, (HS1.out.2.1).below hb (HS1.out.2.1).lt, (HS1.out.2.2.1).below hb (HS1.out.2.2.1).lt, (HS1.out.2.2.2.1).below hb (HS1.out.2.2.2.1).lt, (HS1.out.2.2.2.2).below hb (HS1.out.2.2.2.2).lt⟩)
  refine ⟨HS2.out, ?_⟩
  clear hb
  simp only [Act.put, List.getElem_toArray, List.getElem_cons_zero, List.getElem_cons_succ, List.setIfInBounds_toArray, List.set_cons_zero, List.set_cons_succ]
  apply o_call (f := 15) (args := #[.agg #[.string r, .string s, .int .u8 (k : Int), .string y, .string b, .int .i64 n]]) (v := .agg #[.string r, .string s, .int .u8 (k : Int), .string y, .string d, .int .i64 n]) (hc := c6.out _)
  case ho => rfl
  case hw => rfl
  case hop => go_simp; first | done | rfl
  rintro X3 hb
  have HX3 := hidp (HX2.out.trans (hb.mono HX2.out.size))
  have HS3 := hidp (show Arr X3 b1 24 [.string r, .string s, .int .u8 (k : Int), .string y, .string b, .int .i64 n] ∧ Arr X3 b3 26 (u8s A) ∧ Arr X3 b5 26 (u8s A) ∧ Arr X3 b7 26 (u8s C) ∧ Arr X3 b9 26 (u8s C) from ⟨(HS2.out.1).below hb (HS2.out.1).lt, (HS2.out.2.1).below hb (HS2.out.2.1).lt, (HS2.out.2.2.1).below hb (HS2.out.2.2.1).lt, (HS2.out.2.2.2.1).below hb (HS2.out.2.2.2.1).lt, (HS2.out.2.2.2.2).below hb (HS2.out.2.2.2.2).lt⟩)
  refine ⟨HS3.out, ?_⟩
  clear hb
  simp only [Act.put, List.getElem_toArray, List.getElem_cons_zero, List.getElem_cons_succ, List.setIfInBounds_toArray, List.set_cons_zero, List.set_cons_succ]
  apply s_val (v := .bool true)
  case ho => rfl
  case hw => rfl
  case hv => intro w hw; have q := eqin_event w r s (k : Int) y d n; go_simp; first | done | with_reducible rfl | rfl
  simp only [Act.put, List.getElem_toArray, List.getElem_cons_zero, List.getElem_cons_succ, List.setIfInBounds_toArray, List.set_cons_zero, List.set_cons_succ]
  apply s_val
  case ho => rfl
  case hw => rfl
  case hv => intro w hw; go_simp; first | done | with_reducible rfl | rfl
  simp only [Act.put, List.getElem_toArray, List.getElem_cons_zero, List.getElem_cons_succ, List.setIfInBounds_toArray, List.set_cons_zero, List.set_cons_succ]
  apply s_val
  case ho => rfl
  case hw => rfl
  case hv => intro w hw; go_simp; first | done | with_reducible rfl | rfl
  simp only [Act.put, List.getElem_toArray, List.getElem_cons_zero, List.getElem_cons_succ, List.setIfInBounds_toArray, List.set_cons_zero, List.set_cons_succ]
  refine s_getH rfl rfl (.tmp 3) rfl b3 A rfl hAl.out (fun w h => h.2.1) ?_
  simp only [Act.put, List.getElem_toArray, List.getElem_cons_zero, List.getElem_cons_succ, List.setIfInBounds_toArray, List.set_cons_zero, List.set_cons_succ]
  refine s_getH rfl rfl (.tmp 5) rfl b5 A rfl hAl.out (fun w h => h.2.2.1) ?_
  simp only [Act.put, List.getElem_toArray, List.getElem_cons_zero, List.getElem_cons_succ, List.setIfInBounds_toArray, List.set_cons_zero, List.set_cons_succ]
  apply s_val (v := .bool true)
  case ho => rfl
  case hw => rfl
  case hv => intro w hw; have q := eqin_same w A hAl.out; go_simp; first | done | with_reducible rfl | rfl
  simp only [Act.put, List.getElem_toArray, List.getElem_cons_zero, List.getElem_cons_succ, List.setIfInBounds_toArray, List.set_cons_zero, List.set_cons_succ]
  apply s_val
  case ho => rfl
  case hw => rfl
  case hv => intro w hw; go_simp; first | done | with_reducible rfl | rfl
  simp only [Act.put, List.getElem_toArray, List.getElem_cons_zero, List.getElem_cons_succ, List.setIfInBounds_toArray, List.set_cons_zero, List.set_cons_succ]
  apply s_val
  case ho => rfl
  case hw => rfl
  case hv => intro w hw; go_simp; first | done | with_reducible rfl | rfl
  simp only [Act.put, List.getElem_toArray, List.getElem_cons_zero, List.getElem_cons_succ, List.setIfInBounds_toArray, List.set_cons_zero, List.set_cons_succ]
  apply s_val
  case ho => rfl
  case hw => rfl
  case hv => intro w hw; go_simp; first | done | with_reducible rfl | rfl
  simp only [Act.put, List.getElem_toArray, List.getElem_cons_zero, List.getElem_cons_succ, List.setIfInBounds_toArray, List.set_cons_zero, List.set_cons_succ]
  apply s_val
  case ho => rfl
  case hw => rfl
  case hv => intro w hw; go_simp; first | done | with_reducible rfl | rfl
  simp only [Act.put, List.getElem_toArray, List.getElem_cons_zero, List.getElem_cons_succ, List.setIfInBounds_toArray, List.set_cons_zero, List.set_cons_succ]
  apply s_val (v := .bool true)
  case ho => rfl
  case hw => rfl
  case hv => intro w hw; have q := eE; go_simp; first | done | with_reducible rfl | rfl
  simp only [Act.put, List.getElem_toArray, List.getElem_cons_zero, List.getElem_cons_succ, List.setIfInBounds_toArray, List.set_cons_zero, List.set_cons_succ]
  apply s_val
  case ho => rfl
  case hw => rfl
  case hv => intro w hw; go_simp; first | done | with_reducible rfl | rfl
  simp only [Act.put, List.getElem_toArray, List.getElem_cons_zero, List.getElem_cons_succ, List.setIfInBounds_toArray, List.set_cons_zero, List.set_cons_succ]
  apply s_val
  case ho => rfl
  case hw => rfl
  case hv => intro w hw; go_simp; first | done | with_reducible rfl | rfl
  simp only [Act.put, List.getElem_toArray, List.getElem_cons_zero, List.getElem_cons_succ, List.setIfInBounds_toArray, List.set_cons_zero, List.set_cons_succ]
  refine s_getH rfl rfl (.tmp 7) rfl b7 C rfl hCl.out (fun w h => h.2.2.2.1) ?_
  simp only [Act.put, List.getElem_toArray, List.getElem_cons_zero, List.getElem_cons_succ, List.setIfInBounds_toArray, List.set_cons_zero, List.set_cons_succ]
  refine s_getH rfl rfl (.tmp 9) rfl b9 C rfl hCl.out (fun w h => h.2.2.2.2) ?_
  simp only [Act.put, List.getElem_toArray, List.getElem_cons_zero, List.getElem_cons_succ, List.setIfInBounds_toArray, List.set_cons_zero, List.set_cons_succ]
  apply s_val (v := .bool true)
  case ho => rfl
  case hw => rfl
  case hv => intro w hw; have q := eqin_same w C hCl.out; go_simp; first | done | with_reducible rfl | rfl
  simp only [Act.put, List.getElem_toArray, List.getElem_cons_zero, List.getElem_cons_succ, List.setIfInBounds_toArray, List.set_cons_zero, List.set_cons_succ]
  apply s_val
  case ho => rfl
  case hw => rfl
  case hv => intro w hw; go_simp; first | done | with_reducible rfl | rfl
  simp only [Act.put, List.getElem_toArray, List.getElem_cons_zero, List.getElem_cons_succ, List.setIfInBounds_toArray, List.set_cons_zero, List.set_cons_succ]
  apply s_val
  case ho => rfl
  case hw => rfl
  case hv => intro w hw; go_simp; first | done | with_reducible rfl | rfl
  simp only [Act.put, List.getElem_toArray, List.getElem_cons_zero, List.getElem_cons_succ, List.setIfInBounds_toArray, List.set_cons_zero, List.set_cons_succ]
  apply s_val
  case ho => rfl
  case hw => rfl
  case hv => intro w hw; go_simp; first | done | with_reducible rfl | rfl
  simp only [Act.put, List.getElem_toArray, List.getElem_cons_zero, List.getElem_cons_succ, List.setIfInBounds_toArray, List.set_cons_zero, List.set_cons_succ]
  apply s_val
  case ho => rfl
  case hw => rfl
  case hv => intro w hw; go_simp; first | done | with_reducible rfl | rfl
  simp only [Act.put, List.getElem_toArray, List.getElem_cons_zero, List.getElem_cons_succ, List.setIfInBounds_toArray, List.set_cons_zero, List.set_cons_succ]
  apply s_val (v := .bool true)
  case ho => rfl
  case hw => rfl
  case hv => intro w hw; have q := eE; go_simp; first | done | with_reducible rfl | rfl
  simp only [Act.put, List.getElem_toArray, List.getElem_cons_zero, List.getElem_cons_succ, List.setIfInBounds_toArray, List.set_cons_zero, List.set_cons_succ]
  apply s_val
  case ho => rfl
  case hw => rfl
  case hv => intro w hw; go_simp; first | done | with_reducible rfl | rfl
  simp only [Act.put, List.getElem_toArray, List.getElem_cons_zero, List.getElem_cons_succ, List.setIfInBounds_toArray, List.set_cons_zero, List.set_cons_succ]
  apply s_val
  case ho => rfl
  case hw => rfl
  case hv => intro w hw; go_simp; first | done | with_reducible rfl | rfl
  simp only [Act.put, List.getElem_toArray, List.getElem_cons_zero, List.getElem_cons_succ, List.setIfInBounds_toArray, List.set_cons_zero, List.set_cons_succ]
  refine NoPanic.normal ?_
  go_wp2_with fail
  go_ret
  exact ⟨rfl, HX3.out⟩

set_option maxHeartbeats 16000000 in
theorem walk_redactStable (w : World) (r s : ByteArray) (k : Nat) (y b : ByteArray) (n : Int) (hk : k < 256) (hn : (Lit.int .i64 n).wf = true) (hr : r.size ≤ 140737488351232) (hs : s.size ≤ 140737488351232) (hy : y.size ≤ 140737488351232) (hb : b.size ≤ 140737488351232) (hI : IT w) (hW : WT w) (hK : Sh.KT w) :
    Calls Tryd.prog 4 #[.agg #[.string r, .string s, .int .u8 (k : Int), .string y, .string b, .int .i64 n]] w fun e w' => e = .returned (.bool true) ∧ Below w.heap.size w w' := by
  have HI := hidp hI; have HW := hidp hW; have HK := hidp hK; have hkp := hK.pos; clear hI hW hK
  have L := hidp (fun W (a : IT W) (b : WT W) (c : Sh.KT W) => lives13_any W a b c)
  have hrs := rdb_size k b
  have c1 := hidp (fun W a b' c => ref_any W r s k y b n hk (by omega) (by omega) (by omega) (by omega) a b' c)
  have c2 := hidp (fun W a b' c => ref_any W r s k y (rdb k b) n hk (by omega) (by omega) (by omega) (by omega) a b' c)
  have c5 := hidp (fun W => redact_any W r s k y b n hk (by omega) (by omega) (by omega) (by omega))
  have c6 := hidp (fun W => redact_any W r s k y (rdb k b) n hk (by omega) (by omega) (by omega) (by omega))
  have ck := hidp (fun W h => evCheck_any W r s k y b n hk (by omega) (by omega) (by omega) (by omega) h)
  have cl := hidp (fun W h => evCheck_any W r s k y (rdb k b) n hk (by omega) (by omega) (by omega) (by omega) h)
  have hAl := hidp (refH_len r s k y b n)
  rw [rdb_twice] at c6
  cases hok : evOk (⟨r, s, k, y, b, n⟩ : Ev) with
  | false =>
    have hE : evE (⟨r, s, k, y, b, n⟩ : Ev) = 2 := by unfold evE; rw [hok]; rfl
    have hZl := hidp (refH_len r s k y (rdb k b) n)
    obtain ⟨A, hA⟩ : ∃ A, refH r s k y b n = A := ⟨_, rfl⟩
    obtain ⟨Z, hZ⟩ : ∃ A, refH r s k y (rdb k b) n = A := ⟨_, rfl⟩
    obtain ⟨E2, hE2⟩ : ∃ A, evE (⟨r, s, k, y, rdb k b, n⟩ : Ev) = A := ⟨_, rfl⟩
    obtain ⟨d, hd⟩ : ∃ A, rdb k b = A := ⟨_, rfl⟩
    rw [hA, hE] at c1
    rw [hZ, hE2] at c2
    rw [hA] at hAl
    rw [hZ] at hZl
    rw [hd] at c2 c5
    rw [hE] at ck
    clear hA hZ hE hE2 hd hok hrs c6 cl
    go_enter Tryd.func4, Tryd.ntmps4
    go_wp2_with (first | (refine wpL_boxT 24 rfl _ rfl [.string r, .string s, .int .u8 (k : Int), .string y, .string b, .int .i64 n] rfl ?_; intro b1 w1 n1; have HB1 := hidp n1.below; have hg_b1 := hidp n1.le; have HA1 := hidp n1.arr; clear n1))
    refine (L.out _ (HI.out.below HB1.out (Nat.le_refl _)) (HW.out.below HB1.out (Nat.le_refl _)) (HK.out.below HB1.out hkp)).mono ?_
    rintro e w2 ⟨rfl, hb⟩
    have HB2 := hidp (HB1.out.trans (hb.mono HB1.out.size))
    have HA2 := hidp (HA1.out.below hb HA1.out.lt)
    clear hb HB1 HA1
    go_wp2_with (refine wpL_getE rfl (.tmp 1) rfl b1 [.string r, .string s, .int .u8 (k : Int), .string y, .string b, .int .i64 n] rfl rfl HA2.out ?_)
    refine (c5.out _).mono ?_
    rintro e w3 ⟨rfl, hb⟩
    have HB3 := hidp (HB2.out.trans (hb.mono HB2.out.size))
    have HA3 := hidp (HA2.out.below hb HA2.out.lt)
    clear hb HB2 HA2
    go_wp2_with (first | (refine wpL_newE rfl rfl ?_; intro b3 w4 n4; have HB4 := hidp (HB3.out.trans (n4.below.mono HB3.out.size)); have hg_b3 := hidp (Nat.le_trans HB3.out.size n4.le); have HA4 := hidp (n4.old HA3.out); have hl_HA_b3 := hidp (show b1 < b3 from by have := n4.at_; have := HA3.out.lt; omega); have HF4 := hidp n4.arr; clear n4 HA3 HB3) | (refine wpL_putE rfl (.tmp 3) (.tmp 11) rfl b3 [.string r, .string s, .int .u8 (k : Int), .string y, .string d, .int .i64 n] rfl rfl rfl (by simp [Value.oneCell']) _ rfl HF4.out ?_; intro w5 ha hp; have HB5 := hidp (hp.below' HB4.out hg_b3.out); have HA5 := hidp (hp.arr (by have := hl_HA_b3.out; omega) HA4.out); have HF5 := hidp ha; clear ha hp HB4 HA4 HF4) | (refine wpL_getE rfl (.tmp 1) rfl b1 [.string r, .string s, .int .u8 (k : Int), .string y, .string b, .int .i64 n] rfl rfl HA5.out ?_))
    refine (c1.out _ (HI.out.below HB5.out (Nat.le_refl _)) (HW.out.below HB5.out (Nat.le_refl _)) (HK.out.below HB5.out hkp)).mono ?_
    rintro e w6 ⟨rfl, hb⟩
    have HB6 := hidp (HB5.out.trans (hb.mono HB5.out.size))
    have HA6 := hidp (HA5.out.below hb HA5.out.lt)
    have HF6 := hidp (HF5.out.below hb HF5.out.lt)
    clear hb HB5 HA5 HF5
    go_wp2_with (first | (refine wpL_new rfl rfl ?_; intro b4 w7 n7; have HB7 := hidp (HB6.out.trans (n7.below.mono HB6.out.size)); have hg_b4 := hidp (Nat.le_trans HB6.out.size n7.le); have HA7 := hidp (n7.old HA6.out); have hl_HA_b4 := hidp (show b1 < b4 from by have := n7.at_; have := HA6.out.lt; omega); have HF7 := hidp (n7.old HF6.out); have hl_HF_b4 := hidp (show b3 < b4 from by have := n7.at_; have := HF6.out.lt; omega); have H47 := hidp n7.arr; clear n7 HA6 HF6 HB6) | (refine wpL_put rfl (.tmp 4) (.tmp 15) rfl b4 A rfl rfl hAl.out _ rfl H47.out ?_; intro w8 ha hp; have HB8 := hidp (hp.below' HB7.out hg_b4.out); have HA8 := hidp (hp.arr (by have := hl_HA_b4.out; omega) HA7.out); have HF8 := hidp (hp.arr (by have := hl_HF_b4.out; omega) HF7.out); have H48 := hidp ha; clear ha hp HB7 HA7 HF7 H47) | (refine wpL_getE rfl (.tmp 3) rfl b3 [.string r, .string s, .int .u8 (k : Int), .string y, .string d, .int .i64 n] rfl rfl HF8.out ?_))
    refine (c2.out _ (HI.out.below HB8.out (Nat.le_refl _)) (HW.out.below HB8.out (Nat.le_refl _)) (HK.out.below HB8.out hkp)).mono ?_
    rintro e w9 ⟨rfl, hb⟩
    have HB9 := hidp (HB8.out.trans (hb.mono HB8.out.size))
    have HA9 := hidp (HA8.out.below hb HA8.out.lt)
    have HF9 := hidp (HF8.out.below hb HF8.out.lt)
    have H49 := hidp (H48.out.below hb H48.out.lt)
    clear hb HB8 HA8 HF8 H48
    go_wp2_with (first | (refine wpL_new rfl rfl ?_; intro b6 w10 n10; have HB10 := hidp (HB9.out.trans (n10.below.mono HB9.out.size)); have hg_b6 := hidp (Nat.le_trans HB9.out.size n10.le); have HA10 := hidp (n10.old HA9.out); have hl_HA_b6 := hidp (show b1 < b6 from by have := n10.at_; have := HA9.out.lt; omega); have HF10 := hidp (n10.old HF9.out); have hl_HF_b6 := hidp (show b3 < b6 from by have := n10.at_; have := HF9.out.lt; omega); have H410 := hidp (n10.old H49.out); have hl_H4_b6 := hidp (show b4 < b6 from by have := n10.at_; have := H49.out.lt; omega); have H610 := hidp n10.arr; clear n10 HA9 HF9 H49 HB9) | (refine wpL_put rfl (.tmp 6) (.tmp 20) rfl b6 Z rfl rfl hZl.out _ rfl H610.out ?_; intro w11 ha hp; have HB11 := hidp (hp.below' HB10.out hg_b6.out); have HA11 := hidp (hp.arr (by have := hl_HA_b6.out; omega) HA10.out); have HF11 := hidp (hp.arr (by have := hl_HF_b6.out; omega) HF10.out); have H411 := hidp (hp.arr (by have := hl_H4_b6.out; omega) H410.out); have H611 := hidp ha; clear ha hp HB10 HA10 HF10 H410 H610) | (refine wpL_getE rfl (.tmp 1) rfl b1 [.string r, .string s, .int .u8 (k : Int), .string y, .string b, .int .i64 n] rfl rfl HA11.out ?_))
    refine (ck.out _ (HI.out.below HB11.out (Nat.le_refl _))).mono ?_
    rintro e w12 ⟨rfl, hb⟩
    have HB12 := hidp (HB11.out.trans (hb.mono HB11.out.size))
    have HA12 := hidp (HA11.out.below hb HA11.out.lt)
    have HF12 := hidp (HF11.out.below hb HF11.out.lt)
    have H412 := hidp (H411.out.below hb H411.out.lt)
    have H612 := hidp (H611.out.below hb H611.out.lt)
    clear hb HB11 HA11 HF11 H411 H611
    go_wp2_with fail
    go_ret
    exact ⟨rfl, HB12.out⟩
  | true =>
    have hE : evE (⟨r, s, k, y, b, n⟩ : Ev) = 0 := by unfold evE; rw [hok]; rfl
    have hE2 : evE (⟨r, s, k, y, rdb k b, n⟩ : Ev) = 0 := by unfold evE; rw [rd_ok r s k y b n hok]; rfl
    rw [ref_twice r s k y b n hok] at c2
    obtain ⟨A, hA⟩ : ∃ A, refH r s k y b n = A := ⟨_, rfl⟩
    obtain ⟨d, hd⟩ : ∃ A, rdb k b = A := ⟨_, rfl⟩
    rw [hA, hE] at c1
    rw [hA, hE2] at c2
    rw [hA] at hAl
    rw [hE2] at cl
    rw [hd] at c2 c5 c6 cl
    have eK : ((k : Int) == (k : Int)) = true := by simp
    have eN : (n == n) = true := by simp
    have tS := toList_yes (rfl : s = s); have tR := toList_yes (rfl : r = r); have tY := toList_yes (rfl : y = y)
    clear hA hE hE2 hd hok hrs
    go_enter Tryd.func4, Tryd.ntmps4
    go_wp2_with (first | (refine wpL_boxT 24 rfl _ rfl [.string r, .string s, .int .u8 (k : Int), .string y, .string b, .int .i64 n] rfl ?_; intro b1 w1 n1; have HB1 := hidp n1.below; have hg_b1 := hidp n1.le; have HA1 := hidp n1.arr; clear n1))
    refine (L.out _ (HI.out.below HB1.out (Nat.le_refl _)) (HW.out.below HB1.out (Nat.le_refl _)) (HK.out.below HB1.out hkp)).mono ?_
    rintro e w2 ⟨rfl, hb⟩
    have HB2 := hidp (HB1.out.trans (hb.mono HB1.out.size))
    have HA2 := hidp (HA1.out.below hb HA1.out.lt)
    clear hb HB1 HA1
    go_wp2_with (refine wpL_getE rfl (.tmp 1) rfl b1 [.string r, .string s, .int .u8 (k : Int), .string y, .string b, .int .i64 n] rfl rfl HA2.out ?_)
    refine (c5.out _).mono ?_
    rintro e w3 ⟨rfl, hb⟩
    have HB3 := hidp (HB2.out.trans (hb.mono HB2.out.size))
    have HA3 := hidp (HA2.out.below hb HA2.out.lt)
    clear hb HB2 HA2
    go_wp2_with (first | (refine wpL_newE rfl rfl ?_; intro b3 w4 n4; have HB4 := hidp (HB3.out.trans (n4.below.mono HB3.out.size)); have hg_b3 := hidp (Nat.le_trans HB3.out.size n4.le); have HA4 := hidp (n4.old HA3.out); have hl_HA_b3 := hidp (show b1 < b3 from by have := n4.at_; have := HA3.out.lt; omega); have HF4 := hidp n4.arr; clear n4 HA3 HB3) | (refine wpL_putE rfl (.tmp 3) (.tmp 11) rfl b3 [.string r, .string s, .int .u8 (k : Int), .string y, .string d, .int .i64 n] rfl rfl rfl (by simp [Value.oneCell']) _ rfl HF4.out ?_; intro w5 ha hp; have HB5 := hidp (hp.below' HB4.out hg_b3.out); have HA5 := hidp (hp.arr (by have := hl_HA_b3.out; omega) HA4.out); have HF5 := hidp ha; clear ha hp HB4 HA4 HF4) | (refine wpL_getE rfl (.tmp 1) rfl b1 [.string r, .string s, .int .u8 (k : Int), .string y, .string b, .int .i64 n] rfl rfl HA5.out ?_))
    refine (c1.out _ (HI.out.below HB5.out (Nat.le_refl _)) (HW.out.below HB5.out (Nat.le_refl _)) (HK.out.below HB5.out hkp)).mono ?_
    rintro e w6 ⟨rfl, hb⟩
    have HB6 := hidp (HB5.out.trans (hb.mono HB5.out.size))
    have HA6 := hidp (HA5.out.below hb HA5.out.lt)
    have HF6 := hidp (HF5.out.below hb HF5.out.lt)
    clear hb HB5 HA5 HF5
    go_wp2_with (first | (refine wpL_new rfl rfl ?_; intro b4 w7 n7; have HB7 := hidp (HB6.out.trans (n7.below.mono HB6.out.size)); have hg_b4 := hidp (Nat.le_trans HB6.out.size n7.le); have HA7 := hidp (n7.old HA6.out); have hl_HA_b4 := hidp (show b1 < b4 from by have := n7.at_; have := HA6.out.lt; omega); have HF7 := hidp (n7.old HF6.out); have hl_HF_b4 := hidp (show b3 < b4 from by have := n7.at_; have := HF6.out.lt; omega); have H47 := hidp n7.arr; clear n7 HA6 HF6 HB6) | (refine wpL_put rfl (.tmp 4) (.tmp 15) rfl b4 A rfl rfl hAl.out _ rfl H47.out ?_; intro w8 ha hp; have HB8 := hidp (hp.below' HB7.out hg_b4.out); have HA8 := hidp (hp.arr (by have := hl_HA_b4.out; omega) HA7.out); have HF8 := hidp (hp.arr (by have := hl_HF_b4.out; omega) HF7.out); have H48 := hidp ha; clear ha hp HB7 HA7 HF7 H47) | (refine wpL_getE rfl (.tmp 3) rfl b3 [.string r, .string s, .int .u8 (k : Int), .string y, .string d, .int .i64 n] rfl rfl HF8.out ?_))
    refine (c2.out _ (HI.out.below HB8.out (Nat.le_refl _)) (HW.out.below HB8.out (Nat.le_refl _)) (HK.out.below HB8.out hkp)).mono ?_
    rintro e w9 ⟨rfl, hb⟩
    have HB9 := hidp (HB8.out.trans (hb.mono HB8.out.size))
    have HA9 := hidp (HA8.out.below hb HA8.out.lt)
    have HF9 := hidp (HF8.out.below hb HF8.out.lt)
    have H49 := hidp (H48.out.below hb H48.out.lt)
    clear hb HB8 HA8 HF8 H48
    go_wp2_with (first | (refine wpL_new rfl rfl ?_; intro b6 w10 n10; have HB10 := hidp (HB9.out.trans (n10.below.mono HB9.out.size)); have hg_b6 := hidp (Nat.le_trans HB9.out.size n10.le); have HA10 := hidp (n10.old HA9.out); have hl_HA_b6 := hidp (show b1 < b6 from by have := n10.at_; have := HA9.out.lt; omega); have HF10 := hidp (n10.old HF9.out); have hl_HF_b6 := hidp (show b3 < b6 from by have := n10.at_; have := HF9.out.lt; omega); have H410 := hidp (n10.old H49.out); have hl_H4_b6 := hidp (show b4 < b6 from by have := n10.at_; have := H49.out.lt; omega); have H610 := hidp n10.arr; clear n10 HA9 HF9 H49 HB9) | (refine wpL_put rfl (.tmp 6) (.tmp 20) rfl b6 A rfl rfl hAl.out _ rfl H610.out ?_; intro w11 ha hp; have HB11 := hidp (hp.below' HB10.out hg_b6.out); have HA11 := hidp (hp.arr (by have := hl_HA_b6.out; omega) HA10.out); have HF11 := hidp (hp.arr (by have := hl_HF_b6.out; omega) HF10.out); have H411 := hidp (hp.arr (by have := hl_H4_b6.out; omega) H410.out); have H611 := hidp ha; clear ha hp HB10 HA10 HF10 H410 H610) | (refine wpL_getE rfl (.tmp 1) rfl b1 [.string r, .string s, .int .u8 (k : Int), .string y, .string b, .int .i64 n] rfl rfl HA11.out ?_))
    obtain ⟨U, hU⟩ : ∃ U, ({ w11 with drawn := w11.drawn + 1 } : World) = U := ⟨_, rfl⟩
    have bU : Below w11.heap.size w11 U := by rw [← hU]; exact (Below.refl _ _).drew
    have HB12 := hidp (HB11.out.trans (bU.mono HB11.out.size))
    have HA12 := hidp (HA11.out.below bU HA11.out.lt)
    have HF12 := hidp (HF11.out.below bU HF11.out.lt)
    have H412 := hidp (H411.out.below bU H411.out.lt)
    have H612 := hidp (H611.out.below bU H611.out.lt)
    clear bU HB11 HA11 HF11 H411 H611
    have HS0 := hidp (show Arr U b1 24 [.string r, .string s, .int .u8 (k : Int), .string y, .string b, .int .i64 n] ∧ Arr U b3 24 [.string r, .string s, .int .u8 (k : Int), .string y, .string d, .int .i64 n] ∧ Arr U b4 26 (u8s A) ∧ Arr U b6 26 (u8s A) from ⟨HA12.out, HF12.out, H412.out, H612.out⟩)
    have HX0 := HB12
    refine wp_region_noPanic ?_
    refine wp_region_scr (S := fun W => Arr W b1 24 [.string r, .string s, .int .u8 (k : Int), .string y, .string b, .int .i64 n] ∧ Arr W b3 24 [.string r, .string s, .int .u8 (k : Int), .string y, .string d, .int .i64 n] ∧ Arr W b4 26 (u8s A) ∧ Arr W b6 26 (u8s A)) (.take 0 (.take 2 (.one 1 (.take 3 (.take 4 (.take 5 (.take 6 (.take 7 (.take 8 (.take 9 (.take 10 (.take 11 (.take 12 (.take 13 (.take 14 (.one 15 (.take 16 (.take 17 (.take 18 (.take 19 (.take 20 (.take 21 (.take 22 (.take 23 (.take 24 (.take 25 (.take 26 (.take 27 (.take 28 (.take 29 (.take 30 (.take 31 (.take 32 (.take 33 (.take 34 (.take 35 (.take 36 (.take 37 (.take 38 (.take 39 (.take 40 (.take 41 (.take 42 (.take 43 (.take 44 (.take 45 (.take 46 (.take 47 (.take 48 (.take 49 (.take 50 (.take 51 (.take 52 (.take 53 .done)))))))))))))))))))))))))))))))))))))))))))))))))))))) (by kernel_rfl) (by kernel_rfl) (fun _ _ _ _ _ h => h) (by simp [Scr.depth]) (by kernel_rfl) (by rw [hU]; exact HS0.out) ?_
    simp only [hU]
    clear hU
    refine s_getE rfl rfl (.tmp 3) rfl b3 [.string r, .string s, .int .u8 (k : Int), .string y, .string d, .int .i64 n] rfl rfl (fun w h => h.2.1) ?_
    simp only [Act.put, List.getElem_toArray, List.getElem_cons_zero, List.getElem_cons_succ, List.setIfInBounds_toArray, List.set_cons_zero, List.set_cons_succ]
    refine s_getE rfl rfl (.tmp 3) rfl b3 [.string r, .string s, .int .u8 (k : Int), .string y, .string d, .int .i64 n] rfl rfl (fun w h => h.2.1) ?_
    simp only [Act.put, List.getElem_toArray, List.getElem_cons_zero, List.getElem_cons_succ, List.setIfInBounds_toArray, List.set_cons_zero, List.set_cons_succ]
    apply o_call (f := 14) (args := #[.agg #[.string r, .string s, .int .u8 (k : Int), .string y, .string d, .int .i64 n]]) (v := .agg #[.string r, .string s, .int .u8 (k : Int), .string y, .string d, .int .i64 n]) (hc := c6.out _)
    case ho => rfl
    case hw => rfl
    case hop => go_simp; first | done | rfl
    rintro X1 hb
    have HX1 := hidp (HX0.out.trans (hb.mono HX0.out.size))
    have HS1 := hidp (show Arr X1 b1 24 [.string r, .string s, .int .u8 (k : Int), .string y, .string b, .int .i64 n] ∧ Arr X1 b3 24 [.string r, .string s, .int .u8 (k : Int), .string y, .string d, .int .i64 n] ∧ Arr X1 b4 26 (u8s A) ∧ Arr X1 b6 26 (u8s A) from ⟨(HS0.out.1).below hb (HS0.out.1).lt, (HS0.out.2.1).below hb (HS0.out.2.1).lt, (HS0.out.2.2.1).below hb (HS0.out.2.2.1).lt, (HS0.out.2.2.2).below hb (HS0.out.2.2.2).lt⟩)
    refine ⟨HS1.out, ?_⟩
    clear hb
    simp only [Act.put, List.getElem_toArray, List.getElem_cons_zero, List.getElem_cons_succ, List.setIfInBounds_toArray, List.set_cons_zero, List.set_cons_succ]
    apply s_val (v := .bool true)
    case ho => rfl
    case hw => rfl
    case hv => intro w hw; have q := eqin_event w r s (k : Int) y d n; go_simp; first | done | with_reducible rfl | rfl
    simp only [Act.put, List.getElem_toArray, List.getElem_cons_zero, List.getElem_cons_succ, List.setIfInBounds_toArray, List.set_cons_zero, List.set_cons_succ]
    apply s_val
    case ho => rfl
    case hw => rfl
    case hv => intro w hw; obtain ⟨x0, x1, x2, x3, x4, x5⟩ := arr6 hw.1; obtain ⟨y0, y1, y2, y3, y4, y5⟩ := arr6 hw.2.1; go_simp; first | done | with_reducible rfl | rfl
    simp only [Act.put, List.getElem_toArray, List.getElem_cons_zero, List.getElem_cons_succ, List.setIfInBounds_toArray, List.set_cons_zero, List.set_cons_succ]
    apply s_val
    case ho => rfl
    case hw => rfl
    case hv => intro w hw; obtain ⟨x0, x1, x2, x3, x4, x5⟩ := arr6 hw.1; obtain ⟨y0, y1, y2, y3, y4, y5⟩ := arr6 hw.2.1; go_simp; first | done | with_reducible rfl | rfl
    simp only [Act.put, List.getElem_toArray, List.getElem_cons_zero, List.getElem_cons_succ, List.setIfInBounds_toArray, List.set_cons_zero, List.set_cons_succ]
    apply s_val (v := .bool true)
    case ho => rfl
    case hw => rfl
    case hv => intro w hw; obtain ⟨x0, x1, x2, x3, x4, x5⟩ := arr6 hw.1; obtain ⟨y0, y1, y2, y3, y4, y5⟩ := arr6 hw.2.1; go_simp; first | done | with_reducible rfl | rfl
    simp only [Act.put, List.getElem_toArray, List.getElem_cons_zero, List.getElem_cons_succ, List.setIfInBounds_toArray, List.set_cons_zero, List.set_cons_succ]
    apply s_val
    case ho => rfl
    case hw => rfl
    case hv => intro w hw; obtain ⟨x0, x1, x2, x3, x4, x5⟩ := arr6 hw.1; obtain ⟨y0, y1, y2, y3, y4, y5⟩ := arr6 hw.2.1; go_simp; first | done | with_reducible rfl | rfl
    simp only [Act.put, List.getElem_toArray, List.getElem_cons_zero, List.getElem_cons_succ, List.setIfInBounds_toArray, List.set_cons_zero, List.set_cons_succ]
    apply s_val
    case ho => rfl
    case hw => rfl
    case hv => intro w hw; obtain ⟨x0, x1, x2, x3, x4, x5⟩ := arr6 hw.1; obtain ⟨y0, y1, y2, y3, y4, y5⟩ := arr6 hw.2.1; go_simp; first | done | with_reducible rfl | rfl
    simp only [Act.put, List.getElem_toArray, List.getElem_cons_zero, List.getElem_cons_succ, List.setIfInBounds_toArray, List.set_cons_zero, List.set_cons_succ]
    refine s_getH rfl rfl (.tmp 4) rfl b4 A rfl hAl.out (fun w h => h.2.2.1) ?_
    simp only [Act.put, List.getElem_toArray, List.getElem_cons_zero, List.getElem_cons_succ, List.setIfInBounds_toArray, List.set_cons_zero, List.set_cons_succ]
    refine s_getH rfl rfl (.tmp 6) rfl b6 A rfl hAl.out (fun w h => h.2.2.2) ?_
    simp only [Act.put, List.getElem_toArray, List.getElem_cons_zero, List.getElem_cons_succ, List.setIfInBounds_toArray, List.set_cons_zero, List.set_cons_succ]
    apply s_val (v := .bool true)
    case ho => rfl
    case hw => rfl
    case hv => intro w hw; have q := eqin_same w A hAl.out; go_simp; first | done | with_reducible rfl | rfl
    simp only [Act.put, List.getElem_toArray, List.getElem_cons_zero, List.getElem_cons_succ, List.setIfInBounds_toArray, List.set_cons_zero, List.set_cons_succ]
    apply s_val
    case ho => rfl
    case hw => rfl
    case hv => intro w hw; obtain ⟨x0, x1, x2, x3, x4, x5⟩ := arr6 hw.1; obtain ⟨y0, y1, y2, y3, y4, y5⟩ := arr6 hw.2.1; go_simp; first | done | with_reducible rfl | rfl
    simp only [Act.put, List.getElem_toArray, List.getElem_cons_zero, List.getElem_cons_succ, List.setIfInBounds_toArray, List.set_cons_zero, List.set_cons_succ]
    apply s_val
    case ho => rfl
    case hw => rfl
    case hv => intro w hw; obtain ⟨x0, x1, x2, x3, x4, x5⟩ := arr6 hw.1; obtain ⟨y0, y1, y2, y3, y4, y5⟩ := arr6 hw.2.1; go_simp; first | done | with_reducible rfl | rfl
    simp only [Act.put, List.getElem_toArray, List.getElem_cons_zero, List.getElem_cons_succ, List.setIfInBounds_toArray, List.set_cons_zero, List.set_cons_succ]
    refine s_getE rfl rfl (.tmp 3) rfl b3 [.string r, .string s, .int .u8 (k : Int), .string y, .string d, .int .i64 n] rfl rfl (fun w h => h.2.1) ?_
    simp only [Act.put, List.getElem_toArray, List.getElem_cons_zero, List.getElem_cons_succ, List.setIfInBounds_toArray, List.set_cons_zero, List.set_cons_succ]
    apply o_call (f := 16) (args := #[.agg #[.string r, .string s, .int .u8 (k : Int), .string y, .string d, .int .i64 n]]) (v := .int .i64 0) (hc := cl.out _ (HI.out.below HX1.out (Nat.le_refl _)))
    case ho => rfl
    case hw => rfl
    case hop => go_simp; first | done | rfl
    rintro X2 hb
    have HX2 := hidp (HX1.out.trans (hb.mono HX1.out.size))
    have HS2 := hidp (show Arr X2 b1 24 [.string r, .string s, .int .u8 (k : Int), .string y, .string b, .int .i64 n] ∧ Arr X2 b3 24 [.string r, .string s, .int .u8 (k : Int), .string y, .string d, .int .i64 n] ∧ Arr X2 b4 26 (u8s A) ∧ Arr X2 b6 26 (u8s A) from ⟨(HS1.out.1).below hb (HS1.out.1).lt, (HS1.out.2.1).below hb (HS1.out.2.1).lt, (HS1.out.2.2.1).below hb (HS1.out.2.2.1).lt, (HS1.out.2.2.2).below hb (HS1.out.2.2.2).lt⟩)
    refine ⟨HS2.out, ?_⟩
    clear hb
    simp only [Act.put, List.getElem_toArray, List.getElem_cons_zero, List.getElem_cons_succ, List.setIfInBounds_toArray, List.set_cons_zero, List.set_cons_succ]
    apply s_val (v := .bool true)
    case ho => rfl
    case hw => rfl
    case hv => intro w hw; obtain ⟨x0, x1, x2, x3, x4, x5⟩ := arr6 hw.1; obtain ⟨y0, y1, y2, y3, y4, y5⟩ := arr6 hw.2.1; go_simp; first | done | with_reducible rfl | rfl
    simp only [Act.put, List.getElem_toArray, List.getElem_cons_zero, List.getElem_cons_succ, List.setIfInBounds_toArray, List.set_cons_zero, List.set_cons_succ]
    apply s_val
    case ho => rfl
    case hw => rfl
    case hv => intro w hw; obtain ⟨x0, x1, x2, x3, x4, x5⟩ := arr6 hw.1; obtain ⟨y0, y1, y2, y3, y4, y5⟩ := arr6 hw.2.1; go_simp; first | done | with_reducible rfl | rfl
    simp only [Act.put, List.getElem_toArray, List.getElem_cons_zero, List.getElem_cons_succ, List.setIfInBounds_toArray, List.set_cons_zero, List.set_cons_succ]
    apply s_val
    case ho => rfl
    case hw => rfl
    case hv => intro w hw; obtain ⟨x0, x1, x2, x3, x4, x5⟩ := arr6 hw.1; obtain ⟨y0, y1, y2, y3, y4, y5⟩ := arr6 hw.2.1; go_simp; first | done | with_reducible rfl | rfl
    simp only [Act.put, List.getElem_toArray, List.getElem_cons_zero, List.getElem_cons_succ, List.setIfInBounds_toArray, List.set_cons_zero, List.set_cons_succ]
    apply s_val
    case ho => rfl
    case hw => rfl
    case hv => intro w hw; obtain ⟨x0, x1, x2, x3, x4, x5⟩ := arr6 hw.1; obtain ⟨y0, y1, y2, y3, y4, y5⟩ := arr6 hw.2.1; go_simp; first | done | with_reducible rfl | rfl
    simp only [Act.put, List.getElem_toArray, List.getElem_cons_zero, List.getElem_cons_succ, List.setIfInBounds_toArray, List.set_cons_zero, List.set_cons_succ]
    apply s_val
    case ho => rfl
    case hw => rfl
    case hv => intro w hw; obtain ⟨x0, x1, x2, x3, x4, x5⟩ := arr6 hw.1; obtain ⟨y0, y1, y2, y3, y4, y5⟩ := arr6 hw.2.1; go_simp; first | done | with_reducible rfl | rfl
    simp only [Act.put, List.getElem_toArray, List.getElem_cons_zero, List.getElem_cons_succ, List.setIfInBounds_toArray, List.set_cons_zero, List.set_cons_succ]
    apply s_val
    case ho => rfl
    case hw => rfl
    case hv => intro w hw; obtain ⟨x0, x1, x2, x3, x4, x5⟩ := arr6 hw.1; obtain ⟨y0, y1, y2, y3, y4, y5⟩ := arr6 hw.2.1; go_simp; first | done | with_reducible rfl | rfl
    simp only [Act.put, List.getElem_toArray, List.getElem_cons_zero, List.getElem_cons_succ, List.setIfInBounds_toArray, List.set_cons_zero, List.set_cons_succ]
    apply s_val
    case ho => rfl
    case hw => rfl
    case hv => intro w hw; obtain ⟨x0, x1, x2, x3, x4, x5⟩ := arr6 hw.1; obtain ⟨y0, y1, y2, y3, y4, y5⟩ := arr6 hw.2.1; go_simp; first | done | with_reducible rfl | rfl
    simp only [Act.put, List.getElem_toArray, List.getElem_cons_zero, List.getElem_cons_succ, List.setIfInBounds_toArray, List.set_cons_zero, List.set_cons_succ]
    apply s_val (v := .bool true)
    case ho => rfl
    case hw => rfl
    case hv => intro w hw; have q := eK; go_simp; first | done | with_reducible rfl | rfl
    simp only [Act.put, List.getElem_toArray, List.getElem_cons_zero, List.getElem_cons_succ, List.setIfInBounds_toArray, List.set_cons_zero, List.set_cons_succ]
    apply s_val
    case ho => rfl
    case hw => rfl
    case hv => intro w hw; obtain ⟨x0, x1, x2, x3, x4, x5⟩ := arr6 hw.1; obtain ⟨y0, y1, y2, y3, y4, y5⟩ := arr6 hw.2.1; go_simp; first | done | with_reducible rfl | rfl
    simp only [Act.put, List.getElem_toArray, List.getElem_cons_zero, List.getElem_cons_succ, List.setIfInBounds_toArray, List.set_cons_zero, List.set_cons_succ]
    apply s_val
    case ho => rfl
    case hw => rfl
    case hv => intro w hw; obtain ⟨x0, x1, x2, x3, x4, x5⟩ := arr6 hw.1; obtain ⟨y0, y1, y2, y3, y4, y5⟩ := arr6 hw.2.1; go_simp; first | done | with_reducible rfl | rfl
    simp only [Act.put, List.getElem_toArray, List.getElem_cons_zero, List.getElem_cons_succ, List.setIfInBounds_toArray, List.set_cons_zero, List.set_cons_succ]
    apply s_val
    case ho => rfl
    case hw => rfl
    case hv => intro w hw; obtain ⟨x0, x1, x2, x3, x4, x5⟩ := arr6 hw.1; obtain ⟨y0, y1, y2, y3, y4, y5⟩ := arr6 hw.2.1; go_simp; first | done | with_reducible rfl | rfl
    simp only [Act.put, List.getElem_toArray, List.getElem_cons_zero, List.getElem_cons_succ, List.setIfInBounds_toArray, List.set_cons_zero, List.set_cons_succ]
    apply s_val
    case ho => rfl
    case hw => rfl
    case hv => intro w hw; obtain ⟨x0, x1, x2, x3, x4, x5⟩ := arr6 hw.1; obtain ⟨y0, y1, y2, y3, y4, y5⟩ := arr6 hw.2.1; go_simp; first | done | with_reducible rfl | rfl
    simp only [Act.put, List.getElem_toArray, List.getElem_cons_zero, List.getElem_cons_succ, List.setIfInBounds_toArray, List.set_cons_zero, List.set_cons_succ]
    apply s_val
    case ho => rfl
    case hw => rfl
    case hv => intro w hw; obtain ⟨x0, x1, x2, x3, x4, x5⟩ := arr6 hw.1; obtain ⟨y0, y1, y2, y3, y4, y5⟩ := arr6 hw.2.1; go_simp; first | done | with_reducible rfl | rfl
    simp only [Act.put, List.getElem_toArray, List.getElem_cons_zero, List.getElem_cons_succ, List.setIfInBounds_toArray, List.set_cons_zero, List.set_cons_succ]
    apply s_val
    case ho => rfl
    case hw => rfl
    case hv => intro w hw; obtain ⟨x0, x1, x2, x3, x4, x5⟩ := arr6 hw.1; obtain ⟨y0, y1, y2, y3, y4, y5⟩ := arr6 hw.2.1; go_simp; first | done | with_reducible rfl | rfl
    simp only [Act.put, List.getElem_toArray, List.getElem_cons_zero, List.getElem_cons_succ, List.setIfInBounds_toArray, List.set_cons_zero, List.set_cons_succ]
    apply s_val (v := .bool true)
    case ho => rfl
    case hw => rfl
    case hv => intro w hw; have q := tS; go_simp; first | done | with_reducible rfl | rfl
    simp only [Act.put, List.getElem_toArray, List.getElem_cons_zero, List.getElem_cons_succ, List.setIfInBounds_toArray, List.set_cons_zero, List.set_cons_succ]
    apply s_val
    case ho => rfl
    case hw => rfl
    case hv => intro w hw; obtain ⟨x0, x1, x2, x3, x4, x5⟩ := arr6 hw.1; obtain ⟨y0, y1, y2, y3, y4, y5⟩ := arr6 hw.2.1; go_simp; first | done | with_reducible rfl | rfl
    simp only [Act.put, List.getElem_toArray, List.getElem_cons_zero, List.getElem_cons_succ, List.setIfInBounds_toArray, List.set_cons_zero, List.set_cons_succ]
    apply s_val
    case ho => rfl
    case hw => rfl
    case hv => intro w hw; obtain ⟨x0, x1, x2, x3, x4, x5⟩ := arr6 hw.1; obtain ⟨y0, y1, y2, y3, y4, y5⟩ := arr6 hw.2.1; go_simp; first | done | with_reducible rfl | rfl
    simp only [Act.put, List.getElem_toArray, List.getElem_cons_zero, List.getElem_cons_succ, List.setIfInBounds_toArray, List.set_cons_zero, List.set_cons_succ]
    apply s_val
    case ho => rfl
    case hw => rfl
    case hv => intro w hw; obtain ⟨x0, x1, x2, x3, x4, x5⟩ := arr6 hw.1; obtain ⟨y0, y1, y2, y3, y4, y5⟩ := arr6 hw.2.1; go_simp; first | done | with_reducible rfl | rfl
    simp only [Act.put, List.getElem_toArray, List.getElem_cons_zero, List.getElem_cons_succ, List.setIfInBounds_toArray, List.set_cons_zero, List.set_cons_succ]
    apply s_val
    case ho => rfl
    case hw => rfl
    case hv => intro w hw; obtain ⟨x0, x1, x2, x3, x4, x5⟩ := arr6 hw.1; obtain ⟨y0, y1, y2, y3, y4, y5⟩ := arr6 hw.2.1; go_simp; first | done | with_reducible rfl | rfl
    simp only [Act.put, List.getElem_toArray, List.getElem_cons_zero, List.getElem_cons_succ, List.setIfInBounds_toArray, List.set_cons_zero, List.set_cons_succ]
    apply s_val
    case ho => rfl
    case hw => rfl
    case hv => intro w hw; obtain ⟨x0, x1, x2, x3, x4, x5⟩ := arr6 hw.1; obtain ⟨y0, y1, y2, y3, y4, y5⟩ := arr6 hw.2.1; go_simp; first | done | with_reducible rfl | rfl
    simp only [Act.put, List.getElem_toArray, List.getElem_cons_zero, List.getElem_cons_succ, List.setIfInBounds_toArray, List.set_cons_zero, List.set_cons_succ]
    apply s_val
    case ho => rfl
    case hw => rfl
    case hv => intro w hw; obtain ⟨x0, x1, x2, x3, x4, x5⟩ := arr6 hw.1; obtain ⟨y0, y1, y2, y3, y4, y5⟩ := arr6 hw.2.1; go_simp; first | done | with_reducible rfl | rfl
    simp only [Act.put, List.getElem_toArray, List.getElem_cons_zero, List.getElem_cons_succ, List.setIfInBounds_toArray, List.set_cons_zero, List.set_cons_succ]
    apply s_val (v := .bool true)
    case ho => rfl
    case hw => rfl
    case hv => intro w hw; have q := tR; go_simp; first | done | with_reducible rfl | rfl
    simp only [Act.put, List.getElem_toArray, List.getElem_cons_zero, List.getElem_cons_succ, List.setIfInBounds_toArray, List.set_cons_zero, List.set_cons_succ]
    apply s_val
    case ho => rfl
    case hw => rfl
    case hv => intro w hw; obtain ⟨x0, x1, x2, x3, x4, x5⟩ := arr6 hw.1; obtain ⟨y0, y1, y2, y3, y4, y5⟩ := arr6 hw.2.1; go_simp; first | done | with_reducible rfl | rfl
    simp only [Act.put, List.getElem_toArray, List.getElem_cons_zero, List.getElem_cons_succ, List.setIfInBounds_toArray, List.set_cons_zero, List.set_cons_succ]
    apply s_val
    case ho => rfl
    case hw => rfl
    case hv => intro w hw; obtain ⟨x0, x1, x2, x3, x4, x5⟩ := arr6 hw.1; obtain ⟨y0, y1, y2, y3, y4, y5⟩ := arr6 hw.2.1; go_simp; first | done | with_reducible rfl | rfl
    simp only [Act.put, List.getElem_toArray, List.getElem_cons_zero, List.getElem_cons_succ, List.setIfInBounds_toArray, List.set_cons_zero, List.set_cons_succ]
    apply s_val
    case ho => rfl
    case hw => rfl
    case hv => intro w hw; obtain ⟨x0, x1, x2, x3, x4, x5⟩ := arr6 hw.1; obtain ⟨y0, y1, y2, y3, y4, y5⟩ := arr6 hw.2.1; go_simp; first | done | with_reducible rfl | rfl
    simp only [Act.put, List.getElem_toArray, List.getElem_cons_zero, List.getElem_cons_succ, List.setIfInBounds_toArray, List.set_cons_zero, List.set_cons_succ]
    apply s_val
    case ho => rfl
    case hw => rfl
    case hv => intro w hw; obtain ⟨x0, x1, x2, x3, x4, x5⟩ := arr6 hw.1; obtain ⟨y0, y1, y2, y3, y4, y5⟩ := arr6 hw.2.1; go_simp; first | done | with_reducible rfl | rfl
    simp only [Act.put, List.getElem_toArray, List.getElem_cons_zero, List.getElem_cons_succ, List.setIfInBounds_toArray, List.set_cons_zero, List.set_cons_succ]
    apply s_val
    case ho => rfl
    case hw => rfl
    case hv => intro w hw; obtain ⟨x0, x1, x2, x3, x4, x5⟩ := arr6 hw.1; obtain ⟨y0, y1, y2, y3, y4, y5⟩ := arr6 hw.2.1; go_simp; first | done | with_reducible rfl | rfl
    simp only [Act.put, List.getElem_toArray, List.getElem_cons_zero, List.getElem_cons_succ, List.setIfInBounds_toArray, List.set_cons_zero, List.set_cons_succ]
    apply s_val
    case ho => rfl
    case hw => rfl
    case hv => intro w hw; obtain ⟨x0, x1, x2, x3, x4, x5⟩ := arr6 hw.1; obtain ⟨y0, y1, y2, y3, y4, y5⟩ := arr6 hw.2.1; go_simp; first | done | with_reducible rfl | rfl
    simp only [Act.put, List.getElem_toArray, List.getElem_cons_zero, List.getElem_cons_succ, List.setIfInBounds_toArray, List.set_cons_zero, List.set_cons_succ]
    apply s_val (v := .bool true)
    case ho => rfl
    case hw => rfl
    case hv => intro w hw; have q := tY; go_simp; first | done | with_reducible rfl | rfl
    simp only [Act.put, List.getElem_toArray, List.getElem_cons_zero, List.getElem_cons_succ, List.setIfInBounds_toArray, List.set_cons_zero, List.set_cons_succ]
    apply s_val
    case ho => rfl
    case hw => rfl
    case hv => intro w hw; obtain ⟨x0, x1, x2, x3, x4, x5⟩ := arr6 hw.1; obtain ⟨y0, y1, y2, y3, y4, y5⟩ := arr6 hw.2.1; go_simp; first | done | with_reducible rfl | rfl
    simp only [Act.put, List.getElem_toArray, List.getElem_cons_zero, List.getElem_cons_succ, List.setIfInBounds_toArray, List.set_cons_zero, List.set_cons_succ]
    apply s_val
    case ho => rfl
    case hw => rfl
    case hv => intro w hw; obtain ⟨x0, x1, x2, x3, x4, x5⟩ := arr6 hw.1; obtain ⟨y0, y1, y2, y3, y4, y5⟩ := arr6 hw.2.1; go_simp; first | done | with_reducible rfl | rfl
    simp only [Act.put, List.getElem_toArray, List.getElem_cons_zero, List.getElem_cons_succ, List.setIfInBounds_toArray, List.set_cons_zero, List.set_cons_succ]
    apply s_val
    case ho => rfl
    case hw => rfl
    case hv => intro w hw; obtain ⟨x0, x1, x2, x3, x4, x5⟩ := arr6 hw.1; obtain ⟨y0, y1, y2, y3, y4, y5⟩ := arr6 hw.2.1; go_simp; first | done | with_reducible rfl | rfl
    simp only [Act.put, List.getElem_toArray, List.getElem_cons_zero, List.getElem_cons_succ, List.setIfInBounds_toArray, List.set_cons_zero, List.set_cons_succ]
    apply s_val
    case ho => rfl
    case hw => rfl
    case hv => intro w hw; obtain ⟨x0, x1, x2, x3, x4, x5⟩ := arr6 hw.1; obtain ⟨y0, y1, y2, y3, y4, y5⟩ := arr6 hw.2.1; go_simp; first | done | with_reducible rfl | rfl
    simp only [Act.put, List.getElem_toArray, List.getElem_cons_zero, List.getElem_cons_succ, List.setIfInBounds_toArray, List.set_cons_zero, List.set_cons_succ]
    apply s_val
    case ho => rfl
    case hw => rfl
    case hv => intro w hw; obtain ⟨x0, x1, x2, x3, x4, x5⟩ := arr6 hw.1; obtain ⟨y0, y1, y2, y3, y4, y5⟩ := arr6 hw.2.1; go_simp; first | done | with_reducible rfl | rfl
    simp only [Act.put, List.getElem_toArray, List.getElem_cons_zero, List.getElem_cons_succ, List.setIfInBounds_toArray, List.set_cons_zero, List.set_cons_succ]
    apply s_val
    case ho => rfl
    case hw => rfl
    case hv => intro w hw; obtain ⟨x0, x1, x2, x3, x4, x5⟩ := arr6 hw.1; obtain ⟨y0, y1, y2, y3, y4, y5⟩ := arr6 hw.2.1; go_simp; first | done | with_reducible rfl | rfl
    simp only [Act.put, List.getElem_toArray, List.getElem_cons_zero, List.getElem_cons_succ, List.setIfInBounds_toArray, List.set_cons_zero, List.set_cons_succ]
    apply s_val (v := .bool true)
    case ho => rfl
    case hw => rfl
    case hv => intro w hw; have q := eN; go_simp; first | done | with_reducible rfl | rfl
    simp only [Act.put, List.getElem_toArray, List.getElem_cons_zero, List.getElem_cons_succ, List.setIfInBounds_toArray, List.set_cons_zero, List.set_cons_succ]
    apply s_val
    case ho => rfl
    case hw => rfl
    case hv => intro w hw; obtain ⟨x0, x1, x2, x3, x4, x5⟩ := arr6 hw.1; obtain ⟨y0, y1, y2, y3, y4, y5⟩ := arr6 hw.2.1; go_simp; first | done | with_reducible rfl | rfl
    simp only [Act.put, List.getElem_toArray, List.getElem_cons_zero, List.getElem_cons_succ, List.setIfInBounds_toArray, List.set_cons_zero, List.set_cons_succ]
    apply s_val
    case ho => rfl
    case hw => rfl
    case hv => intro w hw; obtain ⟨x0, x1, x2, x3, x4, x5⟩ := arr6 hw.1; obtain ⟨y0, y1, y2, y3, y4, y5⟩ := arr6 hw.2.1; go_simp; first | done | with_reducible rfl | rfl
    simp only [Act.put, List.getElem_toArray, List.getElem_cons_zero, List.getElem_cons_succ, List.setIfInBounds_toArray, List.set_cons_zero, List.set_cons_succ]
    refine NoPanic.normal ?_
    go_wp2_with fail
    go_ret
    exact ⟨rfl, HX2.out⟩

section
variable {ops : Array Oper} {rest : List Oper} {o : Oper} {a : Act} {w : World} {Q : Exit → Act → World → Prop}
theorem wpL_getg (hw : Region.wanted o (yielded ops a.tmps) = true) (x : Operand) (ho : o.op = .load 26 x) (b : Nat) (l : List UInt8) (hx : a.eval x = .pointer (some ⟨b, 0, none⟩)) (hl : l.length = 32) (hg : Arr w b 26 (u8s l))
    (h : wpList Tryd.prog ops Q rest (a.put o.dst (.agg (u8s l).toArray)) w) : wpList Tryd.prog ops Q (o :: rest) a w :=
  wpList_load_row_g hw 26 x ho b hx 26 _ (0, 0) _ hg hash_row rfl (hash_size hl) h
theorem wpL_getEg (hw : Region.wanted o (yielded ops a.tmps) = true) (x : Operand) (ho : o.op = .load 24 x) (b : Nat) (xs : List Value) (hx : a.eval x = .pointer (some ⟨b, 0, none⟩)) (hl : xs.length = 6) (hg : Arr w b 24 xs)
    (h : wpList Tryd.prog ops Q rest (a.put o.dst (.agg xs.toArray)) w) : wpList Tryd.prog ops Q (o :: rest) a w := by
  obtain ⟨fs, hu⟩ := ev_row
  exact wpList_load_row_g hw 24 x ho b hx 24 _ (0, 0) _ hg hu rfl (ev_size xs hl) h
end
theorem mark_inj {e f : Ev} (he : evOk e = true) (hf : evOk f = true) (h : markS 7 e = markS 7 f) : e = f := by
  unfold markS at h
  rw [if_pos he, if_pos hf] at h
  have h2 := mkS_inj h
  simp only [List.cons.injEq, true_and] at h2
  have h3 : evB e = evB f := by rw [← mkS_of (evB e), h2, mkS_of]
  have h4 := evP_back he
  rw [h3, evP_back hf] at h4
  exact (Option.some.inj h4).symm
set_option maxHeartbeats 16000000 in
theorem walk_redactApart (w : World) (r s : ByteArray) (k : Nat) (y b : ByteArray) (n : Int) (hk : k < 256) (hn : (Lit.int .i64 n).wf = true) (hr : r.size ≤ 140737488351232) (hs : s.size ≤ 140737488351232) (hy : y.size ≤ 140737488351232) (hb : b.size ≤ 140737488351232) (r2 s2 : ByteArray) (k2 : Nat) (y2 b2 : ByteArray) (n2 : Int) (hk2 : k2 < 256) (hn2 : (Lit.int .i64 n2).wf = true) (hr2 : r2.size ≤ 140737488351232) (hs2 : s2.size ≤ 140737488351232) (hy2 : y2.size ≤ 140737488351232) (hb2 : b2.size ≤ 140737488351232) (hI : IT w) (hW : WT w) (hK : Sh.KT w) :
    Calls Tryd.prog 5 #[.agg #[.string r, .string s, .int .u8 (k : Int), .string y, .string b, .int .i64 n], .agg #[.string r2, .string s2, .int .u8 (k2 : Int), .string y2, .string b2, .int .i64 n2]] w fun e w' => e = .returned (.bool true) ∧ Below w.heap.size w w' := by
  have HI := hidp hI; have HW := hidp hW; have HK := hidp hK; have hkp := hK.pos; clear hI hW hK
  have L := hidp (fun W (a : IT W) (b : WT W) (c : Sh.KT W) => lives13_any W a b c)
  have c1 := hidp (fun W a b' c => content_any W r s k y b n hk (by omega) (by omega) (by omega) (by omega) a b' c)
  have c2 := hidp (fun W a b' c => content_any W r2 s2 k2 y2 b2 n2 hk2 (by omega) (by omega) (by omega) (by omega) a b' c)
  have hAl := hidp (markH_len 7 (⟨r, s, k, y, b, n⟩ : Ev)); have hCl := hidp (markH_len 7 (⟨r2, s2, k2, y2, b2, n2⟩ : Ev))
  cases hok : evOk (⟨r, s, k, y, b, n⟩ : Ev) with
  | false =>
    have hE : evE (⟨r, s, k, y, b, n⟩ : Ev) = 2 := by unfold evE; rw [hok]; rfl
    obtain ⟨A, hA⟩ : ∃ A, markH 7 (⟨r, s, k, y, b, n⟩ : Ev) = A := ⟨_, rfl⟩
    obtain ⟨C, hC⟩ : ∃ A, markH 7 (⟨r2, s2, k2, y2, b2, n2⟩ : Ev) = A := ⟨_, rfl⟩
    obtain ⟨E2, hE2⟩ : ∃ A, evE (⟨r2, s2, k2, y2, b2, n2⟩ : Ev) = A := ⟨_, rfl⟩
    rw [hA, hE] at c1
    rw [hC, hE2] at c2
    rw [hA] at hAl
    rw [hC] at hCl
    clear hA hC hE hE2 hok
    go_enter Tryd.func5, Tryd.ntmps5
    go_wp2_with (first | (refine wpL_boxT 24 rfl (.tmp 0) rfl [.string r, .string s, .int .u8 (k : Int), .string y, .string b, .int .i64 n] rfl ?_; intro p1 w1 n1; have HB1 := hidp n1.below; have hg_p1 := hidp n1.le; have HA1 := hidp n1.arr; clear n1) | (refine wpL_boxT 24 rfl (.tmp 1) rfl [.string r2, .string s2, .int .u8 (k2 : Int), .string y2, .string b2, .int .i64 n2] rfl ?_; intro p2 w2 n2; have HB2 := hidp (HB1.out.trans (n2.below.mono HB1.out.size)); have hg_p2 := hidp (Nat.le_trans HB1.out.size n2.le); have HA2 := hidp (n2.old HA1.out); have hl_HA_p2 := hidp (show p1 < p2 from by have := n2.at_; have := HA1.out.lt; omega); have HF2 := hidp n2.arr; clear n2 HA1 HB1))
    refine (L.out _ (HI.out.below HB2.out (Nat.le_refl _)) (HW.out.below HB2.out (Nat.le_refl _)) (HK.out.below HB2.out hkp)).mono ?_
    rintro e w3 ⟨rfl, hb⟩
    have HB3 := hidp (HB2.out.trans (hb.mono HB2.out.size))
    have HA3 := hidp (HA2.out.below hb HA2.out.lt)
    have HF3 := hidp (HF2.out.below hb HF2.out.lt)
    clear hb HB2 HA2 HF2
    go_wp2_with (refine wpL_getE rfl (.tmp 2) rfl p1 [.string r, .string s, .int .u8 (k : Int), .string y, .string b, .int .i64 n] rfl rfl HA3.out ?_)
    refine (c1.out _ (HI.out.below HB3.out (Nat.le_refl _)) (HW.out.below HB3.out (Nat.le_refl _)) (HK.out.below HB3.out hkp)).mono ?_
    rintro e w4 ⟨rfl, hb⟩
    have HB4 := hidp (HB3.out.trans (hb.mono HB3.out.size))
    have HA4 := hidp (HA3.out.below hb HA3.out.lt)
    have HF4 := hidp (HF3.out.below hb HF3.out.lt)
    clear hb HB3 HA3 HF3
    go_wp2_with (first | (refine wpL_new rfl rfl ?_; intro p5 w5 n5; have HB5 := hidp (HB4.out.trans (n5.below.mono HB4.out.size)); have hg_p5 := hidp (Nat.le_trans HB4.out.size n5.le); have HA5 := hidp (n5.old HA4.out); have hl_HA_p5 := hidp (show p1 < p5 from by have := n5.at_; have := HA4.out.lt; omega); have HF5 := hidp (n5.old HF4.out); have hl_HF_p5 := hidp (show p2 < p5 from by have := n5.at_; have := HF4.out.lt; omega); have H55 := hidp n5.arr; clear n5 HA4 HF4 HB4) | (refine wpL_put rfl (.tmp 5) (.tmp 16) rfl p5 A rfl rfl hAl.out _ rfl H55.out ?_; intro w6 ha hp; have HB6 := hidp (hp.below' HB5.out hg_p5.out); have HA6 := hidp (hp.arr (by have := hl_HA_p5.out; omega) HA5.out); have HF6 := hidp (hp.arr (by have := hl_HF_p5.out; omega) HF5.out); have H56 := hidp ha; clear ha hp HB5 HA5 HF5 H55) | (refine wpL_getE rfl (.tmp 3) rfl p2 [.string r2, .string s2, .int .u8 (k2 : Int), .string y2, .string b2, .int .i64 n2] rfl rfl HF6.out ?_))
    refine (c2.out _ (HI.out.below HB6.out (Nat.le_refl _)) (HW.out.below HB6.out (Nat.le_refl _)) (HK.out.below HB6.out hkp)).mono ?_
    rintro e w7 ⟨rfl, hb⟩
    have HB7 := hidp (HB6.out.trans (hb.mono HB6.out.size))
    have HA7 := hidp (HA6.out.below hb HA6.out.lt)
    have HF7 := hidp (HF6.out.below hb HF6.out.lt)
    have H57 := hidp (H56.out.below hb H56.out.lt)
    clear hb HB6 HA6 HF6 H56
    go_wp2_with (first | (refine wpL_new rfl rfl ?_; intro p7 w8 n8; have HB8 := hidp (HB7.out.trans (n8.below.mono HB7.out.size)); have hg_p7 := hidp (Nat.le_trans HB7.out.size n8.le); have HA8 := hidp (n8.old HA7.out); have hl_HA_p7 := hidp (show p1 < p7 from by have := n8.at_; have := HA7.out.lt; omega); have HF8 := hidp (n8.old HF7.out); have hl_HF_p7 := hidp (show p2 < p7 from by have := n8.at_; have := HF7.out.lt; omega); have H58 := hidp (n8.old H57.out); have hl_H5_p7 := hidp (show p5 < p7 from by have := n8.at_; have := H57.out.lt; omega); have H78 := hidp n8.arr; clear n8 HA7 HF7 H57 HB7) | (refine wpL_put rfl (.tmp 7) (.tmp 21) rfl p7 C rfl rfl hCl.out _ rfl H78.out ?_; intro w9 ha hp; have HB9 := hidp (hp.below' HB8.out hg_p7.out); have HA9 := hidp (hp.arr (by have := hl_HA_p7.out; omega) HA8.out); have HF9 := hidp (hp.arr (by have := hl_HF_p7.out; omega) HF8.out); have H59 := hidp (hp.arr (by have := hl_H5_p7.out; omega) H58.out); have H79 := hidp ha; clear ha hp HB8 HA8 HF8 H58 H78))
    go_ret
    exact ⟨rfl, HB9.out⟩
  | true =>
    have hE : evE (⟨r, s, k, y, b, n⟩ : Ev) = 0 := by unfold evE; rw [hok]; rfl
    cases hok2 : evOk (⟨r2, s2, k2, y2, b2, n2⟩ : Ev) with
    | false =>
      have hE2 : evE (⟨r2, s2, k2, y2, b2, n2⟩ : Ev) = 2 := by unfold evE; rw [hok2]; rfl
      obtain ⟨A, hA⟩ : ∃ A, markH 7 (⟨r, s, k, y, b, n⟩ : Ev) = A := ⟨_, rfl⟩
      obtain ⟨C, hC⟩ : ∃ A, markH 7 (⟨r2, s2, k2, y2, b2, n2⟩ : Ev) = A := ⟨_, rfl⟩
      rw [hA, hE] at c1
      rw [hC, hE2] at c2
      rw [hA] at hAl
      rw [hC] at hCl
      clear hA hC hE hE2 hok hok2
      go_enter Tryd.func5, Tryd.ntmps5
      go_wp2_with (first | (refine wpL_boxT 24 rfl (.tmp 0) rfl [.string r, .string s, .int .u8 (k : Int), .string y, .string b, .int .i64 n] rfl ?_; intro p1 w1 n1; have HB1 := hidp n1.below; have hg_p1 := hidp n1.le; have HA1 := hidp n1.arr; clear n1) | (refine wpL_boxT 24 rfl (.tmp 1) rfl [.string r2, .string s2, .int .u8 (k2 : Int), .string y2, .string b2, .int .i64 n2] rfl ?_; intro p2 w2 n2; have HB2 := hidp (HB1.out.trans (n2.below.mono HB1.out.size)); have hg_p2 := hidp (Nat.le_trans HB1.out.size n2.le); have HA2 := hidp (n2.old HA1.out); have hl_HA_p2 := hidp (show p1 < p2 from by have := n2.at_; have := HA1.out.lt; omega); have HF2 := hidp n2.arr; clear n2 HA1 HB1))
      refine (L.out _ (HI.out.below HB2.out (Nat.le_refl _)) (HW.out.below HB2.out (Nat.le_refl _)) (HK.out.below HB2.out hkp)).mono ?_
      rintro e w3 ⟨rfl, hb⟩
      have HB3 := hidp (HB2.out.trans (hb.mono HB2.out.size))
      have HA3 := hidp (HA2.out.below hb HA2.out.lt)
      have HF3 := hidp (HF2.out.below hb HF2.out.lt)
      clear hb HB2 HA2 HF2
      go_wp2_with (refine wpL_getE rfl (.tmp 2) rfl p1 [.string r, .string s, .int .u8 (k : Int), .string y, .string b, .int .i64 n] rfl rfl HA3.out ?_)
      refine (c1.out _ (HI.out.below HB3.out (Nat.le_refl _)) (HW.out.below HB3.out (Nat.le_refl _)) (HK.out.below HB3.out hkp)).mono ?_
      rintro e w4 ⟨rfl, hb⟩
      have HB4 := hidp (HB3.out.trans (hb.mono HB3.out.size))
      have HA4 := hidp (HA3.out.below hb HA3.out.lt)
      have HF4 := hidp (HF3.out.below hb HF3.out.lt)
      clear hb HB3 HA3 HF3
      go_wp2_with (first | (refine wpL_new rfl rfl ?_; intro p5 w5 n5; have HB5 := hidp (HB4.out.trans (n5.below.mono HB4.out.size)); have hg_p5 := hidp (Nat.le_trans HB4.out.size n5.le); have HA5 := hidp (n5.old HA4.out); have hl_HA_p5 := hidp (show p1 < p5 from by have := n5.at_; have := HA4.out.lt; omega); have HF5 := hidp (n5.old HF4.out); have hl_HF_p5 := hidp (show p2 < p5 from by have := n5.at_; have := HF4.out.lt; omega); have H55 := hidp n5.arr; clear n5 HA4 HF4 HB4) | (refine wpL_put rfl (.tmp 5) (.tmp 16) rfl p5 A rfl rfl hAl.out _ rfl H55.out ?_; intro w6 ha hp; have HB6 := hidp (hp.below' HB5.out hg_p5.out); have HA6 := hidp (hp.arr (by have := hl_HA_p5.out; omega) HA5.out); have HF6 := hidp (hp.arr (by have := hl_HF_p5.out; omega) HF5.out); have H56 := hidp ha; clear ha hp HB5 HA5 HF5 H55) | (refine wpL_getE rfl (.tmp 3) rfl p2 [.string r2, .string s2, .int .u8 (k2 : Int), .string y2, .string b2, .int .i64 n2] rfl rfl HF6.out ?_))
      refine (c2.out _ (HI.out.below HB6.out (Nat.le_refl _)) (HW.out.below HB6.out (Nat.le_refl _)) (HK.out.below HB6.out hkp)).mono ?_
      rintro e w7 ⟨rfl, hb⟩
      have HB7 := hidp (HB6.out.trans (hb.mono HB6.out.size))
      have HA7 := hidp (HA6.out.below hb HA6.out.lt)
      have HF7 := hidp (HF6.out.below hb HF6.out.lt)
      have H57 := hidp (H56.out.below hb H56.out.lt)
      clear hb HB6 HA6 HF6 H56
      go_wp2_with (first | (refine wpL_new rfl rfl ?_; intro p7 w8 n8; have HB8 := hidp (HB7.out.trans (n8.below.mono HB7.out.size)); have hg_p7 := hidp (Nat.le_trans HB7.out.size n8.le); have HA8 := hidp (n8.old HA7.out); have hl_HA_p7 := hidp (show p1 < p7 from by have := n8.at_; have := HA7.out.lt; omega); have HF8 := hidp (n8.old HF7.out); have hl_HF_p7 := hidp (show p2 < p7 from by have := n8.at_; have := HF7.out.lt; omega); have H58 := hidp (n8.old H57.out); have hl_H5_p7 := hidp (show p5 < p7 from by have := n8.at_; have := H57.out.lt; omega); have H78 := hidp n8.arr; clear n8 HA7 HF7 H57 HB7) | (refine wpL_put rfl (.tmp 7) (.tmp 21) rfl p7 C rfl rfl hCl.out _ rfl H78.out ?_; intro w9 ha hp; have HB9 := hidp (hp.below' HB8.out hg_p7.out); have HA9 := hidp (hp.arr (by have := hl_HA_p7.out; omega) HA8.out); have HF9 := hidp (hp.arr (by have := hl_HF_p7.out; omega) HF8.out); have H59 := hidp (hp.arr (by have := hl_H5_p7.out; omega) H58.out); have H79 := hidp ha; clear ha hp HB8 HA8 HF8 H58 H78))
      go_ret
      exact ⟨rfl, HB9.out⟩
    | true =>
      have hE2 : evE (⟨r2, s2, k2, y2, b2, n2⟩ : Ev) = 0 := by unfold evE; rw [hok2]; rfl
      rw [hE] at c1
      rw [hE2] at c2
      by_cases hAC : markH 7 (⟨r, s, k, y, b, n⟩ : Ev) = markH 7 (⟨r2, s2, k2, y2, b2, n2⟩ : Ev)
      · by_cases hev : r = r2 ∧ s = s2 ∧ k = k2 ∧ y = y2 ∧ b = b2 ∧ n = n2
        · obtain ⟨rfl, rfl, rfl, rfl, rfl, rfl⟩ := hev
          obtain ⟨A, hA⟩ : ∃ A, markH 7 (⟨r, s, k, y, b, n⟩ : Ev) = A := ⟨_, rfl⟩
          rw [hA] at c1 c2 hAl
          have q := fun W => eqin_same W A hAl.out
          have q2 := fun W => eqin_event W r s (k : Int) y b n
          clear hA hE hE2 hok hok2 hAC hCl
          go_enter Tryd.func5, Tryd.ntmps5
          go_wp2_with (first | (refine wpL_boxT 24 rfl (.tmp 0) rfl [.string r, .string s, .int .u8 (k : Int), .string y, .string b, .int .i64 n] rfl ?_; intro p1 w1 n1; have HB1 := hidp n1.below; have hg_p1 := hidp n1.le; have HA1 := hidp n1.arr; clear n1) | (refine wpL_boxT 24 rfl (.tmp 1) rfl [.string r, .string s, .int .u8 (k : Int), .string y, .string b, .int .i64 n] rfl ?_; intro p2 w2 n2; have HB2 := hidp (HB1.out.trans (n2.below.mono HB1.out.size)); have hg_p2 := hidp (Nat.le_trans HB1.out.size n2.le); have HA2 := hidp (n2.old HA1.out); have hl_HA_p2 := hidp (show p1 < p2 from by have := n2.at_; have := HA1.out.lt; omega); have HF2 := hidp n2.arr; clear n2 HA1 HB1))
          refine (L.out _ (HI.out.below HB2.out (Nat.le_refl _)) (HW.out.below HB2.out (Nat.le_refl _)) (HK.out.below HB2.out hkp)).mono ?_
          rintro e w3 ⟨rfl, hb⟩
          have HB3 := hidp (HB2.out.trans (hb.mono HB2.out.size))
          have HA3 := hidp (HA2.out.below hb HA2.out.lt)
          have HF3 := hidp (HF2.out.below hb HF2.out.lt)
          clear hb HB2 HA2 HF2
          go_wp2_with (refine wpL_getE rfl (.tmp 2) rfl p1 [.string r, .string s, .int .u8 (k : Int), .string y, .string b, .int .i64 n] rfl rfl HA3.out ?_)
          refine (c1.out _ (HI.out.below HB3.out (Nat.le_refl _)) (HW.out.below HB3.out (Nat.le_refl _)) (HK.out.below HB3.out hkp)).mono ?_
          rintro e w4 ⟨rfl, hb⟩
          have HB4 := hidp (HB3.out.trans (hb.mono HB3.out.size))
          have HA4 := hidp (HA3.out.below hb HA3.out.lt)
          have HF4 := hidp (HF3.out.below hb HF3.out.lt)
          clear hb HB3 HA3 HF3
          go_wp2_with (first | (refine wpL_new rfl rfl ?_; intro p5 w5 n5; have HB5 := hidp (HB4.out.trans (n5.below.mono HB4.out.size)); have hg_p5 := hidp (Nat.le_trans HB4.out.size n5.le); have HA5 := hidp (n5.old HA4.out); have hl_HA_p5 := hidp (show p1 < p5 from by have := n5.at_; have := HA4.out.lt; omega); have HF5 := hidp (n5.old HF4.out); have hl_HF_p5 := hidp (show p2 < p5 from by have := n5.at_; have := HF4.out.lt; omega); have H55 := hidp n5.arr; clear n5 HA4 HF4 HB4) | (refine wpL_put rfl (.tmp 5) (.tmp 16) rfl p5 A rfl rfl hAl.out _ rfl H55.out ?_; intro w6 ha hp; have HB6 := hidp (hp.below' HB5.out hg_p5.out); have HA6 := hidp (hp.arr (by have := hl_HA_p5.out; omega) HA5.out); have HF6 := hidp (hp.arr (by have := hl_HF_p5.out; omega) HF5.out); have H56 := hidp ha; clear ha hp HB5 HA5 HF5 H55) | (refine wpL_getE rfl (.tmp 3) rfl p2 [.string r, .string s, .int .u8 (k : Int), .string y, .string b, .int .i64 n] rfl rfl HF6.out ?_))
          refine (c2.out _ (HI.out.below HB6.out (Nat.le_refl _)) (HW.out.below HB6.out (Nat.le_refl _)) (HK.out.below HB6.out hkp)).mono ?_
          rintro e w7 ⟨rfl, hb⟩
          have HB7 := hidp (HB6.out.trans (hb.mono HB6.out.size))
          have HA7 := hidp (HA6.out.below hb HA6.out.lt)
          have HF7 := hidp (HF6.out.below hb HF6.out.lt)
          have H57 := hidp (H56.out.below hb H56.out.lt)
          clear hb HB6 HA6 HF6 H56
          go_wp2_with (first | (refine wpL_new rfl rfl ?_; intro p7 w8 n8; have HB8 := hidp (HB7.out.trans (n8.below.mono HB7.out.size)); have hg_p7 := hidp (Nat.le_trans HB7.out.size n8.le); have HA8 := hidp (n8.old HA7.out); have hl_HA_p7 := hidp (show p1 < p7 from by have := n8.at_; have := HA7.out.lt; omega); have HF8 := hidp (n8.old HF7.out); have hl_HF_p7 := hidp (show p2 < p7 from by have := n8.at_; have := HF7.out.lt; omega); have H58 := hidp (n8.old H57.out); have hl_H5_p7 := hidp (show p5 < p7 from by have := n8.at_; have := H57.out.lt; omega); have H78 := hidp n8.arr; clear n8 HA7 HF7 H57 HB7) | (refine wpL_put rfl (.tmp 7) (.tmp 21) rfl p7 A rfl rfl hAl.out _ rfl H78.out ?_; intro w9 ha hp; have HB9 := hidp (hp.below' HB8.out hg_p7.out); have HA9 := hidp (hp.arr (by have := hl_HA_p7.out; omega) HA8.out); have HF9 := hidp (hp.arr (by have := hl_HF_p7.out; omega) HF8.out); have H59 := hidp (hp.arr (by have := hl_H5_p7.out; omega) H58.out); have H79 := hidp ha; clear ha hp HB8 HA8 HF8 H58 H78) | (refine wpL_getg (by first | rfl | decide) (.tmp 5) rfl p5 A rfl hAl.out H59.out ?_) | (refine wpL_getg (by first | rfl | decide) (.tmp 7) rfl p7 A rfl hAl.out H79.out ?_) | (refine wpL_getEg (by first | rfl | decide) (.tmp 2) rfl p1 [.string r, .string s, .int .u8 (k : Int), .string y, .string b, .int .i64 n] rfl rfl HA9.out ?_) | (refine wpL_getEg (by first | rfl | decide) (.tmp 3) rfl p2 [.string r, .string s, .int .u8 (k : Int), .string y, .string b, .int .i64 n] rfl rfl HF9.out ?_))
          go_ret
          exact ⟨rfl, HB9.out⟩
        · have ct := hidp (fun W => text_any W 7 r s k y b n hk (by omega) (by omega) (by omega) (by omega))
          have cu := hidp (fun W => text_any W 7 r2 s2 k2 y2 b2 n2 hk2 (by omega) (by omega) (by omega) (by omega))
          have hne : markS 7 (⟨r, s, k, y, b, n⟩ : Ev) ≠ markS 7 (⟨r2, s2, k2, y2, b2, n2⟩ : Ev) := fun h => hev (by have := mark_inj hok hok2 h; simp only [Ev.mk.injEq] at this; exact this)
          obtain ⟨-, -, z1⟩ := ds_mark 7 (⟨r, s, k, y, b, n⟩ : Ev)
          obtain ⟨-, -, z2⟩ := ds_mark 7 (⟨r2, s2, k2, y2, b2, n2⟩ : Ev)
          have m1 : Sh.shaL (markS 7 (⟨r, s, k, y, b, n⟩ : Ev)).data.toList = markH 7 (⟨r, s, k, y, b, n⟩ : Ev) := by unfold markS markH; rw [if_pos hok, if_pos hok, mkS_data]
          have m2 : Sh.shaL (markS 7 (⟨r2, s2, k2, y2, b2, n2⟩ : Ev)).data.toList = markH 7 (⟨r2, s2, k2, y2, b2, n2⟩ : Ev) := by unfold markS markH; rw [if_pos hok2, if_pos hok2, mkS_data]
          have cx := hidp (fun W => rsum_b W (markS 7 (⟨r, s, k, y, b, n⟩ : Ev)) (by omega))
          have cy := hidp (fun W => rsum_b W (markS 7 (⟨r2, s2, k2, y2, b2, n2⟩ : Ev)) (by omega))
          rw [m1] at cx
          rw [m2, ← hAC] at cy
          rw [← hAC] at c2
          obtain ⟨A, hA⟩ : ∃ A, markH 7 (⟨r, s, k, y, b, n⟩ : Ev) = A := ⟨_, rfl⟩
          obtain ⟨P1, hP1⟩ : ∃ A, markS 7 (⟨r, s, k, y, b, n⟩ : Ev) = A := ⟨_, rfl⟩
          obtain ⟨P2, hP2⟩ : ∃ A, markS 7 (⟨r2, s2, k2, y2, b2, n2⟩ : Ev) = A := ⟨_, rfl⟩
          rw [hA] at c1 c2 hAl cx cy
          rw [hP1] at ct cx hne
          rw [hP2] at cu cy hne
          have tP : (P1.toList != P2.toList) = true := by unfold bne; rw [toList_no hne]; rfl
          have tP2 := toList_no hne
          have tP3 : ¬ P1.toList = P2.toList := fun h => by rw [h] at tP2; simp at tP2
          have q := fun W => eqin_same W A hAl.out
          have q2 := fun W => eqin_ev_ne W r s k y b n r2 s2 k2 y2 b2 n2 hev
          clear hA hP1 hP2 hne z1 z2 m1 m2 hE hE2 hok hok2 hAC hCl hev
          go_enter Tryd.func5, Tryd.ntmps5
          go_wp2_with (first | (refine wpL_boxT 24 rfl (.tmp 0) rfl [.string r, .string s, .int .u8 (k : Int), .string y, .string b, .int .i64 n] rfl ?_; intro p1 w1 n1; have HB1 := hidp n1.below; have hg_p1 := hidp n1.le; have HA1 := hidp n1.arr; clear n1) | (refine wpL_boxT 24 rfl (.tmp 1) rfl [.string r2, .string s2, .int .u8 (k2 : Int), .string y2, .string b2, .int .i64 n2] rfl ?_; intro p2 w2 n2; have HB2 := hidp (HB1.out.trans (n2.below.mono HB1.out.size)); have hg_p2 := hidp (Nat.le_trans HB1.out.size n2.le); have HA2 := hidp (n2.old HA1.out); have hl_HA_p2 := hidp (show p1 < p2 from by have := n2.at_; have := HA1.out.lt; omega); have HF2 := hidp n2.arr; clear n2 HA1 HB1))
          refine (L.out _ (HI.out.below HB2.out (Nat.le_refl _)) (HW.out.below HB2.out (Nat.le_refl _)) (HK.out.below HB2.out hkp)).mono ?_
          rintro e w3 ⟨rfl, hb⟩
          have HB3 := hidp (HB2.out.trans (hb.mono HB2.out.size))
          have HA3 := hidp (HA2.out.below hb HA2.out.lt)
          have HF3 := hidp (HF2.out.below hb HF2.out.lt)
          clear hb HB2 HA2 HF2
          go_wp2_with (refine wpL_getE rfl (.tmp 2) rfl p1 [.string r, .string s, .int .u8 (k : Int), .string y, .string b, .int .i64 n] rfl rfl HA3.out ?_)
          refine (c1.out _ (HI.out.below HB3.out (Nat.le_refl _)) (HW.out.below HB3.out (Nat.le_refl _)) (HK.out.below HB3.out hkp)).mono ?_
          rintro e w4 ⟨rfl, hb⟩
          have HB4 := hidp (HB3.out.trans (hb.mono HB3.out.size))
          have HA4 := hidp (HA3.out.below hb HA3.out.lt)
          have HF4 := hidp (HF3.out.below hb HF3.out.lt)
          clear hb HB3 HA3 HF3
          go_wp2_with (first | (refine wpL_new rfl rfl ?_; intro p5 w5 n5; have HB5 := hidp (HB4.out.trans (n5.below.mono HB4.out.size)); have hg_p5 := hidp (Nat.le_trans HB4.out.size n5.le); have HA5 := hidp (n5.old HA4.out); have hl_HA_p5 := hidp (show p1 < p5 from by have := n5.at_; have := HA4.out.lt; omega); have HF5 := hidp (n5.old HF4.out); have hl_HF_p5 := hidp (show p2 < p5 from by have := n5.at_; have := HF4.out.lt; omega); have H55 := hidp n5.arr; clear n5 HA4 HF4 HB4) | (refine wpL_put rfl (.tmp 5) (.tmp 16) rfl p5 A rfl rfl hAl.out _ rfl H55.out ?_; intro w6 ha hp; have HB6 := hidp (hp.below' HB5.out hg_p5.out); have HA6 := hidp (hp.arr (by have := hl_HA_p5.out; omega) HA5.out); have HF6 := hidp (hp.arr (by have := hl_HF_p5.out; omega) HF5.out); have H56 := hidp ha; clear ha hp HB5 HA5 HF5 H55) | (refine wpL_getE rfl (.tmp 3) rfl p2 [.string r2, .string s2, .int .u8 (k2 : Int), .string y2, .string b2, .int .i64 n2] rfl rfl HF6.out ?_))
          refine (c2.out _ (HI.out.below HB6.out (Nat.le_refl _)) (HW.out.below HB6.out (Nat.le_refl _)) (HK.out.below HB6.out hkp)).mono ?_
          rintro e w7 ⟨rfl, hb⟩
          have HB7 := hidp (HB6.out.trans (hb.mono HB6.out.size))
          have HA7 := hidp (HA6.out.below hb HA6.out.lt)
          have HF7 := hidp (HF6.out.below hb HF6.out.lt)
          have H57 := hidp (H56.out.below hb H56.out.lt)
          clear hb HB6 HA6 HF6 H56
          go_wp2_with (first | (refine wpL_new rfl rfl ?_; intro p7 w8 n8; have HB8 := hidp (HB7.out.trans (n8.below.mono HB7.out.size)); have hg_p7 := hidp (Nat.le_trans HB7.out.size n8.le); have HA8 := hidp (n8.old HA7.out); have hl_HA_p7 := hidp (show p1 < p7 from by have := n8.at_; have := HA7.out.lt; omega); have HF8 := hidp (n8.old HF7.out); have hl_HF_p7 := hidp (show p2 < p7 from by have := n8.at_; have := HF7.out.lt; omega); have H58 := hidp (n8.old H57.out); have hl_H5_p7 := hidp (show p5 < p7 from by have := n8.at_; have := H57.out.lt; omega); have H78 := hidp n8.arr; clear n8 HA7 HF7 H57 HB7) | (refine wpL_put rfl (.tmp 7) (.tmp 21) rfl p7 A rfl rfl hAl.out _ rfl H78.out ?_; intro w9 ha hp; have HB9 := hidp (hp.below' HB8.out hg_p7.out); have HA9 := hidp (hp.arr (by have := hl_HA_p7.out; omega) HA8.out); have HF9 := hidp (hp.arr (by have := hl_HF_p7.out; omega) HF8.out); have H59 := hidp (hp.arr (by have := hl_H5_p7.out; omega) H58.out); have H79 := hidp ha; clear ha hp HB8 HA8 HF8 H58 H78) | (refine wpL_getg (by first | rfl | decide) (.tmp 5) rfl p5 A rfl hAl.out H59.out ?_) | (refine wpL_getg (by first | rfl | decide) (.tmp 7) rfl p7 A rfl hAl.out H79.out ?_) | (refine wpL_getEg (by first | rfl | decide) (.tmp 2) rfl p1 [.string r, .string s, .int .u8 (k : Int), .string y, .string b, .int .i64 n] rfl rfl HA9.out ?_) | (refine wpL_getEg (by first | rfl | decide) (.tmp 3) rfl p2 [.string r2, .string s2, .int .u8 (k2 : Int), .string y2, .string b2, .int .i64 n2] rfl rfl HF9.out ?_))
          obtain ⟨U, hU⟩ : ∃ U, ({ w9 with drawn := w9.drawn + 1 } : World) = U := ⟨_, rfl⟩
          have bU : Below w9.heap.size w9 U := by rw [← hU]; exact (Below.refl _ _).drew
          have HB10 := hidp (HB9.out.trans (bU.mono HB9.out.size))
          have HA10 := hidp (HA9.out.below bU HA9.out.lt)
          have HF10 := hidp (HF9.out.below bU HF9.out.lt)
          have H510 := hidp (H59.out.below bU H59.out.lt)
          have H710 := hidp (H79.out.below bU H79.out.lt)
          clear bU HB9 HA9 HF9 H59 H79
          have HS0 := hidp (show Arr U p1 24 [.string r, .string s, .int .u8 (k : Int), .string y, .string b, .int .i64 n] ∧ Arr U p2 24 [.string r2, .string s2, .int .u8 (k2 : Int), .string y2, .string b2, .int .i64 n2] from ⟨HA10.out, HF10.out⟩)
          have HX0 := HB10
          refine wp_region_noPanic ?_
          refine wp_region_scr (S := fun W => Arr W p1 24 [.string r, .string s, .int .u8 (k : Int), .string y, .string b, .int .i64 n] ∧ Arr W p2 24 [.string r2, .string s2, .int .u8 (k2 : Int), .string y2, .string b2, .int .i64 n2]) (.take 0 (.take 2 (.one 1 (.one 3 (.take 4 (.take 5 .done)))))) (by kernel_rfl) (by kernel_rfl) (fun _ _ _ _ _ h => h) (by simp [Scr.depth]) (by kernel_rfl) (by rw [hU]; exact HS0.out) ?_
          simp only [hU]
          clear hU
          refine s_getE rfl rfl (.tmp 2) rfl p1 [.string r, .string s, .int .u8 (k : Int), .string y, .string b, .int .i64 n] rfl rfl (fun w h => h.1) ?_
          simp only [Act.put, List.getElem_toArray, List.getElem_cons_zero, List.getElem_cons_succ, List.setIfInBounds_toArray, List.set_cons_zero, List.set_cons_succ]
          refine s_getE rfl rfl (.tmp 3) rfl p2 [.string r2, .string s2, .int .u8 (k2 : Int), .string y2, .string b2, .int .i64 n2] rfl rfl (fun w h => h.2) ?_
          simp only [Act.put, List.getElem_toArray, List.getElem_cons_zero, List.getElem_cons_succ, List.setIfInBounds_toArray, List.set_cons_zero, List.set_cons_succ]
          apply o_call (f := 17) (args := #[.string ⟨#[7]⟩, .agg #[.string r, .string s, .int .u8 (k : Int), .string y, .string b, .int .i64 n]]) (v := .string P1) (hc := ct.out _)
          case ho => rfl
          case hw => rfl
          case hop => go_simp; first | done | rfl
          rintro X1 hb
          have HX1 := hidp (HX0.out.trans (hb.mono HX0.out.size))
          have HS1 := hidp (show Arr X1 p1 24 [.string r, .string s, .int .u8 (k : Int), .string y, .string b, .int .i64 n] ∧ Arr X1 p2 24 [.string r2, .string s2, .int .u8 (k2 : Int), .string y2, .string b2, .int .i64 n2] from ⟨(HS0.out.1).below hb (HS0.out.1).lt, (HS0.out.2).below hb (HS0.out.2).lt⟩)
          refine ⟨HS1.out, ?_⟩
          clear hb
          simp only [Act.put, List.getElem_toArray, List.getElem_cons_zero, List.getElem_cons_succ, List.setIfInBounds_toArray, List.set_cons_zero, List.set_cons_succ]
          apply o_call (f := 17) (args := #[.string ⟨#[7]⟩, .agg #[.string r2, .string s2, .int .u8 (k2 : Int), .string y2, .string b2, .int .i64 n2]]) (v := .string P2) (hc := cu.out _)
          case ho => rfl
          case hw => rfl
          case hop => go_simp; first | done | rfl
          rintro X2 hb
          have HX2 := hidp (HX1.out.trans (hb.mono HX1.out.size))
          have HS2 := hidp (show Arr X2 p1 24 [.string r, .string s, .int .u8 (k : Int), .string y, .string b, .int .i64 n] ∧ Arr X2 p2 24 [.string r2, .string s2, .int .u8 (k2 : Int), .string y2, .string b2, .int .i64 n2] from ⟨(HS1.out.1).below hb (HS1.out.1).lt, (HS1.out.2).below hb (HS1.out.2).lt⟩)
          refine ⟨HS2.out, ?_⟩
          clear hb
          simp only [Act.put, List.getElem_toArray, List.getElem_cons_zero, List.getElem_cons_succ, List.setIfInBounds_toArray, List.set_cons_zero, List.set_cons_succ]
          apply s_val
          case ho => rfl
          case hw => rfl
          case hv => intro w hw; go_simp; first | done | with_reducible rfl | rfl
          simp only [Act.put, List.getElem_toArray, List.getElem_cons_zero, List.getElem_cons_succ, List.setIfInBounds_toArray, List.set_cons_zero, List.set_cons_succ]
          apply s_val
          case ho => rfl
          case hw => rfl
          case hv => intro w hw; go_simp; first | done | with_reducible rfl | rfl
          simp only [Act.put, List.getElem_toArray, List.getElem_cons_zero, List.getElem_cons_succ, List.setIfInBounds_toArray, List.set_cons_zero, List.set_cons_succ]
          refine NoPanic.normal ?_
          go_wp2_with fail
          refine (cx.out _).mono ?_
          rintro e u1 ⟨rfl, hb1⟩
          have HY1 := hidp (HX2.out.trans (hb1.mono HX2.out.size))
          clear hb1
          go_wp2_with fail
          refine (cy.out _).mono ?_
          rintro e u2 ⟨rfl, hb2⟩
          have HY2 := hidp (HY1.out.trans (hb2.mono HY1.out.size))
          clear hb2
          have q := fun W => eqin_same W A hAl.out
          go_wp2_with fail
          go_ret
          exact ⟨rfl, HY2.out⟩
      · obtain ⟨A, hA⟩ : ∃ A, markH 7 (⟨r, s, k, y, b, n⟩ : Ev) = A := ⟨_, rfl⟩
        obtain ⟨C, hC⟩ : ∃ A, markH 7 (⟨r2, s2, k2, y2, b2, n2⟩ : Ev) = A := ⟨_, rfl⟩
        rw [hA] at c1 hAl hAC
        rw [hC] at c2 hCl hAC
        have q := fun W => eqin_other W A C hAl.out hCl.out hAC
        clear hA hC hE hE2 hok hok2
        go_enter Tryd.func5, Tryd.ntmps5
        go_wp2_with (first | (refine wpL_boxT 24 rfl (.tmp 0) rfl [.string r, .string s, .int .u8 (k : Int), .string y, .string b, .int .i64 n] rfl ?_; intro p1 w1 n1; have HB1 := hidp n1.below; have hg_p1 := hidp n1.le; have HA1 := hidp n1.arr; clear n1) | (refine wpL_boxT 24 rfl (.tmp 1) rfl [.string r2, .string s2, .int .u8 (k2 : Int), .string y2, .string b2, .int .i64 n2] rfl ?_; intro p2 w2 n2; have HB2 := hidp (HB1.out.trans (n2.below.mono HB1.out.size)); have hg_p2 := hidp (Nat.le_trans HB1.out.size n2.le); have HA2 := hidp (n2.old HA1.out); have hl_HA_p2 := hidp (show p1 < p2 from by have := n2.at_; have := HA1.out.lt; omega); have HF2 := hidp n2.arr; clear n2 HA1 HB1))
        refine (L.out _ (HI.out.below HB2.out (Nat.le_refl _)) (HW.out.below HB2.out (Nat.le_refl _)) (HK.out.below HB2.out hkp)).mono ?_
        rintro e w3 ⟨rfl, hb⟩
        have HB3 := hidp (HB2.out.trans (hb.mono HB2.out.size))
        have HA3 := hidp (HA2.out.below hb HA2.out.lt)
        have HF3 := hidp (HF2.out.below hb HF2.out.lt)
        clear hb HB2 HA2 HF2
        go_wp2_with (refine wpL_getE rfl (.tmp 2) rfl p1 [.string r, .string s, .int .u8 (k : Int), .string y, .string b, .int .i64 n] rfl rfl HA3.out ?_)
        refine (c1.out _ (HI.out.below HB3.out (Nat.le_refl _)) (HW.out.below HB3.out (Nat.le_refl _)) (HK.out.below HB3.out hkp)).mono ?_
        rintro e w4 ⟨rfl, hb⟩
        have HB4 := hidp (HB3.out.trans (hb.mono HB3.out.size))
        have HA4 := hidp (HA3.out.below hb HA3.out.lt)
        have HF4 := hidp (HF3.out.below hb HF3.out.lt)
        clear hb HB3 HA3 HF3
        go_wp2_with (first | (refine wpL_new rfl rfl ?_; intro p5 w5 n5; have HB5 := hidp (HB4.out.trans (n5.below.mono HB4.out.size)); have hg_p5 := hidp (Nat.le_trans HB4.out.size n5.le); have HA5 := hidp (n5.old HA4.out); have hl_HA_p5 := hidp (show p1 < p5 from by have := n5.at_; have := HA4.out.lt; omega); have HF5 := hidp (n5.old HF4.out); have hl_HF_p5 := hidp (show p2 < p5 from by have := n5.at_; have := HF4.out.lt; omega); have H55 := hidp n5.arr; clear n5 HA4 HF4 HB4) | (refine wpL_put rfl (.tmp 5) (.tmp 16) rfl p5 A rfl rfl hAl.out _ rfl H55.out ?_; intro w6 ha hp; have HB6 := hidp (hp.below' HB5.out hg_p5.out); have HA6 := hidp (hp.arr (by have := hl_HA_p5.out; omega) HA5.out); have HF6 := hidp (hp.arr (by have := hl_HF_p5.out; omega) HF5.out); have H56 := hidp ha; clear ha hp HB5 HA5 HF5 H55) | (refine wpL_getE rfl (.tmp 3) rfl p2 [.string r2, .string s2, .int .u8 (k2 : Int), .string y2, .string b2, .int .i64 n2] rfl rfl HF6.out ?_))
        refine (c2.out _ (HI.out.below HB6.out (Nat.le_refl _)) (HW.out.below HB6.out (Nat.le_refl _)) (HK.out.below HB6.out hkp)).mono ?_
        rintro e w7 ⟨rfl, hb⟩
        have HB7 := hidp (HB6.out.trans (hb.mono HB6.out.size))
        have HA7 := hidp (HA6.out.below hb HA6.out.lt)
        have HF7 := hidp (HF6.out.below hb HF6.out.lt)
        have H57 := hidp (H56.out.below hb H56.out.lt)
        clear hb HB6 HA6 HF6 H56
        go_wp2_with (first | (refine wpL_new rfl rfl ?_; intro p7 w8 n8; have HB8 := hidp (HB7.out.trans (n8.below.mono HB7.out.size)); have hg_p7 := hidp (Nat.le_trans HB7.out.size n8.le); have HA8 := hidp (n8.old HA7.out); have hl_HA_p7 := hidp (show p1 < p7 from by have := n8.at_; have := HA7.out.lt; omega); have HF8 := hidp (n8.old HF7.out); have hl_HF_p7 := hidp (show p2 < p7 from by have := n8.at_; have := HF7.out.lt; omega); have H58 := hidp (n8.old H57.out); have hl_H5_p7 := hidp (show p5 < p7 from by have := n8.at_; have := H57.out.lt; omega); have H78 := hidp n8.arr; clear n8 HA7 HF7 H57 HB7) | (refine wpL_put rfl (.tmp 7) (.tmp 21) rfl p7 C rfl rfl hCl.out _ rfl H78.out ?_; intro w9 ha hp; have HB9 := hidp (hp.below' HB8.out hg_p7.out); have HA9 := hidp (hp.arr (by have := hl_HA_p7.out; omega) HA8.out); have HF9 := hidp (hp.arr (by have := hl_HF_p7.out; omega) HF8.out); have H59 := hidp (hp.arr (by have := hl_H5_p7.out; omega) H58.out); have H79 := hidp ha; clear ha hp HB8 HA8 HF8 H58 H78) | (refine wpL_getg (by first | rfl | decide) (.tmp 5) rfl p5 A rfl hAl.out H59.out ?_) | (refine wpL_getg (by first | rfl | decide) (.tmp 7) rfl p7 C rfl hCl.out H79.out ?_))
        go_ret
        exact ⟨rfl, HB9.out⟩
end Go.Proofs.YtdaiichpihhckaaDoor
