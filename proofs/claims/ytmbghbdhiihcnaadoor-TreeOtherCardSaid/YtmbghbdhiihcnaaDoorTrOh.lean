/-
  Tree: the walk of TreeOther.
-/
import Derived.Test.YtmbghbdhiihcnaaDoorTrOg
namespace Go.Proofs.YtmbghbdhiihcnaaDoor
set_option maxRecDepth 100000
set_option linter.unusedVariables false
set_option linter.unusedSimpArgs false
open Go.RowKit

attribute [local irreducible] wpQuiet in
set_option maxHeartbeats 8000000 in
theorem other_F2 (w : World) (A R1 : List UInt8) (hal : A.length = 32) (hr1 : R1.length = 32) (i : Int) (ap aq : Option Addr) (n cp cq : Nat) (p q : List (List UInt8))
    (HP : Hid (HsAt w (.slice ap n cp) p)) (HQ : Hid (HsAt w (.slice aq n cq) q)) (HK : Hid (KT w)) (hkp : 0 < w.heap.size) (L : Hid (∀ W, KT W → Calls Tryd.prog 12 #[] W fun e w' => e = .returned (.bool true) ∧ Below W.heap.size W w'))
    (z1 z2 : Bool) (L1 L2 : List (List UInt8)) (hl1 : L1.length = n) (hl2 : L2.length = n) (S1 : Hid (∀ t ∈ L1, t.length = 65)) (S2 : Hid (∀ t ∈ L2, t.length = 65)) (HN : Hid (n < 4294967296)) (K : Nat) (hK : K < n) (HW : Hid (L1.getD K [] ≠ L2.getD K [] ∧ shaL (L1.getD K []) = shaL (L2.getD K [])))
    (c1 : Hid (∀ W, HsAt W (.slice ap n cp) p → KT W → Calls Tryd.prog 13 #[.agg (u8s A).toArray, .int .i64 i, .slice ap n cp] W fun e w' => e = .returned (.tuple #[.agg (u8s R1).toArray, .int .i64 0]) ∧ Below W.heap.size W w'))
    (c2 : Hid (∀ W, HsAt W (.slice aq n cq) q → KT W → Calls Tryd.prog 13 #[.agg (u8s A).toArray, .int .i64 i, .slice aq n cq] W fun e w' => e = .returned (.tuple #[.agg (u8s R1).toArray, .int .i64 0]) ∧ Below W.heap.size W w'))
    (c3 : Hid (∀ W, HsAt W (.slice ap n cp) p → HsAt W (.slice aq n cq) q → Calls Tryd.prog 14 #[.slice ap n cp, .slice aq n cq] W fun e w' => e = .returned (.bool false) ∧ Below W.heap.size W w'))
    (d1 : Hid (∀ W, Below w.heap.size w W → Calls Tryd.prog 15 #[.agg (u8s A).toArray, .int .i64 i, .slice ap n cp] W fun e w' => ∃ v', e = .returned (.tuple #[v', .bool z1]) ∧ OwnV w' W.heap.size 9 v' (tv L1) ∧ Below W.heap.size W w'))
    (d2 : Hid (∀ W, Below w.heap.size w W → Calls Tryd.prog 15 #[.agg (u8s A).toArray, .int .i64 i, .slice aq n cq] W fun e w' => ∃ v', e = .returned (.tuple #[v', .bool z2]) ∧ OwnV w' W.heap.size 9 v' (tv L2) ∧ Below W.heap.size W w')) :
    Calls Tryd.prog 3 #[.agg (u8s A).toArray, .agg (u8s A).toArray, .int .i64 i, .slice ap n cp, .slice aq n cq] w fun e w' => e = .returned (.bool true) ∧ Below w.heap.size w w' := by
  go_enter Tryd.func3, Tryd.ntmps3
  go_wp2_with (first
    | (refine wpL_box rfl (.tmp 0) rfl (u8s A) rfl ?_; intro b1 w1 n1)
    | (refine wpL_box rfl (.tmp 1) rfl (u8s A) rfl ?_; intro b2 w2 n2
       have hB2 := hidp (n1.below.trans (n2.below.mono n1.below.size))
       have hV2 := hidp (show VarsAt w2 [(b1, A), (b2, A)] from fun x hx => by
         simp at hx; rcases hx with rfl | rfl
         · exact n2.old n1.arr
         · exact n2.arr)
       clear n1 n2)
    | (go_at_call 12; refine (L.out _ (HK.out.below hB2.out hkp)).mono ?_; rintro e w3 ⟨rfl, hb3⟩
       have hB3 := hidp (hB2.out.trans (hb3.mono hB2.out.size)); have hV3 := hidp (hV2.out.to hb3); clear hb3 hV2)
    | (refine wpL_get rfl (.tmp 5) rfl b1 A rfl hal (hV3.out (b1, A) (by simp)) ?_)
    | (go_at_call 13; refine (c1.out _ (HP.out.to hB3.out) (HK.out.below hB3.out hkp)).mono ?_; rintro e w4 ⟨rfl, hb4⟩; clear c1
       have hB4 := hidp (hB3.out.trans (hb4.mono hB3.out.size)); have hV4 := hidp (hV3.out.to hb4); clear hb4 hV3)
    | (refine wpL_newD 11 rfl rfl rfl ?_; intro b3 w5 n5)
    | (refine wpL_put rfl (.tmp 11) (.tmp 27) rfl b3 R1 rfl rfl hr1 (u8s z32) rfl n5.arr ?_; intro w6 ha6 hp6
       have hB6 := hidp (hB4.out.trans ((n5.put hp6).mono hB4.out.size)); have hV6 := hidp (hV4.out.push n5 hp6 ha6); clear n5 hp6 ha6 hV4)
    | (refine wpL_get rfl (.tmp 6) rfl b2 A rfl hal (hV6.out (b2, A) (by simp)) ?_)
    | (go_at_call 13; refine (c2.out _ (HQ.out.to hB6.out) (HK.out.below hB6.out hkp)).mono ?_; rintro e w7 ⟨rfl, hb7⟩; clear c2
       have hB7 := hidp (hB6.out.trans (hb7.mono hB6.out.size)); have hV7 := hidp (hV6.out.to hb7); clear hb7 hV6)
    | (refine wpL_newD 13 rfl rfl rfl ?_; intro b4 w8 n8)
    | (refine wpL_put rfl (.tmp 13) (.tmp 34) rfl b4 R1 rfl rfl hr1 (u8s z32) rfl n8.arr ?_; intro w9 ha9 hp9
       have hB9 := hidp (hB7.out.trans ((n8.put hp9).mono hB7.out.size)); have hV9 := hidp (hV7.out.push n8 hp9 ha9); clear n8 hp9 ha9 hV7
       simp only [Act.put, List.setIfInBounds_toArray, List.set_cons_zero, List.set_cons_succ]
       refine wpL_asgn rfl (.tmp 35) rfl (.int .i64 0) rfl ?_
       simp only [Act.put, List.setIfInBounds_toArray, List.set_cons_zero, List.set_cons_succ]
       go_wp2_with (first
    | (refine wpL_get2 (.tmp 11) rfl rfl b3 R1 rfl hr1 (hV9.out (b3, R1) (by simp)) ?_)
    | (refine wpL_get2 (.tmp 13) rfl rfl b4 R1 rfl hr1 (hV9.out (b4, R1) (by simp)) ?_)
    | (refine wpL_neq2 (.tmp 50) (.tmp 51) _ rfl rfl R1 R1 rfl rfl hr1 hr1 false (by simp) ?_)
    | (refine wpL_get2 (.tmp 5) rfl rfl b1 A rfl hal (hV9.out (b1, A) (by simp)) ?_)
    | (refine wpL_get2 (.tmp 6) rfl rfl b2 A rfl hal (hV9.out (b2, A) (by simp)) ?_)
    | (refine wpL_eql2 (.tmp 55) (.tmp 56) _ rfl rfl A A rfl rfl hal hal true (by simp) ?_)
    | (go_at_call 14; refine (c3.out _ (HP.out.to hB9.out) (HQ.out.to hB9.out)).mono ?_; rintro e w10 ⟨rfl, hb10⟩; clear c3
       have hB10 := hidp (hB9.out.trans (hb10.mono hB9.out.size)); have hV10 := hidp (hV9.out.to hb10); clear hb10 hV9)
         | (refine wpL_get rfl (.tmp 5) rfl b1 A rfl hal (hV10.out (b1, A) (by simp)) ?_)
         | (go_at_call 15; refine (d1.out _ hB10.out).mono ?_; rintro e w11 ⟨v1, rfl, ho1, hb11⟩
            obtain ⟨g1, k1, e1, hc1⟩ := way_read ho1 (by omega)
            rw [hl1] at e1
            subst e1
            have hB11 := hidp (hB10.out.trans (hb11.mono hB10.out.size)); have hV11 := hidp (hV10.out.to hb11); have hC1 := hidp hc1; clear d1 hc1 ho1 hb11)
         | (refine wpL_get rfl (.tmp 6) rfl b2 A rfl hal (hV11.out (b2, A) (by simp)) ?_)
         | (go_at_call 15; refine (d2.out _ hB11.out).mono ?_; rintro e w12 ⟨v2, rfl, ho2, hb12⟩
            obtain ⟨g2, k2, e2, hc2⟩ := way_read ho2 (by omega)
            rw [hl2] at e2
            subst e2
            have hB12 := hidp (hB11.out.trans (hb12.mono hB11.out.size))
            have hC3 := hidp (show ∀ w', Below w12.heap.size w12 w' → ∀ j t, L1[j]? = some t → w'.cell? ⟨g1, j, none⟩ = some (.string (mkS t)) from fun w' h => hC1.out w' (hb12.trans (h.mono hb12.size)))
            have hC4 := hidp hc2; clear d2 hc2 ho2 hb12 hV11 hC1)
         | fail)
       ))
  go_loopw [80] (fun t80 wr => ∃ k : Nat, t80 = .int .i64 (k : Int) ∧ k ≤ K ∧ Below w12.heap.size w12 wr) (fun t80 _ => n - (intOf t80).toNat)
  case atStart => exact ⟨0, rfl, by omega, ⟨rfl, rfl, rfl, Nat.le_refl _, fun _ _ => rfl⟩⟩
  case round =>
    obtain ⟨k, rfl, hk, hb⟩ := hrel
    have hB := hidp hb
    clear hb
    have hkn : k < n := by omega
    have hw1 : wrap64 ((k : Int) + 1) = (k : Int) + 1 := by have := HN.out; unfold wrap64; omega
    have ti : ((k : Int) < (n : Int)) := by omega
    have hX : L1[k]? = some (L1.getD k []) := by rw [List.getD_eq_getElem?_getD, List.getElem?_eq_getElem (by omega)]; rfl
    have hY : L2[k]? = some (L2.getD k []) := by rw [List.getD_eq_getElem?_getD, List.getElem?_eq_getElem (by omega)]; rfl
    have hXl := S1.out _ (List.mem_of_getElem? hX)
    have hYl := S2.out _ (List.mem_of_getElem? hY)
    have hnext : L1.getD k [] = L2.getD k [] ∨ shaL (L1.getD k []) ≠ shaL (L2.getD k []) → k + 1 ≤ K := fun h => by
      have : k ≠ K := by
        rintro rfl
        rcases h with h | h
        · exact HW.out.1 h
        · exact h HW.out.2
      omega
    obtain ⟨X, hXe⟩ : ∃ t, L1.getD k [] = t := ⟨_, rfl⟩
    obtain ⟨Y, hYe⟩ : ∃ t, L2.getD k [] = t := ⟨_, rfl⟩
    rw [hXe] at hX hXl hnext
    rw [hYe] at hY hYl hnext
    have cX := hidp (show ∀ u, Cls wr.heap.size wr u → u.cell? ⟨g1, k, none⟩ = some (.string (mkS X)) from fun u hu => hC3.out u (hB.out.trans (Below.mono hu hB.out.size)) k X hX)
    have cY := hidp (show ∀ u, Cls wr.heap.size wr u → u.cell? ⟨g2, k, none⟩ = some (.string (mkS Y)) from fun u hu => hC4.out u (hB.out.trans (Below.mono hu hB.out.size)) k Y hY)
    have hzx := shaL_len X
    have hzy := shaL_len Y
    have kX := hidp (show ∀ u, Cls wr.heap.size wr u → Calls Tryd.prog 16 #[.string (mkS X)] u fun e w' => e = .returned (.agg (u8s (shaL X)).toArray) ∧ Cls wr.heap.size wr w' from fun u hu => by
      have := rsum_any u (mkS X) (by rw [mkS_size, hXl]; decide)
      rw [mkS_data] at this
      exact this.mono fun e w' ⟨h1, h2⟩ => ⟨h1, hu.step (Nat.le_refl _) h2⟩)
    have kY := hidp (show ∀ u, Cls wr.heap.size wr u → Calls Tryd.prog 16 #[.string (mkS Y)] u fun e w' => e = .returned (.agg (u8s (shaL Y)).toArray) ∧ Cls wr.heap.size wr w' from fun u hu => by
      have := rsum_any u (mkS Y) (by rw [mkS_size, hYl]; decide)
      rw [mkS_data] at this
      exact this.mono fun e w' ⟨h1, h2⟩ => ⟨h1, hu.step (Nat.le_refl _) h2⟩)
    by_cases hxy : X = Y
    · have hk1 := hnext (.inl hxy)
      subst hxy
      obtain ⟨SX, hSX⟩ : ∃ S, mkS X = S := ⟨_, rfl⟩
      rw [hSX] at cX cY
      clear hnext hSX kX kY hzx hzy hX hY hXe hYe hXl hYl HW S1 S2 hC3 hC4 hl1 hl2
      go_wp2
      refine wp_region_quiet (C := Cls wr.heap.size wr) (by kernel_rfl) (by kernel_rfl) (Cls.start _ _) ?_
      simp only []
      apply quiet_fin
      case h1 =>
        apply q_val
        · rfl
        · intro u hu; go_simp; first | done | with_reducible rfl | rfl
        simp only [Act.put, List.setIfInBounds_toArray, List.set_cons_zero, List.set_cons_succ]
        apply q_val
        · rfl
        · intro u hu; go_simp; first | done | with_reducible rfl | rfl
        simp only [Act.put, List.setIfInBounds_toArray, List.set_cons_zero, List.set_cons_succ]
        apply q_val
        · rfl
        · intro u hu; go_simp; first | done | with_reducible rfl | rfl
        simp only [Act.put, List.setIfInBounds_toArray, List.set_cons_zero, List.set_cons_succ]
        refine q_val (v := .bool true) ?_ ?_ ?_
        · rfl
        · intro u hu; go_simp; done
        simp only [Act.put, List.setIfInBounds_toArray, List.set_cons_zero, List.set_cons_succ]
        refine q_val (v := .bool true) ?_ ?_ ?_
        · rfl
        · intro u hu; go_simp; done
        simp only [Act.put, List.setIfInBounds_toArray, List.set_cons_zero, List.set_cons_succ]
        apply q_val
        · rfl
        · intro u hu; go_simp; first | done | with_reducible rfl | rfl
        simp only [Act.put, List.setIfInBounds_toArray, List.set_cons_zero, List.set_cons_succ]
        apply q_val
        · rfl
        · intro u hu; go_simp; first | done | with_reducible rfl | rfl
        simp only [Act.put, List.setIfInBounds_toArray, List.set_cons_zero, List.set_cons_succ]
        apply q_val
        · rfl
        · intro u hu; go_simp; first | done | with_reducible rfl | rfl
        simp only [Act.put, List.setIfInBounds_toArray, List.set_cons_zero, List.set_cons_succ]
        refine q_val (v := .string SX) ?_ ?_ ?_
        · rfl
        · intro u hu; have hx := cX.out u hu; go_simp; done
        simp only [Act.put, List.setIfInBounds_toArray, List.set_cons_zero, List.set_cons_succ]
        apply q_val
        · rfl
        · intro u hu; go_simp; first | done | with_reducible rfl | rfl
        simp only [Act.put, List.setIfInBounds_toArray, List.set_cons_zero, List.set_cons_succ]
        apply q_val
        · rfl
        · intro u hu; go_simp; first | done | with_reducible rfl | rfl
        simp only [Act.put, List.setIfInBounds_toArray, List.set_cons_zero, List.set_cons_succ]
        apply q_val
        · rfl
        · intro u hu; go_simp; first | done | with_reducible rfl | rfl
        simp only [Act.put, List.setIfInBounds_toArray, List.set_cons_zero, List.set_cons_succ]
        refine q_val (v := .string SX) ?_ ?_ ?_
        · rfl
        · intro u hu; have hx := cY.out u hu; go_simp; done
        simp only [Act.put, List.setIfInBounds_toArray, List.set_cons_zero, List.set_cons_succ]
        refine q_val (v := .bool false) ?_ ?_ ?_
        · rfl
        · intro u hu; go_simp; done
        simp only [Act.put, List.setIfInBounds_toArray, List.set_cons_zero, List.set_cons_succ]
        refine q_val (v := .bool false) ?_ ?_ ?_
        · rfl
        · intro u hu; go_simp; done
        simp only [Act.put, List.setIfInBounds_toArray, List.set_cons_zero, List.set_cons_succ]
        refine q_val (v := .bool false) ?_ ?_ ?_
        · rfl
        · intro u hu; go_simp; done
        simp only [Act.put, List.setIfInBounds_toArray, List.set_cons_zero, List.set_cons_succ]
        refine q_skip2 15 true rfl rfl ?_
        simp only [Act.put, List.setIfInBounds_toArray, List.set_cons_zero, List.set_cons_succ]
        refine q_skip2 15 true rfl rfl ?_
        simp only [Act.put, List.setIfInBounds_toArray, List.set_cons_zero, List.set_cons_succ]
        refine q_skip2 15 true rfl rfl ?_
        simp only [Act.put, List.setIfInBounds_toArray, List.set_cons_zero, List.set_cons_succ]
        refine q_skip2 15 true rfl rfl ?_
        simp only [Act.put, List.setIfInBounds_toArray, List.set_cons_zero, List.set_cons_succ]
        refine q_skip2 15 true rfl rfl ?_
        simp only [Act.put, List.setIfInBounds_toArray, List.set_cons_zero, List.set_cons_succ]
        refine q_skip2 15 true rfl rfl ?_
        simp only [Act.put, List.setIfInBounds_toArray, List.set_cons_zero, List.set_cons_succ]
        refine q_skip2 15 true rfl rfl ?_
        simp only [Act.put, List.setIfInBounds_toArray, List.set_cons_zero, List.set_cons_succ]
        refine q_skip2 15 true rfl rfl ?_
        simp only [Act.put, List.setIfInBounds_toArray, List.set_cons_zero, List.set_cons_succ]
        refine q_skip2 15 true rfl rfl ?_
        simp only [Act.put, List.setIfInBounds_toArray, List.set_cons_zero, List.set_cons_succ]
        refine q_skip2 15 true rfl rfl ?_
        simp only [Act.put, List.setIfInBounds_toArray, List.set_cons_zero, List.set_cons_succ]
        refine q_skip2 15 true rfl rfl ?_
        simp only [Act.put, List.setIfInBounds_toArray, List.set_cons_zero, List.set_cons_succ]
        refine q_val (v := .bool false) ?_ ?_ ?_
        · rfl
        · intro u hu; go_simp; done
        simp only [Act.put, List.setIfInBounds_toArray, List.set_cons_zero, List.set_cons_succ]
        exact wpQuiet_nil rfl
      case h2 =>
        intro w20 hC
        have hBF := hidp (hB.out.trans (Below.mono hC hB.out.size))
        go_wp2
        rw [hw1]
        refine ⟨⟨k + 1, rfl, hk1, hBF.out⟩, ?_⟩
        show n - (k + 1) < n - k
        exact Nat.sub_lt_sub_left hkn (Nat.lt_succ_self k)
    · have hsn : mkS X ≠ mkS Y := fun h => hxy (mkS_inj h)
      obtain ⟨SX, hSX⟩ : ∃ S, mkS X = S := ⟨_, rfl⟩
      obtain ⟨SY, hSY⟩ : ∃ S, mkS Y = S := ⟨_, rfl⟩
      rw [hSX, hSY] at hsn
      rw [hSX] at cX kX
      rw [hSY] at cY kY
      have hs1 : (SX = SY) = False := eq_false hsn
      have hs2 : (SX.toList == SY.toList) = false := toList_no hsn
      have hs3 : (SX.toList = SY.toList) = False := eq_false (fun h => by rw [h] at hs2; simp at hs2)
      obtain ⟨ZX, hZX⟩ : ∃ Z, shaL X = Z := ⟨_, rfl⟩
      obtain ⟨ZY, hZY⟩ : ∃ Z, shaL Y = Z := ⟨_, rfl⟩
      rw [hZX] at kX hzx hnext
      rw [hZY] at kY hzy hnext
      by_cases hz' : ZX = ZY
      · subst hz'
        clear hnext hSX hSY hX hY hXe hYe hXl hYl HW S1 S2 hC3 hC4 hl1 hl2 hZX hZY hsn hxy
        go_wp2
        refine wp_region_quiet (C := Cls wr.heap.size wr) (by kernel_rfl) (by kernel_rfl) (Cls.start _ _) ?_
        simp only []
        apply quiet_fin
        case h1 =>
          apply q_val
          · rfl
          · intro u hu; go_simp; first | done | with_reducible rfl | rfl
          simp only [Act.put, List.setIfInBounds_toArray, List.set_cons_zero, List.set_cons_succ]
          apply q_val
          · rfl
          · intro u hu; go_simp; first | done | with_reducible rfl | rfl
          simp only [Act.put, List.setIfInBounds_toArray, List.set_cons_zero, List.set_cons_succ]
          apply q_val
          · rfl
          · intro u hu; go_simp; first | done | with_reducible rfl | rfl
          simp only [Act.put, List.setIfInBounds_toArray, List.set_cons_zero, List.set_cons_succ]
          refine q_val (v := .bool true) ?_ ?_ ?_
          · rfl
          · intro u hu; go_simp; done
          simp only [Act.put, List.setIfInBounds_toArray, List.set_cons_zero, List.set_cons_succ]
          refine q_val (v := .bool true) ?_ ?_ ?_
          · rfl
          · intro u hu; go_simp; done
          simp only [Act.put, List.setIfInBounds_toArray, List.set_cons_zero, List.set_cons_succ]
          apply q_val
          · rfl
          · intro u hu; go_simp; first | done | with_reducible rfl | rfl
          simp only [Act.put, List.setIfInBounds_toArray, List.set_cons_zero, List.set_cons_succ]
          apply q_val
          · rfl
          · intro u hu; go_simp; first | done | with_reducible rfl | rfl
          simp only [Act.put, List.setIfInBounds_toArray, List.set_cons_zero, List.set_cons_succ]
          apply q_val
          · rfl
          · intro u hu; go_simp; first | done | with_reducible rfl | rfl
          simp only [Act.put, List.setIfInBounds_toArray, List.set_cons_zero, List.set_cons_succ]
          refine q_val (v := .string SX) ?_ ?_ ?_
          · rfl
          · intro u hu; have hx := cX.out u hu; go_simp; done
          simp only [Act.put, List.setIfInBounds_toArray, List.set_cons_zero, List.set_cons_succ]
          apply q_val
          · rfl
          · intro u hu; go_simp; first | done | with_reducible rfl | rfl
          simp only [Act.put, List.setIfInBounds_toArray, List.set_cons_zero, List.set_cons_succ]
          apply q_val
          · rfl
          · intro u hu; go_simp; first | done | with_reducible rfl | rfl
          simp only [Act.put, List.setIfInBounds_toArray, List.set_cons_zero, List.set_cons_succ]
          apply q_val
          · rfl
          · intro u hu; go_simp; first | done | with_reducible rfl | rfl
          simp only [Act.put, List.setIfInBounds_toArray, List.set_cons_zero, List.set_cons_succ]
          refine q_val (v := .string SY) ?_ ?_ ?_
          · rfl
          · intro u hu; have hx := cY.out u hu; go_simp; done
          simp only [Act.put, List.setIfInBounds_toArray, List.set_cons_zero, List.set_cons_succ]
          refine q_val (v := .bool true) ?_ ?_ ?_
          · rfl
          · intro u hu; go_simp; done
          simp only [Act.put, List.setIfInBounds_toArray, List.set_cons_zero, List.set_cons_succ]
          refine q_val (v := .bool true) ?_ ?_ ?_
          · rfl
          · intro u hu; go_simp; done
          simp only [Act.put, List.setIfInBounds_toArray, List.set_cons_zero, List.set_cons_succ]
          refine q_val (v := .bool true) ?_ ?_ ?_
          · rfl
          · intro u hu; go_simp; done
          simp only [Act.put, List.setIfInBounds_toArray, List.set_cons_zero, List.set_cons_succ]
          apply q_val
          · rfl
          · intro u hu; go_simp; first | done | with_reducible rfl | rfl
          simp only [Act.put, List.setIfInBounds_toArray, List.set_cons_zero, List.set_cons_succ]
          apply q_val
          · rfl
          · intro u hu; go_simp; first | done | with_reducible rfl | rfl
          simp only [Act.put, List.setIfInBounds_toArray, List.set_cons_zero, List.set_cons_succ]
          apply q_val
          · rfl
          · intro u hu; go_simp; first | done | with_reducible rfl | rfl
          simp only [Act.put, List.setIfInBounds_toArray, List.set_cons_zero, List.set_cons_succ]
          refine q_val (v := .string SX) ?_ ?_ ?_
          · rfl
          · intro u hu; have hx := cX.out u hu; go_simp; done
          simp only [Act.put, List.setIfInBounds_toArray, List.set_cons_zero, List.set_cons_succ]
          refine q_call ?_ 16 #[.string SX] ?_ kX.out ?_
          · rfl
          · intro u; go_simp; done
          simp only [Act.put, List.setIfInBounds_toArray, List.set_cons_zero, List.set_cons_succ]
          apply q_val
          · rfl
          · intro u hu; go_simp; first | done | with_reducible rfl | rfl
          simp only [Act.put, List.setIfInBounds_toArray, List.set_cons_zero, List.set_cons_succ]
          apply q_val
          · rfl
          · intro u hu; go_simp; first | done | with_reducible rfl | rfl
          simp only [Act.put, List.setIfInBounds_toArray, List.set_cons_zero, List.set_cons_succ]
          apply q_val
          · rfl
          · intro u hu; go_simp; first | done | with_reducible rfl | rfl
          simp only [Act.put, List.setIfInBounds_toArray, List.set_cons_zero, List.set_cons_succ]
          refine q_val (v := .string SY) ?_ ?_ ?_
          · rfl
          · intro u hu; have hx := cY.out u hu; go_simp; done
          simp only [Act.put, List.setIfInBounds_toArray, List.set_cons_zero, List.set_cons_succ]
          refine q_call ?_ 16 #[.string SY] ?_ kY.out ?_
          · rfl
          · intro u; go_simp; done
          simp only [Act.put, List.setIfInBounds_toArray, List.set_cons_zero, List.set_cons_succ]
          refine q_eql ?_ (.tmp 103) (.tmp 108) _ rfl ZX ZX rfl rfl hzx hzx true (decide_eq_true rfl) ?_
          · rfl
          simp only [Act.put, List.setIfInBounds_toArray, List.set_cons_zero, List.set_cons_succ]
          refine q_val (v := .bool true) ?_ ?_ ?_
          · rfl
          · intro u hu; go_simp; done
          simp only [Act.put, List.setIfInBounds_toArray, List.set_cons_zero, List.set_cons_succ]
          exact wpQuiet_nil rfl
        case h2 =>
          intro w20 hC
          have hBF := hidp (hB.out.trans (Below.mono hC hB.out.size))
          go_wp2
          go_ret
          exact ⟨rfl, (hB12.out.trans (hBF.out.mono hB12.out.size))⟩
      · have hk1 := hnext (.inr hz')
        have hz : decide (ZX = ZY) = false := by simpa using hz'
        clear hnext hSX hSY hX hY hXe hYe hXl hYl HW S1 S2 hC3 hC4 hl1 hl2 hZX hZY hsn hxy hz'
        go_wp2
        refine wp_region_quiet (C := Cls wr.heap.size wr) (by kernel_rfl) (by kernel_rfl) (Cls.start _ _) ?_
        simp only []
        apply quiet_fin
        case h1 =>
          apply q_val
          · rfl
          · intro u hu; go_simp; first | done | with_reducible rfl | rfl
          simp only [Act.put, List.setIfInBounds_toArray, List.set_cons_zero, List.set_cons_succ]
          apply q_val
          · rfl
          · intro u hu; go_simp; first | done | with_reducible rfl | rfl
          simp only [Act.put, List.setIfInBounds_toArray, List.set_cons_zero, List.set_cons_succ]
          apply q_val
          · rfl
          · intro u hu; go_simp; first | done | with_reducible rfl | rfl
          simp only [Act.put, List.setIfInBounds_toArray, List.set_cons_zero, List.set_cons_succ]
          refine q_val (v := .bool true) ?_ ?_ ?_
          · rfl
          · intro u hu; go_simp; done
          simp only [Act.put, List.setIfInBounds_toArray, List.set_cons_zero, List.set_cons_succ]
          refine q_val (v := .bool true) ?_ ?_ ?_
          · rfl
          · intro u hu; go_simp; done
          simp only [Act.put, List.setIfInBounds_toArray, List.set_cons_zero, List.set_cons_succ]
          apply q_val
          · rfl
          · intro u hu; go_simp; first | done | with_reducible rfl | rfl
          simp only [Act.put, List.setIfInBounds_toArray, List.set_cons_zero, List.set_cons_succ]
          apply q_val
          · rfl
          · intro u hu; go_simp; first | done | with_reducible rfl | rfl
          simp only [Act.put, List.setIfInBounds_toArray, List.set_cons_zero, List.set_cons_succ]
          apply q_val
          · rfl
          · intro u hu; go_simp; first | done | with_reducible rfl | rfl
          simp only [Act.put, List.setIfInBounds_toArray, List.set_cons_zero, List.set_cons_succ]
          refine q_val (v := .string SX) ?_ ?_ ?_
          · rfl
          · intro u hu; have hx := cX.out u hu; go_simp; done
          simp only [Act.put, List.setIfInBounds_toArray, List.set_cons_zero, List.set_cons_succ]
          apply q_val
          · rfl
          · intro u hu; go_simp; first | done | with_reducible rfl | rfl
          simp only [Act.put, List.setIfInBounds_toArray, List.set_cons_zero, List.set_cons_succ]
          apply q_val
          · rfl
          · intro u hu; go_simp; first | done | with_reducible rfl | rfl
          simp only [Act.put, List.setIfInBounds_toArray, List.set_cons_zero, List.set_cons_succ]
          apply q_val
          · rfl
          · intro u hu; go_simp; first | done | with_reducible rfl | rfl
          simp only [Act.put, List.setIfInBounds_toArray, List.set_cons_zero, List.set_cons_succ]
          refine q_val (v := .string SY) ?_ ?_ ?_
          · rfl
          · intro u hu; have hx := cY.out u hu; go_simp; done
          simp only [Act.put, List.setIfInBounds_toArray, List.set_cons_zero, List.set_cons_succ]
          refine q_val (v := .bool true) ?_ ?_ ?_
          · rfl
          · intro u hu; go_simp; done
          simp only [Act.put, List.setIfInBounds_toArray, List.set_cons_zero, List.set_cons_succ]
          refine q_val (v := .bool true) ?_ ?_ ?_
          · rfl
          · intro u hu; go_simp; done
          simp only [Act.put, List.setIfInBounds_toArray, List.set_cons_zero, List.set_cons_succ]
          refine q_val (v := .bool true) ?_ ?_ ?_
          · rfl
          · intro u hu; go_simp; done
          simp only [Act.put, List.setIfInBounds_toArray, List.set_cons_zero, List.set_cons_succ]
          apply q_val
          · rfl
          · intro u hu; go_simp; first | done | with_reducible rfl | rfl
          simp only [Act.put, List.setIfInBounds_toArray, List.set_cons_zero, List.set_cons_succ]
          apply q_val
          · rfl
          · intro u hu; go_simp; first | done | with_reducible rfl | rfl
          simp only [Act.put, List.setIfInBounds_toArray, List.set_cons_zero, List.set_cons_succ]
          apply q_val
          · rfl
          · intro u hu; go_simp; first | done | with_reducible rfl | rfl
          simp only [Act.put, List.setIfInBounds_toArray, List.set_cons_zero, List.set_cons_succ]
          refine q_val (v := .string SX) ?_ ?_ ?_
          · rfl
          · intro u hu; have hx := cX.out u hu; go_simp; done
          simp only [Act.put, List.setIfInBounds_toArray, List.set_cons_zero, List.set_cons_succ]
          refine q_call ?_ 16 #[.string SX] ?_ kX.out ?_
          · rfl
          · intro u; go_simp; done
          simp only [Act.put, List.setIfInBounds_toArray, List.set_cons_zero, List.set_cons_succ]
          apply q_val
          · rfl
          · intro u hu; go_simp; first | done | with_reducible rfl | rfl
          simp only [Act.put, List.setIfInBounds_toArray, List.set_cons_zero, List.set_cons_succ]
          apply q_val
          · rfl
          · intro u hu; go_simp; first | done | with_reducible rfl | rfl
          simp only [Act.put, List.setIfInBounds_toArray, List.set_cons_zero, List.set_cons_succ]
          apply q_val
          · rfl
          · intro u hu; go_simp; first | done | with_reducible rfl | rfl
          simp only [Act.put, List.setIfInBounds_toArray, List.set_cons_zero, List.set_cons_succ]
          refine q_val (v := .string SY) ?_ ?_ ?_
          · rfl
          · intro u hu; have hx := cY.out u hu; go_simp; done
          simp only [Act.put, List.setIfInBounds_toArray, List.set_cons_zero, List.set_cons_succ]
          refine q_call ?_ 16 #[.string SY] ?_ kY.out ?_
          · rfl
          · intro u; go_simp; done
          simp only [Act.put, List.setIfInBounds_toArray, List.set_cons_zero, List.set_cons_succ]
          refine q_eql ?_ (.tmp 103) (.tmp 108) _ rfl ZX ZY rfl rfl hzx hzy false hz ?_
          · rfl
          simp only [Act.put, List.setIfInBounds_toArray, List.set_cons_zero, List.set_cons_succ]
          refine q_val (v := .bool false) ?_ ?_ ?_
          · rfl
          · intro u hu; go_simp; done
          simp only [Act.put, List.setIfInBounds_toArray, List.set_cons_zero, List.set_cons_succ]
          exact wpQuiet_nil rfl
        case h2 =>
          intro w20 hC
          have hBF := hidp (hB.out.trans (Below.mono hC hB.out.size))
          go_wp2
          rw [hw1]
          refine ⟨⟨k + 1, rfl, hk1, hBF.out⟩, ?_⟩
          show n - (k + 1) < n - k
          exact Nat.sub_lt_sub_left hkn (Nat.lt_succ_self k)
end Go.Proofs.YtmbghbdhiihcnaaDoor
